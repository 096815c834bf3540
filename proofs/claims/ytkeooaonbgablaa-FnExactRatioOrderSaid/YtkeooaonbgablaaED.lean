/- What the functions answer, as equations: ED. No conditions. -/
import Derived.Test.YtkeooaonbgablaaEC
set_option linter.unusedSectionVars false
set_option linter.unusedVariables false
set_option linter.unusedSimpArgs false
namespace Zz
open Go.Lg Md
/-! ### orders -/
/-- each of the tests once, from those on that some tests are -/
def orS (m : Int) : Nat → List Int → Bool
  | _, [] => true
  | so, a :: r => decide (0 ≤ a ∧ a < m) && !so.testBit a.toNat && orS m (so ||| 2 ^ a.toNat) r
def orOk (m : Int) (os : List Int) : Bool := nOk m && decide ((os.length : Int) = m) && orS m 0 os
def setO : Nat → List Int → Nat
  | so, [] => so
  | so, a :: r => setO (so ||| 2 ^ a.toNat) r
theorem orS_cons {m : Int} {so : Nat} {a : Int} {r : List Int} : orS m so (a :: r) = true ↔ (0 ≤ a ∧ a < m) ∧ so.testBit a.toNat = false ∧ orS m (so ||| 2 ^ a.toNat) r = true := by
  simp [orS, and_assoc]
theorem orOk_iff {m : Int} {os : List Int} : orOk m os = true ↔ (1 ≤ m ∧ m ≤ 5) ∧ (os.length : Int) = m ∧ orS m 0 os = true := by
  rw [orOk, Bool.and_eq_true, Bool.and_eq_true, nOk_iff, decide_eq_true_eq, and_assoc]
theorem setO_app : ∀ (so : Nat) (p q : List Int), setO so (p ++ q) = setO (setO so p) q
  | _, [], _ => rfl
  | so, a :: r, q => setO_app (so ||| 2 ^ a.toNat) r q
theorem orS_app {m : Int} : ∀ (so : Nat) (p q : List Int), orS m so (p ++ q) = (orS m so p && orS m (setO so p) q)
  | _, [], q => by simp [orS, setO]
  | so, a :: r, q => by simp only [List.cons_append, orS, setO, orS_app (so ||| 2 ^ a.toNat) r q, Bool.and_assoc]
theorem or_bit (so a k : Nat) : (so ||| 2 ^ a).testBit k = (so.testBit k || decide (a = k)) := by
  rw [Nat.testBit_or, Nat.testBit_two_pow]
theorem or_lt2 {m so a : Nat} (h : so < 2 ^ m) (ha : a < m) : so ||| 2 ^ a < 2 ^ m := Nat.or_lt_two_pow h (Nat.pow_lt_pow_right (by omega) ha)
theorem setO_lt {m : Int} : ∀ {os : List Int} {so : Nat}, so < 2 ^ m.toNat → orS m so os = true → setO so os < 2 ^ m.toNat
  | [], _, h, _ => h
  | a :: r, so, h, ho => by
    obtain ⟨h1, h2, h3⟩ := orS_cons.1 ho
    exact setO_lt (os := r) (or_lt2 h (by omega)) h3
theorem setO_ge : ∀ (os : List Int) {so k : Nat}, so.testBit k = true → (setO so os).testBit k = true
  | [], _, _, h => h
  | a :: r, so, k, h => setO_ge r (by rw [or_bit, h]; rfl)
theorem setO_bit : ∀ {os : List Int} {so k : Nat}, (∀ o ∈ os, 0 ≤ o) → ((setO so os).testBit k = true ↔ so.testBit k = true ∨ (k : Int) ∈ os)
  | [], _, _, _ => by simp [setO]
  | a :: r, so, k, h => by
    have ha := h a (by simp)
    rw [setO, setO_bit (os := r) (fun o ho => h o (by simp [ho])), or_bit]
    simp only [Bool.or_eq_true, decide_eq_true_eq, List.mem_cons]
    have : a.toNat = k ↔ (k : Int) = a := by omega
    rw [this, or_assoc]
theorem orS_mem {m : Int} : ∀ {os : List Int} {so : Nat}, orS m so os = true → ∀ o ∈ os, (0 ≤ o ∧ o < m) ∧ so.testBit o.toNat = false
  | [], _, _, o, ho => by simp at ho
  | a :: r, so, h, o, ho => by
    obtain ⟨h1, h2, h3⟩ := orS_cons.1 h
    rcases List.mem_cons.1 ho with rfl | ho
    · exact ⟨h1, h2⟩
    · obtain ⟨q1, q2⟩ := orS_mem h3 o ho
      rw [or_bit, Bool.or_eq_false_iff] at q2
      exact ⟨q1, q2.1⟩
/-- how many tests are not among some -/
def uc (so : Nat) : Nat → Nat
  | 0 => 0
  | i + 1 => uc so i + if so.testBit i then 0 else 1
theorem uc_le (so : Nat) : ∀ n, uc so n ≤ n
  | 0 => by simp [uc]
  | n + 1 => by have := uc_le so n; simp only [uc]; split <;> omega
theorem uc_zero : ∀ n, uc 0 n = n
  | 0 => rfl
  | n + 1 => by simp [uc, uc_zero n]
theorem uc_congr {a b : Nat} : ∀ {n}, (∀ k, k < n → a.testBit k = b.testBit k) → uc a n = uc b n
  | 0, _ => rfl
  | n + 1, h => by simp only [uc]; rw [uc_congr (fun k hk => h k (by omega)), h n (by omega)]
theorem uc_or {so a : Nat} : ∀ {n}, a < n → so.testBit a = false → uc (so ||| 2 ^ a) n + 1 = uc so n
  | 0, h, _ => by omega
  | n + 1, h, hb => by
    simp only [uc]
    by_cases e : a = n
    · subst e
      rw [uc_congr (a := so ||| 2 ^ a) (b := so) (fun k hk => by rw [or_bit, decide_eq_false (by omega), Bool.or_false]), or_bit, hb]
      simp
    · have := uc_or (so := so) (a := a) (n := n) (by omega) hb
      rw [or_bit, decide_eq_false e, Bool.or_false]
      omega
theorem uc_all {so : Nat} : ∀ {n}, uc so n = 0 → ∀ k, k < n → so.testBit k = true
  | 0, _, k, hk => by omega
  | n + 1, h, k, hk => by
    simp only [uc] at h
    rcases Nat.lt_succ_iff_lt_or_eq.1 hk with q | rfl
    · exact uc_all (n := n) (by omega) k q
    · cases hb : so.testBit k with
      | true => rfl
      | false => rw [hb] at h; simp at h
theorem uc_pos {so k n : Nat} (hk : k < n) (hb : so.testBit k = false) : 0 < uc so n := by
  have := uc_or hk hb; omega
theorem uc_setO {m : Int} (hm : 0 ≤ m) : ∀ {os : List Int} {so : Nat}, orS m so os = true → uc (setO so os) m.toNat + os.length = uc so m.toNat
  | [], _, _ => by simp [setO]
  | a :: r, so, h => by
    obtain ⟨h1, h2, h3⟩ := orS_cons.1 h
    have i := uc_setO hm (os := r) h3
    have u := uc_or (so := so) (a := a.toNat) (n := m.toNat) (by omega) h2
    simp only [setO, List.length_cons]; omega
theorem set_all {m : Int} {os : List Int} (h : orOk m os = true) : ∀ k, k < m.toNat → (setO 0 os).testBit k = true := by
  obtain ⟨h1, h2, h3⟩ := orOk_iff.1 h
  have u := uc_setO (by omega) h3
  rw [uc_zero] at u
  exact uc_all (by omega)
theorem orS_take {m : Int} {so : Nat} {os : List Int} (h : orS m so os = true) (n : Nat) : orS m so (os.take n) = true := by
  rw [← List.take_append_drop n os, orS_app, Bool.and_eq_true] at h
  exact h.1
/-! what is asked -/
def gN (m : Int) (t : List T) (s : Nat) : Nat → List Int → Nat
  | _, [] => 0
  | so, a :: r => if prf m t s so then 0 else 1 + gN m t s (so ||| 2 ^ a.toNat) r
theorem gN_le (m : Int) (t : List T) (s : Nat) : ∀ (so : Nat) (os : List Int), gN m t s so os ≤ os.length
  | _, [] => by simp [gN]
  | so, a :: r => by have := gN_le m t s (so ||| 2 ^ a.toNat) r; simp only [gN, List.length_cons]; split <;> omega
theorem gN_lt {m : Int} {t : List T} {s : Nat} : ∀ {so : Nat} {os : List Int}, gN m t s so os < os.length → prf m t s (setO so (os.take (gN m t s so os))) = true
  | _, [], h => by simp at h
  | so, a :: r, h => by
    by_cases hp : prf m t s so = true
    · simp [gN, hp, setO]
    · have e : gN m t s so (a :: r) = gN m t s (so ||| 2 ^ a.toNat) r + 1 := by simp [gN, hp]; omega
      rw [e] at h ⊢
      have := gN_lt (m := m) (t := t) (s := s) (so := so ||| 2 ^ a.toNat) (os := r) (by simpa using h)
      simpa [setO] using this
theorem gN_before {m : Int} {t : List T} {s : Nat} : ∀ {so : Nat} {os : List Int} {k : Nat}, k < gN m t s so os → prf m t s (setO so (os.take k)) = false
  | _, [], k, h => by simp [gN] at h
  | so, a :: r, k, h => by
    by_cases hp : prf m t s so = true
    · simp [gN, hp] at h
    · have e : gN m t s so (a :: r) = gN m t s (so ||| 2 ^ a.toNat) r + 1 := by simp [gN, hp]; omega
      rw [e] at h
      cases k with
      | zero => simpa [setO] using hp
      | succ k =>
        have := gN_before (m := m) (t := t) (s := s) (so := so ||| 2 ^ a.toNat) (os := r) (k := k) (by omega)
        simpa [setO] using this
theorem gN_prf {m : Int} {t : List T} {s : Nat} {os : List Int} (hs : s < 2 ^ m.toNat) (h : orOk m os = true) : prf m t s (setO 0 (os.take (gN m t s 0 os))) = true := by
  have l := gN_le m t s 0 os
  by_cases e : gN m t s 0 os < os.length
  · exact gN_lt e
  · rw [List.take_of_length_le (by omega)]
    exact prf_all hs (set_all h)
/-! what it costs -/
def cA (us : List T) (a : Nat) : Int := (us.getD a (0, 0)).1
def cO (us : List T) : List Int → Int
  | [] => 0
  | a :: r => cA us a.toNat + cO us r
theorem cO_app (us : List T) : ∀ p q : List Int, cO us (p ++ q) = cO us p + cO us q
  | [], q => by simp [cO]
  | a :: r, q => by simp only [List.cons_append, cO, cO_app us r q]; omega
def gC (m : Int) (us t : List T) (s : Nat) : Nat → List Int → Int
  | _, [] => 0
  | so, a :: r => if prf m t s so then 0 else cA us a.toNat + gC m us t s (so ||| 2 ^ a.toNat) r
theorem gC_cO {m : Int} {us t : List T} {s : Nat} : ∀ (so : Nat) (os : List Int), gC m us t s so os = cO us (os.take (gN m t s so os))
  | _, [] => by simp [gC, cO]
  | so, a :: r => by
    by_cases hp : prf m t s so = true
    · simp [gC, gN, hp, cO]
    · have e : gN m t s so (a :: r) = gN m t s (so ||| 2 ^ a.toNat) r + 1 := by simp [gN, hp]; omega
      rw [e]
      simp [gC, hp, cO, gC_cO (so ||| 2 ^ a.toNat) r]
/-- what some tests cost -/
def cB (us : List T) (so : Nat) : Nat → Int
  | 0 => 0
  | k + 1 => cB us so k + if so.testBit k then cA us k else 0
theorem cB_congr {us : List T} {a b : Nat} : ∀ {n}, (∀ k, k < n → a.testBit k = b.testBit k) → cB us a n = cB us b n
  | 0, _ => rfl
  | n + 1, h => by simp only [cB]; rw [cB_congr (fun k hk => h k (by omega)), h n (by omega)]
theorem cB_or {us : List T} {so a : Nat} : ∀ {n}, a < n → so.testBit a = false → cB us (so ||| 2 ^ a) n = cB us so n + cA us a
  | 0, h, _ => by omega
  | n + 1, h, hb => by
    simp only [cB]
    by_cases e : a = n
    · subst e
      rw [cB_congr (a := so ||| 2 ^ a) (b := so) (fun k hk => by rw [or_bit, decide_eq_false (by omega), Bool.or_false]), or_bit, hb]
      simp
    · have := cB_or (us := us) (so := so) (a := a) (n := n) (by omega) hb
      rw [or_bit, decide_eq_false e, Bool.or_false]
      omega
theorem cA_nn {us : List T} (h : us.all tOk = true) (k : Nat) : 0 ≤ cA us k ∧ (k < us.length → 1 ≤ cA us k) ∧ cA us k ≤ 9 := by
  unfold cA
  by_cases hk : k < us.length
  · have e : us.getD k (0, 0) = us[k] := by simp [List.getD, hk]
    rw [e]
    have := tOk_iff.1 (List.all_eq_true.1 h us[k] (List.getElem_mem hk))
    omega
  · have e : us.getD k (0, 0) = (0, 0) := by simp [List.getD, List.getElem?_eq_none (by omega : us.length ≤ k)]
    rw [e]; simp; omega
theorem cost_sum : ∀ (us : List T) (n : Nat), cost (us.take n) = sumTo (fun k => cA us k) n
  | us, 0 => by simp [cost, sumTo]
  | us, n + 1 => by
    simp only [sumTo]
    rw [← cost_sum us n]
    by_cases hn : n < us.length
    · rw [List.take_succ_eq_append_getElem hn, cost_append]
      simp [cost, cA, List.getD, hn]
    · rw [List.take_of_length_le (by omega), List.take_of_length_le (by omega)]
      simp [cA, List.getD, List.getElem?_eq_none (by omega : us.length ≤ n)]
theorem cB_le {us : List T} (h : us.all tOk = true) (so : Nat) : ∀ n, 0 ≤ cB us so n ∧ cB us so n ≤ sumTo (fun k => cA us k) n
  | 0 => by simp [cB, sumTo]
  | n + 1 => by
    have i := cB_le h so n
    have c := cA_nn h n
    simp only [cB, sumTo]
    split <;> omega
theorem cO_cB {m : Int} {us : List T} (hm : 0 ≤ m) : ∀ {os : List Int} {so : Nat}, orS m so os = true → cB us so m.toNat + cO us os = cB us (setO so os) m.toNat
  | [], _, _ => by simp [cO, setO]
  | a :: r, so, h => by
    obtain ⟨h1, h2, h3⟩ := orS_cons.1 h
    have i := cO_cB (us := us) hm (os := r) h3
    have u := cB_or (us := us) (so := so) (a := a.toNat) (n := m.toNat) (by omega) h2
    simp only [cO, setO]; omega
theorem cB_zero (us : List T) : ∀ n, cB us 0 n = 0
  | 0 => rfl
  | n + 1 => by simp [cB, cB_zero us n]
theorem cO_le {us : List T} {os : List Int} (h1 : tsOk us = true) (h : orS us.length 0 os = true) : 0 ≤ cO us os ∧ cO us os ≤ cost us := by
  have h1' := tsOk_iff.1 h1
  have c := cO_cB (us := us) (by omega) h
  have b := cB_le h1'.2 (setO 0 os) us.length
  rw [cB_zero, Int.toNat_natCast] at c
  have e := cost_sum us us.length
  rw [List.take_length] at e
  omega
theorem cO_nn {us : List T} (h : us.all tOk = true) : ∀ os : List Int, 0 ≤ cO us os
  | [] => by simp [cO]
  | a :: r => by have := cO_nn h r; have := cA_nn h a.toNat; simp only [cO]; omega
theorem cO_pos {us : List T} (h : us.all tOk = true) {a : Int} {r : List Int} (ha : a.toNat < us.length) : 0 < cO us (a :: r) := by
  have := cO_nn h r; have := (cA_nn h a.toNat).2.1 ha; simp only [cO]; omega
/-! averages -/
def gP (m : Int) (us t : List T) (s : Nat) : Nat → List Int → Int
  | _, [] => 0
  | so, a :: r => (if prf m t s so then 0 else cA us a.toNat) + gP m us t s (so ||| 2 ^ a.toNat) r
theorem prf_or {m : Int} {t : List T} {s so : Nat} (hs : s < 2 ^ m.toNat) (a : Nat) (h : prf m t s so = true) : prf m t s (so ||| 2 ^ a) = true :=
  prf_mono hs (fun k _ hb => by rw [or_bit, hb]; rfl) h
theorem gP_prf {m : Int} {us t : List T} {s : Nat} (hs : s < 2 ^ m.toNat) : ∀ {so : Nat} {os : List Int}, prf m t s so = true → gP m us t s so os = 0
  | _, [], _ => rfl
  | so, a :: r, h => by simp [gP, h, gP_prf hs (os := r) (prf_or hs a.toNat h)]
theorem gC_gP {m : Int} {us t : List T} {s : Nat} (hs : s < 2 ^ m.toNat) : ∀ (so : Nat) (os : List Int), gC m us t s so os = gP m us t s so os
  | _, [] => rfl
  | so, a :: r => by
    by_cases hp : prf m t s so = true
    · rw [gP_prf hs hp]; simp [gC, hp]
    · simp [gC, gP, hp, gC_gP hs (so ||| 2 ^ a.toNat) r]
/-- the weight of the states that some tests leave open -/
def owT (us t : List T) (so : Nat) : Int := sumTo (fun s => if prf us.length t s so then 0 else wt us s) (2 ^ us.length)
def cC (us t : List T) : Nat → List Int → Int
  | _, [] => 0
  | so, a :: r => cA us a.toNat * owT us t so + cC us t (so ||| 2 ^ a.toNat) r
def avO (us t : List T) (os : List Int) : Int := sumTo (fun s => wt us s * gC us.length us t s 0 os) (2 ^ us.length)
theorem sum_gP (us t : List T) : ∀ (so : Nat) (os : List Int), sumTo (fun s => wt us s * gP us.length us t s so os) (2 ^ us.length) = cC us t so os
  | so, [] => by
    simp only [gP, cC, Int.mul_zero]
    generalize 2 ^ us.length = n
    induction n with
    | zero => rfl
    | succ n ih => simp only [sumTo, ih]; rfl
  | so, a :: r => by
    simp only [gP, cC]
    rw [← sum_gP us t (so ||| 2 ^ a.toNat) r, owT, ← sumTo_mul, ← sumTo_add]
    refine sumTo_congr fun s _ => ?_
    rw [Int.mul_add]
    congr 1
    split
    · simp
    · rw [Int.mul_comm]
theorem avO_cC (us t : List T) (os : List Int) : avO us t os = cC us t 0 os := by
  unfold avO
  rw [← sum_gP]
  exact sumTo_congr fun s hs => by rw [gC_gP (by rw [Int.toNat_natCast]; exact hs)]
theorem sumTo_le {f g : Nat → Int} : ∀ {n}, (∀ k, k < n → f k ≤ g k) → sumTo f n ≤ sumTo g n
  | 0, _ => Int.le_refl _
  | n + 1, h => by simp only [sumTo]; have := sumTo_le (n := n) fun k hk => h k (by omega); have := h n (by omega); omega
theorem owT_bound {us : List T} (h : tsOk us = true) (t : List T) (so : Nat) : 0 ≤ owT us t so ∧ owT us t so ≤ 6 ^ us.length := by
  have h' := tsOk_iff.1 h
  unfold owT
  constructor
  · have := sumTo_le (f := fun _ => 0) (g := fun s => if prf us.length t s so then 0 else wt us s) (n := 2 ^ us.length) (fun k _ => by
      have := wt_le h'.2 (by omega) (k : Int); show (0 : Int) ≤ if _ then _ else _; split <;> omega)
    have z : ∀ n, sumTo (fun _ => (0 : Int)) n = 0 := fun n => by
      induction n with
      | zero => rfl
      | succ n ih => simp only [sumTo, ih]; rfl
    rw [z] at this; exact this
  · rw [← wt_sum us]
    exact sumTo_le fun k _ => by
      have := wt_le h'.2 (by omega) (k : Int); show (if _ then _ else _) ≤ _; split <;> omega
theorem cC_nn {us : List T} (h : tsOk us = true) (t : List T) : ∀ (so : Nat) (os : List Int), 0 ≤ cC us t so os
  | _, [] => by simp [cC]
  | so, a :: r => by
    have h' := tsOk_iff.1 h
    have := cC_nn h t (so ||| 2 ^ a.toNat) r
    have := Int.mul_nonneg (cA_nn h'.2 a.toNat).1 (owT_bound h t so).1
    simp only [cC]; omega
theorem cC_le {us : List T} (h : tsOk us = true) (t : List T) : ∀ (so : Nat) (os : List Int), cC us t so os ≤ 6 ^ us.length * cO us os
  | _, [] => by simp [cC, cO]
  | so, a :: r => by
    have h' := tsOk_iff.1 h
    have i := cC_le h t (so ||| 2 ^ a.toNat) r
    have := Int.mul_le_mul_of_nonneg_left (owT_bound h t so).2 (cA_nn h'.2 a.toNat).1
    simp only [cC, cO, Int.mul_add]
    rw [Int.mul_comm (6 ^ us.length) (cA us a.toNat)]; omega
theorem cC_app (us t : List T) : ∀ (so : Nat) (p q : List Int), cC us t so (p ++ q) = cC us t so p + cC us t (setO so p) q
  | _, [], q => by simp [cC, setO]
  | so, a :: r, q => by simp only [List.cons_append, cC, setO, cC_app us t (so ||| 2 ^ a.toNat) r q]; omega
end Zz

namespace Zz
open Go.Lg Md
/-! ### orders as rows of different tests -/
theorem orS_nodup {m : Int} : ∀ {os : List Int} {so : Nat}, orS m so os = true ↔ (∀ o ∈ os, (0 ≤ o ∧ o < m) ∧ so.testBit o.toNat = false) ∧ os.Nodup
  | [], so => by simp [orS]
  | a :: r, so => by
    rw [orS_cons, orS_nodup (os := r), List.nodup_cons]
    constructor
    · rintro ⟨h1, h2, h3, h4⟩
      refine ⟨fun o ho => ?_, fun hm => ?_, h4⟩
      · rcases List.mem_cons.1 ho with rfl | ho
        · exact ⟨h1, h2⟩
        · obtain ⟨q1, q2⟩ := h3 o ho
          rw [or_bit, Bool.or_eq_false_iff] at q2
          exact ⟨q1, q2.1⟩
      · have q := (h3 a hm).2
        rw [or_bit] at q; simp at q
    · rintro ⟨h1, h2, h3⟩
      obtain ⟨a1, a2⟩ := h1 a (by simp)
      refine ⟨a1, a2, fun o ho => ?_, h3⟩
      obtain ⟨q1, q2⟩ := h1 o (by simp [ho])
      refine ⟨q1, ?_⟩
      rw [or_bit, q2, Bool.false_or, decide_eq_false]
      intro e
      have : a = o := by omega
      exact h2 (this ▸ ho)
theorem orS_perm {m : Int} {so : Nat} {p q : List Int} (h : p.Perm q) : orS m so p = orS m so q := by
  rw [Bool.eq_iff_iff, orS_nodup, orS_nodup, h.nodup_iff]
  constructor
  · exact fun k => ⟨fun o ho => k.1 o (h.mem_iff.2 ho), k.2⟩
  · exact fun k => ⟨fun o ho => k.1 o (h.mem_iff.1 ho), k.2⟩
theorem orOk_perm {m : Int} {p q : List Int} (h : p.Perm q) : orOk m p = orOk m q := by
  unfold orOk
  rw [orS_perm h, h.length_eq]
def rng (n : Nat) : List Int := (List.range n).map fun (k : Nat) => (k : Int)
theorem rng_len (n : Nat) : (rng n).length = n := by simp [rng]
theorem rng_succ (n : Nat) : rng (n + 1) = rng n ++ [(n : Int)] := by simp [rng, List.range_succ]
theorem mem_rng {n : Nat} {o : Int} : o ∈ rng n ↔ 0 ≤ o ∧ o < n := by
  unfold rng
  rw [List.mem_map]
  constructor
  · rintro ⟨k, h, rfl⟩; have := List.mem_range.1 h; omega
  · intro h; exact ⟨o.toNat, List.mem_range.2 (by omega), by omega⟩
theorem rng_ok {m : Int} (h : 1 ≤ m ∧ m ≤ 5) : orOk m (rng m.toNat) = true := by
  rw [orOk_iff, orS_nodup]
  refine ⟨h, by rw [rng_len]; omega, fun o ho => ?_, ?_⟩
  · have := mem_rng.1 ho
    exact ⟨by omega, by simp⟩
  · unfold rng
    rw [List.nodup_iff_pairwise_ne, List.pairwise_map]
    exact List.Pairwise.imp (fun {a b} (hab : a ≠ b) h => hab (Int.ofNat_inj.1 h)) (List.nodup_iff_pairwise_ne.1 List.nodup_range)
theorem orOk_len {m : Int} {os : List Int} (h : orOk m os = true) : (os.length : Int) = m := (orOk_iff.1 h).2.1
theorem perm_ok {m : Int} {os : List Int} (h : 1 ≤ m ∧ m ≤ 5) (p : os.Perm (rng m.toNat)) : orOk m os = true := by rw [orOk_perm p]; exact rng_ok h
/-! ### the best order -/
def bbL (us t : List T) (rec : Nat → List Int × Int) (so : Nat) : Nat → List Int × Int
  | 0 => ([], 0)
  | i + 1 => if so.testBit i then bbL us t rec so i else
    if (bbL us t rec so i).1 = [] ∨ (rec (so ||| 2 ^ i)).2 + cA us i * owT us t so < (bbL us t rec so i).2 then ((i : Int) :: (rec (so ||| 2 ^ i)).1, (rec (so ||| 2 ^ i)).2 + cA us i * owT us t so) else bbL us t rec so i
def bbF (us t : List T) : Nat → Nat → List Int × Int
  | 0, _ => ([], 0)
  | f + 1, so => bbL us t (bbF us t f) so us.length
def bbOk (us t : List T) (so f : Nat) (p : List Int × Int) : Prop :=
  orS us.length so p.1 = true ∧ p.1.length = f ∧ p.2 = cC us t so p.1 ∧ ∀ r, orS us.length so r = true → r.length = f → p.2 ≤ cC us t so r
theorem bbL_ok {us t : List T} {rec : Nat → List Int × Int} {so f : Nat} (hr : ∀ k, k < us.length → so.testBit k = false → bbOk us t (so ||| 2 ^ k) f (rec (so ||| 2 ^ k))) :
    ∀ i, i ≤ us.length → ((bbL us t rec so i).1 = [] → (bbL us t rec so i).2 = 0 ∧ ∀ k, k < i → so.testBit k = true) ∧
      ((bbL us t rec so i).1 ≠ [] → orS us.length so (bbL us t rec so i).1 = true ∧ (bbL us t rec so i).1.length = f + 1 ∧ (bbL us t rec so i).2 = cC us t so (bbL us t rec so i).1) ∧
      ∀ k, k < i → so.testBit k = false → ∀ r, orS us.length (so ||| 2 ^ k) r = true → r.length = f → (bbL us t rec so i).2 ≤ cC us t so ((k : Int) :: r) := by
  intro i
  induction i with
  | zero =>
    intro _
    refine ⟨fun _ => ⟨rfl, fun k hk => by omega⟩, fun h => absurd rfl h, fun k hk => by omega⟩
  | succ i ih =>
    intro hi
    obtain ⟨i1, i2, i3⟩ := ih (by omega)
    cases hb : so.testBit i with
    | true =>
      have e : bbL us t rec so (i + 1) = bbL us t rec so i := by rw [bbL, if_pos hb]
      rw [e]
      refine ⟨fun h => ⟨(i1 h).1, fun k hk => ?_⟩, i2, fun k hk hkb => ?_⟩
      · rcases Nat.lt_succ_iff_lt_or_eq.1 hk with q | rfl
        · exact (i1 h).2 k q
        · exact hb
      · rcases Nat.lt_succ_iff_lt_or_eq.1 hk with q | rfl
        · exact i3 k q hkb
        · rw [hb] at hkb; cases hkb
    | false =>
      obtain ⟨r1, r2, r3, r4⟩ := hr i (by omega) hb
      have ca : ∀ r, cC us t so ((i : Int) :: r) = cA us i * owT us t so + cC us t (so ||| 2 ^ i) r := fun r => rfl
      by_cases hc : (bbL us t rec so i).1 = [] ∨ (rec (so ||| 2 ^ i)).2 + cA us i * owT us t so < (bbL us t rec so i).2
      · have e : bbL us t rec so (i + 1) = ((i : Int) :: (rec (so ||| 2 ^ i)).1, (rec (so ||| 2 ^ i)).2 + cA us i * owT us t so) := by rw [bbL, hb, if_neg (by simp), if_pos hc]
        rw [e]
        refine ⟨fun h => (by cases h), fun _ => ⟨orS_cons.2 ⟨⟨by omega, by omega⟩, hb, r1⟩, by simp [r2], ?_⟩, fun k hk hkb r q1 q2 => ?_⟩
        · show (rec (so ||| 2 ^ i)).2 + cA us i * owT us t so = cC us t so ((i : Int) :: (rec (so ||| 2 ^ i)).1)
          rw [ca, r3]; omega
        · show (rec (so ||| 2 ^ i)).2 + cA us i * owT us t so ≤ _
          rcases Nat.lt_succ_iff_lt_or_eq.1 hk with q | rfl
          · rcases hc with hc | hc
            · have := (i1 hc).2 k q
              rw [hkb] at this; cases this
            · have := i3 k q hkb r q1 q2; omega
          · rw [ca]; have := r4 r q1 q2; omega
      · have e : bbL us t rec so (i + 1) = bbL us t rec so i := by rw [bbL, hb, if_neg (by simp), if_neg hc]
        rw [e]
        have hne : (bbL us t rec so i).1 ≠ [] := fun h => hc (.inl h)
        refine ⟨fun h => absurd h hne, i2, fun k hk hkb r q1 q2 => ?_⟩
        rcases Nat.lt_succ_iff_lt_or_eq.1 hk with q | rfl
        · exact i3 k q hkb r q1 q2
        · rw [ca]
          have := r4 r q1 q2
          have : ¬ ((rec (so ||| 2 ^ k)).2 + cA us k * owT us t so < (bbL us t rec so k).2) := fun h => hc (.inr h)
          omega
theorem bbF_ok {us t : List T} : ∀ {f so : Nat}, uc so us.length = f → bbOk us t so f (bbF us t f so)
  | 0, so, _ => ⟨rfl, rfl, rfl, fun r _ hl => by
      have : r = [] := List.eq_nil_of_length_eq_zero hl
      subst this; exact Int.le_refl _⟩
  | f + 1, so, h => by
    obtain ⟨i1, i2, i3⟩ := bbL_ok (us := us) (t := t) (rec := bbF us t f) (so := so) (f := f) (fun k hk hb => bbF_ok (by have := uc_or hk hb; omega)) us.length (Nat.le_refl _)
    have hne : (bbL us t (bbF us t f) so us.length).1 ≠ [] := fun h0 => by
      have := (i1 h0).2
      have : ∀ n, (∀ k, k < n → so.testBit k = true) → uc so n = 0 := fun n => by
        induction n with
        | zero => intro _; rfl
        | succ n ih => intro q; simp only [uc]; rw [ih fun k hk => q k (by omega), q n (by omega)]; rfl
      have := this us.length (i1 h0).2
      omega
    obtain ⟨j1, j2, j3⟩ := i2 hne
    refine ⟨j1, j2, j3, fun r q1 q2 => ?_⟩
    show (bbL us t (bbF us t f) so us.length).2 ≤ _
    match r, q1, q2 with
    | [], _, q2 => simp at q2
    | a :: r, q1, q2 =>
      obtain ⟨⟨a0, a1⟩, a2, a3⟩ := orS_cons.1 q1
      have := i3 a.toNat (by omega) a2 r a3 (by simpa using q2)
      rw [Int.toNat_of_nonneg a0] at this
      exact this
theorem bbL_le {us t : List T} {rec : Nat → List Int × Int} {so : Nat} (hr : ∀ k, (rec (so ||| 2 ^ k)).1.length ≤ 5) : ∀ i, (bbL us t rec so i).1.length ≤ 6
  | 0 => by simp [bbL]
  | i + 1 => by
    have := bbL_le (us := us) (t := t) hr i
    have := hr i
    simp only [bbL]
    split
    · assumption
    · split
      · simp; assumption
      · assumption
/-- the given search: what is best so far, and the best of those that go on so -/
def comb (us t : List T) (p : List Int) (bl q : List Int × Int) : List Int × Int :=
  if bl.2 < 0 ∨ cC us t 0 p + q.2 < bl.2 then (p ++ q.1, cC us t 0 p + q.2) else bl
def combL (us t : List T) (p : List Int) (bl q : List Int × Int) : List Int × Int := if q.1 = [] then bl else comb us t p bl q
theorem comb_step {us t : List T} {rec : Nat → List Int × Int} {p : List Int} {bl : List Int × Int} {i : Nat} (hb : (setO 0 p).testBit i = false)
    (h0 : (bbL us t rec (setO 0 p) i).1 ≠ [] → 0 ≤ cC us t 0 p + (bbL us t rec (setO 0 p) i).2) :
    comb us t (p ++ [(i : Int)]) (combL us t p bl (bbL us t rec (setO 0 p) i)) (rec (setO 0 p ||| 2 ^ i)) = combL us t p bl (bbL us t rec (setO 0 p) (i + 1)) := by
  have ca : cC us t 0 (p ++ [(i : Int)]) = cC us t 0 p + cA us i * owT us t (setO 0 p) := by
    rw [cC_app]; simp [cC]
  have e : bbL us t rec (setO 0 p) (i + 1) = if (bbL us t rec (setO 0 p) i).1 = [] ∨ (rec (setO 0 p ||| 2 ^ i)).2 + cA us i * owT us t (setO 0 p) < (bbL us t rec (setO 0 p) i).2 then ((i : Int) :: (rec (setO 0 p ||| 2 ^ i)).1, (rec (setO 0 p ||| 2 ^ i)).2 + cA us i * owT us t (setO 0 p)) else bbL us t rec (setO 0 p) i := by
    rw [bbL, hb, if_neg (by simp)]
  rw [e]
  generalize bbL us t rec (setO 0 p) i = P at *
  generalize rec (setO 0 p ||| 2 ^ i) = Q at *
  generalize cA us i * owT us t (setO 0 p) = c at *
  obtain ⟨P1, P2⟩ := P
  obtain ⟨Q1, Q2⟩ := Q
  obtain ⟨b, l⟩ := bl
  unfold combL comb
  rw [ca]
  generalize cC us t 0 p = x at *
  simp only at h0 ⊢
  by_cases hP : P1 = []
  · subst hP
    simp only [true_or, if_true, List.append_assoc, List.cons_append, List.nil_append, reduceCtorEq, if_false]
    rw [show x + c + Q2 = x + (Q2 + c) by omega]
  · have h0 := h0 hP
    have ep : (p ++ [(i : Int)]) ++ Q1 = p ++ (i : Int) :: Q1 := by simp
    have ex' : x + c + Q2 = x + (Q2 + c) := by omega
    rw [ep, ex']
    simp only [if_neg hP]
    by_cases hA : Q2 + c < P2
    · have eP : (if P1 = [] ∨ Q2 + c < P2 then ((i : Int) :: Q1, Q2 + c) else (P1, P2)) = ((i : Int) :: Q1, Q2 + c) := if_pos (.inr hA)
      rw [eP]
      simp only [reduceCtorEq, if_false]
      by_cases hl : l < 0 ∨ x + P2 < l
      · simp only [if_pos hl]
        rw [if_pos (.inr (by omega)), if_pos (by omega)]
      · simp only [if_neg hl]
    · have eP : (if P1 = [] ∨ Q2 + c < P2 then ((i : Int) :: Q1, Q2 + c) else (P1, P2)) = (P1, P2) := if_neg (by rintro (h | h); exact hP h; exact hA h)
      rw [eP]
      simp only [if_neg hP]
      by_cases hl : l < 0 ∨ x + P2 < l
      · simp only [if_pos hl]
        rw [if_neg (by omega)]
      · simp only [if_neg hl]
        rw [if_neg (by omega)]
def boF (us t : List T) : List Int × Int := bbF us t us.length 0
theorem boF_ok (us t : List T) : bbOk us t 0 us.length (boF us t) := bbF_ok (uc_zero _)
theorem boF_or {us : List T} (h : tsOk us = true) (t : List T) : orOk us.length (boF us t).1 = true := by
  obtain ⟨h1, h2, _, _⟩ := boF_ok us t
  have h' := tsOk_iff.1 h
  exact orOk_iff.2 ⟨h'.1, by omega, h1⟩
theorem boF_av (us t : List T) : (boF us t).2 = avO us t (boF us t).1 := by rw [avO_cC]; exact (boF_ok us t).2.2.1
theorem boF_least {us t : List T} {os : List Int} (h : orOk us.length os = true) : (boF us t).2 ≤ avO us t os := by
  rw [avO_cC]
  obtain ⟨_, h2, h3⟩ := orOk_iff.1 h
  exact (boF_ok us t).2.2.2 os h3 (by omega)
theorem avO_le {us t : List T} {os : List Int} (h1 : tsOk us = true) (h : orOk us.length os = true) : 0 ≤ avO us t os ∧ avO us t os ≤ 6 ^ us.length * cost us := by
  rw [avO_cC]
  obtain ⟨_, h2, h3⟩ := orOk_iff.1 h
  refine ⟨cC_nn h1 t 0 os, ?_⟩
  have c := cC_le h1 t 0 os
  have o := (cO_le h1 h3).2
  have p : (0 : Int) ≤ 6 ^ us.length := Int.le_of_lt (Int.pow_pos (by omega))
  have := Int.mul_le_mul_of_nonneg_left o p
  omega
end Zz

namespace Zz
open Go.Lg Md
/-! ### the walk along an order -/
def hkn (m : Nat) (ks : List Int) (so : Nat) : Prop := ∀ k, k < m → (ks[k]? = some (-1) ↔ so.testBit k = false)
theorem told_eq {m : Int} {ks : List Int} {so s : Nat} (hk : ksOk m ks = true) (hn : hkn m.toNat ks so) (hg : agB ks s = true) : told m.toNat s so = ks := by
  obtain ⟨h1, h2, h3⟩ := ksOk_iff.1 hk
  apply List.ext_getElem?
  intro k
  by_cases h : k < m.toNat
  · obtain ⟨v, hv⟩ : ∃ v, ks[k]? = some v := ⟨ks[k]'(by omega), List.getElem?_eq_getElem (by omega)⟩
    have e := hn k h
    rw [hv] at e ⊢
    have a := agB_iff.1 hg k v hv
    have tl : (told m.toNat s so)[k]? = some (if so.testBit k then bI (s.testBit k) else -1) := by simp [told, h]
    rw [tl]
    cases hb : so.testBit k with
    | false =>
      have := e.2 hb
      simpa using this.symm
    | true =>
      rcases a with a | a
      · subst a
        have := e.1 rfl
        rw [hb] at this; cases this
      · simp [a]
  · have tl := told_len m.toNat s so
    rw [List.getElem?_eq_none (by omega), List.getElem?_eq_none (by omega)]
theorem prf_kn {m : Int} {t : List T} {ks : List Int} {so s : Nat} (hk : ksOk m ks = true) (hn : hkn m.toNat ks so) (hg : agB ks s = true) : prf m t s so = (foT m t ks != -1) := by
  unfold prf
  rw [told_eq hk hn hg]
def wlk (us t : List T) (ks : List Int) (so : Nat) (os : List Int) : Int := sumTo (fun s => if agB ks s then wt us s * gC us.length us t s so os else 0) (2 ^ us.length)
theorem sumTo_zero {f : Nat → Int} : ∀ {n}, (∀ k, k < n → f k = 0) → sumTo f n = 0
  | 0, _ => rfl
  | n + 1, h => by simp only [sumTo]; rw [sumTo_zero (n := n) fun k hk => h k (by omega), h n (by omega)]; rfl
theorem wlk_forced {us t : List T} {ks : List Int} {so : Nat} {os : List Int} (hk : ksOk us.length ks = true) (hn : hkn us.length ks so) (hf : foT us.length t ks ≠ -1) : wlk us t ks so os = 0 := by
  apply sumTo_zero
  intro s _
  split
  · rename_i hg
    have p := prf_kn (t := t) hk (by rw [Int.toNat_natCast]; exact hn) hg
    have : gC us.length us t s so os = 0 := by
      cases os with
      | nil => rfl
      | cons a r =>
        have : prf us.length t s so = true := by rw [p]; simpa using hf
        simp [gC, this]
    rw [this]; simp
  · rfl
theorem agB_set {ks : List Int} {a : Nat} (ha : ks[a]? = some (-1)) (b : Bool) (s : Nat) : agB (ks.set a (bI b)) s = (agB ks s && (s.testBit a == b)) := by
  have hl := (List.getElem?_eq_some_iff.1 ha).1
  rw [Bool.eq_iff_iff, Bool.and_eq_true, agB_iff, agB_iff, beq_iff_eq]
  constructor
  · intro h
    refine ⟨fun k v hv => ?_, ?_⟩
    · by_cases e : k = a
      · subst e; rw [ha] at hv; injection hv with hv; exact .inl hv.symm
      · exact h k v (by rw [List.getElem?_set_ne (fun q => e q.symm)]; exact hv)
    · have := h a (bI b) (by rw [List.getElem?_set_self hl])
      rcases this with q | q
      · cases b <;> simp [bI] at q
      · exact (bI_inj.1 q).symm
  · rintro ⟨h1, h2⟩ k v hv
    by_cases e : k = a
    · subst e
      rw [List.getElem?_set_self hl] at hv
      injection hv with hv
      right; rw [← hv, h2]
    · rw [List.getElem?_set_ne (fun q => e q.symm)] at hv
      exact h1 k v hv
theorem wk_set : ∀ {us : List T} {ks : List Int} {a : Nat}, ks[a]? = some (-1) → a < us.length → ∃ X, wk us ks = 6 * X ∧ wk us (ks.set a 1) = (us.getD a (0, 0)).2 * X ∧ wk us (ks.set a 0) = (6 - (us.getD a (0, 0)).2) * X
  | [], _, a, _, h => by simp at h
  | t :: r, [], a, h, _ => by simp at h
  | t :: r, k :: ks, 0, h, _ => by
    simp at h; subst h
    exact ⟨wk r ks, rfl, by simp [wk], by simp [wk]⟩
  | t :: r, k :: ks, a + 1, h, hl => by
    obtain ⟨X, x1, x2, x3⟩ := wk_set (us := r) (ks := ks) (a := a) (by simpa using h) (by simpa using hl)
    refine ⟨(if k = -1 then 6 else if k = 1 then t.2 else 6 - t.2) * X, ?_, ?_, ?_⟩
    · simp only [wk, x1]; rw [Int.mul_left_comm]
    · simp only [wk, List.set_cons_succ, x2, List.getD_cons_succ]; rw [Int.mul_left_comm]
    · simp only [wk, List.set_cons_succ, x3, List.getD_cons_succ]; rw [Int.mul_left_comm]
theorem ks_set {m : Int} {ks : List Int} (h : ksOk m ks = true) (a : Nat) (b : Bool) : ksOk m (ks.set a (bI b)) = true := by
  obtain ⟨h1, h2, h3⟩ := ksOk_iff.1 h
  refine ksOk_iff.2 ⟨h1, by simpa using h2, ?_⟩
  rw [List.all_eq_true] at h3 ⊢
  intro x hx
  rcases List.mem_or_eq_of_mem_set hx with q | rfl
  · exact h3 x q
  · cases b <;> rfl
theorem hkn_set {m : Nat} {ks : List Int} {so a : Nat} (hl : ks.length = m) (ha : a < m) (h : hkn m ks so) (b : Bool) : hkn m (ks.set a (bI b)) (so ||| 2 ^ a) := by
  intro k hk
  rw [or_bit]
  by_cases e : k = a
  · subst e
    rw [List.getElem?_set_self (by omega)]
    cases b <;> simp [bI]
  · rw [List.getElem?_set_ne (fun q => e q.symm), h k hk, decide_eq_false (fun q => e q.symm), Bool.or_false]
theorem wlk_open {us t : List T} {ks : List Int} {so : Nat} {a : Int} {r : List Int} (hk : ksOk us.length ks = true) (hn : hkn us.length ks so) (hf : foT us.length t ks = -1) (ha : ks[a.toNat]? = some (-1)) :
    wlk us t ks so (a :: r) = cA us a.toNat * wk us ks + (wlk us t (ks.set a.toNat 0) (so ||| 2 ^ a.toNat) r + wlk us t (ks.set a.toNat 1) (so ||| 2 ^ a.toNat) r) := by
  obtain ⟨h1, h2, h3⟩ := ksOk_iff.1 hk
  rw [← wa_wk (ts := us) (ks := ks) (by omega) h3, wa]
  unfold wlk
  rw [← sumTo_mul, ← sumTo_add, ← sumTo_add]
  refine sumTo_congr fun s _ => ?_
  have e1 := agB_set ha true s
  have e0 := agB_set ha false s
  rw [show bI true = 1 from rfl] at e1
  rw [show bI false = 0 from rfl] at e0
  rw [e1, e0]
  have ed : ag ks (s : Int) = agB ks s := rfl
  rw [ed]
  cases hg : agB ks s with
  | false => simp
  | true =>
    have p := prf_kn (t := t) hk (by rw [Int.toNat_natCast]; exact hn) hg
    rw [hf] at p
    have p' : prf us.length t s so = false := by rw [p]; rfl
    have eg : gC us.length us t s so (a :: r) = cA us a.toNat + gC us.length us t s (so ||| 2 ^ a.toNat) r := by simp [gC, p']
    rw [eg]
    generalize gC us.length us t s (so ||| 2 ^ a.toNat) r = x
    rw [Int.mul_add, Int.mul_comm (wt us s) (cA us a.toNat)]
    cases s.testBit a.toNat <;> simp
theorem foT_all {m : Int} {t : List T} {ks : List Int} {so : Nat} (hk : ksOk m ks = true) (hn : hkn m.toNat ks so) (hs : ∀ k, k < m.toNat → so.testBit k = true) : foT m t ks ≠ -1 := by
  intro hf
  obtain ⟨h1, h2, h3⟩ := ksOk_iff.1 hk
  have u := unk_pos hk hf
  have key : ∀ l : List Int, (∀ (k : Nat) (v : Int), l[k]? = some v → v ≠ -1) → unk l = 0 := by
    intro l
    induction l with
    | nil => intro _; rfl
    | cons a r ih =>
      intro q
      have := ih fun k v hv => q (k + 1) v (by simpa using hv)
      have := q 0 a rfl
      simp [unk, *]
  have := key ks fun k v hv hm => by
    subst hm
    have hkm : k < m.toNat := by have := (List.getElem?_eq_some_iff.1 hv).1; omega
    have := (hn k hkm).1 hv
    rw [hs k hkm] at this; cases this
  omega
def non (m : Nat) : List Int := List.replicate m (-1)
theorem non_ok {m : Int} (h : 1 ≤ m ∧ m ≤ 5) : ksOk m (non m.toNat) = true := by
  refine ksOk_iff.2 ⟨h, by simp [non]; omega, ?_⟩
  rw [List.all_eq_true]
  intro x hx
  rw [List.eq_of_mem_replicate hx]; rfl
theorem non_kn (m : Nat) : hkn m (non m) 0 := by
  intro k hk
  simp [non, hk]
theorem non_ag (m s : Nat) : agB (non m) s = true := by
  rw [agB_iff]
  intro k v hv
  have := List.mem_of_getElem? hv
  exact .inl (List.eq_of_mem_replicate this)
theorem wlk_non (us t : List T) (os : List Int) : wlk us t (non us.length) 0 os = avO us t os := by
  unfold wlk avO
  exact sumTo_congr fun s _ => by rw [non_ag, if_pos rfl]
theorem wk_non : ∀ us : List T, wk us (non us.length) = 6 ^ us.length
  | [] => rfl
  | t :: r => by
    have := wk_non r
    unfold non at *
    rw [List.length_cons, List.replicate_succ, wk, this, if_pos rfl, Int.pow_succ, Int.mul_comm]
theorem told_set {m st so a : Nat} (ha : a < m) : (told m st so).set a (bI (st.testBit a)) = told m st (so ||| 2 ^ a) := by
  apply List.ext_getElem?
  intro k
  have tl := told_len m st so
  have tl2 := told_len m st (so ||| 2 ^ a)
  by_cases hk : k < m
  · have q : ∀ so', (told m st so')[k]? = some (if so'.testBit k then bI (st.testBit k) else -1) := fun so' => by simp [told, hk]
    by_cases e : k = a
    · subst e
      rw [List.getElem?_set_self (by omega), q, or_bit]; simp
    · rw [List.getElem?_set_ne (fun q => e q.symm), q, q, or_bit, decide_eq_false (fun q => e q.symm), Bool.or_false]
  · rw [List.getElem?_eq_none (by simp [tl]; omega), List.getElem?_eq_none (by omega)]
theorem told_non (m st : Nat) : told m st 0 = non m := by
  apply List.ext_getElem?
  intro k
  by_cases hk : k < m
  · simp [told, non, hk]
  · simp [told, non, hk]
/-! ### the other tests, and the dual term -/
theorem gC_dual {us t : List T} (h2 : tmOk us.length t = true) {s : Nat} (hs : s < 2 ^ us.length) : ∀ (so : Nat) (os : List Int), gC us.length (us.map other) (t.map dT) (opp us.length s) so os = gC us.length us t s so os
  | _, [] => rfl
  | so, a :: r => by
    have p := prf_dual h2 (st := s) (so := so) (by rw [Int.toNat_natCast]; exact hs)
    have c : cA (us.map other) a.toNat = cA us a.toNat := by
      unfold cA
      by_cases h : a.toNat < us.length
      · simp [List.getD, h, other]
      · simp [List.getD, List.getElem?_eq_none (by omega : us.length ≤ a.toNat)]
    simp only [gC, p, c, gC_dual h2 hs (so ||| 2 ^ a.toNat) r]
theorem avO_dual {us t : List T} (h1 : tsOk us = true) (h2 : tmOk us.length t = true) (os : List Int) : avO (us.map other) (t.map dT) os = avO us t os := by
  unfold avO
  rw [List.length_map, sumTo_rev]
  refine sumTo_congr fun k hk => ?_
  have e : 2 ^ us.length - 1 - k = opp us.length k := by unfold opp; rw [Int.toNat_natCast]
  rw [e, gC_dual h2 hk]
  congr 1
  have hk' : (k : Int) < 2 ^ us.length := by exact_mod_cast hk
  have hw := wt_other us k (by omega) hk'
  have e' : ((opp us.length k : Nat) : Int) = 2 ^ us.length - 1 - k := by
    rw [← e]
    have e3 : ((2 ^ us.length : Nat) : Int) = 2 ^ us.length := by simp
    clear e hw
    generalize (2 : Int) ^ us.length = N at *
    generalize 2 ^ us.length = M at *
    omega
  rw [e', hw]
/-! ### tests that never matter -/
theorem prf_idle {m : Int} {t : List T} {a : Nat} (ha : a < m.toNat) (hi : idP m t a = true) {s : Nat} (hs : s < 2 ^ m.toNat) (so : Nat) : prf m t s (so ||| 2 ^ a) = prf m t s so := by
  rw [Bool.eq_iff_iff]
  refine ⟨fun h => ?_, fun h => prf_or hs a h⟩
  rw [prf_iff hs] at h ⊢
  intro s' hs' hg
  have hid := idP_iff.1 hi
  -- the state with the idle test as in s
  have key : ∀ x, x < 2 ^ m.toNat → ∃ y, y < 2 ^ m.toNat ∧ (∀ k, k < m.toNat → k ≠ a → y.testBit k = x.testBit k) ∧ y.testBit a = s.testBit a ∧ tv t y = tv t x := by
    intro x hx
    cases hb : s.testBit a with
    | true => exact ⟨x ||| 2 ^ a, or_lt2 hx ha, fun k _ hne => by rw [or_bit, decide_eq_false (fun q => hne q.symm), Bool.or_false], by rw [or_bit]; simp, (hid x hx).symm⟩
    | false =>
      cases hc : x.testBit a with
      | false => exact ⟨x, hx, fun _ _ _ => rfl, hc, rfl⟩
      | true =>
        refine ⟨x ^^^ 2 ^ a, Nat.xor_lt_two_pow hx (Nat.pow_lt_pow_right (by omega) ha), fun k _ hne => ?_, ?_, ?_⟩
        · rw [Nat.testBit_xor, Nat.testBit_two_pow, decide_eq_false (fun q => hne q.symm), Bool.xor_false]
        · rw [Nat.testBit_xor, Nat.testBit_two_pow, hc]; simp
        · rw [hid (x ^^^ 2 ^ a) (Nat.xor_lt_two_pow hx (Nat.pow_lt_pow_right (by omega) ha))]
          congr 1
          apply Nat.eq_of_testBit_eq
          intro k
          rw [or_bit, Nat.testBit_xor, Nat.testBit_two_pow]
          by_cases e : a = k
          · subst e; simp [hc]
          · simp [e]
  obtain ⟨y, y1, y2, y3, y4⟩ := key s' hs'
  rw [← y4]
  refine h y y1 fun k hk hb => ?_
  by_cases e : k = a
  · subst e; exact y3
  · rw [or_bit, decide_eq_false (fun q => e q.symm), Bool.or_false] at hb
    rw [y2 k hk e, hg k hk hb]
theorem gP_app (m : Int) (us t : List T) (s : Nat) : ∀ (so : Nat) (p q : List Int), gP m us t s so (p ++ q) = gP m us t s so p + gP m us t s (setO so p) q
  | _, [], q => by simp [gP, setO]
  | so, a :: r, q => by simp only [List.cons_append, gP, setO, gP_app m us t s (so ||| 2 ^ a.toNat) r q]; omega
theorem gP_idle {m : Int} {us t : List T} {a : Nat} (ha : a < m.toNat) (hi : idP m t a = true) {s : Nat} (hs : s < 2 ^ m.toNat) : ∀ (so : Nat) (os : List Int), gP m us t s (so ||| 2 ^ a) os = gP m us t s so os
  | _, [] => rfl
  | so, b :: r => by
    simp only [gP]
    rw [prf_idle ha hi hs, Nat.or_assoc, Nat.or_comm (2 ^ a), ← Nat.or_assoc, gP_idle ha hi hs (so ||| 2 ^ b.toNat) r]
theorem prf_set {m : Int} {t : List T} {s : Nat} (hs : s < 2 ^ m.toNat) : ∀ {so : Nat} (os : List Int), prf m t s so = true → prf m t s (setO so os) = true
  | _, [], h => h
  | so, a :: r, h => prf_set hs r (prf_or hs a.toNat h)
theorem avO_idle {us t : List T} (h1 : tsOk us = true) {p q : List Int} {a : Int} (ha : 0 ≤ a ∧ a < us.length) (hi : idP us.length t a.toNat = true) : avO us t (p ++ (q ++ [a])) ≤ avO us t (p ++ a :: q) := by
  have h' := tsOk_iff.1 h1
  unfold avO
  refine sumTo_le fun s hs => ?_
  have hs' : s < 2 ^ (us.length : Int).toNat := by rw [Int.toNat_natCast]; exact hs
  rw [gC_gP hs', gC_gP hs']
  refine Int.mul_le_mul_of_nonneg_left ?_ (by have := wt_le h'.2 (by omega) (s : Int); omega)
  rw [gP_app, gP_app, gP_app]
  simp only [gP]
  rw [gP_idle (by omega) hi hs']
  have c := (cA_nn h'.2 a.toNat).1
  cases hp : prf us.length t s (setO 0 p) with
  | true => rw [prf_set hs' q hp]; simp
  | false => simp; split <;> omega
end Zz

namespace Zz
open Go.Lg Md
set_option linter.unusedSimpArgs false
set_option linter.unusedVariables false
attribute [local simp] ia_mv ia_newnil ia_pick ia_bin ia_eqb ia_eqs ia_un ia_len ia_lens ia_chk ia_fld ia_fldv ia_idxa ia_idx ia_load ia_store ia_slice ia_slices ia_make ia_alloc ia_box ia_build ia_bslice ia_app ia_b2i ia_i2b ia_i2i ia_same ia_b2s ia_s2b ia_ext ia_mm ia_idxp ia_calld ia_mkfn ia_i2r ia_r2s ia_call pt_nil pt_cons mi_nil mi_cons md_bslice md_mv md_newnil md_pick md_bin md_eqb md_un md_len md_lens md_fld md_fldv md_idxa md_idx md_load md_store md_slice md_slices md_make md_alloc md_box md_build md_app md_conv md_ext md_call md_calld md_callg md_mkfn md_mm md_idxp md_eqn md_eqs md_chk tg_bslice tg_mv tg_newnil tg_pick tg_bin tg_eqb tg_un tg_len tg_lens tg_fld tg_fldv tg_idxa tg_idx tg_load tg_store tg_slice tg_slices tg_make tg_alloc tg_box tg_build tg_app tg_conv tg_ext tg_call tg_calld tg_callg tg_mkfn tg_mm tg_idxp tg_eqn tg_eqs tg_chk rp_eq ro_eq ifP_t ifP_f np_def ng1_nil ng2_nil ng_gate ng_gen tgA_t tgA_0 tgA_1 tgA_2 aC_nil aC_c aC_t nxP_some nxP_none rq_nil rq_gen rq_gate nxR_some nxR_none ru_nil ru_gen ru_gate pl_none pl_some gt_nil gt_t gt_c di_some di_none an_nil an_cons nxG_some nxG_none rg_nil rg_gen rg_gate oldO_some oa_nil oa_i oa_y oa_b oa_s oa_st oa_sl oa_own oa_oad oa_nl al_nil al_cons al_i al_y al_b al_s al_st al_sl nxF_some nxF_none rf_nil rf_gen rf_gate hk_newnil hk_make hk_alloc hk_box hk_build hk_bslice hk_call hk_store hk_app cl_nil cl_cons ai_nil ai_cons il_i il_y il_b il_s il_st il_sl il_own il_adr il_oad il_ref il_fr il_tup il_nil il_np il_und il_dead ol_adr ol_b ol_dead ol_e ol_fn ol_fr ol_i ol_nil ol_np ol_oad ol_own ol_q ol_r ol_ref ol_s ol_sl ol_st ol_tup ol_und ol_w ol_y oj_e oj_i oj_y oj_b oj_s oj_st oj_sl oj_own oj_adr oj_oad oj_ref oj_fr oj_tup oj_nil oj_np oj_und oj_dead oj_w oj_q oj_r oj_fn oi_e oi_i oi_y oi_b oi_s oi_st oi_sl oi_own oi_adr oi_oad oi_ref oi_fr oi_tup oi_nil oi_np oi_und oi_dead as_nil as_cons ao_nil ao_cons av_i av_y av_b av_s av_st av_sl av_own av_adr av_oad av_ref av_fr av_tup av_nil av_np av_und av_dead pro_cons ghK_some ks_promote ks_freeze frz_own ks_rename ren_own dropO adoptP newP wholeP cutP allOldL ex_skip ex_ret ex_exit ks_region ks_seq ks_cond ks_block seqK_n seqK_e seqK_r regK_some condK_t condK_f blkK_n blkK_r blkK_e endK_n endK_r rr_false rr_true rd_free mo_nil mo_cons drK_some drK_none nxW_some nxW_none rw_nil rw_gen rw_gate ak_newnil ak_make ak_alloc ak_box ak_build ak_bslice ak_call ak_store ak_app iw_mm iw_eqn iw_idxp ef_callg cgK_some gv_e gv_own gv_i gv_sl gv_st gv_b gv_nil gvK_some gvO_some iw_callg ia_callg ak_callg hk_callg is_mv is_newnil is_pick is_bin is_eqb is_eqs is_un is_len is_lens is_chk is_fld is_fldv is_idxa is_idx is_load is_slice is_slices is_make is_alloc is_box is_build is_bslice is_app is_conv is_ext is_call is_calld is_callg is_mkfn is_mm is_idxp is_eqn is_store rt_nil rt_gen rt_gate nxT_some nxT_none ef_eqn_nil ef_eqn_sl ef_eqn_own ia_eqn ef_mmx ef_mmn ef_idxp nxD_some nxD_none ov_i ov_y ov_b ov_s ov_st ov_sl ov_own ov_oad ov_adr ov_nil ov_np ov_und ov_dead ov_tup oldN_some oldN_nil oldN_none so_none so_i so_y so_b so_s so_st so_sl so_adr so_nil so_np so_und so_dead anyM_nil anyM_t anyM_c so_own so_oad rd_nil rd_gen rd_mv rd_gate iw_mv iw_newnil iw_pick iw_bin iw_eqb iw_eqs iw_un iw_len iw_lens iw_chk iw_fld iw_fldv iw_idxa iw_idx iw_load iw_store iw_slice iw_slices iw_make iw_alloc iw_box iw_build iw_bslice iw_app iw_b2i iw_i2b iw_i2i iw_same iw_b2s iw_s2b iw_ext iw_call nm_i nm_y nm_b nm_s nm_st nm_sl nm_own nm_oad nm_adr nm_nil nm_np nm_und nm_dead nm_tup rl_nil rl_gate rl_mv rl_gen opv_t opv_c nx_some nx_none gate_tt gate_tf gate_ft gate_ff gate_u fr_ap em_nil em_i em_y em_b em_s em_st em_sl em_own em_adr em_oad em_ref em_nl em_np em_und em_dead em_tup0 em_tup_i em_tup_b em_tup_s em_tup_sl em_tup_st em_tup_np em_tup_own em_tup_oad mm_i mm_y mm_b mm_s mm_st mm_sl mm_own mm_oad mm_adr mm_nil mm_np mm_und mm_dead ef_mv ef_newnil ef_pickt ef_pickf ef_bin ef_eqb ef_eqs ef_un ef_lens ef_len_sl ef_len_own ef_len_nil ef_chk_adr ef_chk_oad ef_fld_adr ef_fld_oad ef_fldv idxR_some ef_idxa_sl ef_idxa_own ef_idx ef_load_adr_st ef_load_adr_i ef_load_adr_y ef_load_adr_b ef_load_adr_s ef_load_adr_sl atN_nil atN_zero atN_succ ef_load_oad ef_store ef_slice ef_slices ef_make ef_alloc ef_box ef_build ef_bslice ef_app_own ef_app_nil ef_b2i ef_i2b ef_i2i ef_same ef_ext ret1 ret2_some calL_some ef_call retC_i retC_y retC_b retC_s retC_st retC_sl retC_np retC_fr retC_ref retC_tup rk_nil rk_i rk_y rk_b rk_s rk_st rk_sl rk_own rk_oad rk_nl ok_nil ok_i ok_y ok_b ok_s ok_st ok_sl ok_own ok_oad ok_nl lo_nil lo_i lo_y lo_b lo_s lo_st lo_sl lo_own lo_oad lo_nl pr_nil pr_i pr_y pr_b pr_s pr_st pr_sl pr_own pr_nl pr_oad nr_i nr_y nr_b nr_s nr_st nr_sl nr_fr nr_np nr_tup ng_i ng_b ng_s ng_fr ng_nil resV effP_eff binD bi_add bi_sub bi_mul bi_quo bi_rem bi_eql bi_neq bi_lss bi_leq bi_gtr bi_geq bi_shl bi_shr bi_and bi_or bi_xor bi_andNot binY binS unD look put putD LS.get LS.drop killE sweep lookO putO dropO enter leave giveBackL giveBack outs lendArgs lendArg newOuts takeIn takeInL lendL DV.lend adoptL DV.adopt elems apartKs part DV.cells unpart settle settleL over mkId szId fillP fillE tk_e2 tk_i tk_y lt_e2 lt_i lt_y lend_rep al_e2 al_is al_ys al_rep al_app lend_app adopt_app new_app lend_e2 lend_i lend_y adopt_e2 adopt_i adopt_y new_e2 new_i allNewL DV.allNew bounds sliceD sliceS em_w em_q em_r em_fn em_tup_w em_tup_q em_tup_r mm_w mm_q mm_r mm_fn ef_load_adr_w ef_load_adr_q ef_load_adr_r retC_w retC_q retC_r rk_w rk_q rk_r rk_fn ok_w ok_q ok_r ok_fn lo_w lo_q lo_r lo_fn pr_w pr_q pr_r pr_fn nr_w nr_q nr_r ng_w ng_q ng_r oa_w oa_q oa_r oa_fn al_w al_q al_r al_fn ov_w ov_q ov_r ov_fn so_w so_q so_r so_fn il_w il_q il_r il_fn oi_w oi_q oi_r oi_fn av_w av_q av_r av_fn nm_w nm_q nm_r nm_fn ef_i2r ef_r2s ef_mkfn ef_idxp_adr ef_calld capsOk DV.cell List.all_cons List.all_nil rk_own_t lo_own_t lk_f lk_t pr_own_t mutB ak_calld hk_calld iw_calld iw_mkfn iw_i2r iw_r2s bw_and bw_or bw_xor bw_andNot bw_eql bw_neq sw_shl sw_shr sq_shl gEnv_nil rk_adr ok_adr lo_adr pr_adr oa_adr capL capArg DV.cap ak_mkfn hk_mkfn ef_callm gf_ap ga_nil ga_cons tgv_own gk_e gk_giv gk_i gk_y gk_b gk_s gk_w gk_q gk_r gk_fn gk_st gk_sl gk_own gk_oad gk_adr gk_nl gk_np rk_giv ok_giv lo_giv pr_giv oa_giv iw_callm hk_callm ak_callm is_callm ia_callm tg_callm md_callm ks_close cls_oad
attribute [local congr] ifP_congr nxP_congr nxR_congr nxT_congr nxG_congr nxF_congr ghK_congr gate_congr nx_congr nxD_congr runL_congr runD_congr eff_congr calL_congr ret2_congr seqK_congr regK_congr condK_congr endK_congr drK_congr nxW_congr
attribute [local simp ↓] nxT_some rt_nil rt_gen rt_gate nxP_some rq_nil rq_gen rq_gate nxR_some ru_nil ru_gen ru_gate nxG_some rg_nil rg_gen rg_gate nxF_some rf_nil rf_gen rf_gate ks_promote ks_freeze frz_own ks_rename ghK_some gate_tt gate_tf gate_ft gate_ff gate_u nx_some nxD_some rl_nil rl_mv rl_gen rl_gate rd_nil rd_mv rd_gen rd_gate rd_free rr_false rr_true drK_some drK_none nxW_some rw_nil rw_gen rw_gate ks_region ks_seq ks_cond ks_block seqK_n seqK_e seqK_r regK_some condK_t condK_f blkK_n blkK_r endK_n endK_r calL_some ret2_some opv_t opv_c
section
attribute [-simp] DV.cells sliceD
attribute [local simp] cells_st cells_sl cells_i cells_y cells_b cells_s cells_w
/-! ### orders, as the functions tell them -/
theorem hasTest_i {so : Nat} {a : Int} (h0 : 0 ≤ a) (h5 : a < 5) : call lf n_impl_hasTest [.i so, .i a] = some (.b (so.testBit a.toNat), []) := by
  have := c_impl_hasTest so a.toNat (by omega)
  rw [Int.toNat_of_nonneg h0] at this
  exact this
theorem or_i {so : Nat} {a : Int} (hs : so < 32) (h0 : 0 ≤ a) (h5 : a < 5) : orI (so : Int) (shlI 1 a) = ((so ||| 2 ^ a.toNat : Nat) : Int) := by
  rw [shl1 h0 (by omega)]
  exact or_nat hs (by omega)
theorem pow_le5 {m : Int} (h : 1 ≤ m ∧ m ≤ 5) : 2 ^ m.toNat ≤ 32 := (pow5 h.1 h.2).2.1
theorem l_impl_OrderOk {m : Int} (hm : 1 ≤ m ∧ m ≤ 5) (n : Int) (hb : n < 1099511627776) (es : List DV) (rest : List Int) : ∀ (k : Int) (so : Nat), so < 2 ^ m.toNat → 0 ≤ k → k + (rest.map DV.i).length = n → es.drop k.toNat = rest.map .i →
    ex lf F_impl_OrderOk_W0 ⟨[(0, .i m), (5, .i so), (17, .sl 0 es), (18, .i n), (19, .i k)], []⟩ =
    if orS m so rest = true then some (.exit 0, ⟨[(0, .i m), (5, .i (setO so rest : Nat)), (17, .sl 0 es), (18, .i n), (19, .i n)], []⟩) else some (.ret, ⟨[(4, .b false)], []⟩) := by
  have p5 := pow_le5 hm
  induction rest with
  | nil =>
    intro k so hs h0 hn hd
    rw [w_impl_OrderOk_0]
    have hk : k = n := by simpa using hn
    simp [F_impl_OrderOk_L0, hk, orS, setO]
  | cons a rest ih =>
    intro k so hs h0 hn hd
    obtain ⟨q1, q2, q3, q4, q5, q6⟩ := stp h0 hn hb hd
    have w : wr (m - 1) = m - 1 := wr_id (by omega) (by omega)
    rw [w_impl_OrderOk_0]
    by_cases ha : 0 ≤ a ∧ a < m
    · have e1 : decide (0 ≤ a ∧ a ≤ m - 1) = true := decide_eq_true (by omega)
      have e2 : decide (0 ≤ a ∧ a < m) = true := decide_eq_true ha
      have H := hasTest_i (so := so) ha.1 (by omega)
      have n0 : ¬ a < 0 := by omega
      have o := or_i (so := so) (by omega) ha.1 (by omega : a < 5)
      have ih := ih (k + 1) (so ||| 2 ^ a.toNat) (or_lt2 hs (by omega)) q4 q5 q6
      simp only [orS, e2, Bool.true_and, setO]
      cases hb : so.testBit a.toNat with
      | true =>
        rw [hb] at H
        simp [F_impl_OrderOk_L0, q1, q2, q3, w, c_impl_isWithin, e1, H]
      | false =>
        rw [hb] at H
        simp [F_impl_OrderOk_L0, q1, q2, q3, w, c_impl_isWithin, e1, H, n0, o, ih]
    · have e1 : decide (0 ≤ a ∧ a ≤ m - 1) = false := decide_eq_false (by omega)
      have e2 : decide (0 ≤ a ∧ a < m) = false := decide_eq_false ha
      simp only [orS, e2, Bool.false_and]
      simp [F_impl_OrderOk_L0, q1, q2, q3, w, c_impl_isWithin, e1]
theorem c_impl_OrderOk (m : Int) (os : List Int) (hb : (os.length : Int) < 1099511627776) : call lf n_impl_OrderOk [.i m, .sl 0 (os.map .i)] = some (.b (orOk m os), []) := by
  rw [call_k lf n_impl_OrderOk _ (F := F_impl_OrderOk) rfl rfl]
  unfold orOk
  cases h1 : nOk m with
  | false => simp [F_impl_OrderOk, c_impl_manyOk, h1]
  | true =>
    by_cases h2 : (os.length : Int) = m
    · have L := l_impl_OrderOk (nOk_iff.1 h1) os.length hb (os.map .i) os 0 0 (Nat.pow_pos (by omega)) (by omega) (by simp) (by simp)
      simp only [Int.natCast_zero] at L
      cases h3 : orS m 0 os <;> rw [h3] at L <;> simp at L <;> simp [F_impl_OrderOk, c_impl_manyOk, h1, h2, L, h3] <;> (subst h2; simp [L])
    · have y : ((os.length : Int) != m) = true := bne_iff_ne.2 h2
      simp [F_impl_OrderOk, c_impl_manyOk, h1, y, h2]
theorem l_spec_OrderOk (m : Int) (n : Int) (hb : n < 1099511627776) (es : List DV) (hE : (es.length : Int) = n) (rest : List Int) : ∀ (k : Int) (so : Nat), so < 32 → 0 ≤ k → k + (rest.map DV.i).length = n → es.drop k.toNat = rest.map .i →
    ex lf F_spec_OrderOk_W0 ⟨[(0, .i m), (1, .sl 0 es), (5, .i so), (6, .i k)], []⟩ =
    if orS (min m 5) so rest = true then some (.exit 0, ⟨[(0, .i m), (1, .sl 0 es), (5, .i (setO so rest : Nat)), (6, .i n)], []⟩) else some (.ret, ⟨[(4, .b false)], []⟩) := by
  induction rest with
  | nil =>
    intro k so hs h0 hn hd
    rw [w_spec_OrderOk_0]
    have hk : k = n := by simpa using hn
    simp [F_spec_OrderOk_L0, hk, hE, orS, setO]
  | cons a rest ih =>
    intro k so hs h0 hn hd
    obtain ⟨q1, q2, q3, q4, q5, q6⟩ := stp h0 hn hb hd
    rw [w_spec_OrderOk_0]
    by_cases a0 : a < 0
    · have e2 : decide (0 ≤ a ∧ a < min m 5) = false := decide_eq_false (by omega)
      simp only [orS, e2, Bool.false_and]
      simp [F_spec_OrderOk_L0, q1, q2, hE, a0]
    · by_cases a1 : m ≤ a
      · have e2 : decide (0 ≤ a ∧ a < min m 5) = false := decide_eq_false (by omega)
        simp only [orS, e2, Bool.false_and]
        simp [F_spec_OrderOk_L0, q1, q2, hE, a0, a1]
      · by_cases a5 : 5 ≤ a
        · have e2 : decide (0 ≤ a ∧ a < min m 5) = false := decide_eq_false (by omega)
          simp only [orS, e2, Bool.false_and]
          simp [F_spec_OrderOk_L0, q1, q2, hE, a0, a1, a5]
        · have e2 : decide (0 ≤ a ∧ a < min m 5) = true := decide_eq_true (by omega)
          have o := or_i (so := so) (by omega) (by omega : 0 ≤ a) (by omega : a < 5)
          have bb := bit_bI (a := so) (s := a.toNat) (by omega)
          rw [Int.toNat_of_nonneg (by omega)] at bb
          have ih := ih (k + 1) (so ||| 2 ^ a.toNat) (or_lt2 (m := 5) hs (by omega)) q4 q5 q6
          simp only [orS, e2, Bool.true_and, setO]
          cases hb : so.testBit a.toNat with
          | true =>
            rw [hb] at bb
            have q : (bI true == 1) = true := rfl
            simp [F_spec_OrderOk_L0, q1, q2, hE, a0, a1, a5, bb, q]
          | false =>
            rw [hb] at bb
            have q : (bI false == 1) = false := rfl
            simp [F_spec_OrderOk_L0, q1, q2, q3, hE, a0, a1, a5, bb, q, o, ih]
theorem c_spec_OrderOk (m : Int) (os : List Int) (hb : (os.length : Int) < 1099511627776) : call lf n_spec_OrderOk [.i m, .sl 0 (os.map .i)] = some (.b (orOk m os), []) := by
  rw [call_k lf n_spec_OrderOk _ (F := F_spec_OrderOk) rfl rfl]
  have L := l_spec_OrderOk m os.length hb (os.map .i) (by simp) os 0 0 (by omega) (by omega) (by simp) (by simp)
  simp only [Int.natCast_zero] at L
  have e1 : nOk m = decide (1 ≤ m ∧ m ≤ 5) := rfl
  unfold orOk
  cases h1 : decide (1 ≤ m ∧ m ≤ 5) with
  | false =>
    rw [e1, h1]
    cases h3 : orS (min m 5) 0 os <;> rw [h3] at L <;> simp at L <;> simp [F_spec_OrderOk, L, c_spec_l1In, h1]
  | true =>
    rw [e1, h1]
    have hm := of_decide_eq_true h1
    have e5 : min m 5 = m := by omega
    rw [e5] at L
    by_cases h2 : (os.length : Int) = m
    · cases h3 : orS m 0 os <;> rw [h3] at L <;> simp at L <;> simp [F_spec_OrderOk, L, c_spec_l1In, h1, h2]
    · cases h3 : orS m 0 os <;> rw [h3] at L <;> simp at L <;> simp [F_spec_OrderOk, L, c_spec_l1In, h1, h2]
/-! ### neighbours exchanged -/
theorem c_clone {os : List Int} (hne : os ≠ []) (hb : os.length ≤ 1000) : call lf n_slices_Clone_int_int [.sl 0 (os.map .i)] = some (.fr 1 (os.map .i), []) := by
  rw [call_k lf n_slices_Clone_int_int _ (F := F_slices_Clone_int_int) rfl rfl]
  have lb : os.length ≤ bound := by unfold bound; omega
  simp [F_slices_Clone_int_int, hne, lb]
def swp (os : List Int) (i : Nat) : List Int := (os.set i (os.getD (i + 1) 0)).set (i + 1) (os.getD i 0)
def swOk (m : Int) (os : List Int) (at_ : Int) : Bool := orOk m os && decide (0 ≤ at_ ∧ at_ ≤ m - 2)
def swL (m : Int) (os : List Int) (at_ : Int) : List Int := if swOk m os at_ = true then swp os at_.toNat else []
theorem c_impl_SwappedOrder (m : Int) (os : List Int) (at_ : Int) (hb : (os.length : Int) < 1099511627776) :
    call lf n_impl_SwappedOrder [.i m, .sl 0 (os.map .i), .i at_] = some (.tup [.fr 1 ((swL m os at_).map .i), .b (swOk m os at_)], []) := by
  rw [call_k lf n_impl_SwappedOrder _ (F := F_impl_SwappedOrder) rfl rfl]
  have C := c_impl_OrderOk m os hb
  unfold swL swOk
  cases h1 : orOk m os with
  | false =>
    rw [h1] at C
    simp [F_impl_SwappedOrder, C]
  | true =>
    rw [h1] at C
    obtain ⟨hm, hl, _⟩ := orOk_iff.1 h1
    have w1 : wr (m - 2) = m - 2 := wr_id (by omega) (by omega)
    cases h2 : decide (0 ≤ at_ ∧ at_ ≤ m - 2) with
    | false => simp [F_impl_SwappedOrder, C, w1, c_impl_isWithin, h2]
    | true =>
      have ha := of_decide_eq_true h2
      obtain ⟨i, rfl⟩ := Int.eq_ofNat_of_zero_le ha.1
      have h3 : decide ((i : Int) ≤ m - 2) = true := decide_eq_true ha.2
      have w2 : wr ((i : Int) + 1) = ((i + 1 : Nat) : Int) := by rw [wr_id (by omega) (by omega)]; omega
      have K := c_clone (os := os) (by intro h; rw [h] at hl; simp at hl; omega) (by omega)
      have h1' : i < os.length := by omega
      have h2' : i + 1 < os.length := by omega
      have g1 : os.getD i 0 = os[i] := by simp [List.getD, h1']
      have g2 : os.getD (i + 1) 0 = os[i + 1] := by simp [List.getD, h2']
      have a1 : atN (os.map DV.i) i = some (.i os[i]) := by show (os.map DV.i)[i]? = _; simp [h1']
      have a2 : atN (os.map DV.i) (i + 1) = some (.i os[i + 1]) := by show (os.map DV.i)[i + 1]? = _; simp [h2']
      have a3 : ∀ v, atN ((os.map DV.i).set i v) (i + 1) = some (.i os[i + 1]) := fun v => by show ((os.map DV.i).set i v)[i + 1]? = _; simp [h2']
      have h1i : (i : Int) < os.length := by omega
      have h2i : ((i + 1 : Nat) : Int) < os.length := by omega
      have i0 : 0 ≤ ((i + 1 : Nat) : Int) := by omega
      have t1 : ((i + 1 : Nat) : Int).toNat = i + 1 := by omega
      simp [F_impl_SwappedOrder, C, w1, c_impl_isWithin, h2, h3, K, w2, h1', h2', a1, a2, a3, swp, g1, g2, -Int.natCast_add, List.map_set]
end
end Zz

namespace Zz
open Go.Lg Md
/-! ### the states that some tests leave open -/
def opn (so : Nat) (f : Nat → Bool) : Nat → Nat → Bool
  | 0, s => f s
  | k + 1, s => opn so f k s || (!so.testBit k && opn so f k (s ^^^ 2 ^ k))
theorem xor_bit (s k j : Nat) : (s ^^^ 2 ^ k).testBit j = (s.testBit j != decide (k = j)) := by
  rw [Nat.testBit_xor, Nat.testBit_two_pow]
theorem opn_iff {m so : Nat} {f : Nat → Bool} : ∀ {k s : Nat}, k ≤ m → s < 2 ^ m → (opn so f k s = true ↔ ∃ s', s' < 2 ^ m ∧ (∀ j, (k ≤ j ∨ so.testBit j = true) → s'.testBit j = s.testBit j) ∧ f s' = true)
  | 0, s, _, hs => by
    constructor
    · exact fun h => ⟨s, hs, fun _ _ => rfl, h⟩
    · rintro ⟨s', h1, h2, h3⟩
      have : s' = s := Nat.eq_of_testBit_eq fun j => h2 j (.inl (Nat.zero_le j))
      rw [this] at h3; exact h3
  | k + 1, s, hk, hs => by
    have hx : s ^^^ 2 ^ k < 2 ^ m := Nat.xor_lt_two_pow hs (Nat.pow_lt_pow_right (by omega) (by omega))
    rw [opn, Bool.or_eq_true, Bool.and_eq_true, opn_iff (k := k) (by omega) hs, opn_iff (k := k) (by omega) hx, Bool.not_eq_true']
    constructor
    · rintro (⟨s', h1, h2, h3⟩ | ⟨hb, s', h1, h2, h3⟩)
      · exact ⟨s', h1, fun j hj => h2 j (hj.imp (fun q => by omega) id), h3⟩
      · refine ⟨s', h1, fun j hj => ?_, h3⟩
        have hne : k ≠ j := by
          rintro rfl
          rcases hj with q | q
          · omega
          · rw [hb] at q; cases q
        rw [h2 j (hj.imp (fun q => by omega) id), xor_bit, decide_eq_false hne]; simp
    · rintro ⟨s', h1, h2, h3⟩
      by_cases e : s'.testBit k = s.testBit k
      · left
        refine ⟨s', h1, fun j hj => ?_, h3⟩
        by_cases ej : j = k
        · subst ej; exact e
        · exact h2 j (hj.imp (fun q => by omega) id)
      · right
        refine ⟨?_, s', h1, fun j hj => ?_, h3⟩
        · cases hb : so.testBit k with
          | false => rfl
          | true => exact absurd (h2 k (.inr hb)) e
        · rw [xor_bit]
          by_cases ej : k = j
          · subst ej
            rw [decide_eq_true rfl]
            revert e; cases s'.testBit k <;> cases s.testBit k <;> simp
          · rw [decide_eq_false ej, h2 j (hj.imp (fun q => by omega) id)]; simp
theorem opn_prf {m : Int} {t : List T} {so s : Nat} (hs : s < 2 ^ m.toNat) : (opn so (tv t) m.toNat s && opn so (fun x => !tv t x) m.toNat s) = !prf m t s so := by
  have key : ∀ f : Nat → Bool, opn so f m.toNat s = true ↔ ∃ s', s' < 2 ^ m.toNat ∧ (∀ k, k < m.toNat → so.testBit k = true → s'.testBit k = s.testBit k) ∧ f s' = true := by
    intro f
    rw [opn_iff (Nat.le_refl _) hs]
    constructor
    · rintro ⟨s', h1, h2, h3⟩
      exact ⟨s', h1, fun k _ hb => h2 k (.inr hb), h3⟩
    · rintro ⟨s', h1, h2, h3⟩
      refine ⟨s', h1, fun j hj => ?_, h3⟩
      by_cases hm : m.toNat ≤ j
      · rw [Nat.testBit_lt_two_pow (Nat.lt_of_lt_of_le h1 (Nat.pow_le_pow_right (by omega) hm)), Nat.testBit_lt_two_pow (Nat.lt_of_lt_of_le hs (Nat.pow_le_pow_right (by omega) hm))]
      · exact h2 j (by omega) (hj.resolve_left hm)
  rw [Bool.eq_iff_iff, Bool.and_eq_true, key, key, Bool.not_eq_true', ← Bool.not_eq_true, prf_iff hs]
  constructor
  · rintro ⟨⟨a, a1, a2, a3⟩, ⟨b, b1, b2, b3⟩⟩ h
    have ha := h a a1 a2
    have hb := h b b1 b2
    rw [Bool.not_eq_true'] at b3
    rw [a3] at ha; rw [b3] at hb; rw [← ha] at hb; cases hb
  · intro h
    obtain ⟨x, hx⟩ : ∃ x, ¬ (x < 2 ^ m.toNat → (∀ k, k < m.toNat → so.testBit k = true → x.testBit k = s.testBit k) → tv t x = tv t s) := Classical.not_forall.1 h
    obtain ⟨x1, hx⟩ := Classical.not_imp.1 hx
    obtain ⟨x2, hx⟩ := Classical.not_imp.1 hx
    cases hs' : tv t s with
    | true => exact ⟨⟨s, hs, fun _ _ _ => rfl, hs'⟩, ⟨x, x1, x2, by rw [hs'] at hx; simpa using hx⟩⟩
    | false => exact ⟨⟨x, x1, x2, by rw [hs'] at hx; simpa using hx⟩, ⟨s, hs, fun _ _ _ => rfl, by rw [hs']; rfl⟩⟩
theorem opn_congr {so : Nat} {f g : Nat → Bool} {n : Nat} (h : ∀ s, s < 2 ^ n → f s = g s) : ∀ {k s}, k ≤ n → s < 2 ^ n → opn so f k s = opn so g k s
  | 0, s, _, hs => h s hs
  | k + 1, s, hk, hs => by
    have hx : s ^^^ 2 ^ k < 2 ^ n := Nat.xor_lt_two_pow hs (Nat.pow_lt_pow_right (by omega) (by omega))
    simp only [opn]
    rw [opn_congr h (k := k) (by omega) hs, opn_congr h (k := k) (by omega) hx]
/-! words -/
theorem turn_fin : ∀ (k : Fin 5) (s : Fin 32), (s.val.testBit k.val = true → 2 ^ k.val ≤ s.val ∧ s.val - 2 ^ k.val = s.val ^^^ 2 ^ k.val ∧ s.val - 2 ^ k.val < 32 ∧ (s.val - 2 ^ k.val).testBit k.val = false ∧ (2 ^ k.val + s.val).testBit k.val = false) ∧
    (s.val.testBit k.val = false → 2 ^ k.val + s.val = s.val ^^^ 2 ^ k.val ∧ 2 ^ k.val + s.val < 32 ∧ (2 ^ k.val + s.val).testBit k.val = true ∧ (2 ^ k.val ≤ s.val → (s.val - 2 ^ k.val).testBit k.val = true ∧ s.val - 2 ^ k.val < 32)) := by decide +kernel
def tnW (v : BitVec 32) (k : Nat) : BitVec 32 := (v &&& yesW k) >>> (2 ^ k) ||| (v &&& ~~~ yesW k) <<< (2 ^ k)
theorem tnW_bit {v : BitVec 32} {k s : Nat} (hk : k < 5) (hs : s < 32) : (tnW v k).getLsbD s = v.getLsbD (s ^^^ 2 ^ k) := by
  unfold tnW
  obtain ⟨f1, f2⟩ := turn_fin ⟨k, hk⟩ ⟨s, hs⟩
  simp only at f1 f2
  rw [BitVec.getLsbD_or, BitVec.getLsbD_ushiftRight, BitVec.getLsbD_shiftLeft, BitVec.getLsbD_and, BitVec.getLsbD_and, BitVec.getLsbD_not]
  cases hb : s.testBit k with
  | true =>
    obtain ⟨g1, g2, g3, g4, g5⟩ := f1 hb
    rw [yes_bit' hk g3, g4, g2]
    have e : (v.getLsbD (2 ^ k + s) && (yesW k).getLsbD (2 ^ k + s)) = false := by
      by_cases hlt : 2 ^ k + s < 32
      · rw [yes_bit' hk hlt, g5, Bool.and_false]
      · rw [BitVec.getLsbD_of_ge v _ (by omega), Bool.false_and]
    rw [e]
    rw [g2] at g3
    simp [hs, g3, Nat.not_lt.2 g1]
  | false =>
    obtain ⟨g1, g2, g3, g4⟩ := f2 hb
    rw [yes_bit' hk g2, g3, g1]
    by_cases hle : 2 ^ k ≤ s
    · obtain ⟨q1, q2⟩ := g4 hle
      rw [yes_bit' hk q2, q1]; simp
    · simp [Nat.lt_of_not_le hle]
def opW (so : Nat) (v : BitVec 32) : Nat → BitVec 32
  | 0 => v
  | k + 1 => if so.testBit k then opW so v k else opW so v k ||| tnW (opW so v k) k
theorem opW_bit {so : Nat} {v : BitVec 32} : ∀ {k s : Nat}, k ≤ 5 → s < 32 → (opW so v k).getLsbD s = opn so v.getLsbD k s
  | 0, _, _, _ => rfl
  | k + 1, s, hk, hs => by
    have hx : s ^^^ 2 ^ k < 2 ^ 5 := Nat.xor_lt_two_pow (n := 5) (by omega) (Nat.pow_lt_pow_right (by omega) (by omega))
    simp only [opW, opn]
    cases hb : so.testBit k with
    | true => simp [opW_bit (k := k) (by omega) hs]
    | false =>
      simp only [Bool.false_eq_true, if_false, Bool.not_false, Bool.true_and]
      rw [BitVec.getLsbD_or, tnW_bit (by omega) hs, opW_bit (k := k) (by omega) hs, opW_bit (k := k) (by omega) hx]
theorem open_bit {m : Int} {t : List T} (h : tmOk m t = true) {so s : Nat} (hs : s < 2 ^ m.toNat) : (opW so (tsW t) m.toNat &&& opW so (~~~ tsW t) m.toNat).getLsbD s = !prf m t s so := by
  obtain ⟨h1, _, _⟩ := tmOk_iff.1 h
  obtain ⟨p1, p2, p3⟩ := pow5 h1.1 h1.2
  rw [BitVec.getLsbD_and, opW_bit (by omega) (by omega), opW_bit (by omega) (by omega), ← opn_prf hs]
  congr 1
  refine opn_congr (n := 5) (fun x hx => ?_) (by omega) (by omega)
  rw [BitVec.getLsbD_not, decide_eq_true (by omega : x < 32), Bool.true_and]
  rfl
end Zz

namespace Zz
open Go.Lg Md
set_option linter.unusedSimpArgs false
set_option linter.unusedVariables false
attribute [local simp] ia_mv ia_newnil ia_pick ia_bin ia_eqb ia_eqs ia_un ia_len ia_lens ia_chk ia_fld ia_fldv ia_idxa ia_idx ia_load ia_store ia_slice ia_slices ia_make ia_alloc ia_box ia_build ia_bslice ia_app ia_b2i ia_i2b ia_i2i ia_same ia_b2s ia_s2b ia_ext ia_mm ia_idxp ia_calld ia_mkfn ia_i2r ia_r2s ia_call pt_nil pt_cons mi_nil mi_cons md_bslice md_mv md_newnil md_pick md_bin md_eqb md_un md_len md_lens md_fld md_fldv md_idxa md_idx md_load md_store md_slice md_slices md_make md_alloc md_box md_build md_app md_conv md_ext md_call md_calld md_callg md_mkfn md_mm md_idxp md_eqn md_eqs md_chk tg_bslice tg_mv tg_newnil tg_pick tg_bin tg_eqb tg_un tg_len tg_lens tg_fld tg_fldv tg_idxa tg_idx tg_load tg_store tg_slice tg_slices tg_make tg_alloc tg_box tg_build tg_app tg_conv tg_ext tg_call tg_calld tg_callg tg_mkfn tg_mm tg_idxp tg_eqn tg_eqs tg_chk rp_eq ro_eq ifP_t ifP_f np_def ng1_nil ng2_nil ng_gate ng_gen tgA_t tgA_0 tgA_1 tgA_2 aC_nil aC_c aC_t nxP_some nxP_none rq_nil rq_gen rq_gate nxR_some nxR_none ru_nil ru_gen ru_gate pl_none pl_some gt_nil gt_t gt_c di_some di_none an_nil an_cons nxG_some nxG_none rg_nil rg_gen rg_gate oldO_some oa_nil oa_i oa_y oa_b oa_s oa_st oa_sl oa_own oa_oad oa_nl al_nil al_cons al_i al_y al_b al_s al_st al_sl nxF_some nxF_none rf_nil rf_gen rf_gate hk_newnil hk_make hk_alloc hk_box hk_build hk_bslice hk_call hk_store hk_app cl_nil cl_cons ai_nil ai_cons il_i il_y il_b il_s il_st il_sl il_own il_adr il_oad il_ref il_fr il_tup il_nil il_np il_und il_dead ol_adr ol_b ol_dead ol_e ol_fn ol_fr ol_i ol_nil ol_np ol_oad ol_own ol_q ol_r ol_ref ol_s ol_sl ol_st ol_tup ol_und ol_w ol_y oj_e oj_i oj_y oj_b oj_s oj_st oj_sl oj_own oj_adr oj_oad oj_ref oj_fr oj_tup oj_nil oj_np oj_und oj_dead oj_w oj_q oj_r oj_fn oi_e oi_i oi_y oi_b oi_s oi_st oi_sl oi_own oi_adr oi_oad oi_ref oi_fr oi_tup oi_nil oi_np oi_und oi_dead as_nil as_cons ao_nil ao_cons av_i av_y av_b av_s av_st av_sl av_own av_adr av_oad av_ref av_fr av_tup av_nil av_np av_und av_dead pro_cons ghK_some ks_promote ks_freeze frz_own ks_rename ren_own dropO adoptP newP wholeP cutP allOldL ex_skip ex_ret ex_exit ks_region ks_seq ks_cond ks_block seqK_n seqK_e seqK_r regK_some condK_t condK_f blkK_n blkK_r blkK_e endK_n endK_r rr_false rr_true rd_free mo_nil mo_cons drK_some drK_none nxW_some nxW_none rw_nil rw_gen rw_gate ak_newnil ak_make ak_alloc ak_box ak_build ak_bslice ak_call ak_store ak_app iw_mm iw_eqn iw_idxp ef_callg cgK_some gv_e gv_own gv_i gv_sl gv_st gv_b gv_nil gvK_some gvO_some iw_callg ia_callg ak_callg hk_callg is_mv is_newnil is_pick is_bin is_eqb is_eqs is_un is_len is_lens is_chk is_fld is_fldv is_idxa is_idx is_load is_slice is_slices is_make is_alloc is_box is_build is_bslice is_app is_conv is_ext is_call is_calld is_callg is_mkfn is_mm is_idxp is_eqn is_store rt_nil rt_gen rt_gate nxT_some nxT_none ef_eqn_nil ef_eqn_sl ef_eqn_own ia_eqn ef_mmx ef_mmn ef_idxp nxD_some nxD_none ov_i ov_y ov_b ov_s ov_st ov_sl ov_own ov_oad ov_adr ov_nil ov_np ov_und ov_dead ov_tup oldN_some oldN_nil oldN_none so_none so_i so_y so_b so_s so_st so_sl so_adr so_nil so_np so_und so_dead anyM_nil anyM_t anyM_c so_own so_oad rd_nil rd_gen rd_mv rd_gate iw_mv iw_newnil iw_pick iw_bin iw_eqb iw_eqs iw_un iw_len iw_lens iw_chk iw_fld iw_fldv iw_idxa iw_idx iw_load iw_store iw_slice iw_slices iw_make iw_alloc iw_box iw_build iw_bslice iw_app iw_b2i iw_i2b iw_i2i iw_same iw_b2s iw_s2b iw_ext iw_call nm_i nm_y nm_b nm_s nm_st nm_sl nm_own nm_oad nm_adr nm_nil nm_np nm_und nm_dead nm_tup rl_nil rl_gate rl_mv rl_gen opv_t opv_c nx_some nx_none gate_tt gate_tf gate_ft gate_ff gate_u fr_ap em_nil em_i em_y em_b em_s em_st em_sl em_own em_adr em_oad em_ref em_nl em_np em_und em_dead em_tup0 em_tup_i em_tup_b em_tup_s em_tup_sl em_tup_st em_tup_np em_tup_own em_tup_oad mm_i mm_y mm_b mm_s mm_st mm_sl mm_own mm_oad mm_adr mm_nil mm_np mm_und mm_dead ef_mv ef_newnil ef_pickt ef_pickf ef_bin ef_eqb ef_eqs ef_un ef_lens ef_len_sl ef_len_own ef_len_nil ef_chk_adr ef_chk_oad ef_fld_adr ef_fld_oad ef_fldv idxR_some ef_idxa_sl ef_idxa_own ef_idx ef_load_adr_st ef_load_adr_i ef_load_adr_y ef_load_adr_b ef_load_adr_s ef_load_adr_sl atN_nil atN_zero atN_succ ef_load_oad ef_store ef_slice ef_slices ef_make ef_alloc ef_box ef_build ef_bslice ef_app_own ef_app_nil ef_b2i ef_i2b ef_i2i ef_same ef_ext ret1 ret2_some calL_some ef_call retC_i retC_y retC_b retC_s retC_st retC_sl retC_np retC_fr retC_ref retC_tup rk_nil rk_i rk_y rk_b rk_s rk_st rk_sl rk_own rk_oad rk_nl ok_nil ok_i ok_y ok_b ok_s ok_st ok_sl ok_own ok_oad ok_nl lo_nil lo_i lo_y lo_b lo_s lo_st lo_sl lo_own lo_oad lo_nl pr_nil pr_i pr_y pr_b pr_s pr_st pr_sl pr_own pr_nl pr_oad nr_i nr_y nr_b nr_s nr_st nr_sl nr_fr nr_np nr_tup ng_i ng_b ng_s ng_fr ng_nil resV effP_eff binD bi_add bi_sub bi_mul bi_quo bi_rem bi_eql bi_neq bi_lss bi_leq bi_gtr bi_geq bi_shl bi_shr bi_and bi_or bi_xor bi_andNot binY binS unD look put putD LS.get LS.drop killE sweep lookO putO dropO enter leave giveBackL giveBack outs lendArgs lendArg newOuts takeIn takeInL lendL DV.lend adoptL DV.adopt elems apartKs part DV.cells unpart settle settleL over mkId szId fillP fillE tk_e2 tk_i tk_y lt_e2 lt_i lt_y lend_rep al_e2 al_is al_ys al_rep al_app lend_app adopt_app new_app lend_e2 lend_i lend_y adopt_e2 adopt_i adopt_y new_e2 new_i allNewL DV.allNew bounds sliceD sliceS em_w em_q em_r em_fn em_tup_w em_tup_q em_tup_r mm_w mm_q mm_r mm_fn ef_load_adr_w ef_load_adr_q ef_load_adr_r retC_w retC_q retC_r rk_w rk_q rk_r rk_fn ok_w ok_q ok_r ok_fn lo_w lo_q lo_r lo_fn pr_w pr_q pr_r pr_fn nr_w nr_q nr_r ng_w ng_q ng_r oa_w oa_q oa_r oa_fn al_w al_q al_r al_fn ov_w ov_q ov_r ov_fn so_w so_q so_r so_fn il_w il_q il_r il_fn oi_w oi_q oi_r oi_fn av_w av_q av_r av_fn nm_w nm_q nm_r nm_fn ef_i2r ef_r2s ef_mkfn ef_idxp_adr ef_calld capsOk DV.cell List.all_cons List.all_nil rk_own_t lo_own_t lk_f lk_t pr_own_t mutB ak_calld hk_calld iw_calld iw_mkfn iw_i2r iw_r2s bw_and bw_or bw_xor bw_andNot bw_eql bw_neq sw_shl sw_shr sq_shl gEnv_nil rk_adr ok_adr lo_adr pr_adr oa_adr capL capArg DV.cap ak_mkfn hk_mkfn ef_callm gf_ap ga_nil ga_cons tgv_own gk_e gk_giv gk_i gk_y gk_b gk_s gk_w gk_q gk_r gk_fn gk_st gk_sl gk_own gk_oad gk_adr gk_nl gk_np rk_giv ok_giv lo_giv pr_giv oa_giv iw_callm hk_callm ak_callm is_callm ia_callm tg_callm md_callm ks_close cls_oad
attribute [local congr] ifP_congr nxP_congr nxR_congr nxT_congr nxG_congr nxF_congr ghK_congr gate_congr nx_congr nxD_congr runL_congr runD_congr eff_congr calL_congr ret2_congr seqK_congr regK_congr condK_congr endK_congr drK_congr nxW_congr
attribute [local simp ↓] nxT_some rt_nil rt_gen rt_gate nxP_some rq_nil rq_gen rq_gate nxR_some ru_nil ru_gen ru_gate nxG_some rg_nil rg_gen rg_gate nxF_some rf_nil rf_gen rf_gate ks_promote ks_freeze frz_own ks_rename ghK_some gate_tt gate_tf gate_ft gate_ff gate_u nx_some nxD_some rl_nil rl_mv rl_gen rl_gate rd_nil rd_mv rd_gen rd_gate rd_free rr_false rr_true drK_some drK_none nxW_some rw_nil rw_gen rw_gate ks_region ks_seq ks_cond ks_block seqK_n seqK_e seqK_r regK_some condK_t condK_f blkK_n blkK_r endK_n endK_r calL_some ret2_some opv_t opv_c
section
attribute [-simp] DV.cells sliceD
attribute [local simp] cells_st cells_sl cells_i cells_y cells_b cells_s cells_w
/-! ### the states that some tests leave open, as the program tells them -/
/-! ### what is asked -/
/-- what is asked in an order in a state -/
def askOk (m : Int) (t : List T) (os : List Int) (s : Int) : Bool := tmOk m t && orOk m os && stOk m s
def askOf (m : Int) (t : List T) (os : List Int) (s : Int) : Int := if askOk m t os s then (gN m t s.toNat 0 os : Nat) else -1
end
section
attribute [-simp] DV.cells sliceD
attribute [local simp] cells_st cells_sl cells_i cells_y cells_b cells_s cells_w
/-! ### what is asked, as the given functions tell it -/
theorem non_succ (k : Nat) : non (k + 1) = non k ++ [-1] := by unfold non; rw [List.replicate_succ']
theorem non_len (k : Nat) : (non k).length = k := by simp [non]
end
section
attribute [-simp] DV.cells sliceD
attribute [local simp] cells_st cells_sl cells_i cells_y cells_b cells_s cells_w
/-! ### what an order costs in a state -/
theorem i_wid (l : List Int) : ∀ e ∈ l.map DV.i, e.cells.length = 1 := by
  intro e he
  obtain ⟨k, _, rfl⟩ := List.mem_map.1 he
  rfl
def coOf (us t : List T) (os : List Int) (s : Int) : Int := if tsOk us && askOk us.length t os s then gC us.length us t s.toNat 0 os else -1
theorem cA_at {us : List T} {a : Int} (h0 : 0 ≤ a) (h1 : a < us.length) : ∃ c q : Int, atI (us.map e2) a = some (.st [.i c, .i q]) ∧ c = cA us a.toNat ∧ us.getD a.toNat (0, 0) = (c, q) := by
  have hl : a.toNat < us.length := by omega
  have e : us.getD a.toNat (0, 0) = us[a.toNat] := by simp [List.getD, hl]
  refine ⟨us[a.toNat].1, us[a.toNat].2, ?_, ?_, e⟩
  · simp only [atI, if_pos h0]
    show (us.map e2)[a.toNat]? = _
    simp [hl, e2]
  · unfold cA; rw [e]
theorem cO_bd {us : List T} (h : us.all tOk = true) : ∀ os : List Int, 0 ≤ cO us os ∧ cO us os ≤ 9 * os.length
  | [] => by simp [cO]
  | a :: r => by
    have := cO_bd h r
    have := cA_nn h a.toNat
    simp only [cO, List.length_cons]; omega
end
end Zz
