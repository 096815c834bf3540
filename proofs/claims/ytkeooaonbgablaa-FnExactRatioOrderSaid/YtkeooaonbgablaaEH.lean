/- What the functions answer, as equations: EH. No conditions. -/
import Derived.Test.YtkeooaonbgablaaEF
import Derived.Test.YtkeooaonbgablaaEA
set_option linter.unusedSectionVars false
set_option linter.unusedVariables false
set_option linter.unusedSimpArgs false
namespace Zz
open Go.Lg Md
/-! ### rows: what an order costs is a sum of products, and exchanges -/
def rowT (m : Nat) (row : Int) : List T := (List.range m).flatMap fun (k : Nat) => if k = 0 then [(0, 0)] else [(0, (k : Int)), (2 + row, 0)]
/-- the state in which a row goes on to its end -/
def goS (m : Nat) (row : Int) : Nat := if row = 0 then 2 ^ m - 1 else 0
def rwOk (row : Int) : Bool := decide (0 ≤ row ∧ row ≤ 1)
theorem rwOk_iff {row : Int} : rwOk row = true ↔ row = 0 ∨ row = 1 := by unfold rwOk; rw [decide_eq_true_eq]; omega
theorem row_tab : ∀ (m : Fin 5) (r : Fin 2) (s : Fin 32), s.val < 2 ^ (m.val + 1) → ((tv (rowT (m.val + 1) r.val) s.val == (r.val == 0)) = (s.val == goS (m.val + 1) r.val)) := by decide +kernel
theorem row_tmS : ∀ (m : Fin 5) (r : Fin 2), tmOk ((m.val + 1 : Nat) : Int) (rowT (m.val + 1) r.val) = true := by decide +kernel
theorem row_tm {m : Nat} (h1 : 1 ≤ m) (h5 : m ≤ 5) {row : Int} (hr : row = 0 ∨ row = 1) : tmOk m (rowT m row) = true := by
  obtain ⟨n, rfl⟩ : ∃ n, m = n + 1 := ⟨m - 1, by omega⟩
  rcases hr with rfl | rfl
  · exact row_tmS ⟨n, by omega⟩ 0
  · exact row_tmS ⟨n, by omega⟩ 1
theorem row_tv {m : Nat} (h1 : 1 ≤ m) (h5 : m ≤ 5) {row : Int} (hr : row = 0 ∨ row = 1) {s : Nat} (hs : s < 2 ^ m) : tv (rowT m row) s = (row == 0) ↔ s = goS m row := by
  obtain ⟨n, rfl⟩ : ∃ n, m = n + 1 := ⟨m - 1, by omega⟩
  have h32 : s < 32 := Nat.lt_of_lt_of_le hs (by have := Nat.pow_le_pow_right (n := 2) (by omega) h5; simpa using this)
  rcases hr with rfl | rfl
  · have := row_tab ⟨n, by omega⟩ 0 ⟨s, h32⟩ hs
    have e : (tv (rowT (n + 1) 0) s == true) = (s == goS (n + 1) 0) := this
    show tv (rowT (n + 1) 0) s = true ↔ _
    rw [← beq_iff_eq (a := s), ← e, beq_iff_eq]
  · have := row_tab ⟨n, by omega⟩ 1 ⟨s, h32⟩ hs
    have e : (tv (rowT (n + 1) 1) s == false) = (s == goS (n + 1) 1) := this
    show tv (rowT (n + 1) 1) s = false ↔ _
    rw [← beq_iff_eq (a := s), ← e, beq_iff_eq]
theorem goS_lt {m : Nat} (row : Int) : goS m row < 2 ^ m := by
  have := Nat.two_pow_pos m
  unfold goS; split <;> omega
theorem goS_bit {m k : Nat} (row : Int) (hk : k < m) : (goS m row).testBit k = (row == 0) := by
  unfold goS
  by_cases h : row = 0
  · rw [if_pos h, Nat.testBit_two_pow_sub_one, h]; simp [hk]
  · rw [if_neg h, Nat.zero_testBit]; simp [h]
theorem prf_row {m : Nat} (h1 : 1 ≤ m) (h5 : m ≤ 5) {row : Int} (hr : row = 0 ∨ row = 1) {st so : Nat} (hs : st < 2 ^ m) :
    prf m (rowT m row) st so = false ↔ (∀ k, k < m → so.testBit k = true → st.testBit k = (goS m row).testBit k) ∧ ∃ k, k < m ∧ so.testBit k = false := by
  have P := prf_iff (m := (m : Int)) (ts := rowT m row) (st := st) (so := so) (by rw [Int.toNat_natCast]; exact hs)
  rw [Int.toNat_natCast] at P
  constructor
  · intro h
    have h' : ¬ prf m (rowT m row) st so = true := by rw [h]; simp
    rw [P] at h'
    constructor
    · intro k hk hb
      by_cases e : st.testBit k = (goS m row).testBit k
      · exact e
      · exfalso
        apply h'
        intro s hs' ha
        have n1 : st ≠ goS m row := fun q => e (by rw [q])
        have n2 : s ≠ goS m row := fun q => e (by rw [← ha k hk hb, q])
        have t1 := mt (row_tv h1 h5 hr hs).1 n1
        have t2 := mt (row_tv h1 h5 hr hs').1 n2
        cases ha : tv (rowT m row) s <;> cases hb : tv (rowT m row) st <;> cases hc : (row == 0) <;> simp_all
    · refine Classical.byContradiction fun hn => h' fun s hs' ha => ?_
      have : s = st := eq_of_low hs' hs fun k hk => by
        cases hb : so.testBit k with
        | true => exact ha k hk hb
        | false => exact absurd ⟨k, hk, hb⟩ hn
      rw [this]
  · rintro ⟨h, k, hk, hb⟩
    have hg := goS_lt (m := m) row
    have hx : goS m row ^^^ 2 ^ k < 2 ^ m := Nat.xor_lt_two_pow hg (Nat.pow_lt_pow_right (by omega) hk)
    cases hp : prf m (rowT m row) st so with
    | false => rfl
    | true =>
      exfalso
      have Q := P.1 hp
      have q1 := Q (goS m row) hg fun j hj hjb => (h j hj hjb).symm
      have q2 := Q (goS m row ^^^ 2 ^ k) hx fun j hj hjb => by
        have : j ≠ k := fun e => by rw [e, hb] at hjb; cases hjb
        rw [Nat.testBit_xor, Nat.testBit_two_pow, h j hj hjb]
        simp [Ne.symm this]
      have t1 := (row_tv h1 h5 hr hg).2 rfl
      have n2 : goS m row ^^^ 2 ^ k ≠ goS m row := fun e => by
        have := congrArg (fun x => Nat.testBit x k) e
        simp only [Nat.testBit_xor, Nat.testBit_two_pow, decide_true] at this
        cases hq : (goS m row).testBit k <;> rw [hq] at this <;> simp at this
      have t2 := mt (row_tv h1 h5 hr hx).1 n2
      rw [q2, ← q1] at t2
      exact t2 t1
theorem agB_ag (ks : List Int) (s : Nat) : agB ks s = ag ks (s : Int) := rfl
theorem owT_row {us : List T} (h : tsOk us = true) {row : Int} (hr : row = 0 ∨ row = 1) {so : Nat} (hn : ∃ k, k < us.length ∧ so.testBit k = false) :
    owT us (rowT us.length row) so = wk us (told us.length (goS us.length row) so) := by
  have h' := tsOk_iff.1 h
  have tk := told_ok (m := us.length) (by omega) (by omega) (goS us.length row) so
  rw [Int.toNat_natCast] at tk
  have tl := told_len us.length (goS us.length row) so
  rw [← wa_wk tl ((ksOk_iff.1 tk).2.2)]
  unfold owT wa
  refine sumTo_congr fun s hs => ?_
  have P := prf_row (m := us.length) (by omega) (by omega) hr (so := so) hs
  have A := ag_told (m := us.length) (st := goS us.length row) (so := so) (s := s)
  rw [agB_ag] at A
  by_cases hp : prf us.length (rowT us.length row) s so = true
  · rw [if_pos hp]
    have : ¬ ag (told us.length (goS us.length row) so) (s : Int) = true := fun ha => by
      have := P.2 ⟨A.1 ha, hn⟩
      rw [hp] at this; cases this
    rw [if_neg this]
  · rw [if_neg hp]
    have hp' : prf us.length (rowT us.length row) s so = false := by simpa using hp
    rw [if_pos (A.2 (P.1 hp').1)]
theorem told_put {m g so a : Nat} (ha : a < m) : told m g (so ||| 2 ^ a) = (told m g so).set a (bI (g.testBit a)) := by
  apply List.ext_getElem?
  intro k
  by_cases hk : k < m
  · by_cases e : k = a
    · subst e
      rw [List.getElem?_set_self (by rw [told_len]; exact ha)]
      simp [told, ha, or_bit]
    · rw [List.getElem?_set_ne (fun q => e q.symm)]
      simp [told, hk, or_bit, Ne.symm e]
  · rw [List.getElem?_eq_none (by rw [told_len]; omega), List.getElem?_eq_none (by rw [List.length_set, told_len]; omega)]
/-- the chance of a test to end a row -/
def eA (us : List T) (row : Int) (a : Nat) : Int := if row = 0 then 6 - (us.getD a (0, 0)).2 else (us.getD a (0, 0)).2
def rA (us : List T) (row : Int) : Int → List Int → Int
  | _, [] => 0
  | on, a :: r => cA us a.toNat * on * 6 ^ (r.length + 1) + rA us row (on * (6 - eA us row a.toNat)) r
theorem eA_bd {us : List T} (h : us.all tOk = true) {row : Int} {a : Nat} (ha : a < us.length) : 1 ≤ eA us row a ∧ eA us row a ≤ 5 := by
  have e : us.getD a (0, 0) = us[a] := by simp [List.getD, ha]
  have := tOk_iff.1 (List.all_eq_true.1 h us[a] (List.getElem_mem ha))
  unfold eA
  rw [e]
  split <;> omega
theorem wk_next {us : List T} {row : Int} (hr : row = 0 ∨ row = 1) {so a : Nat} (ha : a < us.length) (hb : so.testBit a = false) :
    ∃ X, wk us (told us.length (goS us.length row) so) = 6 * X ∧ wk us (told us.length (goS us.length row) (so ||| 2 ^ a)) = (6 - eA us row a) * X := by
  have hk : (told us.length (goS us.length row) so)[a]? = some (-1) := by simp [told, ha, hb]
  obtain ⟨X, x1, x2, x3⟩ := wk_set (us := us) hk ha
  refine ⟨X, x1, ?_⟩
  rw [told_put ha, goS_bit row ha]
  unfold eA
  rcases hr with rfl | rfl
  · rw [if_pos rfl, show (6 : Int) - (6 - (us.getD a (0, 0)).2) = (us.getD a (0, 0)).2 by omega]
    exact x2
  · rw [if_neg (by omega)]
    exact x3
theorem row_cC {us : List T} (h : tsOk us = true) {row : Int} (hr : row = 0 ∨ row = 1) : ∀ (os : List Int) (so : Nat) (on : Int), orS us.length so os = true →
    wk us (told us.length (goS us.length row) so) = on * 6 ^ os.length → cC us (rowT us.length row) so os = rA us row on os
  | [], _, _, _, _ => rfl
  | a :: r, so, on, ho, hw => by
    obtain ⟨o1, o2, o3⟩ := orS_cons.1 ho
    have ha : a.toNat < us.length := by omega
    obtain ⟨X, x1, x2⟩ := wk_next (us := us) hr ha o2
    have e : on * 6 ^ (r.length + 1) = 6 * (on * 6 ^ r.length) := by
      rw [Int.pow_succ, ← Int.mul_assoc, Int.mul_comm 6]
    have hX : X = on * 6 ^ r.length := by
      rw [List.length_cons] at hw
      rw [x1, e] at hw
      omega
    simp only [cC, rA]
    rw [owT_row h hr ⟨a.toNat, ha, o2⟩, hw, List.length_cons, row_cC h hr r (so ||| 2 ^ a.toNat) (on * (6 - eA us row a.toNat)) o3 (by rw [x2, hX, ← Int.mul_assoc, Int.mul_comm on]), Int.mul_assoc]
theorem row_avO {us : List T} (h : tsOk us = true) {row : Int} (hr : row = 0 ∨ row = 1) {os : List Int} (ho : orOk us.length os = true) : avO us (rowT us.length row) os = rA us row 1 os := by
  obtain ⟨g1, g2, g3⟩ := orOk_iff.1 ho
  rw [avO_cC]
  refine row_cC h hr os 0 1 g3 ?_
  have e : told us.length (goS us.length row) 0 = non us.length := by
    unfold told non
    simp [List.map_const']
  rw [e, wk_non, Int.one_mul, show os.length = us.length by omega]
/-- exchanging neighbours -/
theorem rA_swap (us : List T) (row on : Int) (a b : Int) (r : List Int) :
    rA us row on (a :: b :: r) - rA us row on (b :: a :: r) = on * 6 ^ (r.length + 1) * (cA us a.toNat * eA us row b.toNat - cA us b.toNat * eA us row a.toNat) := by
  simp only [rA, List.length_cons]
  rw [show on * (6 - eA us row b.toNat) * (6 - eA us row a.toNat) = on * (6 - eA us row a.toNat) * (6 - eA us row b.toNat) by rw [Int.mul_assoc, Int.mul_assoc, Int.mul_comm (6 - eA us row b.toNat)]]
  generalize rA us row _ r = z
  rw [Int.pow_succ 6 (r.length + 1)]
  generalize (6 : Int) ^ (r.length + 1) = p
  generalize cA us a.toNat = ca
  generalize cA us b.toNat = cb
  generalize eA us row a.toNat = ea
  generalize eA us row b.toNat = eb
  grind
end Zz

namespace Zz
open Go.Lg Md
/-! ### the order by ratios -/
/-- the one costs no more for its chance to end than the other -/
def rLe (us : List T) (row : Int) (a b : Int) : Bool := decide (cA us a.toNat * eA us row b.toNat ≤ cA us b.toNat * eA us row a.toNat)
def insR (us : List T) (row : Int) (k : Int) : List Int → List Int
  | [] => [k]
  | o :: r => if rLe us row o k = true then o :: insR us row k r else k :: o :: r
def rO (us : List T) (row : Int) : Nat → List Int
  | 0 => []
  | n + 1 => insR us row (n : Int) (rO us row n)
theorem insR_perm (us : List T) (row k : Int) : ∀ l : List Int, (insR us row k l).Perm (k :: l)
  | [] => List.Perm.refl _
  | o :: r => by
    simp only [insR]
    split
    · exact ((insR_perm us row k r).cons o).trans (List.Perm.swap k o r)
    · exact List.Perm.refl _
theorem rO_perm (us : List T) (row : Int) : ∀ n : Nat, (rO us row n).Perm (rng n)
  | 0 => List.Perm.refl _
  | n + 1 => by
    rw [rng_succ]
    exact (insR_perm us row n (rO us row n)).trans (((rO_perm us row n).cons (n : Int)).trans (List.perm_append_comm (l₁ := [(n : Int)])))
theorem rO_mem {us : List T} {row : Int} {n : Nat} {o : Int} (h : o ∈ rO us row n) : 0 ≤ o ∧ o < n := mem_rng.1 ((rO_perm us row n).mem_iff.1 h)
theorem rO_len (us : List T) (row : Int) (n : Nat) : (rO us row n).length = n := by rw [(rO_perm us row n).length_eq, rng_len]
theorem rO_ok {us : List T} (h : tsOk us = true) (row : Int) : orOk us.length (rO us row us.length) = true := by
  have h' := tsOk_iff.1 h
  exact perm_ok (m := us.length) (by omega) (by rw [Int.toNat_natCast]; exact rO_perm us row us.length)
theorem rLe_trans {us : List T} (h : us.all tOk = true) {row a b c : Int} (ha : a.toNat < us.length) (hb : b.toNat < us.length) (hc : c.toNat < us.length)
    (h1 : rLe us row a b = true) (h2 : rLe us row b c = true) : rLe us row a c = true := by
  unfold rLe at *
  rw [decide_eq_true_eq] at *
  have ea := eA_bd h (row := row) ha
  have eb := eA_bd h (row := row) hb
  have ec := eA_bd h (row := row) hc
  refine Int.le_of_mul_le_mul_right (a := eA us row b.toNat) ?_ (by omega)
  have q1 := Int.mul_le_mul_of_nonneg_right h1 (show 0 ≤ eA us row c.toNat by omega)
  have q2 := Int.mul_le_mul_of_nonneg_right h2 (show 0 ≤ eA us row a.toNat by omega)
  revert q1 q2
  generalize cA us a.toNat = ca
  generalize cA us b.toNat = cb
  generalize cA us c.toNat = cc
  generalize eA us row a.toNat = x
  generalize eA us row b.toNat = y
  generalize eA us row c.toNat = z
  intro q1 q2
  have e1 : ca * z * y = ca * y * z := by rw [Int.mul_assoc, Int.mul_comm z, Int.mul_assoc]
  have e2 : cb * x * z = cb * z * x := by rw [Int.mul_assoc, Int.mul_comm x, Int.mul_assoc]
  have e3 : cc * x * y = cc * y * x := by rw [Int.mul_assoc, Int.mul_comm x, Int.mul_assoc]
  omega
theorem rLe_total {us : List T} {row a b : Int} (h : rLe us row a b = false) : rLe us row b a = true := by
  unfold rLe at *
  rw [decide_eq_true_eq]
  rw [decide_eq_false_iff_not] at h
  omega
theorem insR_sorted {us : List T} (h : us.all tOk = true) {row k : Int} (hk : k.toNat < us.length) : ∀ {l : List Int}, (∀ o ∈ l, o.toNat < us.length) → l.Pairwise (fun a b => rLe us row a b = true) → (insR us row k l).Pairwise (fun a b => rLe us row a b = true)
  | [], _, _ => List.pairwise_singleton _ _
  | o :: r, hm, hp => by
    obtain ⟨p1, p2⟩ := List.pairwise_cons.1 hp
    have ho := hm o (List.mem_cons_self ..)
    have hr : ∀ x ∈ r, x.toNat < us.length := fun x hx => hm x (List.mem_cons_of_mem _ hx)
    simp only [insR]
    by_cases hc : rLe us row o k = true
    · rw [if_pos hc]
      refine List.pairwise_cons.2 ⟨fun x hx => ?_, insR_sorted h hk hr p2⟩
      rcases List.mem_cons.1 ((insR_perm us row k r).mem_iff.1 hx) with rfl | hx
      · exact hc
      · exact p1 x hx
    · rw [if_neg hc]
      have hc' : rLe us row k o = true := rLe_total (by simpa using hc)
      refine List.pairwise_cons.2 ⟨fun x hx => ?_, hp⟩
      rcases List.mem_cons.1 hx with rfl | hx
      · exact hc'
      · exact rLe_trans h hk ho (hr x hx) hc' (p1 x hx)
theorem rO_sorted {us : List T} (h : us.all tOk = true) (row : Int) : ∀ n : Nat, n ≤ us.length → (rO us row n).Pairwise (fun a b => rLe us row a b = true)
  | 0, _ => List.Pairwise.nil
  | n + 1, hn => by
    refine insR_sorted h (by omega) (fun o ho => ?_) (rO_sorted h row n (by omega))
    have := rO_mem ho
    omega
/-- the least ratio moved to the front -/
theorem rA_front {us : List T} {row : Int} (h : us.all tOk = true) {a : Int} : ∀ (p q : List Int) (on : Int), 0 ≤ on → (∀ x ∈ p, x.toNat < us.length) → (∀ x ∈ p, rLe us row a x = true) → rA us row on (a :: (p ++ q)) ≤ rA us row on (p ++ a :: q)
  | [], q, on, _, _, _ => Int.le_refl _
  | x :: p, q, on, hon, hx, hl => by
    have s := rA_swap us row on x a (p ++ q)
    have hx0 := hx x (List.mem_cons_self ..)
    have l0 := hl x (List.mem_cons_self ..)
    have ex := eA_bd h (row := row) hx0
    unfold rLe at l0
    rw [decide_eq_true_eq] at l0
    have f := rA_front h (row := row) (a := a) p q (on * (6 - eA us row x.toNat)) (Int.mul_nonneg hon (by omega)) (fun y hy => hx y (List.mem_cons_of_mem _ hy)) (fun y hy => hl y (List.mem_cons_of_mem _ hy))
    have pn : (0 : Int) ≤ on * 6 ^ ((p ++ q).length + 1) * (cA us x.toNat * eA us row a.toNat - cA us a.toNat * eA us row x.toNat) :=
      Int.mul_nonneg (Int.mul_nonneg hon (Int.pow_nonneg (by omega))) (by omega)
    have e1 : rA us row on (x :: a :: (p ++ q)) = cA us x.toNat * on * 6 ^ ((p ++ q).length + 1 + 1) + rA us row (on * (6 - eA us row x.toNat)) (a :: (p ++ q)) := rfl
    have e2 : rA us row on (x :: (p ++ a :: q)) = cA us x.toNat * on * 6 ^ ((p ++ a :: q).length + 1) + rA us row (on * (6 - eA us row x.toNat)) (p ++ a :: q) := rfl
    have e3 : (p ++ a :: q).length = (p ++ q).length + 1 := by simp; omega
    rw [e3] at e2
    show rA us row on (a :: x :: (p ++ q)) ≤ rA us row on (x :: (p ++ a :: q))
    omega
theorem rA_least {us : List T} {row : Int} (h : us.all tOk = true) : ∀ {l p : List Int} {on : Int}, 0 ≤ on → (∀ x ∈ l, x.toNat < us.length) → l.Pairwise (fun a b => rLe us row a b = true) → p.Perm l → rA us row on l ≤ rA us row on p
  | [], p, on, _, _, _, hp => by rw [hp.eq_nil]; exact Int.le_refl _
  | a :: l, p, on, hon, hm, hs, hp => by
    obtain ⟨p1, p2, rfl⟩ := List.append_of_mem (hp.mem_iff.2 (List.mem_cons_self ..))
    have hpp : (p1 ++ p2).Perm l := (List.perm_cons a).1 (List.perm_middle.symm.trans hp)
    obtain ⟨s1, s2⟩ := List.pairwise_cons.1 hs
    have hm1 : ∀ x ∈ p1, x ∈ l := fun x hx => hpp.mem_iff.1 (List.mem_append_left _ hx)
    have f := rA_front h (row := row) (a := a) p1 p2 on hon (fun x hx => hm x (List.mem_cons_of_mem _ (hm1 x hx))) (fun x hx => s1 x (hm1 x hx))
    have ea := eA_bd h (row := row) (hm a (List.mem_cons_self ..))
    have i := rA_least h (row := row) (l := l) (p := p1 ++ p2) (on := on * (6 - eA us row a.toNat)) (Int.mul_nonneg hon (by omega)) (fun x hx => hm x (List.mem_cons_of_mem _ hx)) s2 hpp
    have e1 : rA us row on (a :: l) = cA us a.toNat * on * 6 ^ (l.length + 1) + rA us row (on * (6 - eA us row a.toNat)) l := rfl
    have e2 : rA us row on (a :: (p1 ++ p2)) = cA us a.toNat * on * 6 ^ ((p1 ++ p2).length + 1) + rA us row (on * (6 - eA us row a.toNat)) (p1 ++ p2) := rfl
    rw [hpp.length_eq] at e2
    omega
theorem rng_nodup (n : Nat) : (rng n).Nodup := List.Pairwise.map _ (fun a b h e => h (by omega)) (List.nodup_range (n := n))
theorem or_perm {m : Int} {os : List Int} (h : orOk m os = true) : os.Perm (rng m.toNat) := by
  obtain ⟨g1, g2, g3⟩ := orOk_iff.1 h
  obtain ⟨n1, n2⟩ := orS_nodup.1 g3
  refine (List.perm_ext_iff_of_nodup n2 (rng_nodup _)).2 fun o => ?_
  constructor
  · intro ho
    exact mem_rng.2 (by have := (n1 o ho).1; omega)
  · intro ho
    have hr := mem_rng.1 ho
    have := set_all h o.toNat (by omega)
    rw [setO_bit (fun x hx => (n1 x hx).1.1)] at this
    rcases this with q | q
    · simp at q
    · rwa [Int.toNat_of_nonneg hr.1] at q
/-- No order is better than the one by ratios. -/
theorem rO_least {us : List T} (h : tsOk us = true) {row : Int} {os : List Int} (ho : orOk us.length os = true) : rA us row 1 (rO us row us.length) ≤ rA us row 1 os := by
  have h' := tsOk_iff.1 h
  refine rA_least h'.2 (by omega) (fun x hx => by have := rO_mem hx; omega) (rO_sorted h'.2 row us.length (Nat.le_refl _)) ?_
  have p := or_perm ho
  rw [Int.toNat_natCast] at p
  exact p.trans (rO_perm us row us.length).symm
theorem rO_best {us : List T} (h : tsOk us = true) {row : Int} (hr : row = 0 ∨ row = 1) : rA us row 1 (rO us row us.length) = (boF us (rowT us.length row)).2 := by
  have a := boF_least (t := rowT us.length row) (rO_ok h row)
  rw [row_avO h hr (rO_ok h row)] at a
  have b := rO_least h (row := row) (boF_or h (rowT us.length row))
  rw [← row_avO h hr (boF_or h (rowT us.length row)), ← boF_av] at b
  omega
end Zz

namespace Zz
open Go.Lg Md
/-! ### more of rows: gains, the other tests, chances -/
def prR (us : List T) (row : Int) : Int → List Int → Int
  | on, [] => on
  | on, a :: r => prR us row (on * (6 - eA us row a.toNat)) r
theorem rA_app (us : List T) (row : Int) {q q' : List Int} (hq : q.length = q'.length) : ∀ (p : List Int) (on : Int), rA us row on (p ++ q) - rA us row on (p ++ q') = rA us row (prR us row on p) q - rA us row (prR us row on p) q'
  | [], _ => rfl
  | a :: p, on => by
    have i := rA_app us row hq p (on * (6 - eA us row a.toNat))
    have e1 : rA us row on (a :: p ++ q) = cA us a.toNat * on * 6 ^ ((p ++ q).length + 1) + rA us row (on * (6 - eA us row a.toNat)) (p ++ q) := rfl
    have e2 : rA us row on (a :: p ++ q') = cA us a.toNat * on * 6 ^ ((p ++ q').length + 1) + rA us row (on * (6 - eA us row a.toNat)) (p ++ q') := rfl
    have e3 : (p ++ q').length = (p ++ q).length := by simp [hq]
    rw [e3] at e2
    show _ = rA us row (prR us row (on * (6 - eA us row a.toNat)) p) q - rA us row (prR us row (on * (6 - eA us row a.toNat)) p) q'
    omega
theorem prR_pos {us : List T} (h : us.all tOk = true) {row : Int} : ∀ {p : List Int} {on : Int}, 1 ≤ on → (∀ x ∈ p, x.toNat < us.length) → 1 ≤ prR us row on p
  | [], _, h1, _ => h1
  | a :: p, on, h1, hm => by
    have ea := eA_bd h (row := row) (hm a (List.mem_cons_self ..))
    show 1 ≤ prR us row (on * (6 - eA us row a.toNat)) p
    refine prR_pos h ?_ (fun x hx => hm x (List.mem_cons_of_mem _ hx))
    have := Int.mul_le_mul h1 (show 1 ≤ 6 - eA us row a.toNat by omega) (by omega) (by omega)
    omega
/-- what an exchange gains has the sign of the difference of ratios -/
theorem rA_gain {us : List T} (h : us.all tOk = true) {row : Int} {os : List Int} {i : Nat} (hi : i + 1 < os.length) (hm : ∀ x ∈ os, x.toNat < us.length) :
    ∃ w : Int, 1 ≤ w ∧ rA us row 1 os - rA us row 1 (swp os i) = w * (cA us (os.getD i 0).toNat * eA us row (os.getD (i + 1) 0).toNat - cA us (os.getD (i + 1) 0).toNat * eA us row (os.getD i 0).toNat) := by
  obtain ⟨p, a, b, q, rfl, rfl⟩ := split2 hi
  have g1 : (p ++ a :: b :: q).getD p.length 0 = a := by simp [List.getD]
  have g2 : (p ++ a :: b :: q).getD (p.length + 1) 0 = b := by simp [List.getD, List.getElem?_append_right]
  have pp := prR_pos h (row := row) (p := p) (on := 1) (by omega) (fun x hx => hm x (List.mem_append_left _ hx))
  have p6 : (1 : Int) ≤ 6 ^ (q.length + 1) := by
    have := Int.pow_pos (n := (6 : Int)) (m := q.length + 1) (by omega)
    omega
  refine ⟨prR us row 1 p * 6 ^ (q.length + 1), ?_, ?_⟩
  · have := Int.mul_le_mul pp p6 (by omega) (by omega)
    omega
  · rw [swp_mid, g1, g2, rA_app us row (by simp) p 1, rA_swap]
theorem sgn_pos {w x : Int} (h : 1 ≤ w) : 0 < w * x ↔ 0 < x := by
  constructor
  · intro hp
    refine Classical.byContradiction fun hn => ?_
    have := Int.mul_nonneg (show 0 ≤ w by omega) (show 0 ≤ -x by omega)
    rw [Int.mul_neg] at this
    omega
  · intro hp; exact Int.mul_pos (by omega) hp
theorem sgn_zero {w x : Int} (h : 1 ≤ w) : w * x = 0 ↔ x = 0 := by
  constructor
  · intro hp
    rcases Int.mul_eq_zero.1 hp with h' | h'
    · omega
    · exact h'
  · intro hp; rw [hp, Int.mul_zero]
/-- in the order by ratios no exchange gains -/
theorem rO_gain {us : List T} (h : tsOk us = true) {row : Int} {i : Nat} (hi : i + 1 < us.length) : rA us row 1 (rO us row us.length) - rA us row 1 (swp (rO us row us.length) i) ≤ 0 := by
  have h' := tsOk_iff.1 h
  have hl := rO_len us row us.length
  obtain ⟨w, hw, e⟩ := rA_gain h'.2 (row := row) (os := rO us row us.length) (i := i) (by omega) (fun x hx => by have := rO_mem hx; omega)
  rw [e]
  have s := rO_sorted h'.2 row us.length (Nat.le_refl _)
  have := List.pairwise_iff_getElem.1 s i (i + 1) (by omega) (by omega) (by omega)
  unfold rLe at this
  rw [decide_eq_true_eq] at this
  have g1 : (rO us row us.length).getD i 0 = (rO us row us.length)[i]'(by omega) := by simp [List.getD, hl, show i < us.length by omega]
  have g2 : (rO us row us.length).getD (i + 1) 0 = (rO us row us.length)[i + 1]'(by omega) := by simp [List.getD, hl, hi]
  rw [g1, g2]
  have := Int.mul_nonneg (show 0 ≤ w by omega) (show 0 ≤ -(cA us ((rO us row us.length)[i]'(by omega)).toNat * eA us row ((rO us row us.length)[i + 1]'(by omega)).toNat - cA us ((rO us row us.length)[i + 1]'(by omega)).toNat * eA us row ((rO us row us.length)[i]'(by omega)).toNat) by omega)
  rw [Int.mul_neg] at this
  omega
theorem cA_other (us : List T) (a : Nat) : cA (us.map other) a = cA us a := by
  unfold cA
  by_cases h : a < us.length
  · simp [List.getD, h, other]
  · simp [List.getD, h]
theorem eA_other {us : List T} {row : Int} (hr : row = 0 ∨ row = 1) {a : Nat} (ha : a < us.length) : eA (us.map other) (1 - row) a = eA us row a := by
  have e : ((us.map other).getD a (0, 0)).2 = 6 - (us.getD a (0, 0)).2 := by simp [List.getD, ha, other]
  unfold eA
  rw [e]
  rcases hr with rfl | rfl
  · rw [if_neg (by omega), if_pos rfl]
  · rw [if_pos (by omega), if_neg (by omega)]; omega
theorem insR_congr {us vs : List T} {row rw' k : Int} : ∀ {l : List Int}, (∀ o ∈ l, rLe us row o k = rLe vs rw' o k) → insR us row k l = insR vs rw' k l
  | [], _ => rfl
  | o :: r, h => by
    simp only [insR]
    rw [h o (List.mem_cons_self ..), insR_congr fun x hx => h x (List.mem_cons_of_mem _ hx)]
theorem rO_other {us : List T} {row : Int} (hr : row = 0 ∨ row = 1) : ∀ n : Nat, n ≤ us.length → rO (us.map other) (1 - row) n = rO us row n
  | 0, _ => rfl
  | n + 1, hn => by
    simp only [rO]
    rw [rO_other hr n (by omega)]
    refine insR_congr fun o ho => ?_
    have := rO_mem ho
    unfold rLe
    rw [cA_other, cA_other, eA_other hr (by omega), eA_other hr (by omega)]
theorem sumTo_one {f : Nat → Int} {j : Nat} : ∀ {n : Nat}, j < n → (∀ k, k < n → k ≠ j → f k = 0) → sumTo f n = f j
  | n + 1, hj, h => by
    simp only [sumTo]
    by_cases e : j = n
    · subst e
      rw [sumTo_zero fun k hk => h k (by omega) (by omega)]; omega
    · rw [sumTo_one (by omega) fun k hk hne => h k (by omega) hne, h n (by omega) (Ne.symm e)]; omega
def pY : List T → Int
  | [] => 1
  | t :: r => t.2 * pY r
def pN : List T → Int
  | [] => 1
  | t :: r => (6 - t.2) * pN r
theorem wt_all : ∀ us : List T, wt us ((2 ^ us.length - 1 : Nat) : Int) = pY us
  | [] => rfl
  | t :: r => by
    have e : 2 ^ (r.length + 1) - 1 = 2 * (2 ^ r.length - 1) + 1 := by
      have := Nat.two_pow_pos r.length
      rw [Nat.pow_succ]; omega
    rw [List.length_cons, e, (wt_two t r _).2, wt_all r]; rfl
theorem wt_none : ∀ us : List T, wt us ((0 : Nat) : Int) = pN us
  | [] => rfl
  | t :: r => by
    have := (wt_two t r 0).1
    rw [wt_none r] at this
    exact this
theorem tw_and {us : List T} (h : tsOk us = true) : tw us (rowT us.length 0) (2 ^ us.length) = pY us := by
  have h' := tsOk_iff.1 h
  have g := goS_lt (m := us.length) 0
  have key : ∀ s, s < 2 ^ us.length → (tv (rowT us.length 0) s = true ↔ s = goS us.length 0) := fun s hs => row_tv (m := us.length) (by omega) (by omega) (.inl rfl) hs
  unfold tw
  rw [sumTo_one g fun k hk hne => by
    unfold twP
    rw [if_neg (mt (key k hk).1 hne)]]
  unfold twP
  rw [if_pos ((key _ g).2 rfl), ← wt_all]
  rfl
theorem tw_or {us : List T} (h : tsOk us = true) : tw us (rowT us.length 1) (2 ^ us.length) = 6 ^ us.length - pN us := by
  have h' := tsOk_iff.1 h
  have key : ∀ s, s < 2 ^ us.length → (tv (rowT us.length 1) s = false ↔ s = 0) := fun s hs => row_tv (m := us.length) (by omega) (by omega) (.inr rfl) hs
  have e : tw us (rowT us.length 1) (2 ^ us.length) + sumTo (fun s => if s = 0 then wt us (s : Nat) else 0) (2 ^ us.length) = 6 ^ us.length := by
    unfold tw
    rw [← sumTo_add, ← wt_sum us]
    refine sumTo_congr fun s hs => ?_
    unfold twP
    by_cases h0 : s = 0
    · rw [if_pos h0, if_neg (by rw [(key s hs).2 h0]; simp)]; omega
    · rw [if_neg h0, if_pos (by simpa using mt (key s hs).1 h0)]; omega
  rw [sumTo_one (j := 0) (Nat.two_pow_pos _) fun k _ hne => if_neg hne, if_pos rfl, wt_none] at e
  omega
theorem row_dual : ∀ (m : Fin 6) (r : Fin 2), (rowT m.val r.val).map dT = rowT m.val (1 - (r.val : Int)) := by decide +kernel
theorem row_once : ∀ (m : Fin 5) (r : Fin 2), onceM (rowT (m.val + 1) r.val) 0 = true := by decide +kernel
theorem row_lett : ∀ (m : Fin 5) (r : Fin 2), lett (rowT (m.val + 1) r.val) = 2 ^ (m.val + 1) - 1 := by decide +kernel
end Zz

namespace Zz
open Go.Lg Md
set_option linter.unusedSimpArgs false
set_option linter.unusedVariables false
attribute [local simp] ia_mv ia_newnil ia_pick ia_bin ia_eqb ia_eqs ia_un ia_len ia_lens ia_chk ia_fld ia_fldv ia_idxa ia_idx ia_load ia_store ia_slice ia_slices ia_make ia_alloc ia_box ia_build ia_bslice ia_app ia_b2i ia_i2b ia_i2i ia_same ia_b2s ia_s2b ia_ext ia_mm ia_idxp ia_calld ia_mkfn ia_i2r ia_r2s ia_call pt_nil pt_cons mi_nil mi_cons md_bslice md_mv md_newnil md_pick md_bin md_eqb md_un md_len md_lens md_fld md_fldv md_idxa md_idx md_load md_store md_slice md_slices md_make md_alloc md_box md_build md_app md_conv md_ext md_call md_calld md_callg md_mkfn md_mm md_idxp md_eqn md_eqs md_chk tg_bslice tg_mv tg_newnil tg_pick tg_bin tg_eqb tg_un tg_len tg_lens tg_fld tg_fldv tg_idxa tg_idx tg_load tg_store tg_slice tg_slices tg_make tg_alloc tg_box tg_build tg_app tg_conv tg_ext tg_call tg_calld tg_callg tg_mkfn tg_mm tg_idxp tg_eqn tg_eqs tg_chk rp_eq ro_eq ifP_t ifP_f np_def ng1_nil ng2_nil ng_gate ng_gen tgA_t tgA_0 tgA_1 tgA_2 aC_nil aC_c aC_t nxP_some nxP_none rq_nil rq_gen rq_gate nxR_some nxR_none ru_nil ru_gen ru_gate pl_none pl_some gt_nil gt_t gt_c di_some di_none an_nil an_cons nxG_some nxG_none rg_nil rg_gen rg_gate oldO_some oa_nil oa_i oa_y oa_b oa_s oa_st oa_sl oa_own oa_oad oa_nl al_nil al_cons al_i al_y al_b al_s al_st al_sl nxF_some nxF_none rf_nil rf_gen rf_gate hk_newnil hk_make hk_alloc hk_box hk_build hk_bslice hk_call hk_store hk_app cl_nil cl_cons ai_nil ai_cons il_i il_y il_b il_s il_st il_sl il_own il_adr il_oad il_ref il_fr il_tup il_nil il_np il_und il_dead ol_adr ol_b ol_dead ol_e ol_fn ol_fr ol_i ol_nil ol_np ol_oad ol_own ol_q ol_r ol_ref ol_s ol_sl ol_st ol_tup ol_und ol_w ol_y oj_e oj_i oj_y oj_b oj_s oj_st oj_sl oj_own oj_adr oj_oad oj_ref oj_fr oj_tup oj_nil oj_np oj_und oj_dead oj_w oj_q oj_r oj_fn oi_e oi_i oi_y oi_b oi_s oi_st oi_sl oi_own oi_adr oi_oad oi_ref oi_fr oi_tup oi_nil oi_np oi_und oi_dead as_nil as_cons ao_nil ao_cons av_i av_y av_b av_s av_st av_sl av_own av_adr av_oad av_ref av_fr av_tup av_nil av_np av_und av_dead pro_cons ghK_some ks_promote ks_freeze frz_own ks_rename ren_own dropO adoptP newP wholeP cutP allOldL ex_skip ex_ret ex_exit ks_region ks_seq ks_cond ks_block seqK_n seqK_e seqK_r regK_some condK_t condK_f blkK_n blkK_r blkK_e endK_n endK_r rr_false rr_true rd_free mo_nil mo_cons drK_some drK_none nxW_some nxW_none rw_nil rw_gen rw_gate ak_newnil ak_make ak_alloc ak_box ak_build ak_bslice ak_call ak_store ak_app iw_mm iw_eqn iw_idxp ef_callg cgK_some gv_e gv_own gv_i gv_sl gv_st gv_b gv_nil gvK_some gvO_some iw_callg ia_callg ak_callg hk_callg is_mv is_newnil is_pick is_bin is_eqb is_eqs is_un is_len is_lens is_chk is_fld is_fldv is_idxa is_idx is_load is_slice is_slices is_make is_alloc is_box is_build is_bslice is_app is_conv is_ext is_call is_calld is_callg is_mkfn is_mm is_idxp is_eqn is_store rt_nil rt_gen rt_gate nxT_some nxT_none ef_eqn_nil ef_eqn_sl ef_eqn_own ia_eqn ef_mmx ef_mmn ef_idxp nxD_some nxD_none ov_i ov_y ov_b ov_s ov_st ov_sl ov_own ov_oad ov_adr ov_nil ov_np ov_und ov_dead ov_tup oldN_some oldN_nil oldN_none so_none so_i so_y so_b so_s so_st so_sl so_adr so_nil so_np so_und so_dead anyM_nil anyM_t anyM_c so_own so_oad rd_nil rd_gen rd_mv rd_gate iw_mv iw_newnil iw_pick iw_bin iw_eqb iw_eqs iw_un iw_len iw_lens iw_chk iw_fld iw_fldv iw_idxa iw_idx iw_load iw_store iw_slice iw_slices iw_make iw_alloc iw_box iw_build iw_bslice iw_app iw_b2i iw_i2b iw_i2i iw_same iw_b2s iw_s2b iw_ext iw_call nm_i nm_y nm_b nm_s nm_st nm_sl nm_own nm_oad nm_adr nm_nil nm_np nm_und nm_dead nm_tup rl_nil rl_gate rl_mv rl_gen opv_t opv_c nx_some nx_none gate_tt gate_tf gate_ft gate_ff gate_u fr_ap em_nil em_i em_y em_b em_s em_st em_sl em_own em_adr em_oad em_ref em_nl em_np em_und em_dead em_tup0 em_tup_i em_tup_b em_tup_s em_tup_sl em_tup_st em_tup_np em_tup_own em_tup_oad mm_i mm_y mm_b mm_s mm_st mm_sl mm_own mm_oad mm_adr mm_nil mm_np mm_und mm_dead ef_mv ef_newnil ef_pickt ef_pickf ef_bin ef_eqb ef_eqs ef_un ef_lens ef_len_sl ef_len_own ef_len_nil ef_chk_adr ef_chk_oad ef_fld_adr ef_fld_oad ef_fldv idxR_some ef_idxa_sl ef_idxa_own ef_idx ef_load_adr_st ef_load_adr_i ef_load_adr_y ef_load_adr_b ef_load_adr_s ef_load_adr_sl atN_nil atN_zero atN_succ ef_load_oad ef_store ef_slice ef_slices ef_make ef_alloc ef_box ef_build ef_bslice ef_app_own ef_app_nil ef_b2i ef_i2b ef_i2i ef_same ef_ext ret1 ret2_some calL_some ef_call retC_i retC_y retC_b retC_s retC_st retC_sl retC_np retC_fr retC_ref retC_tup rk_nil rk_i rk_y rk_b rk_s rk_st rk_sl rk_own rk_oad rk_nl ok_nil ok_i ok_y ok_b ok_s ok_st ok_sl ok_own ok_oad ok_nl lo_nil lo_i lo_y lo_b lo_s lo_st lo_sl lo_own lo_oad lo_nl pr_nil pr_i pr_y pr_b pr_s pr_st pr_sl pr_own pr_nl pr_oad nr_i nr_y nr_b nr_s nr_st nr_sl nr_fr nr_np nr_tup ng_i ng_b ng_s ng_fr ng_nil resV effP_eff binD bi_add bi_sub bi_mul bi_quo bi_rem bi_eql bi_neq bi_lss bi_leq bi_gtr bi_geq bi_shl bi_shr bi_and bi_or bi_xor bi_andNot binY binS unD look put putD LS.get LS.drop killE sweep lookO putO dropO enter leave giveBackL giveBack outs lendArgs lendArg newOuts takeIn takeInL lendL DV.lend adoptL DV.adopt elems apartKs part DV.cells unpart settle settleL over mkId szId fillP fillE tk_e2 tk_i tk_y lt_e2 lt_i lt_y lend_rep al_e2 al_is al_ys al_rep al_app lend_app adopt_app new_app lend_e2 lend_i lend_y adopt_e2 adopt_i adopt_y new_e2 new_i allNewL DV.allNew bounds sliceD sliceS em_w em_q em_r em_fn em_tup_w em_tup_q em_tup_r mm_w mm_q mm_r mm_fn ef_load_adr_w ef_load_adr_q ef_load_adr_r retC_w retC_q retC_r rk_w rk_q rk_r rk_fn ok_w ok_q ok_r ok_fn lo_w lo_q lo_r lo_fn pr_w pr_q pr_r pr_fn nr_w nr_q nr_r ng_w ng_q ng_r oa_w oa_q oa_r oa_fn al_w al_q al_r al_fn ov_w ov_q ov_r ov_fn so_w so_q so_r so_fn il_w il_q il_r il_fn oi_w oi_q oi_r oi_fn av_w av_q av_r av_fn nm_w nm_q nm_r nm_fn ef_i2r ef_r2s ef_mkfn ef_idxp_adr ef_calld capsOk DV.cell List.all_cons List.all_nil rk_own_t lo_own_t lk_f lk_t pr_own_t mutB ak_calld hk_calld iw_calld iw_mkfn iw_i2r iw_r2s bw_and bw_or bw_xor bw_andNot bw_eql bw_neq sw_shl sw_shr sq_shl gEnv_nil rk_adr ok_adr lo_adr pr_adr oa_adr capL capArg DV.cap ak_mkfn hk_mkfn ef_callm gf_ap ga_nil ga_cons tgv_own gk_e gk_giv gk_i gk_y gk_b gk_s gk_w gk_q gk_r gk_fn gk_st gk_sl gk_own gk_oad gk_adr gk_nl gk_np rk_giv ok_giv lo_giv pr_giv oa_giv iw_callm hk_callm ak_callm is_callm ia_callm tg_callm md_callm ks_close cls_oad
attribute [local congr] ifP_congr nxP_congr nxR_congr nxT_congr nxG_congr nxF_congr ghK_congr gate_congr nx_congr nxD_congr runL_congr runD_congr eff_congr calL_congr ret2_congr seqK_congr regK_congr condK_congr endK_congr drK_congr nxW_congr
attribute [local simp ↓] nxT_some rt_nil rt_gen rt_gate nxP_some rq_nil rq_gen rq_gate nxR_some ru_nil ru_gen ru_gate nxG_some rg_nil rg_gen rg_gate nxF_some rf_nil rf_gen rf_gate ks_promote ks_freeze frz_own ks_rename ghK_some gate_tt gate_tf gate_ft gate_ff gate_u nx_some nxD_some rl_nil rl_mv rl_gen rl_gate rd_nil rd_mv rd_gen rd_gate rd_free rr_false rr_true drK_some drK_none nxW_some rw_nil rw_gen rw_gate ks_region ks_seq ks_cond ks_block seqK_n seqK_e seqK_r regK_some condK_t condK_f blkK_n blkK_r endK_n endK_r calL_some ret2_some opv_t opv_c
section
attribute [-simp] DV.cells
attribute [local simp] sliceD cells_st cells_sl cells_i cells_y cells_b cells_s cells_w
/-! ### rows on the other side -/
theorem c_spec_l5Ends (c q row : Int) (hq : 1 ≤ q ∧ q ≤ 5) : call lf n_spec_l5Ends [.st [.i c, .i q], .i row] = some (.i (if row = 0 then 6 - q else q), []) := by
  have w1 : wr (6 - q) = 6 - q := wr_id (by omega) (by omega)
  rw [call_k lf n_spec_l5Ends _ (F := F_spec_l5Ends) rfl rfl]
  by_cases h : row = 0
  · simp [F_spec_l5Ends, h, w1]
  · have h' : (row == 0) = false := by simp [h]
    simp [F_spec_l5Ends, h, h']
def rwL (m row : Int) : List T := if nOk m && rwOk row then rowT m.toNat row else []
theorem rowT_succ (i : Nat) (row : Int) : rowT (i + 1) row = rowT i row ++ (if i = 0 then [(0, 0)] else [(0, (i : Int)), (2 + row, 0)]) := by
  simp [rowT, List.range_succ]
theorem rowT_len (i : Nat) (row : Int) : (rowT (i + 1) row).length = 2 * i + 1 := by
  induction i with
  | zero => rfl
  | succ i ih => rw [rowT_succ, List.length_append, ih, if_neg (by omega)]; simp; omega
def stRw (m row : Int) (L : List T) (i : Nat) : LS := ⟨[(0, .i m), (1, .i row), (5, .own 3600 L.length 0 L.length), (6, .i i)], [(3600, L.map e2)]⟩
def raOk (us : List T) (os : List Int) (row : Int) : Bool := tsOk us && orOk us.length os && rwOk row
def raOf (us : List T) (os : List Int) (row : Int) : Int := if raOk us os row then rA us row 1 os else -1
theorem p6le {i j : Nat} (h : i + j ≤ 5) {on : Int} (h0 : 0 ≤ on) (h1 : on ≤ 6 ^ i) : 0 ≤ on * 6 ^ j ∧ on * 6 ^ j ≤ 7776 := by
  have pj := p6 (n := j) (by omega)
  have q := (p6 h).2
  rw [Int.pow_add] at q
  have := Int.mul_le_mul_of_nonneg_right h1 (show (0 : Int) ≤ 6 ^ j by omega)
  have := Int.mul_nonneg h0 (show (0 : Int) ≤ 6 ^ j by omega)
  omega
theorem eA_call {us : List T} (h : us.all tOk = true) {row a : Int} (h0 : 0 ≤ a) (h1 : a < us.length) : ∃ c q : Int, atI (us.map e2) a = some (.st [.i c, .i q]) ∧ c = cA us a.toNat ∧ call lf n_spec_l5Ends [.st [.i c, .i q], .i row] = some (.i (eA us row a.toNat), []) := by
  obtain ⟨c, q, c1, c2, c3⟩ := cA_at (us := us) h0 h1
  refine ⟨c, q, c1, c2, ?_⟩
  have e : us.getD a.toNat (0, 0) = us[a.toNat] := by simp [List.getD, show a.toNat < us.length by omega]
  have tq := tOk_iff.1 (List.all_eq_true.1 h us[a.toNat] (List.getElem_mem (by omega)))
  rw [← e, c3] at tq
  rw [c_spec_l5Ends c q row tq.2]
  unfold eA
  rw [c3]
theorem l_spec_RowAverage {us : List T} (h : tsOk us = true) (row : Int) (os : List Int) (ho5 : os.length ≤ 5) (rest : List Int) : ∀ (k : Nat) (on sum : Int) (so : Nat), orS us.length so rest = true → 0 ≤ on → on ≤ 6 ^ k → 0 ≤ sum → sum ≤ 70000 * k → k + rest.length = os.length → (os.map DV.i).drop k = rest.map .i →
    ∃ on' : Int, ex lf F_spec_RowAverage_W0 ⟨[(0, .sl 0 (us.map e2)), (1, .sl 0 (os.map .i)), (2, .i row), (7, .i sum), (8, .i on), (9, .i k)], []⟩ =
      some (.exit 0, ⟨[(0, .sl 0 (us.map e2)), (1, .sl 0 (os.map .i)), (2, .i row), (7, .i (sum + rA us row on rest)), (8, .i on'), (9, .i os.length)], []⟩) := by
  have h' := tsOk_iff.1 h
  induction rest with
  | nil =>
    intro k on sum so ho n0 n1 s0 s1 hn hd
    have hk : k = os.length := by simpa using hn
    refine ⟨on, ?_⟩
    rw [w_spec_RowAverage_0]
    simp [F_spec_RowAverage_L0, hk, rA]
  | cons a rest ih =>
    intro k on sum so ho n0 n1 s0 s1 hn hd
    obtain ⟨o1, o2, o3⟩ := orS_cons.1 ho
    have hn2 : (k : Int) + ((DV.i a :: rest.map DV.i).length : Nat) = os.length := by simp at hn ⊢; omega
    obtain ⟨q1, q2, q3, q4, q5, q6⟩ := stp (es := os.map DV.i) (by omega) hn2 (by omega) (by simpa using hd)
    have kl : k < os.length := by omega
    obtain ⟨c, q, x1, x2, x3⟩ := eA_call h'.2 (row := row) o1.1 o1.2
    have cn := cA_nn h'.2 a.toNat
    have ea := eA_bd h'.2 (row := row) (a := a.toNat) (by omega)
    have hl : rest.length + 1 = os.length - k := by simp at hn; omega
    have pb := p6le (i := k) (j := rest.length + 1) (by omega) n0 n1
    have pk := p6 (n := k) (by omega)
    have C := c_spec_l1Power (n := rest.length + 1) (by omega)
    have w1 : wr ((os.length : Int) - k) = ((rest.length + 1 : Nat) : Int) := by rw [wr_id (by omega) (by omega)]; omega
    have m1 : 0 ≤ c * on ∧ c * on ≤ 9 * 7776 := ⟨Int.mul_nonneg (by omega) n0, Int.mul_le_mul (by omega) (by omega) n0 (by omega)⟩
    have w2 : wr (c * on) = c * on := wr_id (by omega) (by omega)
    have m2 : 0 ≤ c * on * 6 ^ (rest.length + 1) ∧ c * on * 6 ^ (rest.length + 1) ≤ 9 * 7776 := by
      rw [Int.mul_assoc]
      exact ⟨Int.mul_nonneg (by omega) pb.1, Int.mul_le_mul (by omega) pb.2 pb.1 (by omega)⟩
    have w3 : wr (c * on * 6 ^ (rest.length + 1)) = c * on * 6 ^ (rest.length + 1) := wr_id (by omega) (by omega)
    have w4 : wr (sum + c * on * 6 ^ (rest.length + 1)) = sum + c * on * 6 ^ (rest.length + 1) := wr_id (by omega) (by omega)
    have w5 : wr (6 - eA us row a.toNat) = 6 - eA us row a.toNat := wr_id (by omega) (by omega)
    have m3 : 0 ≤ on * (6 - eA us row a.toNat) ∧ on * (6 - eA us row a.toNat) ≤ 6 ^ (k + 1) := by
      refine ⟨Int.mul_nonneg n0 (by omega), ?_⟩
      rw [Int.pow_succ]
      exact Int.mul_le_mul n1 (by omega) (by omega) (by omega)
    have pk1 := p6 (n := k + 1) (by omega)
    have w6 : wr (on * (6 - eA us row a.toNat)) = on * (6 - eA us row a.toNat) := wr_id (by omega) (by omega)
    obtain ⟨on', I⟩ := ih (k + 1) (on * (6 - eA us row a.toNat)) (sum + c * on * 6 ^ (rest.length + 1)) _ o3 m3.1 m3.2 (by omega) (by omega) (by simp at hn; omega) (by simpa using q6)
    refine ⟨on', ?_⟩
    have q3' : wr ((k : Int) + 1) = ((k + 1 : Nat) : Int) := by rw [q3]; omega
    have e : sum + rA us row on (a :: rest) = sum + c * on * 6 ^ (rest.length + 1) + rA us row (on * (6 - eA us row a.toNat)) rest := by simp only [rA, x2]; omega
    have o11 := o1.1
    have o12 := o1.2
    rw [w_spec_RowAverage_0, e]
    generalize (6 : Int) ^ (rest.length + 1) = P at *
    generalize rA us row _ rest = Z at *
    generalize eA us row a.toNat = E at *
    simp [F_spec_RowAverage_L0, kl, q1, q2, q3', o11, o12, x1, x3, C, w1, w2, w3, w4, w5, w6, I, -Int.natCast_add]
theorem c_spec_RowAverage (us : List T) (os : List Int) (row : Int) (ha : (us.length : Int) < 1099511627776) (hc : (os.length : Int) < 1099511627776) :
    call lf n_spec_RowAverage [.sl 0 (us.map e2), .sl 0 (os.map .i), .i row] = some (.i (raOf us os row), []) := by
  rw [call_k lf n_spec_RowAverage _ (F := F_spec_RowAverage) rfl rfl]
  have C1 := c_spec_TestsOk us ha
  have C3 := c_spec_OrderOk us.length os hc
  unfold raOf raOk
  cases h1 : tsOk us with
  | false => rw [h1] at C1; simp [F_spec_RowAverage, C1]
  | true =>
    rw [h1] at C1
    cases h3 : orOk us.length os with
    | false => rw [h3] at C3; simp [F_spec_RowAverage, C1, C3]
    | true =>
      rw [h3] at C3
      cases h4 : rwOk row with
      | false =>
        have d : decide (0 ≤ row ∧ row ≤ 1) = false := h4
        simp [F_spec_RowAverage, C1, C3, c_spec_l1In, d]
      | true =>
        have d : decide (0 ≤ row ∧ row ≤ 1) = true := h4
        obtain ⟨g1, g2, g3⟩ := orOk_iff.1 h3
        obtain ⟨on', L⟩ := l_spec_RowAverage h1 row os (by omega) os 0 1 0 0 g3 (by omega) (by omega) (by omega) (by omega) (by omega) (by simp)
        simp only [Int.natCast_zero, Int.zero_add] at L
        simp [F_spec_RowAverage, C1, C3, c_spec_l1In, d, L]
end
section
attribute [-simp] DV.cells
attribute [local simp] sliceD cells_st cells_sl cells_i cells_y cells_b cells_s cells_w
/-! ### exchanges, and the order by ratios, on the other side -/
def sgOk (us : List T) (os : List Int) (at_ row : Int) : Bool := swOk us.length os at_ && raOk us os row
def sgN (us : List T) (os : List Int) (at_ row : Int) : Int := if sgOk us os at_ row then rA us row 1 os - rA us row 1 (swL us.length os at_) else 0
theorem raOk_bd {us : List T} {os : List Int} {row : Int} (h : raOk us os row = true) : 0 ≤ rA us row 1 os ∧ rA us row 1 os ≤ 20000000 := by
  unfold raOk at h
  simp only [Bool.and_eq_true] at h
  have hl := (orOk_iff.1 h.1.2).2.1
  have h' := tsOk_iff.1 h.1.1
  have := avO_bd h.1.1 (rowT us.length row) (os := os) (by omega)
  rw [row_avO h.1.1 (rwOk_iff.1 h.2) h.1.2] at this
  exact this
theorem c_spec_SwapGain (us : List T) (os : List Int) (at_ row : Int) (ha : (us.length : Int) < 1099511627776) (hc : (os.length : Int) < 1099511627776) :
    call lf n_spec_SwapGain [.sl 0 (us.map e2), .sl 0 (os.map .i), .i at_, .i row] = some (.tup [.i (sgN us os at_ row), .b (sgOk us os at_ row)], []) := by
  rw [call_k lf n_spec_SwapGain _ (F := F_spec_SwapGain) rfl rfl]
  have C1 := c_spec_SwappedOrder us.length os at_ hc
  have C2 := c_spec_RowAverage us os row ha hc
  have sl := swL_len us.length os at_
  have C3 := c_spec_RowAverage us (swL us.length os at_) row ha (by omega)
  have tk : List.take (swL us.length os at_).length ((swL us.length os at_).map DV.i) = (swL us.length os at_).map .i := List.take_of_length_le (by simp)
  unfold sgN sgOk
  cases h1 : swOk us.length os at_ with
  | false => rw [h1] at C1; simp [F_spec_SwapGain, C1, C2]
  | true =>
    rw [h1] at C1
    cases h2 : raOk us os row with
    | false =>
      have e : raOf us os row = -1 := by unfold raOf; rw [h2]; rfl
      rw [e] at C2
      simp [F_spec_SwapGain, C1, C2]
    | true =>
      have e : raOf us os row = rA us row 1 os := by unfold raOf; rw [h2]; rfl
      have h3 : raOk us (swL us.length os at_) row = true := by
        have := (swL_ok h1).1
        unfold raOk at h2 ⊢
        simp only [Bool.and_eq_true] at h2 ⊢
        exact ⟨⟨h2.1.1, this⟩, h2.2⟩
      have e3 : raOf us (swL us.length os at_) row = rA us row 1 (swL us.length os at_) := by unfold raOf; rw [h3]; rfl
      rw [e] at C2
      rw [e3] at C3
      have b2 := raOk_bd h2
      have b3 := raOk_bd h3
      have n0 : ¬ rA us row 1 os < 0 := by omega
      have w : wr (rA us row 1 os - rA us row 1 (swL us.length os at_)) = rA us row 1 os - rA us row 1 (swL us.length os at_) := wr_id (by omega) (by omega)
      simp [F_spec_SwapGain, C1, C2, C3, n0, w, tk]
def insPos (us : List T) (row k : Int) : List Int → Nat
  | [] => 0
  | o :: r => if rLe us row o k = true then insPos us row k r + 1 else 0
theorem insPos_le (us : List T) (row k : Int) : ∀ l : List Int, insPos us row k l ≤ l.length
  | [] => Nat.le_refl _
  | o :: r => by
    have := insPos_le us row k r
    simp only [insPos, List.length_cons]
    split <;> omega
theorem insR_pos (us : List T) (row k : Int) : ∀ l : List Int, insR us row k l = l.take (insPos us row k l) ++ k :: l.drop (insPos us row k l)
  | [] => rfl
  | o :: r => by
    simp only [insR, insPos]
    by_cases h : rLe us row o k = true
    · rw [if_pos h, if_pos h, insR_pos us row k r]; simp
    · rw [if_neg h, if_neg h]; simp
def stIn (us : List T) (row : Int) (K i : Nat) (L : List Int) (a : Nat) : LS := ⟨[(0, .sl 0 (us.map e2)), (1, .i row), (5, .own K L.length 0 L.length), (6, .i i), (7, .i a)], [(K, L.map .i)]⟩
set_option maxHeartbeats 4000000 in
theorem ratio_inner {us : List T} (h : tsOk us = true) (row : Int) {i : Nat} (hi : i < us.length) (L : List Int) (hL : L.length ≤ 5) (hm : ∀ o ∈ L, 0 ≤ o ∧ o < us.length) : ∀ (r p : List Int), L = p ++ r →
    ex lf F_spec_RatioOrder_W1 (stIn us row 4616 i L p.length) = some (.exit 2, stIn us row 4616 i L (p.length + insPos us row i r)) := by
  have h' := tsOk_iff.1 h
  intro r
  induction r with
  | nil =>
    intro p hp
    have e : p.length = L.length := by rw [hp]; simp
    rw [w_spec_RatioOrder_1, e]
    simp [stIn, F_spec_RatioOrder_L1, insPos]
  | cons o r ih =>
    intro p hp
    have lp : p.length < L.length := by rw [hp]; simp
    have ho := hm o (by rw [hp]; simp)
    have ao : atI (L.map DV.i) (p.length : Nat) = some (.i o) := by
      simp only [atI, if_pos (Int.natCast_nonneg _)]
      show (L.map DV.i)[((p.length : Nat) : Int).toNat]? = _
      rw [hp, Int.toNat_natCast]; simp
    have an : atN (L.map DV.i) p.length = some (.i o) := by
      show (L.map DV.i)[p.length]? = _
      rw [hp]; simp
    obtain ⟨c1, q1, x1, x2, x3⟩ := eA_call h'.2 (row := row) ho.1 ho.2
    obtain ⟨c2, q2, y1, y2, y3⟩ := eA_call h'.2 (row := row) (a := (i : Int)) (by omega) (by omega)
    rw [Int.toNat_natCast] at y2 y3
    have b1 := cA_nn h'.2 o.toNat
    have b2 := cA_nn h'.2 i
    have e1 := eA_bd h'.2 (row := row) (a := o.toNat) (by omega)
    have e2' := eA_bd h'.2 (row := row) (a := i) hi
    have m1 : 0 ≤ c1 * eA us row i ∧ c1 * eA us row i ≤ 9 * 5 := ⟨Int.mul_nonneg (by omega) (by omega), Int.mul_le_mul (by omega) (by omega) (by omega) (by omega)⟩
    have m2 : 0 ≤ c2 * eA us row o.toNat ∧ c2 * eA us row o.toNat ≤ 9 * 5 := ⟨Int.mul_nonneg (by omega) (by omega), Int.mul_le_mul (by omega) (by omega) (by omega) (by omega)⟩
    have w1 : wr (c1 * eA us row i) = c1 * eA us row i := wr_id (by omega) (by omega)
    have w2 : wr (c2 * eA us row o.toNat) = c2 * eA us row o.toNat := wr_id (by omega) (by omega)
    have w3 : wr ((p.length : Int) + 1) = ((p.length + 1 : Nat) : Int) := by rw [wr_id (by omega) (by omega)]; omega
    have rl : rLe us row o i = decide (c1 * eA us row i ≤ c2 * eA us row o.toNat) := by unfold rLe; rw [x2, y2, Int.toNat_natCast]
    have ho1 := ho.1
    have ho2 := ho.2
    have I := ih (p ++ [o]) (by rw [hp]; simp)
    rw [List.length_append, List.length_singleton] at I
    rw [w_spec_RatioOrder_1]
    by_cases hc : c1 * eA us row i ≤ c2 * eA us row o.toNat
    · have hp1 : insPos us row i (o :: r) = insPos us row i r + 1 := by simp only [insPos]; rw [if_pos (by rw [rl]; exact decide_eq_true hc)]
      rw [hp1, show p.length + (insPos us row i r + 1) = p.length + 1 + insPos us row i r by omega]
      unfold stIn at *
      simp [F_spec_RatioOrder_L1, lp, ao, an, ho1, ho2, hi, x1, x3, y1, y3, w1, w2, w3, hc, I, -Int.natCast_add]
    · have hp0 : insPos us row i (o :: r) = 0 := by simp only [insPos]; rw [if_neg (by rw [rl]; simpa using hc)]
      rw [hp0]
      unfold stIn
      simp [F_spec_RatioOrder_L1, lp, ao, an, ho1, ho2, hi, x1, x3, y1, y3, w1, w2, w3, hc, -Int.natCast_add]
end
section
attribute [-simp] DV.cells
attribute [local simp] sliceD cells_st cells_sl cells_i cells_y cells_b cells_s cells_w
/-! ### the order by ratios -/
def roL (us : List T) (row : Int) : List Int := if tsOk us && rwOk row then rO us row us.length else []
def stOu (us : List T) (row : Int) (K : Nat) (L : List Int) (i : Nat) : LS := ⟨[(0, .sl 0 (us.map e2)), (1, .i row), (5, .own K L.length 0 L.length), (6, .i i)], [(K, L.map .i)]⟩
set_option maxHeartbeats 4000000 in
theorem ratio_outer {us : List T} (h : tsOk us = true) {row : Int} (hr : rwOk row = true) (j : Nat) : ∀ (i K : Nat), (K = 4616 ∨ K = 32264) → i + j = us.length →
    ex lf F_spec_RatioOrder_W0 (stOu us row K (rO us row i) i) = some (.exit 0, stOu us row 4616 (rO us row us.length) us.length) := by
  have h' := tsOk_iff.1 h
  have C1 := c_spec_TestsOk us (by omega)
  rw [h] at C1
  have d : decide (0 ≤ row ∧ row ≤ 1) = true := hr
  induction j with
  | zero =>
    intro i K hK hi
    have e : i = us.length := by omega
    subst e
    rw [w_spec_RatioOrder_0]
    rcases hK with rfl | rfl <;> simp [stOu, F_spec_RatioOrder_L0]
  | succ j ih =>
    intro i K hK hi
    have k2 := ih (i + 1) 32264 (.inr rfl) (by omega)
    have hlt : i < us.length := by omega
    have ll := rO_len us row i
    have I := ratio_inner h row hlt (rO us row i) (by omega) (fun o ho => by have := rO_mem ho; omega) (rO us row i) [] rfl
    have pl := insPos_le us row i (rO us row i)
    have e : rO us row (i + 1) = (rO us row i).take (insPos us row i (rO us row i)) ++ (i : Int) :: (rO us row i).drop (insPos us row i (rO us row i)) := insR_pos us row i (rO us row i)
    rw [e] at k2
    rw [List.length_nil, Nat.zero_add] at I
    generalize insPos us row i (rO us row i) = a at *
    generalize rO us row i = L at *
    obtain ⟨x, y, rfl, rfl⟩ : ∃ x y, L = x ++ y ∧ x.length = a := ⟨L.take a, L.drop a, (List.take_append_drop a L).symm, by simp; omega⟩
    have s1 : (x ++ y).take x.length = x := by simp
    have s2 : (x ++ y).drop x.length = y := by simp
    rw [s1, s2] at k2
    have lxy : x.length + y.length = i := by simpa using ll
    have w1 : wr ((i : Int) + 1) = ((i + 1 : Nat) : Int) := by rw [wr_id (by omega) (by omega)]; omega
    have c1 : x.length ≤ bound := by unfold bound; omega
    have c2 : x.length + 1 ≤ bound := by unfold bound; omega
    have c3 : i + 1 ≤ bound := by unfold bound; omega
    have xi : x.length ≤ i := by omega
    have t1 : ((x ++ y).map DV.i).take x.length = x.map .i := by simp
    have t2 : ((x ++ y).map DV.i).drop x.length = y.map .i := by simp
    have t4 : List.take i ((x ++ y).map DV.i) = (x ++ y).map DV.i := List.take_of_length_le (by simp; omega)
    have hL : ((x ++ y).map DV.i).length = i := by simp; omega
    have e1 : x.length + 1 + y.length = i + 1 := by omega
    have e3 : x.length + (y.length + 1) = i + 1 := by omega
    have n0 : ¬ (i < x.length) := by omega
    unfold stOu stIn at *
    rw [ll] at I ⊢
    simp only [Int.natCast_zero] at I
    rw [w_spec_RatioOrder_0]
    simp only [List.length_append, List.length_cons, List.map_append, List.map_cons, e3] at k2
    generalize (x ++ y).map DV.i = M at *
    rcases hK with rfl | rfl <;> simp [F_spec_RatioOrder_L0, hlt, C1, d, c_spec_l1In, I, w1, hL, t1, t2, t4, c1, c2, c3, xi, e1, k2, -Int.natCast_add]
theorem c_spec_RatioOrder (us : List T) (row : Int) (ha : (us.length : Int) < 1099511627776) : call lf n_spec_RatioOrder [.sl 0 (us.map e2), .i row] = some (.fr 1 ((roL us row).map .i), []) := by
  rw [call_k lf n_spec_RatioOrder _ (F := F_spec_RatioOrder) rfl rfl]
  unfold roL
  by_cases h : (tsOk us && rwOk row) = true
  · rw [if_pos h]
    rw [Bool.and_eq_true] at h
    have L := ratio_outer h.1 h.2 us.length 0 4616 (.inl rfl) (by omega)
    unfold stOu at L
    have z : (rO us row 0).map DV.i = [] := rfl
    have z' : (rO us row 0).length = 0 := rfl
    rw [z, z'] at L
    simp only [Int.natCast_zero] at L
    have ll := rO_len us row us.length
    have tk : List.take us.length ((rO us row us.length).map DV.i) = (rO us row us.length).map .i := List.take_of_length_le (by simp [ll])
    rw [ll] at L
    simp [F_spec_RatioOrder, L, ll, tk]
  · rw [if_neg h]
    have C1 := c_spec_TestsOk us ha
    have L' : ex lf F_spec_RatioOrder_W0 ⟨[(0, .sl 0 (us.map e2)), (1, .i row), (5, .own 4616 0 0 0), (6, .i 0)], [(4616, [])]⟩ = some (.exit 0, ⟨[(0, .sl 0 (us.map e2)), (1, .i row), (5, .own 4616 0 0 0), (6, .i 0)], [(4616, [])]⟩) := by
      rw [w_spec_RatioOrder_0]
      by_cases h0 : 0 < us.length
      · cases h1 : tsOk us with
        | false => rw [h1] at C1; simp [F_spec_RatioOrder_L0, h0, C1]
        | true =>
          rw [h1] at C1
          have h2 : decide (0 ≤ row ∧ row ≤ 1) = false := by
            cases h2 : decide (0 ≤ row ∧ row ≤ 1) with
            | false => rfl
            | true => exact absurd (by rw [Bool.and_eq_true]; exact ⟨h1, h2⟩) h
          simp [F_spec_RatioOrder_L0, h0, C1, c_spec_l1In, h2]
      · simp [F_spec_RatioOrder_L0, h0]
    simp [F_spec_RatioOrder, L']
end
section
attribute [-simp] DV.cells
attribute [local simp] sliceD cells_st cells_sl cells_i cells_y cells_b cells_s cells_w
/-! ### draws of rows -/
theorem c_DrawSwapGain {bs : List Nat} (hb : ∀ y ∈ bs, y < 256) (hl : bs.length ≤ 1048576) :
    ∃ (us : List T) (os : List Int) (a row : Int), us.length ≤ 5 ∧ os.length ≤ 6 ∧ (0 ≤ a ∧ a ≤ 6) ∧ (0 ≤ row ∧ row ≤ 2) ∧ call lf n_spec_DrawSwapGain [.sl 0 (bs.map .y)] = some (.tup [.fr 2 (us.map e2), .fr 1 (os.map .i), .i a, .i row], []) := by
  obtain ⟨c1, c2⟩ := take_b hb
  have o := c_open hl
  generalize bs.take 2000 = cs at *
  obtain ⟨us, q, u1, q1, q2, h⟩ := c_l20Tests c1 c2 (p := 0) (n := 14) (by omega) (by omega) (by omega) (by omega)
  obtain ⟨os, p, o1, p1, p2, o2⟩ := c_l20Order c1 c2 (p := q) (n := 14) (m := us.length) (by omega) (by omega) (by omega) (by omega) (by omega)
  have w0 : wr ((us.length : Int) - 1) = (us.length : Int) - 1 := wr_id (by omega) (by omega)
  obtain ⟨n, hn⟩ : ∃ n, max ((us.length : Int) - 1) 1 = n := ⟨_, rfl⟩
  have k3 := c_pick c1 c2 (p := p) (n := n) (by omega) (by omega) (by omega)
  have a3 := pk_bound c1 (p := p) (n := n) (by omega) (by omega) (by omega)
  have k4 := c_pick c1 c2 (p := p + 1) (n := 2) (by omega) (by omega) (by omega)
  have a4 := pk_bound c1 (p := p + 1) (n := 2) (by omega) (by omega) (by omega)
  have k5 := c_pick c1 c2 (p := p + 1 + 1) (n := 40) (by omega) (by omega) (by omega)
  have a5 := pk_bound c1 (p := p + 1 + 1) (n := 40) (by omega) (by omega) (by omega)
  have q5 := quo39 a5.1 a5.2
  have w1 : wr ((pk cs (p + 1 + 1) 40).tdiv 39) = (pk cs (p + 1 + 1) 40).tdiv 39 := wr_id (by omega) (by omega)
  have w2 : wr (pk cs (p + 1) 2 + (pk cs (p + 1 + 1) 40).tdiv 39) = pk cs (p + 1) 2 + (pk cs (p + 1 + 1) 40).tdiv 39 := wr_id (by omega) (by omega)
  refine ⟨us, os, pk cs p n, pk cs (p + 1) 2 + (pk cs (p + 1 + 1) 40).tdiv 39, u1, o1, by omega, by omega, ?_⟩
  rw [call_k lf n_spec_DrawSwapGain _ (F := F_spec_DrawSwapGain) rfl rfl]
  simp [F_spec_DrawSwapGain, o, h, o2, w0, hn, k3, k4, k5, w1, w2]
def czT (t : T) : T := (wr (1 + wr (t.1.tdiv 4)), t.2)
def stCz (cs : List Nat) (p : Int) (n : Nat) (L : List T) (i : Nat) : LS := ⟨[(4, .oad 4112 1 0 0), (5, .own 5136 n 0 n), (6, .i i)], [(4112, [.st [.sl 0 (cs.map .y), .i p]]), (5136, L.map e2)]⟩
set_option maxHeartbeats 4000000 in
theorem cheap_loop (cs : List Nat) (p : Int) {n : Nat} (hn : n ≤ 5) : ∀ (r d : List T), d.length + r.length = n →
    ex lf F_spec_DrawRatioOrder_W0 (stCz cs p n (d ++ r) d.length) = some (.exit 0, stCz cs p n (d ++ r.map czT) n)
  | [], d, hl => by
    have e : d.length = n := by simpa using hl
    rw [w_spec_DrawRatioOrder_0, e]
    simp [stCz, F_spec_DrawRatioOrder_L0]
  | t :: r, d, hl => by
    obtain ⟨c, q⟩ := t
    have I := cheap_loop cs p hn r (d ++ [czT (c, q)]) (by simp at hl ⊢; omega)
    rw [List.append_assoc, List.append_assoc, List.length_append, List.length_singleton] at I
    have lt : d.length < n := by simp at hl; omega
    have w1 : wr ((d.length : Int) + 1) = ((d.length + 1 : Nat) : Int) := by rw [wr_id (by omega) (by omega)]; omega
    have ai : atI ((d ++ (c, q) :: r).map e2) (d.length : Nat) = some (.st [.i c, .i q]) := by
      simp only [atI, if_pos (Int.natCast_nonneg _)]
      show ((d ++ (c, q) :: r).map e2)[((d.length : Nat) : Int).toNat]? = _
      rw [Int.toNat_natCast]; simp [e2]
    have an : atN ((d ++ (c, q) :: r).map e2) d.length = some (.st [.i c, .i q]) := by
      show ((d ++ (c, q) :: r).map e2)[d.length]? = _
      simp [e2]
    have st : ((d ++ (c, q) :: r).map e2).set d.length (.st [.i (wr (1 + wr (c.tdiv 4))), .i q]) = (d ++ czT (c, q) :: r).map e2 := by
      rw [List.map_append, List.map_append, List.set_append_right _ _ (by simp)]
      simp [czT, e2]
    have hL : ((d ++ (c, q) :: r).map e2).length = n := by simpa using hl
    have e1 : [czT (c, q)] ++ r = czT (c, q) :: r := rfl
    have e3 : [czT (c, q)] ++ r.map czT = ((c, q) :: r).map czT := rfl
    rw [e1, e3] at I
    unfold stCz at *
    simp only [List.map_append, List.map_cons, List.map_map] at I
    rw [w_spec_DrawRatioOrder_0]
    generalize (d ++ (c, q) :: r).map e2 = L at *
    simp [F_spec_DrawRatioOrder_L0, lt, ai, an, st, hL, w1, I, -Int.natCast_add]
theorem c_DrawRatioOrder {bs : List Nat} (hb : ∀ y ∈ bs, y < 256) (hl : bs.length ≤ 1048576) :
    ∃ (us : List T) (row : Int), us.length ≤ 5 ∧ (0 ≤ row ∧ row ≤ 2) ∧ call lf n_spec_DrawRatioOrder [.sl 0 (bs.map .y)] = some (.tup [.fr 2 (us.map e2), .i row], []) := by
  obtain ⟨c1, c2⟩ := take_b hb
  have o := c_open hl
  generalize bs.take 2000 = cs at *
  obtain ⟨us, q, u1, q1, q2, h⟩ := c_l20Tests c1 c2 (p := 0) (n := 12) (by omega) (by omega) (by omega) (by omega)
  have k3 := c_pick c1 c2 (p := q) (n := 3) (by omega) (by omega) (by omega)
  have k4 := c_pick c1 c2 (p := q + 1) (n := 2) (by omega) (by omega) (by omega)
  have a4 := pk_bound c1 (p := q + 1) (n := 2) (by omega) (by omega) (by omega)
  have k5 := c_pick c1 c2 (p := q + 1 + 1) (n := 40) (by omega) (by omega) (by omega)
  have a5 := pk_bound c1 (p := q + 1 + 1) (n := 40) (by omega) (by omega) (by omega)
  have q5 := quo39 a5.1 a5.2
  have w1 : wr ((pk cs (q + 1 + 1) 40).tdiv 39) = (pk cs (q + 1 + 1) 40).tdiv 39 := wr_id (by omega) (by omega)
  have w2 : wr (pk cs (q + 1) 2 + (pk cs (q + 1 + 1) 40).tdiv 39) = pk cs (q + 1) 2 + (pk cs (q + 1 + 1) 40).tdiv 39 := wr_id (by omega) (by omega)
  by_cases h0 : pk cs q 3 = 0
  · have L := cheap_loop cs (q + 1) u1 us [] (by simp)
    unfold stCz at L
    simp only [List.length_nil, List.nil_append, Int.natCast_zero] at L
    have tk : List.take us.length ((us.map czT).map e2) = (us.map czT).map e2 := List.take_of_length_le (by simp)
    refine ⟨us.map czT, pk cs (q + 1) 2 + (pk cs (q + 1 + 1) 40).tdiv 39, by simpa using u1, by omega, ?_⟩
    rw [call_k lf n_spec_DrawRatioOrder _ (F := F_spec_DrawRatioOrder) rfl rfl]
    have hl2 : ((us.map czT).map e2).length = us.length := by simp
    generalize (us.map czT).map e2 = M at *
    simp [F_spec_DrawRatioOrder, o, h, k3, k4, k5, w1, w2, h0, L, tk, hl2]
  · have h0' : (pk cs q 3 == 0) = false := by simp [h0]
    refine ⟨us, pk cs (q + 1) 2 + (pk cs (q + 1 + 1) 40).tdiv 39, u1, by omega, ?_⟩
    rw [call_k lf n_spec_DrawRatioOrder _ (F := F_spec_DrawRatioOrder) rfl rfl]
    simp [F_spec_DrawRatioOrder, o, h, k3, k4, k5, w1, w2, h0']
end
section
attribute [-simp] DV.cells
attribute [local simp] sliceD cells_st cells_sl cells_i cells_y cells_b cells_s cells_w
/-! ### rows, as the program tells them -/
theorem c_impl_rowOk (row : Int) : call lf n_impl_rowOk [.i row] = some (.b (rwOk row), []) := by
  rw [call_k lf n_impl_rowOk _ (F := F_impl_rowOk) rfl rfl]
  have e : rwOk row = (row == 0 || row == 1) := by
    unfold rwOk
    by_cases h0 : row = 0
    · subst h0; rfl
    · by_cases h1 : row = 1
      · subst h1; rfl
      · have n0 : (row == 0) = false := beq_eq_false_iff_ne.2 h0
        have n1 : (row == 1) = false := beq_eq_false_iff_ne.2 h1
        rw [n0, n1]
        exact decide_eq_false (by omega)
  rw [e]
  cases h0 : (row == 0) with
  | true => simp [F_impl_rowOk, h0]
  | false => simp [F_impl_rowOk, h0]
theorem c_impl_endChance (c q row : Int) (hq : 1 ≤ q ∧ q ≤ 5) : call lf n_impl_endChance [.st [.i c, .i q], .i row] = some (.i (if row = 0 then 6 - q else q), []) := by
  have w1 : wr (6 - q) = 6 - q := wr_id (by omega) (by omega)
  rw [call_k lf n_impl_endChance _ (F := F_impl_endChance) rfl rfl]
  by_cases h : row = 0
  · simp [F_impl_endChance, h, w1]
  · have h' : (row == 0) = false := by simp [h]
    simp [F_impl_endChance, h, h']
theorem c_impl_wholeOf {n : Nat} (hn : n ≤ 5) : call lf n_impl_wholeOf [.i n] = some (.i (6 ^ n), []) := by
  rw [call_k lf n_impl_wholeOf _ (F := F_impl_wholeOf) rfl rfl]
  have L := loop_count (lf := lf) (L := F_impl_wholeOf_L0) n (fun i => ⟨[(3, .i (6 ^ i)), (4, .i n), (5, .i i)], []⟩) (x := .exit 0) (R := ⟨[(3, .i (6 ^ n)), (4, .i n), (5, .i n)], []⟩) (fun i hi => by
    have p := p6 (n := i) (by omega)
    have w1 : wr ((i : Int) + 1) = i + 1 := wr_id (by omega) (by omega)
    have w2 : wr ((6 : Int) ^ i * 6) = 6 ^ i * 6 := wr_id (by omega) (by omega)
    simp [F_impl_wholeOf_L0, hi, w1, w2, Int.pow_succ]) (by simp [F_impl_wholeOf_L0]) (by simp)
  have L' : ex lf F_impl_wholeOf_W0 ⟨[(3, .i 1), (4, .i n), (5, .i 0)], []⟩ = some (.exit 0, ⟨[(3, .i (6 ^ n)), (4, .i n), (5, .i n)], []⟩) := L
  simp [F_impl_wholeOf, L']
def stRi (m row : Int) (L : List T) (i : Nat) : LS := ⟨[(0, .i m), (5, .oad 2576 1 0 0), (6, .own 10768 L.length 0 L.length), (7, .i i)], [(2576, [.st [.i (2 + row), .i 0]]), (10768, L.map e2)]⟩
set_option maxHeartbeats 4000000 in
theorem eA_calli {us : List T} (h : us.all tOk = true) {row a : Int} (h0 : 0 ≤ a) (h1 : a < us.length) : ∃ c q : Int, atI (us.map e2) a = some (.st [.i c, .i q]) ∧ c = cA us a.toNat ∧ call lf n_impl_endChance [.st [.i c, .i q], .i row] = some (.i (eA us row a.toNat), []) := by
  obtain ⟨c, q, c1, c2, c3⟩ := cA_at (us := us) h0 h1
  refine ⟨c, q, c1, c2, ?_⟩
  have e : us.getD a.toNat (0, 0) = us[a.toNat] := by simp [List.getD, show a.toNat < us.length by omega]
  have tq := tOk_iff.1 (List.all_eq_true.1 h us[a.toNat] (List.getElem_mem (by omega)))
  rw [← e, c3] at tq
  rw [c_impl_endChance c q row tq.2]
  unfold eA
  rw [c3]
set_option maxHeartbeats 4000000 in
theorem l_impl_RowAverage {us : List T} (h : tsOk us = true) (row : Int) (os : List Int) (ho5 : os.length ≤ 5) (rest : List Int) : ∀ (k : Nat) (on sum : Int) (so : Nat), orS us.length so rest = true → 0 ≤ on → on ≤ 6 ^ k → 0 ≤ sum → sum ≤ 70000 * k → k + rest.length = os.length → (os.map DV.i).drop k = rest.map .i →
    ∃ on' : Int, ex lf F_impl_RowAverage_W0 ⟨[(0, .sl 0 (us.map e2)), (2, .i row), (8, .i sum), (9, .i (on * 6 ^ rest.length)), (30, .sl 0 (os.map .i)), (31, .i os.length), (32, .i k)], []⟩ =
      some (.exit 0, ⟨[(0, .sl 0 (us.map e2)), (2, .i row), (8, .i (sum + rA us row on rest)), (9, .i on'), (30, .sl 0 (os.map .i)), (31, .i os.length), (32, .i os.length)], []⟩) := by
  have h' := tsOk_iff.1 h
  induction rest with
  | nil =>
    intro k on sum so ho n0 n1 s0 s1 hn hd
    have hk : k = os.length := by simpa using hn
    refine ⟨on * 6 ^ ([] : List Int).length, ?_⟩
    rw [w_impl_RowAverage_0]
    simp [F_impl_RowAverage_L0, hk, rA]
  | cons a rest ih =>
    intro k on sum so ho n0 n1 s0 s1 hn hd
    obtain ⟨o1, o2, o3⟩ := orS_cons.1 ho
    have hn2 : (k : Int) + ((DV.i a :: rest.map DV.i).length : Nat) = os.length := by simp at hn ⊢; omega
    obtain ⟨q1, q2, q3, q4, q5, q6⟩ := stp (es := os.map DV.i) (by omega) hn2 (by omega) (by simpa using hd)
    have kl : k < os.length := by omega
    obtain ⟨c, q, x1, x2, x3⟩ := eA_calli h'.2 (row := row) o1.1 o1.2
    have cn := cA_nn h'.2 a.toNat
    have ea := eA_bd h'.2 (row := row) (a := a.toNat) (by omega)
    have hl : rest.length + 1 = os.length - k := by simp at hn; omega
    have pb := p6le (i := k) (j := rest.length + 1) (by omega) n0 n1
    have pk := p6 (n := k) (by omega)
    have pr := p6 (n := rest.length) (by omega)
    have m2 : 0 ≤ c * (on * 6 ^ (rest.length + 1)) ∧ c * (on * 6 ^ (rest.length + 1)) ≤ 9 * 7776 := by
      exact ⟨Int.mul_nonneg (by omega) pb.1, Int.mul_le_mul (by omega) pb.2 pb.1 (by omega)⟩
    have w3 : wr (c * (on * 6 ^ (rest.length + 1))) = c * (on * 6 ^ (rest.length + 1)) := wr_id (by omega) (by omega)
    have w4 : wr (sum + c * (on * 6 ^ (rest.length + 1))) = sum + c * (on * 6 ^ (rest.length + 1)) := wr_id (by omega) (by omega)
    have w5 : wr (6 - eA us row a.toNat) = 6 - eA us row a.toNat := wr_id (by omega) (by omega)
    have dv : (on * 6 ^ (rest.length + 1)).tdiv 6 = on * 6 ^ rest.length := by
      rw [Int.pow_succ, ← Int.mul_assoc]
      exact Int.mul_tdiv_cancel _ (by omega)
    have pb0 : 0 ≤ on * 6 ^ rest.length ∧ on * 6 ^ rest.length ≤ 7776 := p6le (i := k) (j := rest.length) (by omega) n0 n1
    have w7 : wr (on * 6 ^ rest.length) = on * 6 ^ rest.length := wr_id (by omega) (by omega)
    have m3 : 0 ≤ on * (6 - eA us row a.toNat) ∧ on * (6 - eA us row a.toNat) ≤ 6 ^ (k + 1) := by
      refine ⟨Int.mul_nonneg n0 (by omega), ?_⟩
      rw [Int.pow_succ]
      exact Int.mul_le_mul n1 (by omega) (by omega) (by omega)
    have m4 : 0 ≤ on * 6 ^ rest.length * (6 - eA us row a.toNat) ∧ on * 6 ^ rest.length * (6 - eA us row a.toNat) ≤ 7776 * 6 :=
      ⟨Int.mul_nonneg pb0.1 (by omega), Int.mul_le_mul pb0.2 (by omega) (by omega) (by omega)⟩
    have w8 : wr (on * 6 ^ rest.length * (6 - eA us row a.toNat)) = on * (6 - eA us row a.toNat) * 6 ^ rest.length := by
      rw [wr_id (by omega) (by omega), Int.mul_assoc, Int.mul_assoc, Int.mul_comm (6 ^ rest.length)]
    have e : sum + rA us row on (a :: rest) = sum + c * (on * 6 ^ (rest.length + 1)) + rA us row (on * (6 - eA us row a.toNat)) rest := by simp only [rA, x2, Int.mul_assoc]; omega
    obtain ⟨on', I⟩ := ih (k + 1) (on * (6 - eA us row a.toNat)) (sum + c * (on * 6 ^ (rest.length + 1))) _ o3 m3.1 m3.2 (by omega) (by omega) (by simp at hn; omega) (by simpa using q6)
    refine ⟨on', ?_⟩
    have q3' : wr ((k : Int) + 1) = ((k + 1 : Nat) : Int) := by rw [q3]; omega
    have o11 := o1.1
    have o12 := o1.2
    rw [w_impl_RowAverage_0, e]
    simp only [List.length_cons] at *
    generalize on * (6 - eA us row a.toNat) * 6 ^ rest.length = G at *
    generalize on * 6 ^ (rest.length + 1) = P at *
    generalize on * 6 ^ rest.length = Q at *
    generalize rA us row _ rest = Z at *
    generalize eA us row a.toNat = E at *
    simp [F_impl_RowAverage_L0, kl, q1, q2, q3', o11, o12, x1, x3, w3, w4, w5, dv, w7, w8, I, -Int.natCast_add]
theorem c_impl_RowAverage (us : List T) (os : List Int) (row : Int) (ha : (us.length : Int) < 1099511627776) (hc : (os.length : Int) < 1099511627776) :
    call lf n_impl_RowAverage [.sl 0 (us.map e2), .sl 0 (os.map .i), .i row] = some (.i (raOf us os row), []) := by
  rw [call_k lf n_impl_RowAverage _ (F := F_impl_RowAverage) rfl rfl]
  have C1 := c_impl_TestsOk us ha
  have C3 := c_impl_OrderOk us.length os hc
  have C4 := c_impl_rowOk row
  unfold raOf raOk
  cases h1 : tsOk us with
  | false => rw [h1] at C1; simp [F_impl_RowAverage, C1]
  | true =>
    rw [h1] at C1
    cases h3 : orOk us.length os with
    | false => rw [h3] at C3; simp [F_impl_RowAverage, C1, C3]
    | true =>
      rw [h3] at C3
      cases h4 : rwOk row with
      | false =>
        rw [h4] at C4
        simp [F_impl_RowAverage, C1, C3, C4]
      | true =>
        rw [h4] at C4
        obtain ⟨g1, g2, g3⟩ := orOk_iff.1 h3
        have W := c_impl_wholeOf (n := us.length) (by omega)
        obtain ⟨on', L⟩ := l_impl_RowAverage h1 row os (by omega) os 0 1 0 0 g3 (by omega) (by omega) (by omega) (by omega) (by omega) (by simp)
        have el : os.length = us.length := by omega
        simp only [Int.natCast_zero, Int.zero_add, Int.one_mul, el] at L
        simp [F_impl_RowAverage, C1, C3, C4, W, el, L]
theorem c_impl_SwapGain (us : List T) (os : List Int) (at_ row : Int) (ha : (us.length : Int) < 1099511627776) (hc : (os.length : Int) < 1099511627776) :
    call lf n_impl_SwapGain [.sl 0 (us.map e2), .sl 0 (os.map .i), .i at_, .i row] = some (.tup [.i (sgN us os at_ row), .b (sgOk us os at_ row)], []) := by
  rw [call_k lf n_impl_SwapGain _ (F := F_impl_SwapGain) rfl rfl]
  have C1 := c_impl_SwappedOrder us.length os at_ hc
  have C4 := c_impl_TestsOk us ha
  have C5 := c_impl_rowOk row
  have C2 := c_impl_RowAverage us os row ha hc
  have sl := swL_len us.length os at_
  have C3 := c_impl_RowAverage us (swL us.length os at_) row ha (by omega)
  have tk : List.take (swL us.length os at_).length ((swL us.length os at_).map DV.i) = (swL us.length os at_).map .i := List.take_of_length_le (by simp)
  unfold sgN sgOk
  cases h1 : swOk us.length os at_ with
  | false => rw [h1] at C1; simp [F_impl_SwapGain, C1]
  | true =>
    rw [h1] at C1
    have ho := (swOk_iff.1 h1).1
    cases h2 : tsOk us with
    | false =>
      rw [h2] at C4
      have e : raOk us os row = false := by unfold raOk; rw [h2]; rfl
      simp [F_impl_SwapGain, C1, C4, e]
    | true =>
      rw [h2] at C4
      cases h5 : rwOk row with
      | false =>
        rw [h5] at C5
        have e : raOk us os row = false := by unfold raOk; rw [h5, Bool.and_false]
        simp [F_impl_SwapGain, C1, C4, C5, e]
      | true =>
        rw [h5] at C5
        have e2 : raOk us os row = true := by unfold raOk; rw [h2, ho, h5]; rfl
        have h3 : raOk us (swL us.length os at_) row = true := by
          have := (swL_ok h1).1
          unfold raOk
          rw [h2, h5, this]; rfl
        have e : raOf us os row = rA us row 1 os := by unfold raOf; rw [e2]; rfl
        have e3 : raOf us (swL us.length os at_) row = rA us row 1 (swL us.length os at_) := by unfold raOf; rw [h3]; rfl
        rw [e] at C2
        rw [e3] at C3
        have b2 := raOk_bd e2
        have b3 := raOk_bd h3
        have w : wr (rA us row 1 os - rA us row 1 (swL us.length os at_)) = rA us row 1 os - rA us row 1 (swL us.length os at_) := wr_id (by omega) (by omega)
        simp [F_impl_SwapGain, C1, C2, C3, C4, C5, e2, w, tk]
end
section
attribute [-simp] DV.cells
attribute [local simp] sliceD cells_st cells_sl cells_i cells_y cells_b cells_s cells_w
/-! ### the order by ratios, as the program makes it -/
theorem c_impl_ratioOf (c q row : Int) (hq : 1 ≤ q ∧ q ≤ 5) : call lf n_impl_ratioOf [.st [.i c, .i q], .i row] = some (.st [.i c, .i (if row = 0 then 6 - q else q)], []) := by
  rw [call_k lf n_impl_ratioOf _ (F := F_impl_ratioOf) rfl rfl]
  have C := c_impl_endChance c q row hq
  generalize (if row = 0 then 6 - q else q) = z at *
  simp [F_impl_ratioOf, C]
theorem c_impl_isLess (a b x y : Int) (h1 : 0 ≤ a * y ∧ a * y ≤ 1000) (h2 : 0 ≤ x * b ∧ x * b ≤ 1000) : call lf n_impl_ratio_isLess [.st [.i a, .i b], .st [.i x, .i y]] = some (.b (decide (a * y < x * b)), []) := by
  rw [call_k lf n_impl_ratio_isLess _ (F := F_impl_ratio_isLess) rfl rfl]
  have w1 : wr (a * y) = a * y := wr_id (by omega) (by omega)
  have w2 : wr (x * b) = x * b := wr_id (by omega) (by omega)
  simp [F_impl_ratio_isLess, w1, w2]
theorem c_impl_less {us : List T} (h : tsOk us = true) (row : Int) {a b : Int} (ha : 0 ≤ a ∧ a < us.length) (hb : 0 ≤ b ∧ b < us.length) :
    call lf n_impl_RatioOrder_1 [.i a, .i b, .adr (.sl 0 (us.map e2)), .adr (.i row)] = some (.b (!(rLe us row b a)), []) := by
  have h' := tsOk_iff.1 h
  obtain ⟨c1, q1, x1, x2, x3⟩ := cA_at (us := us) ha.1 ha.2
  obtain ⟨c2, q2, y1, y2, y3⟩ := cA_at (us := us) hb.1 hb.2
  have tq1 := tOk_iff.1 (List.all_eq_true.1 h'.2 us[a.toNat] (List.getElem_mem (by omega)))
  have tq2 := tOk_iff.1 (List.all_eq_true.1 h'.2 us[b.toNat] (List.getElem_mem (by omega)))
  rw [← show us.getD a.toNat (0, 0) = us[a.toNat] by simp [List.getD, show a.toNat < us.length by omega], x3] at tq1
  rw [← show us.getD b.toNat (0, 0) = us[b.toNat] by simp [List.getD, show b.toNat < us.length by omega], y3] at tq2
  have R1 := c_impl_ratioOf c1 q1 row tq1.2
  have R2 := c_impl_ratioOf c2 q2 row tq2.2
  have e1 : (if row = 0 then 6 - q1 else q1) = eA us row a.toNat := by unfold eA; rw [x3]
  have e2' : (if row = 0 then 6 - q2 else q2) = eA us row b.toNat := by unfold eA; rw [y3]
  rw [e1] at R1
  rw [e2'] at R2
  have b1 := eA_bd h'.2 (row := row) (a := a.toNat) (by omega)
  have b2 := eA_bd h'.2 (row := row) (a := b.toNat) (by omega)
  have t1 := tq1.1
  have t2 := tq2.1
  simp only at t1 t2
  have I := c_impl_isLess c1 (eA us row a.toNat) c2 (eA us row b.toNat) ⟨Int.mul_nonneg (by omega) (by omega), Int.le_trans (Int.mul_le_mul (show c1 ≤ 9 by omega) (show eA us row b.toNat ≤ 5 by omega) (by omega) (by omega)) (by omega)⟩ ⟨Int.mul_nonneg (by omega) (by omega), Int.le_trans (Int.mul_le_mul (show c2 ≤ 9 by omega) (show eA us row a.toNat ≤ 5 by omega) (by omega) (by omega)) (by omega)⟩
  have e : (!(rLe us row b a)) = decide (c1 * eA us row b.toNat < c2 * eA us row a.toNat) := by
    unfold rLe
    rw [← x2, ← y2]
    by_cases hc : c2 * eA us row a.toNat ≤ c1 * eA us row b.toNat
    · rw [decide_eq_true hc, decide_eq_false (by omega)]; rfl
    · rw [decide_eq_false hc, decide_eq_true (by omega)]; rfl
  rw [e]
  have ha1 := ha.1
  have ha2 := ha.2
  have hb1 := hb.1
  have hb2 := hb.2
  rw [call_k lf n_impl_RatioOrder_1 _ (F := F_impl_RatioOrder_1) rfl rfl]
  simp [F_impl_RatioOrder_1, x1, y1, R1, R2, I]
theorem c_Insert (es : List DV) (x : DV) {n : Nat} (hn : n ≤ es.length) (hb : es.length ≤ 1000) : call lf n_slices_Insert_int_int [.gv 1 es, .i n, .gv 1 [x]] = some (.fr 1 (es.take n ++ x :: es.drop n), []) := by
  rw [call_prim lf n_slices_Insert_int_int _ (F := F_slices_Insert_int_int) rfl rfl, ins_k, if_pos ⟨by omega, by omega, by simp [bound]; omega, by simp⟩]
  simp
def stIs (us : List T) (row k : Int) (L : List Int) (a : Nat) : LS := ⟨[(0, .own 14 L.length 0 L.length), (1, .i k), (2, .fn n_impl_RatioOrder_1 [.adr (.sl 0 (us.map e2)), .adr (.i row)]), (7, .i a)], [(14, L.map .i)]⟩
set_option maxHeartbeats 4000000 in
theorem ins_loop {us : List T} (h : tsOk us = true) (row : Int) {k : Int} (hk : 0 ≤ k ∧ k < us.length) {L : List Int} (hL : L.length ≤ 5) {p : Nat} (H : ∀ j (hj : j < L.length), (0 ≤ L[j] ∧ L[j] < us.length) ∧ rLe us row L[j] k = decide (j < p)) : ∀ d : Nat, p + d ≤ L.length →
    ex lf F_impl_inserted_int_W0 (stIs us row k L (p + d)) = some (.exit 0, stIs us row k L p) := by
  have tk : List.take L.length (L.map DV.i) = L.map .i := List.take_of_length_le (by simp)
  have one : ∀ (j : Nat) (hj : j < L.length), atI (L.map DV.i) ((j : Nat) : Int) = some (.i L[j]) ∧ atN (L.map DV.i) j = some (.i L[j]) ∧ wr (((j + 1 : Nat) : Int) - 1) = (j : Nat) ∧ (0 : Int) < ((j + 1 : Nat) : Int) ∧ call lf n_impl_RatioOrder_1 [.i k, .i L[j], .adr (.sl 0 (us.map e2)), .adr (.i row)] = some (.b (!(decide (j < p))), []) := by
    intro j hj
    obtain ⟨h1, h2⟩ := H j hj
    refine ⟨?_, ?_, ?_, by omega, ?_⟩
    · simp only [atI, if_pos (Int.natCast_nonneg _)]
      show (L.map DV.i)[((j : Nat) : Int).toNat]? = _
      rw [Int.toNat_natCast]; simp [hj]
    · show (L.map DV.i)[j]? = _
      simp [hj]
    · rw [wr_id (by omega) (by omega)]; omega
    · rw [c_impl_less h row hk h1, h2]
  intro d
  induction d with
  | zero =>
    intro hd
    cases p with
    | zero =>
      rw [w_impl_inserted_int_0]
      simp [stIs, F_impl_inserted_int_L0]
    | succ p =>
      obtain ⟨q1, q2, q3, q4, q5⟩ := one p (by omega)
      rw [decide_eq_true (show p < p + 1 by omega)] at q5
      have hp : p < L.length := by omega
      rw [w_impl_inserted_int_0]
      simp [stIs, F_impl_inserted_int_L0, tk, q1, q2, q3, q4, q5, hp, -Int.natCast_add]
  | succ d ih =>
    intro hd
    obtain ⟨q1, q2, q3, q4, q5⟩ := one (p + d) (by omega)
    rw [decide_eq_false (show ¬ p + d < p by omega)] at q5
    have hp : p + d < L.length := by omega
    have I := ih (by omega)
    rw [w_impl_inserted_int_0, show p + (d + 1) = p + d + 1 by omega]
    unfold stIs at *
    simp [F_impl_inserted_int_L0, tk, q1, q2, q3, q4, q5, hp, I, -Int.natCast_add]
theorem c_impl_inserted {us : List T} (h : tsOk us = true) (row : Int) {k : Int} (hk : 0 ≤ k ∧ k < us.length) {L : List Int} (hL : L.length ≤ 5) {p : Nat} (hp : p ≤ L.length) (H : ∀ j (hj : j < L.length), (0 ≤ L[j] ∧ L[j] < us.length) ∧ rLe us row L[j] k = decide (j < p)) :
    call lf n_impl_inserted_int [.gv 1 (L.map .i), .i k, .fn n_impl_RatioOrder_1 [.adr (.sl 0 (us.map e2)), .adr (.i row)]] = some (.fr 1 ((L.take p ++ k :: L.drop p).map .i), []) := by
  have W := ins_loop h row hk hL H (L.length - p) (by omega)
  rw [show p + (L.length - p) = L.length by omega] at W
  unfold stIs at W
  have I := c_Insert (L.map .i) (.i k) (n := p) (by simpa using hp) (by simp; omega)
  have e : (L.map DV.i).take p ++ DV.i k :: (L.map DV.i).drop p = (L.take p ++ k :: L.drop p).map .i := by simp
  rw [e] at I
  have le : (L.take p ++ k :: L.drop p).length = L.length + 1 := by simp; omega
  rw [call_k lf n_impl_inserted_int _ (F := F_impl_inserted_int) rfl rfl]
  generalize L.take p ++ k :: L.drop p = M at *
  simp [F_impl_inserted_int, W, I]
theorem rO_split {us : List T} (h : tsOk us = true) (row : Int) {i : Nat} (hi : i < us.length) : ∀ j (hj : j < (rO us row i).length), (0 ≤ (rO us row i)[j] ∧ (rO us row i)[j] < us.length) ∧ rLe us row (rO us row i)[j] i = decide (j < insPos us row i (rO us row i)) := by
  have h' := tsOk_iff.1 h
  have S := rO_sorted h'.2 row i (by omega)
  have M : ∀ o ∈ rO us row i, 0 ≤ o ∧ o < us.length := fun o ho => by have := rO_mem ho; omega
  generalize rO us row i = L at *
  intro j hj
  refine ⟨M _ (List.getElem_mem hj), ?_⟩
  induction L generalizing j with
  | nil => simp at hj
  | cons o r ih =>
    obtain ⟨p1, p2⟩ := List.pairwise_cons.1 S
    have ih := ih p2 (fun o ho => M o (List.mem_cons_of_mem _ ho))
    by_cases hc : rLe us row o i = true
    · have e : insPos us row i (o :: r) = insPos us row i r + 1 := by simp only [insPos]; rw [if_pos hc]
      rw [e]
      cases j with
      | zero => simp [hc]
      | succ j =>
        have := ih j (by simpa using hj)
        rw [List.getElem_cons_succ, this]
        simp
    · have e : insPos us row i (o :: r) = 0 := by simp only [insPos]; rw [if_neg hc]
      rw [e]
      have hf : rLe us row o i = false := by simpa using hc
      cases j with
      | zero => simp [hf]
      | succ j =>
        rw [List.getElem_cons_succ]
        have hj' : j < r.length := by simpa using hj
        have hm := M _ (List.mem_cons_self ..)
        have hr := M _ (List.mem_cons_of_mem _ (List.getElem_mem hj'))
        cases hq : rLe us row r[j] i with
        | false => simp
        | true =>
          have := rLe_trans h'.2 (row := row) (a := o) (b := r[j]) (c := (i : Int)) (by omega) (by omega) (by omega) (p1 _ (List.getElem_mem hj')) hq
          rw [hf] at this; cases this
def stOi (us : List T) (row : Int) (K : Nat) (L : List Int) (i : Nat) : LS := ⟨[(5, .fn n_impl_RatioOrder_1 [.adr (.sl 0 (us.map e2)), .adr (.i row)]), (6, .own K L.length 0 L.length), (18, .i us.length), (19, .i i)], [(K, L.map .i)]⟩
set_option maxHeartbeats 4000000 in
theorem ratio_outerI {us : List T} (h : tsOk us = true) (row : Int) (j : Nat) : ∀ (i K : Nat), (K = 3080 ∨ K = 12808) → i + j = us.length →
    ex lf F_impl_RatioOrder_W0 (stOi us row K (rO us row i) i) = some (.exit 0, stOi us row 3080 (rO us row us.length) us.length) := by
  have h' := tsOk_iff.1 h
  induction j with
  | zero =>
    intro i K hK hi
    have e : i = us.length := by omega
    subst e
    rw [w_impl_RatioOrder_0]
    rcases hK with rfl | rfl <;> simp [stOi, F_impl_RatioOrder_L0]
  | succ j ih =>
    intro i K hK hi
    have k2 := ih (i + 1) 12808 (.inr rfl) (by omega)
    have hlt : i < us.length := by omega
    have ll := rO_len us row i
    have pl := insPos_le us row i (rO us row i)
    have I := c_impl_inserted h row (k := (i : Nat)) ⟨by omega, by omega⟩ (L := rO us row i) (by omega) pl (rO_split h row hlt)
    rw [← insR_pos us row i (rO us row i), show insR us row i (rO us row i) = rO us row (i + 1) from rfl] at I
    have l2 := rO_len us row (i + 1)
    have w1 : wr ((i : Int) + 1) = ((i + 1 : Nat) : Int) := by rw [wr_id (by omega) (by omega)]; omega
    have lt' : (i : Int) < us.length := by omega
    unfold stOi at *
    rw [l2] at k2
    rw [ll]
    have m1 : ((rO us row i).map DV.i).length = i := by simp [ll]
    have m2 : ((rO us row (i + 1)).map DV.i).length = i + 1 := by simp [l2]
    have lm : lendL ((rO us row i).map DV.i) = (rO us row i).map .i := by simp
    have am : ∀ b, adoptL b ((rO us row (i + 1)).map DV.i) = (rO us row (i + 1)).map .i := fun b => by simp
    rw [w_impl_RatioOrder_0]
    generalize (rO us row i).map DV.i = M at *
    generalize (rO us row (i + 1)).map DV.i = M2 at *
    rcases hK with rfl | rfl <;> simp [F_impl_RatioOrder_L0, hlt, lt', I, w1, k2, m1, m2, lm, am, -Int.natCast_add]
theorem c_impl_RatioOrder (us : List T) (row : Int) (ha : (us.length : Int) < 1099511627776) : call lf n_impl_RatioOrder [.sl 0 (us.map e2), .i row] = some (.fr 1 ((roL us row).map .i), []) := by
  rw [call_k lf n_impl_RatioOrder _ (F := F_impl_RatioOrder) rfl rfl]
  have C1 := c_impl_TestsOk us ha
  have C2 := c_impl_rowOk row
  unfold roL
  cases h1 : tsOk us with
  | false => rw [h1] at C1; simp [F_impl_RatioOrder, C1]
  | true =>
    rw [h1] at C1
    cases h2 : rwOk row with
    | false => rw [h2] at C2; simp [F_impl_RatioOrder, C1, C2]
    | true =>
      rw [h2] at C2
      have L := ratio_outerI h1 row us.length 0 3080 (.inl rfl) (by omega)
      unfold stOi at L
      have z : (rO us row 0).map DV.i = [] := rfl
      have z' : (rO us row 0).length = 0 := rfl
      rw [z, z'] at L
      simp only [Int.natCast_zero] at L
      have ll := rO_len us row us.length
      rw [ll] at L
      simp [F_impl_RatioOrder, C1, C2, L, ll]
end
end Zz
