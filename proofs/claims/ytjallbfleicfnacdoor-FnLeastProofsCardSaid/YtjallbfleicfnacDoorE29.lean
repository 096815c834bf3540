/- What the functions answer, as equations: E29. No conditions. -/
import Derived.Test.YtjallbfleicfnacDoorE27
import Derived.Test.YtjallbfleicfnacDoorL2c
set_option linter.unusedSectionVars false
set_option linter.unusedVariables false
set_option linter.unusedSimpArgs false
namespace Zz
open Go.Lg Md
/-! ### letters, and the tests that never matter -/
def occ (a : Nat) : Tm → Bool
  | .tst b => b == a
  | .neg x => occ a x
  | .and x y => occ a x || occ a y
  | .or x y => occ a x || occ a y
theorem occ_tb {m : Int} {a : Nat} : ∀ {x : Tm}, tb m x → occ a x = true → (a : Int) < m
  | .tst b, hb, h => by simp [occ] at h; simp [tb] at hb; omega
  | .neg x, hb, h => occ_tb (x := x) hb h
  | .and x y, hb, h => by simp [occ] at h; rcases h with h | h; exact occ_tb (x := x) hb.1 h; exact occ_tb (x := y) hb.2 h
  | .or x y, hb, h => by simp [occ] at h; rcases h with h | h; exact occ_tb (x := x) hb.1 h; exact occ_tb (x := y) hb.2 h
/-- the value by what each test says -/
def evf (f : Nat → Bool) : Tm → Bool
  | .tst a => f a
  | .neg x => !evf f x
  | .and x y => evf f x && evf f y
  | .or x y => evf f x || evf f y
theorem ev_evf (s : Nat) : ∀ x : Tm, ev s x = evf s.testBit x
  | .tst a => rfl
  | .neg x => by simp only [ev, evf, ev_evf s x]
  | .and x y => by simp only [ev, evf, ev_evf s x, ev_evf s y]
  | .or x y => by simp only [ev, evf, ev_evf s x, ev_evf s y]
theorem evf_occ {f g : Nat → Bool} : ∀ {x : Tm}, (∀ a, occ a x = true → f a = g a) → evf f x = evf g x
  | .tst a, h => h a (by simp [occ])
  | .neg x, h => by simp only [evf, evf_occ (x := x) h]
  | .and x y, h => by simp only [evf, evf_occ (x := x) fun a ha => h a (by simp [occ, ha]), evf_occ (x := y) fun a ha => h a (by simp [occ, ha])]
  | .or x y, h => by simp only [evf, evf_occ (x := x) fun a ha => h a (by simp [occ, ha]), evf_occ (x := y) fun a ha => h a (by simp [occ, ha])]
/-- no test twice -/
def ton : Tm → Prop
  | .tst _ => True
  | .neg x => ton x
  | .and x y => ton x ∧ ton y ∧ ∀ a, occ a x = true → occ a y = false
  | .or x y => ton x ∧ ton y ∧ ∀ a, occ a x = true → occ a y = false
def mixf (x : Tm) (f g : Nat → Bool) (a : Nat) : Bool := if occ a x then f a else g a
theorem mix_l (x : Tm) (f g : Nat → Bool) : evf (mixf x f g) x = evf f x := evf_occ fun a ha => by simp [mixf, ha]
theorem mix_r {x y : Tm} (h : ∀ a, occ a x = true → occ a y = false) (f g : Nat → Bool) : evf (mixf x f g) y = evf g y := evf_occ fun a ha => by
  have : occ a x = false := by
    cases hx : occ a x with
    | false => rfl
    | true => rw [h a hx] at ha; cases ha
  simp [mixf, this]
theorem ton_both : ∀ {x : Tm}, ton x → ∀ b, ∃ f, evf f x = b
  | .tst a, _, b => ⟨fun _ => b, rfl⟩
  | .neg x, h, b => by obtain ⟨f, hf⟩ := ton_both (x := x) h (!b); exact ⟨f, by simp [evf, hf]⟩
  | .and x y, h, b => by
    obtain ⟨f, hf⟩ := ton_both (x := x) h.1 b
    obtain ⟨g, hg⟩ := ton_both (x := y) h.2.1 b
    exact ⟨mixf x f g, by simp [evf, mix_l, mix_r h.2.2, hf, hg]⟩
  | .or x y, h, b => by
    obtain ⟨f, hf⟩ := ton_both (x := x) h.1 b
    obtain ⟨g, hg⟩ := ton_both (x := y) h.2.1 b
    exact ⟨mixf x f g, by simp [evf, mix_l, mix_r h.2.2, hf, hg]⟩
def setf (f : Nat → Bool) (k : Nat) (b : Bool) (a : Nat) : Bool := if a = k then b else f a
theorem set_no {x : Tm} {k : Nat} (h : occ k x = false) (f : Nat → Bool) (b : Bool) : evf (setf f k b) x = evf f x := evf_occ fun a ha => by
  have : a ≠ k := fun e => by rw [e, h] at ha; cases ha
  simp [setf, this]
theorem mix_set_l {x y : Tm} (h : ∀ a, occ a x = true → occ a y = false) (f g : Nat → Bool) (k : Nat) (b : Bool) (hk : occ k x = true) : evf (setf (mixf x f g) k b) x = evf (setf f k b) x ∧ evf (setf (mixf x f g) k b) y = evf g y := by
  refine ⟨evf_occ fun a ha => ?_, ?_⟩
  · unfold setf; split
    · rfl
    · simp [mixf, ha]
  · rw [set_no (h k hk), mix_r h]
theorem mix_set_r {x y : Tm} (h : ∀ a, occ a x = true → occ a y = false) (f g : Nat → Bool) (k : Nat) (b : Bool) (hk : occ k y = true) : evf (setf (mixf x f g) k b) x = evf f x ∧ evf (setf (mixf x f g) k b) y = evf (setf g k b) y := by
  have hx : occ k x = false := by
    cases hx : occ k x with
    | false => rfl
    | true => rw [h k hx] at hk; cases hk
  refine ⟨by rw [set_no hx, mix_l], evf_occ fun a ha => ?_⟩
  unfold setf; split
  · rfl
  · have : occ a x = false := by
      cases hx : occ a x with
      | false => rfl
      | true => rw [h a hx] at ha; cases ha
    simp [mixf, this]
theorem ton_turn : ∀ {x : Tm}, ton x → ∀ {k : Nat}, occ k x = true → ∃ f, evf (setf f k false) x ≠ evf (setf f k true) x
  | .tst a, _, k, hk => by
    simp [occ] at hk; subst hk
    exact ⟨fun _ => false, by simp [evf, setf]⟩
  | .neg x, h, k, hk => by
    obtain ⟨f, hf⟩ := ton_turn (x := x) h hk
    exact ⟨f, by simpa [evf] using hf⟩
  | .and x y, h, k, hk => by
    cases hx : occ k x with
    | true =>
      obtain ⟨f, hf⟩ := ton_turn (x := x) h.1 hx
      obtain ⟨g, hg⟩ := ton_both (x := y) h.2.1 true
      exact ⟨mixf x f g, by simp only [evf, mix_set_l h.2.2 f g k _ hx, hg, Bool.and_true]; exact hf⟩
    | false =>
      have hy : occ k y = true := by simpa [occ, hx] using hk
      obtain ⟨f, hf⟩ := ton_turn (x := y) h.2.1 hy
      obtain ⟨g, hg⟩ := ton_both (x := x) h.1 true
      exact ⟨mixf x g f, by simp only [evf, mix_set_r h.2.2 g f k _ hy, hg, Bool.true_and]; exact hf⟩
  | .or x y, h, k, hk => by
    cases hx : occ k x with
    | true =>
      obtain ⟨f, hf⟩ := ton_turn (x := x) h.1 hx
      obtain ⟨g, hg⟩ := ton_both (x := y) h.2.1 false
      exact ⟨mixf x f g, by simp only [evf, mix_set_l h.2.2 f g k _ hx, hg, Bool.or_false]; exact hf⟩
    | false =>
      have hy : occ k y = true := by simpa [occ, hx] using hk
      obtain ⟨f, hf⟩ := ton_turn (x := y) h.2.1 hy
      obtain ⟨g, hg⟩ := ton_both (x := x) h.1 false
      exact ⟨mixf x g f, by simp only [evf, mix_set_r h.2.2 g f k _ hy, hg, Bool.false_or]; exact hf⟩
/-- letters are the tests that occur -/
theorem fl_bit {s : Int} (h0 : 0 ≤ s) (i : Nat) : fl s i = s.toNat.testBit i := by
  obtain ⟨n, rfl⟩ := Int.eq_ofNat_of_zero_le h0
  unfold fl
  rw [div_bI, bI_eq1]; simp
theorem lett_occ {m : Int} (h1 : 1 ≤ m) (h5 : m ≤ 5) : ∀ {x : Tm}, tb m x → ∀ {s : Int}, 0 ≤ s → s < 2 ^ m.toNat → (0 ≤ (flt x).foldl letF s ∧ (flt x).foldl letF s < 2 ^ m.toNat) ∧ ∀ a, ((flt x).foldl letF s).toNat.testBit a = (s.toNat.testBit a || occ a x)
  | .tst b, hb, s, h0, h2 => by
    have hb' : (b : Int) < m := hb
    have e : (flt (.tst b)).foldl letF s = orI s (2 ^ b) := by simp [flt, letF]
    have hp : ((2 ^ b : Nat) : Int) = 2 ^ b := by simp
    have hk2 : (2 ^ b : Nat) < 2 ^ m.toNat := Nat.pow_lt_pow_right (by omega) (by omega)
    obtain ⟨p1, p2, p3⟩ := pow5 h1 h5
    obtain ⟨q1, q2, q3⟩ := or_lt h1 h5 h0 h2 (b := 2 ^ b) (by rw [← hp]; exact Int.natCast_nonneg _) (by rw [← hp]; omega)
    rw [e]
    refine ⟨⟨q1, q2⟩, fun a => ?_⟩
    rw [q3, ← hp, Int.toNat_natCast, Nat.testBit_or, Nat.testBit_two_pow]
    rfl
  | .neg x, hb, s, h0, h2 => by
    obtain ⟨q1, q2⟩ := lett_occ h1 h5 (x := x) hb h0 h2
    have e : (flt (.neg x)).foldl letF s = (flt x).foldl letF s := by simp [flt, letF]
    rw [e]
    exact ⟨q1, q2⟩
  | .and x y, hb, s, h0, h2 => by
    obtain ⟨q1, q2⟩ := lett_occ h1 h5 (x := x) hb.1 h0 h2
    obtain ⟨r1, r2⟩ := lett_occ h1 h5 (x := y) hb.2 q1.1 q1.2
    have e : (flt (.and x y)).foldl letF s = (flt y).foldl letF ((flt x).foldl letF s) := by simp [flt, letF]
    rw [e]
    exact ⟨r1, fun a => by rw [r2, q2]; simp only [occ, Bool.or_assoc]⟩
  | .or x y, hb, s, h0, h2 => by
    obtain ⟨q1, q2⟩ := lett_occ h1 h5 (x := x) hb.1 h0 h2
    obtain ⟨r1, r2⟩ := lett_occ h1 h5 (x := y) hb.2 q1.1 q1.2
    have e : (flt (.or x y)).foldl letF s = (flt y).foldl letF ((flt x).foldl letF s) := by simp [flt, letF]
    rw [e]
    exact ⟨r1, fun a => by rw [r2, q2]; simp only [occ, Bool.or_assoc]⟩
theorem once_ton {m : Int} (h1 : 1 ≤ m) (h5 : m ≤ 5) : ∀ {x : Tm}, tb m x → ∀ {s : Int} {r : List T}, 0 ≤ s → s < 2 ^ m.toNat → onceM (flt x ++ r) s = true → ton x ∧ (∀ a, occ a x = true → s.toNat.testBit a = false) ∧ onceM r ((flt x).foldl letF s) = true
  | .tst b, hb, s, r, h0, h2, h => by
    simp [flt, onceM] at h
    rw [fl_bit h0] at h
    refine ⟨trivial, fun a ha => ?_, ?_⟩
    · simp [occ] at ha; subst ha; exact h.1
    · simpa [flt, letF] using h.2
  | .neg x, hb, s, r, h0, h2, h => by
    rw [flt, List.append_assoc] at h
    obtain ⟨q1, q2, q3⟩ := once_ton h1 h5 (x := x) hb h0 h2 h
    refine ⟨q1, q2, ?_⟩
    simp [onceM] at q3
    simpa [flt, letF] using q3
  | .and x y, hb, s, r, h0, h2, h => by
    rw [flt, List.append_assoc, List.append_assoc] at h
    obtain ⟨q1, q2, q3⟩ := once_ton h1 h5 (x := x) hb.1 h0 h2 h
    obtain ⟨l1, l2⟩ := lett_occ h1 h5 (x := x) hb.1 h0 h2
    obtain ⟨r1, r2, r3⟩ := once_ton h1 h5 (x := y) hb.2 l1.1 l1.2 q3
    refine ⟨⟨q1, r1, fun a ha => ?_⟩, fun a ha => ?_, ?_⟩
    · cases hy : occ a y with
      | false => rfl
      | true => have := r2 a hy; rw [l2, ha] at this; simp at this
    · simp only [occ, Bool.or_eq_true] at ha
      rcases ha with ha | ha
      · exact q2 a ha
      · have := r2 a ha; rw [l2] at this; simp at this; exact this.1
    · simp [onceM] at r3
      simpa [flt, letF] using r3
  | .or x y, hb, s, r, h0, h2, h => by
    rw [flt, List.append_assoc, List.append_assoc] at h
    obtain ⟨q1, q2, q3⟩ := once_ton h1 h5 (x := x) hb.1 h0 h2 h
    obtain ⟨l1, l2⟩ := lett_occ h1 h5 (x := x) hb.1 h0 h2
    obtain ⟨r1, r2, r3⟩ := once_ton h1 h5 (x := y) hb.2 l1.1 l1.2 q3
    refine ⟨⟨q1, r1, fun a ha => ?_⟩, fun a ha => ?_, ?_⟩
    · cases hy : occ a y with
      | false => rfl
      | true => have := r2 a hy; rw [l2, ha] at this; simp at this
    · simp only [occ, Bool.or_eq_true] at ha
      rcases ha with ha | ha
      · exact q2 a ha
      · have := r2 a ha; rw [l2] at this; simp at this; exact this.1
    · simp [onceM] at r3
      simpa [flt, letF] using r3
end Zz
