/- What the functions answer, as equations: E20. No conditions. -/
import Derived.Test.YtjallbfleicfnabDoorE19
import Derived.Test.YtjallbfleicfnabDoorL2b
set_option linter.unusedSectionVars false
set_option linter.unusedVariables false
set_option linter.unusedSimpArgs false
namespace Zz
open Go.Lg Md
/-! ### duals, and what is not so -/
theorem fold_flt {P : Type} (mk : T → List P → P) : ∀ (x : Tm) (st : List P), (flt x).foldl (stepG mk) st = st ++ [valG mk x]
  | .tst a, st => by simp [flt, valG, stepG_0]
  | .neg x, st => by
    simp only [flt, List.foldl_append, fold_flt mk x, List.foldl_cons, List.foldl_nil]
    rw [stepG_1]; rfl
  | .and x y, st => by
    simp only [flt, List.foldl_append, fold_flt mk x, fold_flt mk y, List.foldl_cons, List.foldl_nil, List.append_assoc, List.cons_append, List.nil_append]
    rw [stepG_2 _ _ _ _ _ _ (.inl rfl)]; rfl
  | .or x y, st => by
    simp only [flt, List.foldl_append, fold_flt mk x, fold_flt mk y, List.foldl_cons, List.foldl_nil, List.append_assoc, List.cons_append, List.nil_append]
    rw [stepG_2 _ _ _ _ _ _ (.inr rfl)]; rfl
theorem tv_flt {m : Int} (hm : m ≤ 5) {x : Tm} (hb : tb m x) {s : Nat} (hs : s < 32) : tv (flt x) s = ev s x := by
  unfold tv tsW
  rw [fold_flt]
  exact val_bit hm hb hs
def dTm : Tm → Tm
  | .tst a => .tst a
  | .neg x => .neg (dTm x)
  | .and x y => .or (dTm x) (dTm y)
  | .or x y => .and (dTm x) (dTm y)
theorem flt_dual : ∀ x : Tm, flt (dTm x) = (flt x).map dT
  | .tst a => by simp [dTm, flt, dT]
  | .neg x => by simp [dTm, flt, dT, flt_dual x]
  | .and x y => by simp [dTm, flt, dT, flt_dual x, flt_dual y]
  | .or x y => by simp [dTm, flt, dT, flt_dual x, flt_dual y]
theorem tb_dual {m : Int} : ∀ {x : Tm}, tb m x → tb m (dTm x)
  | .tst a, h => h
  | .neg x, h => tb_dual (x := x) h
  | .and x y, h => ⟨tb_dual (x := x) h.1, tb_dual (x := y) h.2⟩
  | .or x y, h => ⟨tb_dual (x := x) h.1, tb_dual (x := y) h.2⟩
theorem ev_dual {m : Int} {s s' : Nat} (h : ∀ a : Nat, (a : Int) < m → s'.testBit a = !s.testBit a) : ∀ {x : Tm}, tb m x → ev s' (dTm x) = !ev s x
  | .tst a, hb => h a hb
  | .neg x, hb => by simp only [dTm, ev, ev_dual h (x := x) hb]
  | .and x y, hb => by simp only [dTm, ev, ev_dual h (x := x) hb.1, ev_dual h (x := y) hb.2, Bool.not_and]
  | .or x y, hb => by simp only [dTm, ev, ev_dual h (x := x) hb.1, ev_dual h (x := y) hb.2, Bool.not_or]
/-- the opposite state -/
def opp (m : Int) (s : Nat) : Nat := 2 ^ m.toNat - 1 - s
theorem opp_bit {m : Int} {s : Nat} (hs : s < 2 ^ m.toNat) {a : Nat} (ha : a < m.toNat) : (opp m s).testBit a = !s.testBit a := by
  unfold opp
  rw [show 2 ^ m.toNat - 1 - s = 2 ^ m.toNat - (s + 1) by omega, Nat.testBit_two_pow_sub_succ hs]
  simp [ha]
theorem opp_lt {m : Int} {s : Nat} (hs : s < 2 ^ m.toNat) : opp m s < 2 ^ m.toNat := by unfold opp; omega
theorem opp_opp {m : Int} {s : Nat} (hs : s < 2 ^ m.toNat) : opp m (opp m s) = s := by unfold opp; omega
theorem tv_dual {m : Int} {ts : List T} (h : tmOk m ts = true) {s : Nat} (hs : s < 2 ^ m.toNat) : tv (ts.map dT) (opp m s) = !tv ts s := by
  obtain ⟨h1, _, _⟩ := tmOk_iff.1 h
  obtain ⟨p1, p2, p3⟩ := pow5 h1.1 h1.2
  obtain ⟨x, hb, hf, _, htv⟩ := tv_tree h
  have ho := opp_lt hs
  rw [htv s (by omega), ← hf, ← flt_dual, tv_flt h1.2 (tb_dual hb) (by omega)]
  exact ev_dual (fun a ha => opp_bit hs (by omega)) hb
theorem tv_not {m : Int} {ts : List T} (h : tmOk m ts = true) {s : Nat} (hs : s < 32) : tv (ts ++ [(1, 0)]) s = !tv ts s := by
  obtain ⟨h1, _, _⟩ := tmOk_iff.1 h
  obtain ⟨x, hb, hf, _, htv⟩ := tv_tree h
  have e : ts ++ [(1, 0)] = flt (.neg x) := by rw [← hf]; rfl
  rw [htv s hs, e, tv_flt (m := m) h1.2 (x := .neg x) hb hs]
  rfl
theorem st_opp {m s : Int} (h : stOk m s = true) : stOk m (2 ^ m.toNat - 1 - s) = true ∧ (2 ^ m.toNat - 1 - s).toNat = opp m s.toNat ∧ s.toNat < 2 ^ m.toNat := by
  obtain ⟨h1, h2, h3⟩ := stOk_iff.1 h
  obtain ⟨p1, p2, p3⟩ := pow5 h1.1 h1.2
  refine ⟨stOk_iff.2 ⟨h1, by omega, by omega⟩, ?_, by omega⟩
  unfold opp
  omega
end Zz
