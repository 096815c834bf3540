/- That the data is what the program says, function by function. No conditions. -/
import Derived.Test.YtahkmbihhkjebaaIrzn
import Derived.Test.YtahkmbihhkjebaaLgD
import Derived.Test.YtahkmbihhkjebaaRows
set_option linter.unusedSectionVars false
set_option linter.unusedVariables false
set_option linter.unusedSimpArgs false
namespace Go.Proofs.Ytahkmbihhkjebaa.oks
open Go.Lg Zz
theorem ok3 : OkF Try.prog (dcOf Try.prog) 3 Zz.F_laws_FnExactCountOk := Or.inl ⟨rfl, ⟨⟨Try.f3, _, Try.func3, rfl, by kernel_rfl, by kernel_rfl, by kernel_rfl, by decide +kernel, by kernel_rfl⟩⟩⟩
theorem ok4 : OkF Try.prog (dcOf Try.prog) 4 Zz.F_laws_FnExactCountWeight := Or.inl ⟨rfl, ⟨⟨Try.f4, _, Try.func4, rfl, by kernel_rfl, by kernel_rfl, by kernel_rfl, by decide +kernel, by kernel_rfl⟩⟩⟩
theorem ok5 : OkF Try.prog (dcOf Try.prog) 5 Zz.F_laws_FnExactCountBest := Or.inl ⟨rfl, ⟨⟨Try.f5, _, Try.func5, rfl, by kernel_rfl, by kernel_rfl, by kernel_rfl, by decide +kernel, by kernel_rfl⟩⟩⟩
theorem ok8 : OkF Try.prog (dcOf Try.prog) 8 Zz.F_laws_szTestS := Or.inl ⟨rfl, ⟨⟨Try.f8, _, Try.func8, rfl, by kernel_rfl, by kernel_rfl, by kernel_rfl, by decide +kernel, by kernel_rfl⟩⟩⟩
theorem ok9 : OkF Try.prog (dcOf Try.prog) 9 Zz.F_spec_CountOk := Or.inl ⟨rfl, ⟨⟨Try.f9, _, Try.func9, rfl, by kernel_rfl, by kernel_rfl, by kernel_rfl, by decide +kernel, by kernel_rfl⟩⟩⟩
theorem ok10 : OkF Try.prog (dcOf Try.prog) 10 Zz.F_laws_toTestS := Or.inl ⟨rfl, ⟨⟨Try.f10, _, Try.func10, rfl, by kernel_rfl, by kernel_rfl, by kernel_rfl, by decide +kernel, by kernel_rfl⟩⟩⟩
theorem ok11 : OkF Try.prog (dcOf Try.prog) 11 Zz.F_impl_CountOk := Or.inl ⟨rfl, ⟨⟨Try.f11, _, Try.func11, rfl, by kernel_rfl, by kernel_rfl, by kernel_rfl, by decide +kernel, by kernel_rfl⟩⟩⟩
theorem ok12 : OkF Try.prog (dcOf Try.prog) 12 Zz.F_laws_eqTestS := Or.inl ⟨rfl, ⟨⟨Try.f12, _, Try.func12, rfl, by kernel_rfl, by kernel_rfl, by kernel_rfl, by decide +kernel, by kernel_rfl⟩⟩⟩
theorem ok13 : OkF Try.prog (dcOf Try.prog) 13 Zz.F_spec_CountWeight := Or.inl ⟨rfl, ⟨⟨Try.f13, _, Try.func13, rfl, by kernel_rfl, by kernel_rfl, by kernel_rfl, by decide +kernel, by kernel_rfl⟩⟩⟩
theorem ok14 : OkF Try.prog (dcOf Try.prog) 14 Zz.F_impl_CountWeight := Or.inl ⟨rfl, ⟨⟨Try.f14, _, Try.func14, rfl, by kernel_rfl, by kernel_rfl, by kernel_rfl, by decide +kernel, by kernel_rfl⟩⟩⟩
theorem ok15 : OkF Try.prog (dcOf Try.prog) 15 Zz.F_spec_CountBest := Or.inl ⟨rfl, ⟨⟨Try.f15, _, Try.func15, rfl, by kernel_rfl, by kernel_rfl, by kernel_rfl, by decide +kernel, by kernel_rfl⟩⟩⟩
theorem ok16 : OkF Try.prog (dcOf Try.prog) 16 Zz.F_impl_CountBest := Or.inl ⟨rfl, ⟨⟨Try.f16, _, Try.func16, rfl, by kernel_rfl, by kernel_rfl, by kernel_rfl, by decide +kernel, by kernel_rfl⟩⟩⟩
theorem ok30 : OkF Try.prog (dcOf Try.prog) 30 Zz.F_spec_TestsOk := Or.inl ⟨rfl, ⟨⟨Try.f30, _, Try.func30, rfl, by kernel_rfl, by kernel_rfl, by kernel_rfl, by decide +kernel, by kernel_rfl⟩⟩⟩
theorem ok31 : OkF Try.prog (dcOf Try.prog) 31 Zz.F_spec_l1In := Or.inl ⟨rfl, ⟨⟨Try.f31, _, Try.func31, rfl, by kernel_rfl, by kernel_rfl, by kernel_rfl, by decide +kernel, by kernel_rfl⟩⟩⟩
theorem ok32 : OkF Try.prog (dcOf Try.prog) 32 Zz.F_laws_toTest := Or.inl ⟨rfl, ⟨⟨Try.f32, _, Try.func32, rfl, by kernel_rfl, by kernel_rfl, by kernel_rfl, by decide +kernel, by kernel_rfl⟩⟩⟩
theorem ok33 : OkF Try.prog (dcOf Try.prog) 33 Zz.F_impl_TestsOk := Or.inl ⟨rfl, ⟨⟨Try.f33, _, Try.func33, rfl, by kernel_rfl, by kernel_rfl, by kernel_rfl, by decide +kernel, by kernel_rfl⟩⟩⟩
theorem ok34 : OkF Try.prog (dcOf Try.prog) 34 Zz.F_impl_isWithin := Or.inl ⟨rfl, ⟨⟨Try.f34, _, Try.func34, rfl, by kernel_rfl, by kernel_rfl, by kernel_rfl, by decide +kernel, by kernel_rfl⟩⟩⟩
theorem ok35 : OkF Try.prog (dcOf Try.prog) 35 Zz.F_laws_eqTest := Or.inl ⟨rfl, ⟨⟨Try.f35, _, Try.func35, rfl, by kernel_rfl, by kernel_rfl, by kernel_rfl, by decide +kernel, by kernel_rfl⟩⟩⟩
theorem ok36 : OkF Try.prog (dcOf Try.prog) 36 Zz.F_spec_l8Heads := Or.inl ⟨rfl, ⟨⟨Try.f36, _, Try.func36, rfl, by kernel_rfl, by kernel_rfl, by kernel_rfl, by decide +kernel, by kernel_rfl⟩⟩⟩
theorem ok37 : OkF Try.prog (dcOf Try.prog) 37 Zz.F_spec_l1Weight := Or.inl ⟨rfl, ⟨⟨Try.f37, _, Try.func37, rfl, by kernel_rfl, by kernel_rfl, by kernel_rfl, by decide +kernel, by kernel_rfl⟩⟩⟩
theorem ok38 : OkF Try.prog (dcOf Try.prog) 38 Zz.F_impl_statesOf := Or.inl ⟨rfl, ⟨⟨Try.f38, _, Try.func38, rfl, by kernel_rfl, by kernel_rfl, by kernel_rfl, by decide +kernel, by kernel_rfl⟩⟩⟩
theorem ok39 : OkF Try.prog (dcOf Try.prog) 39 Zz.F_impl_sizeOf := Or.inl ⟨rfl, ⟨⟨Try.f39, _, Try.func39, rfl, by kernel_rfl, by kernel_rfl, by kernel_rfl, by decide +kernel, by kernel_rfl⟩⟩⟩
theorem ok40 : OkF Try.prog (dcOf Try.prog) 40 Zz.F_impl_WeightOf := Or.inl ⟨rfl, ⟨⟨Try.f40, _, Try.func40, rfl, by kernel_rfl, by kernel_rfl, by kernel_rfl, by decide +kernel, by kernel_rfl⟩⟩⟩
theorem ok41 : OkF Try.prog (dcOf Try.prog) 41 Zz.F_spec_l8Best := Or.inl ⟨rfl, ⟨⟨Try.f41, _, Try.func41, rfl, by kernel_rfl, by kernel_rfl, by kernel_rfl, by decide +kernel, by kernel_rfl⟩⟩⟩
theorem ok42 : OkF Try.prog (dcOf Try.prog) 42 Zz.F_spec_l1Power := Or.inl ⟨rfl, ⟨⟨Try.f42, _, Try.func42, rfl, by kernel_rfl, by kernel_rfl, by kernel_rfl, by decide +kernel, by kernel_rfl⟩⟩⟩
theorem ok43 : OkF Try.prog (dcOf Try.prog) 43 Zz.F_impl_leastToCount := Or.inl ⟨rfl, ⟨⟨Try.f43, _, Try.func43, rfl, by kernel_rfl, by kernel_rfl, by kernel_rfl, by decide +kernel, by kernel_rfl⟩⟩⟩
theorem ok44 : OkF Try.prog (dcOf Try.prog) 44 Zz.F_impl_allOf := Or.inl ⟨rfl, ⟨⟨Try.f44, _, Try.func44, rfl, by kernel_rfl, by kernel_rfl, by kernel_rfl, by decide +kernel, by kernel_rfl⟩⟩⟩
theorem ok45 : OkF Try.prog (dcOf Try.prog) 45 Zz.F_impl_CountBest_1 := Or.inl ⟨rfl, ⟨⟨Try.f45, _, Try.func45, rfl, by kernel_rfl, by kernel_rfl, by kernel_rfl, by decide +kernel, by kernel_rfl⟩⟩⟩
theorem ok57 : OkF Try.prog (dcOf Try.prog) 57 Zz.F_impl_manyOk := Or.inl ⟨rfl, ⟨⟨Try.f57, _, Try.func57, rfl, by kernel_rfl, by kernel_rfl, by kernel_rfl, by decide +kernel, by kernel_rfl⟩⟩⟩
theorem ok58 : OkF Try.prog (dcOf Try.prog) 58 Zz.F_math_bits_OnesCount := Or.inl ⟨rfl, ⟨⟨Try.f58, _, Try.func58, rfl, by kernel_rfl, by kernel_rfl, by kernel_rfl, by decide +kernel, by kernel_rfl⟩⟩⟩
theorem ok59 : OkF Try.prog (dcOf Try.prog) 59 Zz.F_impl_StateOk := Or.inl ⟨rfl, ⟨⟨Try.f59, _, Try.func59, rfl, by kernel_rfl, by kernel_rfl, by kernel_rfl, by decide +kernel, by kernel_rfl⟩⟩⟩
theorem ok60 : OkF Try.prog (dcOf Try.prog) 60 Zz.F_impl_outcomeIn := Or.inl ⟨rfl, ⟨⟨Try.f60, _, Try.func60, rfl, by kernel_rfl, by kernel_rfl, by kernel_rfl, by decide +kernel, by kernel_rfl⟩⟩⟩
theorem ok61 : OkF Try.prog (dcOf Try.prog) 61 Zz.F_impl_hasTest := Or.inl ⟨rfl, ⟨⟨Try.f61, _, Try.func61, rfl, by kernel_rfl, by kernel_rfl, by kernel_rfl, by decide +kernel, by kernel_rfl⟩⟩⟩
theorem ok62 : OkF Try.prog (dcOf Try.prog) 62 Zz.F_impl_averageAsking := Or.inl ⟨rfl, ⟨⟨Try.f62, _, Try.func62, rfl, by kernel_rfl, by kernel_rfl, by kernel_rfl, by decide +kernel, by kernel_rfl⟩⟩⟩
theorem ok69 : OkF Try.prog (dcOf Try.prog) 69 Zz.F_math_bits_OnesCount64 := Or.inl ⟨rfl, ⟨⟨Try.f69, _, Try.func69, rfl, by kernel_rfl, by kernel_rfl, by kernel_rfl, by decide +kernel, by kernel_rfl⟩⟩⟩
theorem ok70 : OkF Try.prog (dcOf Try.prog) 70 Zz.F_impl_wholeOf := Or.inl ⟨rfl, ⟨⟨Try.f70, _, Try.func70, rfl, by kernel_rfl, by kernel_rfl, by kernel_rfl, by decide +kernel, by kernel_rfl⟩⟩⟩
theorem mixed : Try.prog.follows .mixedOrders = true := by kernel_rfl
theorem okAll : ∀ f F, Zz.lf f = some F → OkF Try.prog (dcOf Try.prog) f F := by
  intro f F h
  unfold Zz.lf at h
  split at h
  · injection h with h; subst h; exact ok3
  · injection h with h; subst h; exact ok4
  · injection h with h; subst h; exact ok5
  · injection h with h; subst h; exact ok8
  · injection h with h; subst h; exact ok9
  · injection h with h; subst h; exact ok10
  · injection h with h; subst h; exact ok11
  · injection h with h; subst h; exact ok12
  · injection h with h; subst h; exact ok13
  · injection h with h; subst h; exact ok14
  · injection h with h; subst h; exact ok15
  · injection h with h; subst h; exact ok16
  · injection h with h; subst h; exact ok30
  · injection h with h; subst h; exact ok31
  · injection h with h; subst h; exact ok32
  · injection h with h; subst h; exact ok33
  · injection h with h; subst h; exact ok34
  · injection h with h; subst h; exact ok35
  · injection h with h; subst h; exact ok36
  · injection h with h; subst h; exact ok37
  · injection h with h; subst h; exact ok38
  · injection h with h; subst h; exact ok39
  · injection h with h; subst h; exact ok40
  · injection h with h; subst h; exact ok41
  · injection h with h; subst h; exact ok42
  · injection h with h; subst h; exact ok43
  · injection h with h; subst h; exact ok44
  · injection h with h; subst h; exact ok45
  · injection h with h; subst h; exact ok57
  · injection h with h; subst h; exact ok58
  · injection h with h; subst h; exact ok59
  · injection h with h; subst h; exact ok60
  · injection h with h; subst h; exact ok61
  · injection h with h; subst h; exact ok62
  · injection h with h; subst h; exact ok69
  · injection h with h; subst h; exact ok70
  · cases h
theorem said {f : Nat} {args : List DV} {r : DV × List DV} (h : call Zz.lf f args = some r) : CallSpec Try.prog f args r := call_sound okAll (draw_ok mixed) h
end Go.Proofs.Ytahkmbihhkjebaa.oks
