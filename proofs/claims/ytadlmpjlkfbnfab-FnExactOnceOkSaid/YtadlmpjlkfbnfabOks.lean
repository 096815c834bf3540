/- That the data is what the program says, function by function. No conditions. -/
import Derived.Test.YtadlmpjlkfbnfabIr
import Derived.Test.YtadlmpjlkfbnfabLg30
import Derived.Test.YtadlmpjlkfbnfabRows
namespace Go.Proofs.Ytadlmpjlkfbnfab.oks
open Go.Lg
theorem ok3 : OkF Try.prog (dcOf Try.prog) 3 Zz.F_laws_FnExactWeightOf := ⟨⟨Try.f3, _, Try.func3, rfl, by kernel_rfl, by kernel_rfl, by kernel_rfl, by decide +kernel, by kernel_rfl⟩⟩
theorem ok5 : OkF Try.prog (dcOf Try.prog) 5 Zz.F_laws_FnExactKnownOk := ⟨⟨Try.f5, _, Try.func5, rfl, by kernel_rfl, by kernel_rfl, by kernel_rfl, by decide +kernel, by kernel_rfl⟩⟩
theorem ok6 : OkF Try.prog (dcOf Try.prog) 6 Zz.F_laws_FnExactAgreesOk := ⟨⟨Try.f6, _, Try.func6, rfl, by kernel_rfl, by kernel_rfl, by kernel_rfl, by decide +kernel, by kernel_rfl⟩⟩
theorem ok7 : OkF Try.prog (dcOf Try.prog) 7 Zz.F_laws_FnExactWeightWhere := ⟨⟨Try.f7, _, Try.func7, rfl, by kernel_rfl, by kernel_rfl, by kernel_rfl, by decide +kernel, by kernel_rfl⟩⟩
theorem ok8 : OkF Try.prog (dcOf Try.prog) 8 Zz.F_laws_FnExactCostOf := ⟨⟨Try.f8, _, Try.func8, rfl, by kernel_rfl, by kernel_rfl, by kernel_rfl, by decide +kernel, by kernel_rfl⟩⟩
theorem ok9 : OkF Try.prog (dcOf Try.prog) 9 Zz.F_laws_FnExactLikeliestState := ⟨⟨Try.f9, _, Try.func9, rfl, by kernel_rfl, by kernel_rfl, by kernel_rfl, by decide +kernel, by kernel_rfl⟩⟩
theorem ok10 : OkF Try.prog (dcOf Try.prog) 10 Zz.F_laws_FnExactTermOk := ⟨⟨Try.f10, _, Try.func10, rfl, by kernel_rfl, by kernel_rfl, by kernel_rfl, by decide +kernel, by kernel_rfl⟩⟩
theorem ok11 : OkF Try.prog (dcOf Try.prog) 11 Zz.F_laws_FnExactLettersOf := ⟨⟨Try.f11, _, Try.func11, rfl, by kernel_rfl, by kernel_rfl, by kernel_rfl, by decide +kernel, by kernel_rfl⟩⟩
theorem ok12 : OkF Try.prog (dcOf Try.prog) 12 Zz.F_laws_FnExactOnceOk := ⟨⟨Try.f12, _, Try.func12, rfl, by kernel_rfl, by kernel_rfl, by kernel_rfl, by decide +kernel, by kernel_rfl⟩⟩
theorem ok15 : OkF Try.prog (dcOf Try.prog) 15 Zz.F_laws_szTestS := ⟨⟨Try.f15, _, Try.func15, rfl, by kernel_rfl, by kernel_rfl, by kernel_rfl, by decide +kernel, by kernel_rfl⟩⟩
theorem ok16 : OkF Try.prog (dcOf Try.prog) 16 Zz.F_spec_WeightOf := ⟨⟨Try.f16, _, Try.func16, rfl, by kernel_rfl, by kernel_rfl, by kernel_rfl, by decide +kernel, by kernel_rfl⟩⟩
theorem ok17 : OkF Try.prog (dcOf Try.prog) 17 Zz.F_laws_toTestS := ⟨⟨Try.f17, _, Try.func17, rfl, by kernel_rfl, by kernel_rfl, by kernel_rfl, by decide +kernel, by kernel_rfl⟩⟩
theorem ok18 : OkF Try.prog (dcOf Try.prog) 18 Zz.F_impl_WeightOf := ⟨⟨Try.f18, _, Try.func18, rfl, by kernel_rfl, by kernel_rfl, by kernel_rfl, by decide +kernel, by kernel_rfl⟩⟩
theorem ok19 : OkF Try.prog (dcOf Try.prog) 19 Zz.F_laws_eqTestS := ⟨⟨Try.f19, _, Try.func19, rfl, by kernel_rfl, by kernel_rfl, by kernel_rfl, by decide +kernel, by kernel_rfl⟩⟩
theorem ok24 : OkF Try.prog (dcOf Try.prog) 24 Zz.F_spec_KnownOk := ⟨⟨Try.f24, _, Try.func24, rfl, by kernel_rfl, by kernel_rfl, by kernel_rfl, by decide +kernel, by kernel_rfl⟩⟩
theorem ok25 : OkF Try.prog (dcOf Try.prog) 25 Zz.F_laws_toIntS := ⟨⟨Try.f25, _, Try.func25, rfl, by kernel_rfl, by kernel_rfl, by kernel_rfl, by decide +kernel, by kernel_rfl⟩⟩
theorem ok26 : OkF Try.prog (dcOf Try.prog) 26 Zz.F_impl_KnownOk := ⟨⟨Try.f26, _, Try.func26, rfl, by kernel_rfl, by kernel_rfl, by kernel_rfl, by decide +kernel, by kernel_rfl⟩⟩
theorem ok27 : OkF Try.prog (dcOf Try.prog) 27 Zz.F_laws_eqIntS := ⟨⟨Try.f27, _, Try.func27, rfl, by kernel_rfl, by kernel_rfl, by kernel_rfl, by decide +kernel, by kernel_rfl⟩⟩
theorem ok28 : OkF Try.prog (dcOf Try.prog) 28 Zz.F_spec_AgreesOk := ⟨⟨Try.f28, _, Try.func28, rfl, by kernel_rfl, by kernel_rfl, by kernel_rfl, by decide +kernel, by kernel_rfl⟩⟩
theorem ok29 : OkF Try.prog (dcOf Try.prog) 29 Zz.F_impl_AgreesOk := ⟨⟨Try.f29, _, Try.func29, rfl, by kernel_rfl, by kernel_rfl, by kernel_rfl, by decide +kernel, by kernel_rfl⟩⟩
theorem ok30 : OkF Try.prog (dcOf Try.prog) 30 Zz.F_spec_WeightWhere := ⟨⟨Try.f30, _, Try.func30, rfl, by kernel_rfl, by kernel_rfl, by kernel_rfl, by decide +kernel, by kernel_rfl⟩⟩
theorem ok31 : OkF Try.prog (dcOf Try.prog) 31 Zz.F_impl_WeightWhere := ⟨⟨Try.f31, _, Try.func31, rfl, by kernel_rfl, by kernel_rfl, by kernel_rfl, by decide +kernel, by kernel_rfl⟩⟩
theorem ok32 : OkF Try.prog (dcOf Try.prog) 32 Zz.F_spec_CostOf := ⟨⟨Try.f32, _, Try.func32, rfl, by kernel_rfl, by kernel_rfl, by kernel_rfl, by decide +kernel, by kernel_rfl⟩⟩
theorem ok33 : OkF Try.prog (dcOf Try.prog) 33 Zz.F_impl_CostOf := ⟨⟨Try.f33, _, Try.func33, rfl, by kernel_rfl, by kernel_rfl, by kernel_rfl, by decide +kernel, by kernel_rfl⟩⟩
theorem ok34 : OkF Try.prog (dcOf Try.prog) 34 Zz.F_spec_LikeliestState := ⟨⟨Try.f34, _, Try.func34, rfl, by kernel_rfl, by kernel_rfl, by kernel_rfl, by decide +kernel, by kernel_rfl⟩⟩
theorem ok35 : OkF Try.prog (dcOf Try.prog) 35 Zz.F_impl_LikeliestState := ⟨⟨Try.f35, _, Try.func35, rfl, by kernel_rfl, by kernel_rfl, by kernel_rfl, by decide +kernel, by kernel_rfl⟩⟩
theorem ok36 : OkF Try.prog (dcOf Try.prog) 36 Zz.F_laws_szMarkS := ⟨⟨Try.f36, _, Try.func36, rfl, by kernel_rfl, by kernel_rfl, by kernel_rfl, by decide +kernel, by kernel_rfl⟩⟩
theorem ok37 : OkF Try.prog (dcOf Try.prog) 37 Zz.F_spec_TermOk := ⟨⟨Try.f37, _, Try.func37, rfl, by kernel_rfl, by kernel_rfl, by kernel_rfl, by decide +kernel, by kernel_rfl⟩⟩
theorem ok38 : OkF Try.prog (dcOf Try.prog) 38 Zz.F_laws_toMarkS := ⟨⟨Try.f38, _, Try.func38, rfl, by kernel_rfl, by kernel_rfl, by kernel_rfl, by decide +kernel, by kernel_rfl⟩⟩
theorem ok39 : OkF Try.prog (dcOf Try.prog) 39 Zz.F_impl_TermOk := ⟨⟨Try.f39, _, Try.func39, rfl, by kernel_rfl, by kernel_rfl, by kernel_rfl, by decide +kernel, by kernel_rfl⟩⟩
theorem ok40 : OkF Try.prog (dcOf Try.prog) 40 Zz.F_laws_eqMarkS := ⟨⟨Try.f40, _, Try.func40, rfl, by kernel_rfl, by kernel_rfl, by kernel_rfl, by decide +kernel, by kernel_rfl⟩⟩
theorem ok41 : OkF Try.prog (dcOf Try.prog) 41 Zz.F_spec_LettersOf := ⟨⟨Try.f41, _, Try.func41, rfl, by kernel_rfl, by kernel_rfl, by kernel_rfl, by decide +kernel, by kernel_rfl⟩⟩
theorem ok42 : OkF Try.prog (dcOf Try.prog) 42 Zz.F_impl_LettersOf := ⟨⟨Try.f42, _, Try.func42, rfl, by kernel_rfl, by kernel_rfl, by kernel_rfl, by decide +kernel, by kernel_rfl⟩⟩
theorem ok43 : OkF Try.prog (dcOf Try.prog) 43 Zz.F_spec_OnceOk := ⟨⟨Try.f43, _, Try.func43, rfl, by kernel_rfl, by kernel_rfl, by kernel_rfl, by decide +kernel, by kernel_rfl⟩⟩
theorem ok44 : OkF Try.prog (dcOf Try.prog) 44 Zz.F_impl_OnceOk := ⟨⟨Try.f44, _, Try.func44, rfl, by kernel_rfl, by kernel_rfl, by kernel_rfl, by decide +kernel, by kernel_rfl⟩⟩
theorem ok51 : OkF Try.prog (dcOf Try.prog) 51 Zz.F_spec_TestsOk := ⟨⟨Try.f51, _, Try.func51, rfl, by kernel_rfl, by kernel_rfl, by kernel_rfl, by decide +kernel, by kernel_rfl⟩⟩
theorem ok52 : OkF Try.prog (dcOf Try.prog) 52 Zz.F_spec_StateOk := ⟨⟨Try.f52, _, Try.func52, rfl, by kernel_rfl, by kernel_rfl, by kernel_rfl, by decide +kernel, by kernel_rfl⟩⟩
theorem ok53 : OkF Try.prog (dcOf Try.prog) 53 Zz.F_spec_l1Weight := ⟨⟨Try.f53, _, Try.func53, rfl, by kernel_rfl, by kernel_rfl, by kernel_rfl, by decide +kernel, by kernel_rfl⟩⟩
theorem ok54 : OkF Try.prog (dcOf Try.prog) 54 Zz.F_laws_toTest := ⟨⟨Try.f54, _, Try.func54, rfl, by kernel_rfl, by kernel_rfl, by kernel_rfl, by decide +kernel, by kernel_rfl⟩⟩
theorem ok55 : OkF Try.prog (dcOf Try.prog) 55 Zz.F_impl_TestsOk := ⟨⟨Try.f55, _, Try.func55, rfl, by kernel_rfl, by kernel_rfl, by kernel_rfl, by decide +kernel, by kernel_rfl⟩⟩
theorem ok56 : OkF Try.prog (dcOf Try.prog) 56 Zz.F_impl_StateOk := ⟨⟨Try.f56, _, Try.func56, rfl, by kernel_rfl, by kernel_rfl, by kernel_rfl, by decide +kernel, by kernel_rfl⟩⟩
theorem ok57 : OkF Try.prog (dcOf Try.prog) 57 Zz.F_impl_outcomeIn := ⟨⟨Try.f57, _, Try.func57, rfl, by kernel_rfl, by kernel_rfl, by kernel_rfl, by decide +kernel, by kernel_rfl⟩⟩
theorem ok58 : OkF Try.prog (dcOf Try.prog) 58 Zz.F_laws_eqTest := ⟨⟨Try.f58, _, Try.func58, rfl, by kernel_rfl, by kernel_rfl, by kernel_rfl, by decide +kernel, by kernel_rfl⟩⟩
theorem ok59 : OkF Try.prog (dcOf Try.prog) 59 Zz.F_spec_l1In := ⟨⟨Try.f59, _, Try.func59, rfl, by kernel_rfl, by kernel_rfl, by kernel_rfl, by decide +kernel, by kernel_rfl⟩⟩
theorem ok60 : OkF Try.prog (dcOf Try.prog) 60 Zz.F_impl_manyOk := ⟨⟨Try.f60, _, Try.func60, rfl, by kernel_rfl, by kernel_rfl, by kernel_rfl, by decide +kernel, by kernel_rfl⟩⟩
theorem ok61 : OkF Try.prog (dcOf Try.prog) 61 Zz.F_spec_l1Agrees := ⟨⟨Try.f61, _, Try.func61, rfl, by kernel_rfl, by kernel_rfl, by kernel_rfl, by decide +kernel, by kernel_rfl⟩⟩
theorem ok62 : OkF Try.prog (dcOf Try.prog) 62 Zz.F_impl_statesOf := ⟨⟨Try.f62, _, Try.func62, rfl, by kernel_rfl, by kernel_rfl, by kernel_rfl, by decide +kernel, by kernel_rfl⟩⟩
theorem ok63 : OkF Try.prog (dcOf Try.prog) 63 Zz.F_laws_toMark := ⟨⟨Try.f63, _, Try.func63, rfl, by kernel_rfl, by kernel_rfl, by kernel_rfl, by decide +kernel, by kernel_rfl⟩⟩
theorem ok64 : OkF Try.prog (dcOf Try.prog) 64 Zz.F_impl_isWithin := ⟨⟨Try.f64, _, Try.func64, rfl, by kernel_rfl, by kernel_rfl, by kernel_rfl, by decide +kernel, by kernel_rfl⟩⟩
theorem ok65 : OkF Try.prog (dcOf Try.prog) 65 Zz.F_impl_partsTaken := ⟨⟨Try.f65, _, Try.func65, rfl, by kernel_rfl, by kernel_rfl, by kernel_rfl, by decide +kernel, by kernel_rfl⟩⟩
theorem ok66 : OkF Try.prog (dcOf Try.prog) 66 Zz.F_impl_markOk := ⟨⟨Try.f66, _, Try.func66, rfl, by kernel_rfl, by kernel_rfl, by kernel_rfl, by decide +kernel, by kernel_rfl⟩⟩
theorem ok67 : OkF Try.prog (dcOf Try.prog) 67 Zz.F_laws_eqMark := ⟨⟨Try.f67, _, Try.func67, rfl, by kernel_rfl, by kernel_rfl, by kernel_rfl, by decide +kernel, by kernel_rfl⟩⟩
theorem mixed : Try.prog.follows .mixedOrders = true := by kernel_rfl
theorem okAll : ∀ f F, Zz.lf f = some F → OkF Try.prog (dcOf Try.prog) f F := by
  intro f F h
  unfold Zz.lf at h
  split at h
  · injection h with h; subst h; exact ok3
  · injection h with h; subst h; exact ok5
  · injection h with h; subst h; exact ok6
  · injection h with h; subst h; exact ok7
  · injection h with h; subst h; exact ok8
  · injection h with h; subst h; exact ok9
  · injection h with h; subst h; exact ok10
  · injection h with h; subst h; exact ok11
  · injection h with h; subst h; exact ok12
  · injection h with h; subst h; exact ok15
  · injection h with h; subst h; exact ok16
  · injection h with h; subst h; exact ok17
  · injection h with h; subst h; exact ok18
  · injection h with h; subst h; exact ok19
  · injection h with h; subst h; exact ok24
  · injection h with h; subst h; exact ok25
  · injection h with h; subst h; exact ok26
  · injection h with h; subst h; exact ok27
  · injection h with h; subst h; exact ok28
  · injection h with h; subst h; exact ok29
  · injection h with h; subst h; exact ok30
  · injection h with h; subst h; exact ok31
  · injection h with h; subst h; exact ok32
  · injection h with h; subst h; exact ok33
  · injection h with h; subst h; exact ok34
  · injection h with h; subst h; exact ok35
  · injection h with h; subst h; exact ok36
  · injection h with h; subst h; exact ok37
  · injection h with h; subst h; exact ok38
  · injection h with h; subst h; exact ok39
  · injection h with h; subst h; exact ok40
  · injection h with h; subst h; exact ok41
  · injection h with h; subst h; exact ok42
  · injection h with h; subst h; exact ok43
  · injection h with h; subst h; exact ok44
  · injection h with h; subst h; exact ok51
  · injection h with h; subst h; exact ok52
  · injection h with h; subst h; exact ok53
  · injection h with h; subst h; exact ok54
  · injection h with h; subst h; exact ok55
  · injection h with h; subst h; exact ok56
  · injection h with h; subst h; exact ok57
  · injection h with h; subst h; exact ok58
  · injection h with h; subst h; exact ok59
  · injection h with h; subst h; exact ok60
  · injection h with h; subst h; exact ok61
  · injection h with h; subst h; exact ok62
  · injection h with h; subst h; exact ok63
  · injection h with h; subst h; exact ok64
  · injection h with h; subst h; exact ok65
  · injection h with h; subst h; exact ok66
  · injection h with h; subst h; exact ok67
  · cases h
theorem said {f : Nat} {args : List DV} {r : DV × List DV} (h : call Zz.lf f args = some r) : CallSpec Try.prog f args r := call_sound okAll (draw_ok mixed) h
end Go.Proofs.Ytadlmpjlkfbnfab.oks
