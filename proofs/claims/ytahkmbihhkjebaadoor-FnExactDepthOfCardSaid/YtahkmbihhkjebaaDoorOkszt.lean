/- That the data is what the program says, function by function. No conditions. -/
import Derived.Test.YtahkmbihhkjebaaDoorIrzt
import Derived.Test.YtahkmbihhkjebaaDoorLgD
import Derived.Test.YtahkmbihhkjebaaDoorRows
set_option linter.unusedSectionVars false
set_option linter.unusedVariables false
set_option linter.unusedSimpArgs false
namespace Go.Proofs.YtahkmbihhkjebaaDoor.oks
open Go.Lg Zz
theorem ok6 : OkF Tryd.prog (dcOf Tryd.prog) 6 Zz.F_laws_FnExactBestAverage := Or.inl ⟨rfl, ⟨⟨Tryd.f6, _, Tryd.func6, rfl, by kernel_rfl, by kernel_rfl, by kernel_rfl, by decide +kernel, by kernel_rfl⟩⟩⟩
theorem ok8 : OkF Tryd.prog (dcOf Tryd.prog) 8 Zz.F_laws_FnExactDepthOf := Or.inl ⟨rfl, ⟨⟨Tryd.f8, _, Tryd.func8, rfl, by kernel_rfl, by kernel_rfl, by kernel_rfl, by decide +kernel, by kernel_rfl⟩⟩⟩
theorem ok10 : OkF Tryd.prog (dcOf Tryd.prog) 10 Zz.F_laws_szTestS := Or.inl ⟨rfl, ⟨⟨Tryd.f10, _, Tryd.func10, rfl, by kernel_rfl, by kernel_rfl, by kernel_rfl, by decide +kernel, by kernel_rfl⟩⟩⟩
theorem ok12 : OkF Tryd.prog (dcOf Tryd.prog) 12 Zz.F_laws_toTestS := Or.inl ⟨rfl, ⟨⟨Tryd.f12, _, Tryd.func12, rfl, by kernel_rfl, by kernel_rfl, by kernel_rfl, by decide +kernel, by kernel_rfl⟩⟩⟩
theorem ok14 : OkF Tryd.prog (dcOf Tryd.prog) 14 Zz.F_laws_eqTestS := Or.inl ⟨rfl, ⟨⟨Tryd.f14, _, Tryd.func14, rfl, by kernel_rfl, by kernel_rfl, by kernel_rfl, by decide +kernel, by kernel_rfl⟩⟩⟩
theorem ok21 : OkF Tryd.prog (dcOf Tryd.prog) 21 Zz.F_laws_eqChoiceS := Or.inl ⟨rfl, ⟨⟨Tryd.f21, _, Tryd.func21, rfl, by kernel_rfl, by kernel_rfl, by kernel_rfl, by decide +kernel, by kernel_rfl⟩⟩⟩
theorem ok27 : OkF Tryd.prog (dcOf Tryd.prog) 27 Zz.F_laws_szMarkS := Or.inl ⟨rfl, ⟨⟨Tryd.f27, _, Tryd.func27, rfl, by kernel_rfl, by kernel_rfl, by kernel_rfl, by decide +kernel, by kernel_rfl⟩⟩⟩
theorem ok28 : OkF Tryd.prog (dcOf Tryd.prog) 28 Zz.F_spec_BestAverage := Or.inl ⟨rfl, ⟨⟨Tryd.f28, _, Tryd.func28, rfl, by kernel_rfl, by kernel_rfl, by kernel_rfl, by decide +kernel, by kernel_rfl⟩⟩⟩
theorem ok29 : OkF Tryd.prog (dcOf Tryd.prog) 29 Zz.F_laws_toMarkS := Or.inl ⟨rfl, ⟨⟨Tryd.f29, _, Tryd.func29, rfl, by kernel_rfl, by kernel_rfl, by kernel_rfl, by decide +kernel, by kernel_rfl⟩⟩⟩
theorem ok30 : OkF Tryd.prog (dcOf Tryd.prog) 30 Zz.F_impl_BestAverage := Or.inl ⟨rfl, ⟨⟨Tryd.f30, _, Tryd.func30, rfl, by kernel_rfl, by kernel_rfl, by kernel_rfl, by decide +kernel, by kernel_rfl⟩⟩⟩
theorem ok31 : OkF Tryd.prog (dcOf Tryd.prog) 31 Zz.F_laws_eqMarkS := Or.inl ⟨rfl, ⟨⟨Tryd.f31, _, Tryd.func31, rfl, by kernel_rfl, by kernel_rfl, by kernel_rfl, by decide +kernel, by kernel_rfl⟩⟩⟩
theorem ok35 : OkF Tryd.prog (dcOf Tryd.prog) 35 Zz.F_laws_szChoiceS := Or.inl ⟨rfl, ⟨⟨Tryd.f35, _, Tryd.func35, rfl, by kernel_rfl, by kernel_rfl, by kernel_rfl, by decide +kernel, by kernel_rfl⟩⟩⟩
theorem ok36 : OkF Tryd.prog (dcOf Tryd.prog) 36 Zz.F_spec_DepthOf := Or.inl ⟨rfl, ⟨⟨Tryd.f36, _, Tryd.func36, rfl, by kernel_rfl, by kernel_rfl, by kernel_rfl, by decide +kernel, by kernel_rfl⟩⟩⟩
theorem ok37 : OkF Tryd.prog (dcOf Tryd.prog) 37 Zz.F_laws_toChoiceS := Or.inl ⟨rfl, ⟨⟨Tryd.f37, _, Tryd.func37, rfl, by kernel_rfl, by kernel_rfl, by kernel_rfl, by decide +kernel, by kernel_rfl⟩⟩⟩
theorem ok38 : OkF Tryd.prog (dcOf Tryd.prog) 38 Zz.F_impl_DepthOf := Or.inl ⟨rfl, ⟨⟨Tryd.f38, _, Tryd.func38, rfl, by kernel_rfl, by kernel_rfl, by kernel_rfl, by decide +kernel, by kernel_rfl⟩⟩⟩
theorem ok44 : OkF Tryd.prog (dcOf Tryd.prog) 44 Zz.F_spec_TestsOk := Or.inl ⟨rfl, ⟨⟨Tryd.f44, _, Tryd.func44, rfl, by kernel_rfl, by kernel_rfl, by kernel_rfl, by decide +kernel, by kernel_rfl⟩⟩⟩
theorem ok46 : OkF Tryd.prog (dcOf Tryd.prog) 46 Zz.F_spec_l1In := Or.inl ⟨rfl, ⟨⟨Tryd.f46, _, Tryd.func46, rfl, by kernel_rfl, by kernel_rfl, by kernel_rfl, by decide +kernel, by kernel_rfl⟩⟩⟩
theorem ok49 : OkF Tryd.prog (dcOf Tryd.prog) 49 Zz.F_laws_toTest := Or.inl ⟨rfl, ⟨⟨Tryd.f49, _, Tryd.func49, rfl, by kernel_rfl, by kernel_rfl, by kernel_rfl, by decide +kernel, by kernel_rfl⟩⟩⟩
theorem ok50 : OkF Tryd.prog (dcOf Tryd.prog) 50 Zz.F_impl_TestsOk := Or.inl ⟨rfl, ⟨⟨Tryd.f50, _, Tryd.func50, rfl, by kernel_rfl, by kernel_rfl, by kernel_rfl, by decide +kernel, by kernel_rfl⟩⟩⟩
theorem ok52 : OkF Tryd.prog (dcOf Tryd.prog) 52 Zz.F_impl_isWithin := Or.inl ⟨rfl, ⟨⟨Tryd.f52, _, Tryd.func52, rfl, by kernel_rfl, by kernel_rfl, by kernel_rfl, by decide +kernel, by kernel_rfl⟩⟩⟩
theorem ok53 : OkF Tryd.prog (dcOf Tryd.prog) 53 Zz.F_impl_sizeOf := Or.inl ⟨rfl, ⟨⟨Tryd.f53, _, Tryd.func53, rfl, by kernel_rfl, by kernel_rfl, by kernel_rfl, by decide +kernel, by kernel_rfl⟩⟩⟩
theorem ok57 : OkF Tryd.prog (dcOf Tryd.prog) 57 Zz.F_laws_eqTest := Or.inl ⟨rfl, ⟨⟨Tryd.f57, _, Tryd.func57, rfl, by kernel_rfl, by kernel_rfl, by kernel_rfl, by decide +kernel, by kernel_rfl⟩⟩⟩
theorem ok60 : OkF Tryd.prog (dcOf Tryd.prog) 60 Zz.F_spec_l1Power := Or.inl ⟨rfl, ⟨⟨Tryd.f60, _, Tryd.func60, rfl, by kernel_rfl, by kernel_rfl, by kernel_rfl, by decide +kernel, by kernel_rfl⟩⟩⟩
theorem ok70 : OkF Tryd.prog (dcOf Tryd.prog) 70 Zz.F_impl_startOf := Or.inl ⟨rfl, ⟨⟨Tryd.f70, _, Tryd.func70, rfl, by kernel_rfl, by kernel_rfl, by kernel_rfl, by decide +kernel, by kernel_rfl⟩⟩⟩
theorem ok74 : OkF Tryd.prog (dcOf Tryd.prog) 74 Zz.F_laws_eqChoice := Or.inl ⟨rfl, ⟨⟨Tryd.f74, _, Tryd.func74, rfl, by kernel_rfl, by kernel_rfl, by kernel_rfl, by decide +kernel, by kernel_rfl⟩⟩⟩
theorem ok75 : OkF Tryd.prog (dcOf Tryd.prog) 75 Zz.F_spec_TermOk := Or.inl ⟨rfl, ⟨⟨Tryd.f75, _, Tryd.func75, rfl, by kernel_rfl, by kernel_rfl, by kernel_rfl, by decide +kernel, by kernel_rfl⟩⟩⟩
theorem ok76 : OkF Tryd.prog (dcOf Tryd.prog) 76 Zz.F_spec_l6Best := Or.inl ⟨rfl, ⟨⟨Tryd.f76, _, Tryd.func76, rfl, by kernel_rfl, by kernel_rfl, by kernel_rfl, by decide +kernel, by kernel_rfl⟩⟩⟩
theorem ok77 : OkF Tryd.prog (dcOf Tryd.prog) 77 Zz.F_spec_l3Table := Or.inl ⟨rfl, ⟨⟨Tryd.f77, _, Tryd.func77, rfl, by kernel_rfl, by kernel_rfl, by kernel_rfl, by decide +kernel, by kernel_rfl⟩⟩⟩
theorem ok78 : OkF Tryd.prog (dcOf Tryd.prog) 78 Zz.F_spec_l4None := Or.inl ⟨rfl, ⟨⟨Tryd.f78, _, Tryd.func78, rfl, by kernel_rfl, by kernel_rfl, by kernel_rfl, by decide +kernel, by kernel_rfl⟩⟩⟩
theorem ok79 : OkF Tryd.prog (dcOf Tryd.prog) 79 Zz.F_laws_toMark := Or.inl ⟨rfl, ⟨⟨Tryd.f79, _, Tryd.func79, rfl, by kernel_rfl, by kernel_rfl, by kernel_rfl, by decide +kernel, by kernel_rfl⟩⟩⟩
theorem ok80 : OkF Tryd.prog (dcOf Tryd.prog) 80 Zz.F_impl_TermOk := Or.inl ⟨rfl, ⟨⟨Tryd.f80, _, Tryd.func80, rfl, by kernel_rfl, by kernel_rfl, by kernel_rfl, by decide +kernel, by kernel_rfl⟩⟩⟩
theorem ok81 : OkF Tryd.prog (dcOf Tryd.prog) 81 Zz.F_impl_leastFrom := Or.inl ⟨rfl, ⟨⟨Tryd.f81, _, Tryd.func81, rfl, by kernel_rfl, by kernel_rfl, by kernel_rfl, by decide +kernel, by kernel_rfl⟩⟩⟩
theorem ok82 : OkF Tryd.prog (dcOf Tryd.prog) 82 Zz.F_impl_averagesOf := Or.inl ⟨rfl, ⟨⟨Tryd.f82, _, Tryd.func82, rfl, by kernel_rfl, by kernel_rfl, by kernel_rfl, by decide +kernel, by kernel_rfl⟩⟩⟩
theorem ok83 : OkF Tryd.prog (dcOf Tryd.prog) 83 Zz.F_laws_eqMark := Or.inl ⟨rfl, ⟨⟨Tryd.f83, _, Tryd.func83, rfl, by kernel_rfl, by kernel_rfl, by kernel_rfl, by decide +kernel, by kernel_rfl⟩⟩⟩
theorem ok86 : OkF Tryd.prog (dcOf Tryd.prog) 86 Zz.F_spec_PlanOk := Or.inl ⟨rfl, ⟨⟨Tryd.f86, _, Tryd.func86, rfl, by kernel_rfl, by kernel_rfl, by kernel_rfl, by decide +kernel, by kernel_rfl⟩⟩⟩
theorem ok87 : OkF Tryd.prog (dcOf Tryd.prog) 87 Zz.F_laws_toChoice := Or.inl ⟨rfl, ⟨⟨Tryd.f87, _, Tryd.func87, rfl, by kernel_rfl, by kernel_rfl, by kernel_rfl, by decide +kernel, by kernel_rfl⟩⟩⟩
theorem ok88 : OkF Tryd.prog (dcOf Tryd.prog) 88 Zz.F_impl_pointsOf := Or.inl ⟨rfl, ⟨⟨Tryd.f88, _, Tryd.func88, rfl, by kernel_rfl, by kernel_rfl, by kernel_rfl, by decide +kernel, by kernel_rfl⟩⟩⟩
theorem ok89 : OkF Tryd.prog (dcOf Tryd.prog) 89 Zz.F_impl_point_howManyAsked := Or.inl ⟨rfl, ⟨⟨Tryd.f89, _, Tryd.func89, rfl, by kernel_rfl, by kernel_rfl, by kernel_rfl, by decide +kernel, by kernel_rfl⟩⟩⟩
theorem ok95 : OkF Tryd.prog (dcOf Tryd.prog) 95 Zz.F_impl_manyOk := Or.inl ⟨rfl, ⟨⟨Tryd.f95, _, Tryd.func95, rfl, by kernel_rfl, by kernel_rfl, by kernel_rfl, by decide +kernel, by kernel_rfl⟩⟩⟩
theorem ok97 : OkF Tryd.prog (dcOf Tryd.prog) 97 Zz.F_math_bits_OnesCount := Or.inl ⟨rfl, ⟨⟨Tryd.f97, _, Tryd.func97, rfl, by kernel_rfl, by kernel_rfl, by kernel_rfl, by decide +kernel, by kernel_rfl⟩⟩⟩
theorem ok98 : OkF Tryd.prog (dcOf Tryd.prog) 98 Zz.F_impl_hasTest := Or.inl ⟨rfl, ⟨⟨Tryd.f98, _, Tryd.func98, rfl, by kernel_rfl, by kernel_rfl, by kernel_rfl, by decide +kernel, by kernel_rfl⟩⟩⟩
theorem ok106 : OkF Tryd.prog (dcOf Tryd.prog) 106 Zz.F_impl_averageAsking := Or.inl ⟨rfl, ⟨⟨Tryd.f106, _, Tryd.func106, rfl, by kernel_rfl, by kernel_rfl, by kernel_rfl, by decide +kernel, by kernel_rfl⟩⟩⟩
theorem ok114 : OkF Tryd.prog (dcOf Tryd.prog) 114 Zz.F_impl_point_isForced := Or.inl ⟨rfl, ⟨⟨Tryd.f114, _, Tryd.func114, rfl, by kernel_rfl, by kernel_rfl, by kernel_rfl, by decide +kernel, by kernel_rfl⟩⟩⟩
theorem ok115 : OkF Tryd.prog (dcOf Tryd.prog) 115 Zz.F_impl_point_answered := Or.inl ⟨rfl, ⟨⟨Tryd.f115, _, Tryd.func115, rfl, by kernel_rfl, by kernel_rfl, by kernel_rfl, by decide +kernel, by kernel_rfl⟩⟩⟩
theorem ok117 : OkF Tryd.prog (dcOf Tryd.prog) 117 Zz.F_impl_trueStates := Or.inl ⟨rfl, ⟨⟨Tryd.f117, _, Tryd.func117, rfl, by kernel_rfl, by kernel_rfl, by kernel_rfl, by decide +kernel, by kernel_rfl⟩⟩⟩
theorem ok120 : OkF Tryd.prog (dcOf Tryd.prog) 120 Zz.F_impl_valueAmong := Or.inl ⟨rfl, ⟨⟨Tryd.f120, _, Tryd.func120, rfl, by kernel_rfl, by kernel_rfl, by kernel_rfl, by decide +kernel, by kernel_rfl⟩⟩⟩
theorem ok123 : OkF Tryd.prog (dcOf Tryd.prog) 123 Zz.F_impl_point_canAsk := Or.inl ⟨rfl, ⟨⟨Tryd.f123, _, Tryd.func123, rfl, by kernel_rfl, by kernel_rfl, by kernel_rfl, by decide +kernel, by kernel_rfl⟩⟩⟩
theorem ok124 : OkF Tryd.prog (dcOf Tryd.prog) 124 Zz.F_spec_l3Forced := Or.inl ⟨rfl, ⟨⟨Tryd.f124, _, Tryd.func124, rfl, by kernel_rfl, by kernel_rfl, by kernel_rfl, by decide +kernel, by kernel_rfl⟩⟩⟩
theorem ok125 : OkF Tryd.prog (dcOf Tryd.prog) 125 Zz.F_spec_l3Value := Or.inl ⟨rfl, ⟨⟨Tryd.f125, _, Tryd.func125, rfl, by kernel_rfl, by kernel_rfl, by kernel_rfl, by decide +kernel, by kernel_rfl⟩⟩⟩
theorem ok126 : OkF Tryd.prog (dcOf Tryd.prog) 126 Zz.F_impl_partsTaken := Or.inl ⟨rfl, ⟨⟨Tryd.f126, _, Tryd.func126, rfl, by kernel_rfl, by kernel_rfl, by kernel_rfl, by decide +kernel, by kernel_rfl⟩⟩⟩
theorem ok127 : OkF Tryd.prog (dcOf Tryd.prog) 127 Zz.F_impl_markOk := Or.inl ⟨rfl, ⟨⟨Tryd.f127, _, Tryd.func127, rfl, by kernel_rfl, by kernel_rfl, by kernel_rfl, by decide +kernel, by kernel_rfl⟩⟩⟩
theorem ok128 : OkF Tryd.prog (dcOf Tryd.prog) 128 Zz.F_impl_averagesOf_1 := Or.inl ⟨rfl, ⟨⟨Tryd.f128, _, Tryd.func128, rfl, by kernel_rfl, by kernel_rfl, by kernel_rfl, by decide +kernel, by kernel_rfl⟩⟩⟩
theorem ok129 : OkF Tryd.prog (dcOf Tryd.prog) 129 Zz.F_spec_l6Checks := Or.inl ⟨rfl, ⟨⟨Tryd.f129, _, Tryd.func129, rfl, by kernel_rfl, by kernel_rfl, by kernel_rfl, by decide +kernel, by kernel_rfl⟩⟩⟩
theorem ok130 : OkF Tryd.prog (dcOf Tryd.prog) 130 Zz.F_spec_l6Once := Or.inl ⟨rfl, ⟨⟨Tryd.f130, _, Tryd.func130, rfl, by kernel_rfl, by kernel_rfl, by kernel_rfl, by decide +kernel, by kernel_rfl⟩⟩⟩
theorem ok131 : OkF Tryd.prog (dcOf Tryd.prog) 131 Zz.F_impl_comesTo := Or.inl ⟨rfl, ⟨⟨Tryd.f131, _, Tryd.func131, rfl, by kernel_rfl, by kernel_rfl, by kernel_rfl, by decide +kernel, by kernel_rfl⟩⟩⟩
theorem ok132 : OkF Tryd.prog (dcOf Tryd.prog) 132 Zz.F_impl_firstOf := Or.inl ⟨rfl, ⟨⟨Tryd.f132, _, Tryd.func132, rfl, by kernel_rfl, by kernel_rfl, by kernel_rfl, by decide +kernel, by kernel_rfl⟩⟩⟩
theorem ok135 : OkF Tryd.prog (dcOf Tryd.prog) 135 Zz.F_math_bits_OnesCount64 := Or.inl ⟨rfl, ⟨⟨Tryd.f135, _, Tryd.func135, rfl, by kernel_rfl, by kernel_rfl, by kernel_rfl, by decide +kernel, by kernel_rfl⟩⟩⟩
theorem ok138 : OkF Tryd.prog (dcOf Tryd.prog) 138 Zz.F_impl_wholeOf := Or.inl ⟨rfl, ⟨⟨Tryd.f138, _, Tryd.func138, rfl, by kernel_rfl, by kernel_rfl, by kernel_rfl, by decide +kernel, by kernel_rfl⟩⟩⟩
theorem ok143 : OkF Tryd.prog (dcOf Tryd.prog) 143 Zz.F_impl_statesSaying := Or.inl ⟨rfl, ⟨⟨Tryd.f143, _, Tryd.func143, rfl, by kernel_rfl, by kernel_rfl, by kernel_rfl, by decide +kernel, by kernel_rfl⟩⟩⟩
theorem ok145 : OkF Tryd.prog (dcOf Tryd.prog) 145 Zz.F_impl_foldTerm_uint32 := Or.inl ⟨rfl, ⟨⟨Tryd.f145, _, Tryd.func145, rfl, by kernel_rfl, by kernel_rfl, by kernel_rfl, by decide +kernel, by kernel_rfl⟩⟩⟩
theorem ok146 : OkF Tryd.prog (dcOf Tryd.prog) 146 Zz.F_impl_statesOfPart := Or.inl ⟨rfl, ⟨⟨Tryd.f146, _, Tryd.func146, rfl, by kernel_rfl, by kernel_rfl, by kernel_rfl, by decide +kernel, by kernel_rfl⟩⟩⟩
theorem ok147 : OkF Tryd.prog (dcOf Tryd.prog) 147 Zz.F_spec_l1Agrees := Or.inl ⟨rfl, ⟨⟨Tryd.f147, _, Tryd.func147, rfl, by kernel_rfl, by kernel_rfl, by kernel_rfl, by decide +kernel, by kernel_rfl⟩⟩⟩
theorem ok148 : OkF Tryd.prog (dcOf Tryd.prog) 148 Zz.F_spec_l2Starts := Or.inl ⟨rfl, ⟨⟨Tryd.f148, _, Tryd.func148, rfl, by kernel_rfl, by kernel_rfl, by kernel_rfl, by decide +kernel, by kernel_rfl⟩⟩⟩
theorem mixed : Tryd.prog.follows .mixedOrders = true := by kernel_rfl
theorem okAll : ∀ f F, Zz.lf f = some F → OkF Tryd.prog (dcOf Tryd.prog) f F := by
  intro f F h
  unfold Zz.lf at h
  split at h
  · injection h with h; subst h; exact ok6
  · injection h with h; subst h; exact ok8
  · injection h with h; subst h; exact ok10
  · injection h with h; subst h; exact ok12
  · injection h with h; subst h; exact ok14
  · injection h with h; subst h; exact ok21
  · injection h with h; subst h; exact ok27
  · injection h with h; subst h; exact ok28
  · injection h with h; subst h; exact ok29
  · injection h with h; subst h; exact ok30
  · injection h with h; subst h; exact ok31
  · injection h with h; subst h; exact ok35
  · injection h with h; subst h; exact ok36
  · injection h with h; subst h; exact ok37
  · injection h with h; subst h; exact ok38
  · injection h with h; subst h; exact ok44
  · injection h with h; subst h; exact ok46
  · injection h with h; subst h; exact ok49
  · injection h with h; subst h; exact ok50
  · injection h with h; subst h; exact ok52
  · injection h with h; subst h; exact ok53
  · injection h with h; subst h; exact ok57
  · injection h with h; subst h; exact ok60
  · injection h with h; subst h; exact ok70
  · injection h with h; subst h; exact ok74
  · injection h with h; subst h; exact ok75
  · injection h with h; subst h; exact ok76
  · injection h with h; subst h; exact ok77
  · injection h with h; subst h; exact ok78
  · injection h with h; subst h; exact ok79
  · injection h with h; subst h; exact ok80
  · injection h with h; subst h; exact ok81
  · injection h with h; subst h; exact ok82
  · injection h with h; subst h; exact ok83
  · injection h with h; subst h; exact ok86
  · injection h with h; subst h; exact ok87
  · injection h with h; subst h; exact ok88
  · injection h with h; subst h; exact ok89
  · injection h with h; subst h; exact ok95
  · injection h with h; subst h; exact ok97
  · injection h with h; subst h; exact ok98
  · injection h with h; subst h; exact ok106
  · injection h with h; subst h; exact ok114
  · injection h with h; subst h; exact ok115
  · injection h with h; subst h; exact ok117
  · injection h with h; subst h; exact ok120
  · injection h with h; subst h; exact ok123
  · injection h with h; subst h; exact ok124
  · injection h with h; subst h; exact ok125
  · injection h with h; subst h; exact ok126
  · injection h with h; subst h; exact ok127
  · injection h with h; subst h; exact ok128
  · injection h with h; subst h; exact ok129
  · injection h with h; subst h; exact ok130
  · injection h with h; subst h; exact ok131
  · injection h with h; subst h; exact ok132
  · injection h with h; subst h; exact ok135
  · injection h with h; subst h; exact ok138
  · injection h with h; subst h; exact ok143
  · injection h with h; subst h; exact ok145
  · injection h with h; subst h; exact ok146
  · injection h with h; subst h; exact ok147
  · injection h with h; subst h; exact ok148
  · cases h
theorem said {f : Nat} {args : List DV} {r : DV × List DV} (h : call Zz.lf f args = some r) : CallSpec Tryd.prog f args r := call_sound okAll (draw_ok mixed) h
end Go.Proofs.YtahkmbihhkjebaaDoor.oks
