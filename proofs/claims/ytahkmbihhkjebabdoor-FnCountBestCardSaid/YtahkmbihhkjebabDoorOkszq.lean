/- That the data is what the program says, function by function. No conditions. -/
import Derived.Test.YtahkmbihhkjebabDoorIrzq
import Derived.Test.YtahkmbihhkjebabDoorLgD
import Derived.Test.YtahkmbihhkjebabDoorRows
set_option linter.unusedSectionVars false
set_option linter.unusedVariables false
set_option linter.unusedSimpArgs false
namespace Go.Proofs.YtahkmbihhkjebabDoor.oks
open Go.Lg Zz
theorem ok5 : OkF Tryd.prog (dcOf Tryd.prog) 5 Zz.F_laws_FnCountBest := Or.inl ⟨rfl, ⟨⟨Tryd.f5, _, Tryd.func5, rfl, by kernel_rfl, by kernel_rfl, by kernel_rfl, by decide +kernel, by kernel_rfl⟩⟩⟩
theorem ok6 : OkF Tryd.prog (dcOf Tryd.prog) 6 Zz.F_laws_FnTwoOfThree := Or.inl ⟨rfl, ⟨⟨Tryd.f6, _, Tryd.func6, rfl, by kernel_rfl, by kernel_rfl, by kernel_rfl, by decide +kernel, by kernel_rfl⟩⟩⟩
theorem ok15 : OkF Tryd.prog (dcOf Tryd.prog) 15 Zz.F_laws_alive := Or.inl ⟨rfl, ⟨⟨Tryd.f15, _, Tryd.func15, rfl, by kernel_rfl, by kernel_rfl, by kernel_rfl, by decide +kernel, by kernel_rfl⟩⟩⟩
theorem ok16 : OkF Tryd.prog (dcOf Tryd.prog) 16 Zz.F_impl_OtherTests := Or.inl ⟨rfl, ⟨⟨Tryd.f16, _, Tryd.func16, rfl, by kernel_rfl, by kernel_rfl, by kernel_rfl, by decide +kernel, by kernel_rfl⟩⟩⟩
theorem ok22 : OkF Tryd.prog (dcOf Tryd.prog) 22 Zz.F_impl_CountBest := Or.inl ⟨rfl, ⟨⟨Tryd.f22, _, Tryd.func22, rfl, by kernel_rfl, by kernel_rfl, by kernel_rfl, by decide +kernel, by kernel_rfl⟩⟩⟩
theorem ok23 : OkF Tryd.prog (dcOf Tryd.prog) 23 Zz.F_spec_DrawCountBest := Or.inl ⟨rfl, ⟨⟨Tryd.f23, _, Tryd.func23, rfl, by kernel_rfl, by kernel_rfl, by kernel_rfl, by decide +kernel, by kernel_rfl⟩⟩⟩
theorem ok24 : OkF Tryd.prog (dcOf Tryd.prog) 24 Zz.F_spec_CountBest := Or.inl ⟨rfl, ⟨⟨Tryd.f24, _, Tryd.func24, rfl, by kernel_rfl, by kernel_rfl, by kernel_rfl, by decide +kernel, by kernel_rfl⟩⟩⟩
theorem ok25 : OkF Tryd.prog (dcOf Tryd.prog) 25 Zz.F_impl_BestAverage := Or.inl ⟨rfl, ⟨⟨Tryd.f25, _, Tryd.func25, rfl, by kernel_rfl, by kernel_rfl, by kernel_rfl, by decide +kernel, by kernel_rfl⟩⟩⟩
theorem ok26 : OkF Tryd.prog (dcOf Tryd.prog) 26 Zz.F_impl_RowTerm := Or.inl ⟨rfl, ⟨⟨Tryd.f26, _, Tryd.func26, rfl, by kernel_rfl, by kernel_rfl, by kernel_rfl, by decide +kernel, by kernel_rfl⟩⟩⟩
theorem ok27 : OkF Tryd.prog (dcOf Tryd.prog) 27 Zz.F_laws_power := Or.inl ⟨rfl, ⟨⟨Tryd.f27, _, Tryd.func27, rfl, by kernel_rfl, by kernel_rfl, by kernel_rfl, by decide +kernel, by kernel_rfl⟩⟩⟩
theorem ok28 : OkF Tryd.prog (dcOf Tryd.prog) 28 Zz.F_impl_CostOf := Or.inl ⟨rfl, ⟨⟨Tryd.f28, _, Tryd.func28, rfl, by kernel_rfl, by kernel_rfl, by kernel_rfl, by decide +kernel, by kernel_rfl⟩⟩⟩
theorem ok29 : OkF Tryd.prog (dcOf Tryd.prog) 29 Zz.F_spec_TestsOk := Or.inl ⟨rfl, ⟨⟨Tryd.f29, _, Tryd.func29, rfl, by kernel_rfl, by kernel_rfl, by kernel_rfl, by decide +kernel, by kernel_rfl⟩⟩⟩
theorem ok30 : OkF Tryd.prog (dcOf Tryd.prog) 30 Zz.F_impl_ReadTerm := Or.inl ⟨rfl, ⟨⟨Tryd.f30, _, Tryd.func30, rfl, by kernel_rfl, by kernel_rfl, by kernel_rfl, by decide +kernel, by kernel_rfl⟩⟩⟩
theorem ok31 : OkF Tryd.prog (dcOf Tryd.prog) 31 Zz.F_impl_TrueWeight := Or.inl ⟨rfl, ⟨⟨Tryd.f31, _, Tryd.func31, rfl, by kernel_rfl, by kernel_rfl, by kernel_rfl, by decide +kernel, by kernel_rfl⟩⟩⟩
theorem ok32 : OkF Tryd.prog (dcOf Tryd.prog) 32 Zz.F_impl_CountWeight := Or.inl ⟨rfl, ⟨⟨Tryd.f32, _, Tryd.func32, rfl, by kernel_rfl, by kernel_rfl, by kernel_rfl, by decide +kernel, by kernel_rfl⟩⟩⟩
theorem ok47 : OkF Tryd.prog (dcOf Tryd.prog) 47 Zz.F_spec_l20Open := Or.inl ⟨rfl, ⟨⟨Tryd.f47, _, Tryd.func47, rfl, by kernel_rfl, by kernel_rfl, by kernel_rfl, by decide +kernel, by kernel_rfl⟩⟩⟩
theorem ok48 : OkF Tryd.prog (dcOf Tryd.prog) 48 Zz.F_spec_l20Tests := Or.inl ⟨rfl, ⟨⟨Tryd.f48, _, Tryd.func48, rfl, by kernel_rfl, by kernel_rfl, by kernel_rfl, by decide +kernel, by kernel_rfl⟩⟩⟩
theorem ok49 : OkF Tryd.prog (dcOf Tryd.prog) 49 Zz.F_spec_l20Rd_pick := Or.inl ⟨rfl, ⟨⟨Tryd.f49, _, Tryd.func49, rfl, by kernel_rfl, by kernel_rfl, by kernel_rfl, by decide +kernel, by kernel_rfl⟩⟩⟩
theorem ok50 : OkF Tryd.prog (dcOf Tryd.prog) 50 Zz.F_spec_l8Heads := Or.inl ⟨rfl, ⟨⟨Tryd.f50, _, Tryd.func50, rfl, by kernel_rfl, by kernel_rfl, by kernel_rfl, by decide +kernel, by kernel_rfl⟩⟩⟩
theorem ok51 : OkF Tryd.prog (dcOf Tryd.prog) 51 Zz.F_impl_TestsOk := Or.inl ⟨rfl, ⟨⟨Tryd.f51, _, Tryd.func51, rfl, by kernel_rfl, by kernel_rfl, by kernel_rfl, by decide +kernel, by kernel_rfl⟩⟩⟩
theorem ok52 : OkF Tryd.prog (dcOf Tryd.prog) 52 Zz.F_impl_StateOk := Or.inl ⟨rfl, ⟨⟨Tryd.f52, _, Tryd.func52, rfl, by kernel_rfl, by kernel_rfl, by kernel_rfl, by decide +kernel, by kernel_rfl⟩⟩⟩
theorem ok53 : OkF Tryd.prog (dcOf Tryd.prog) 53 Zz.F_impl_isWithin := Or.inl ⟨rfl, ⟨⟨Tryd.f53, _, Tryd.func53, rfl, by kernel_rfl, by kernel_rfl, by kernel_rfl, by decide +kernel, by kernel_rfl⟩⟩⟩
theorem ok54 : OkF Tryd.prog (dcOf Tryd.prog) 54 Zz.F_impl_sizeOf := Or.inl ⟨rfl, ⟨⟨Tryd.f54, _, Tryd.func54, rfl, by kernel_rfl, by kernel_rfl, by kernel_rfl, by decide +kernel, by kernel_rfl⟩⟩⟩
theorem ok58 : OkF Tryd.prog (dcOf Tryd.prog) 58 Zz.F_spec_l1In := Or.inl ⟨rfl, ⟨⟨Tryd.f58, _, Tryd.func58, rfl, by kernel_rfl, by kernel_rfl, by kernel_rfl, by decide +kernel, by kernel_rfl⟩⟩⟩
theorem ok60 : OkF Tryd.prog (dcOf Tryd.prog) 60 Zz.F_spec_l20Count := Or.inl ⟨rfl, ⟨⟨Tryd.f60, _, Tryd.func60, rfl, by kernel_rfl, by kernel_rfl, by kernel_rfl, by decide +kernel, by kernel_rfl⟩⟩⟩
theorem ok61 : OkF Tryd.prog (dcOf Tryd.prog) 61 Zz.F_impl_CountOk := Or.inl ⟨rfl, ⟨⟨Tryd.f61, _, Tryd.func61, rfl, by kernel_rfl, by kernel_rfl, by kernel_rfl, by decide +kernel, by kernel_rfl⟩⟩⟩
theorem ok62 : OkF Tryd.prog (dcOf Tryd.prog) 62 Zz.F_impl_leastToCount := Or.inl ⟨rfl, ⟨⟨Tryd.f62, _, Tryd.func62, rfl, by kernel_rfl, by kernel_rfl, by kernel_rfl, by decide +kernel, by kernel_rfl⟩⟩⟩
theorem ok63 : OkF Tryd.prog (dcOf Tryd.prog) 63 Zz.F_impl_allOf := Or.inl ⟨rfl, ⟨⟨Tryd.f63, _, Tryd.func63, rfl, by kernel_rfl, by kernel_rfl, by kernel_rfl, by decide +kernel, by kernel_rfl⟩⟩⟩
theorem ok65 : OkF Tryd.prog (dcOf Tryd.prog) 65 Zz.F_spec_CountOk := Or.inl ⟨rfl, ⟨⟨Tryd.f65, _, Tryd.func65, rfl, by kernel_rfl, by kernel_rfl, by kernel_rfl, by decide +kernel, by kernel_rfl⟩⟩⟩
theorem ok67 : OkF Tryd.prog (dcOf Tryd.prog) 67 Zz.F_spec_l1Power := Or.inl ⟨rfl, ⟨⟨Tryd.f67, _, Tryd.func67, rfl, by kernel_rfl, by kernel_rfl, by kernel_rfl, by decide +kernel, by kernel_rfl⟩⟩⟩
theorem ok69 : OkF Tryd.prog (dcOf Tryd.prog) 69 Zz.F_impl_rowOk := Or.inl ⟨rfl, ⟨⟨Tryd.f69, _, Tryd.func69, rfl, by kernel_rfl, by kernel_rfl, by kernel_rfl, by decide +kernel, by kernel_rfl⟩⟩⟩
theorem ok70 : OkF Tryd.prog (dcOf Tryd.prog) 70 Zz.F_impl_wholeOf := Or.inl ⟨rfl, ⟨⟨Tryd.f70, _, Tryd.func70, rfl, by kernel_rfl, by kernel_rfl, by kernel_rfl, by decide +kernel, by kernel_rfl⟩⟩⟩
theorem ok76 : OkF Tryd.prog (dcOf Tryd.prog) 76 Zz.F_impl_CountBest_1 := Or.inl ⟨rfl, ⟨⟨Tryd.f76, _, Tryd.func76, rfl, by kernel_rfl, by kernel_rfl, by kernel_rfl, by decide +kernel, by kernel_rfl⟩⟩⟩
theorem ok77 : OkF Tryd.prog (dcOf Tryd.prog) 77 Zz.F_spec_l8Best := Or.inl ⟨rfl, ⟨⟨Tryd.f77, _, Tryd.func77, rfl, by kernel_rfl, by kernel_rfl, by kernel_rfl, by decide +kernel, by kernel_rfl⟩⟩⟩
theorem ok78 : OkF Tryd.prog (dcOf Tryd.prog) 78 Zz.F_impl_TermOk := Or.inl ⟨rfl, ⟨⟨Tryd.f78, _, Tryd.func78, rfl, by kernel_rfl, by kernel_rfl, by kernel_rfl, by decide +kernel, by kernel_rfl⟩⟩⟩
theorem ok79 : OkF Tryd.prog (dcOf Tryd.prog) 79 Zz.F_impl_leastFrom := Or.inl ⟨rfl, ⟨⟨Tryd.f79, _, Tryd.func79, rfl, by kernel_rfl, by kernel_rfl, by kernel_rfl, by decide +kernel, by kernel_rfl⟩⟩⟩
theorem ok80 : OkF Tryd.prog (dcOf Tryd.prog) 80 Zz.F_impl_startOf := Or.inl ⟨rfl, ⟨⟨Tryd.f80, _, Tryd.func80, rfl, by kernel_rfl, by kernel_rfl, by kernel_rfl, by decide +kernel, by kernel_rfl⟩⟩⟩
theorem ok81 : OkF Tryd.prog (dcOf Tryd.prog) 81 Zz.F_impl_averagesOf := Or.inl ⟨rfl, ⟨⟨Tryd.f81, _, Tryd.func81, rfl, by kernel_rfl, by kernel_rfl, by kernel_rfl, by decide +kernel, by kernel_rfl⟩⟩⟩
theorem ok82 : OkF Tryd.prog (dcOf Tryd.prog) 82 Zz.F_impl_manyOk := Or.inl ⟨rfl, ⟨⟨Tryd.f82, _, Tryd.func82, rfl, by kernel_rfl, by kernel_rfl, by kernel_rfl, by decide +kernel, by kernel_rfl⟩⟩⟩
theorem ok83 : OkF Tryd.prog (dcOf Tryd.prog) 83 Zz.F_impl_readOr := Or.inl ⟨rfl, ⟨⟨Tryd.f83, _, Tryd.func83, rfl, by kernel_rfl, by kernel_rfl, by kernel_rfl, by decide +kernel, by kernel_rfl⟩⟩⟩
theorem ok84 : OkF Tryd.prog (dcOf Tryd.prog) 84 Zz.F_impl_TermText := Or.inl ⟨rfl, ⟨⟨Tryd.f84, _, Tryd.func84, rfl, by kernel_rfl, by kernel_rfl, by kernel_rfl, by decide +kernel, by kernel_rfl⟩⟩⟩
theorem ok85 : OkF Tryd.prog (dcOf Tryd.prog) 85 Zz.F_impl_weightOfStates := Or.inl ⟨rfl, ⟨⟨Tryd.f85, _, Tryd.func85, rfl, by kernel_rfl, by kernel_rfl, by kernel_rfl, by decide +kernel, by kernel_rfl⟩⟩⟩
theorem ok86 : OkF Tryd.prog (dcOf Tryd.prog) 86 Zz.F_impl_trueStates := Or.inl ⟨rfl, ⟨⟨Tryd.f86, _, Tryd.func86, rfl, by kernel_rfl, by kernel_rfl, by kernel_rfl, by decide +kernel, by kernel_rfl⟩⟩⟩
theorem ok87 : OkF Tryd.prog (dcOf Tryd.prog) 87 Zz.F_impl_statesOf := Or.inl ⟨rfl, ⟨⟨Tryd.f87, _, Tryd.func87, rfl, by kernel_rfl, by kernel_rfl, by kernel_rfl, by decide +kernel, by kernel_rfl⟩⟩⟩
theorem ok88 : OkF Tryd.prog (dcOf Tryd.prog) 88 Zz.F_impl_WeightOf := Or.inl ⟨rfl, ⟨⟨Tryd.f88, _, Tryd.func88, rfl, by kernel_rfl, by kernel_rfl, by kernel_rfl, by decide +kernel, by kernel_rfl⟩⟩⟩
theorem ok107 : OkF Tryd.prog (dcOf Tryd.prog) 107 Zz.F_spec_l20Rd_odd := Or.inl ⟨rfl, ⟨⟨Tryd.f107, _, Tryd.func107, rfl, by kernel_rfl, by kernel_rfl, by kernel_rfl, by decide +kernel, by kernel_rfl⟩⟩⟩
theorem ok108 : OkF Tryd.prog (dcOf Tryd.prog) 108 Zz.F_math_bits_OnesCount := Or.inl ⟨rfl, ⟨⟨Tryd.f108, _, Tryd.func108, rfl, by kernel_rfl, by kernel_rfl, by kernel_rfl, by decide +kernel, by kernel_rfl⟩⟩⟩
theorem ok109 : OkF Tryd.prog (dcOf Tryd.prog) 109 Zz.F_impl_hasTest := Or.inl ⟨rfl, ⟨⟨Tryd.f109, _, Tryd.func109, rfl, by kernel_rfl, by kernel_rfl, by kernel_rfl, by decide +kernel, by kernel_rfl⟩⟩⟩
theorem ok113 : OkF Tryd.prog (dcOf Tryd.prog) 113 Zz.F_impl_averageAsking := Or.inl ⟨rfl, ⟨⟨Tryd.f113, _, Tryd.func113, rfl, by kernel_rfl, by kernel_rfl, by kernel_rfl, by decide +kernel, by kernel_rfl⟩⟩⟩
theorem ok115 : OkF Tryd.prog (dcOf Tryd.prog) 115 Zz.F_impl_partsTaken := Or.inl ⟨rfl, ⟨⟨Tryd.f115, _, Tryd.func115, rfl, by kernel_rfl, by kernel_rfl, by kernel_rfl, by decide +kernel, by kernel_rfl⟩⟩⟩
theorem ok116 : OkF Tryd.prog (dcOf Tryd.prog) 116 Zz.F_impl_markOk := Or.inl ⟨rfl, ⟨⟨Tryd.f116, _, Tryd.func116, rfl, by kernel_rfl, by kernel_rfl, by kernel_rfl, by decide +kernel, by kernel_rfl⟩⟩⟩
theorem ok117 : OkF Tryd.prog (dcOf Tryd.prog) 117 Zz.F_impl_point_isForced := Or.inl ⟨rfl, ⟨⟨Tryd.f117, _, Tryd.func117, rfl, by kernel_rfl, by kernel_rfl, by kernel_rfl, by decide +kernel, by kernel_rfl⟩⟩⟩
theorem ok118 : OkF Tryd.prog (dcOf Tryd.prog) 118 Zz.F_impl_point_canAsk := Or.inl ⟨rfl, ⟨⟨Tryd.f118, _, Tryd.func118, rfl, by kernel_rfl, by kernel_rfl, by kernel_rfl, by decide +kernel, by kernel_rfl⟩⟩⟩
theorem ok119 : OkF Tryd.prog (dcOf Tryd.prog) 119 Zz.F_impl_point_answered := Or.inl ⟨rfl, ⟨⟨Tryd.f119, _, Tryd.func119, rfl, by kernel_rfl, by kernel_rfl, by kernel_rfl, by decide +kernel, by kernel_rfl⟩⟩⟩
theorem ok120 : OkF Tryd.prog (dcOf Tryd.prog) 120 Zz.F_impl_averagesOf_1 := Or.inl ⟨rfl, ⟨⟨Tryd.f120, _, Tryd.func120, rfl, by kernel_rfl, by kernel_rfl, by kernel_rfl, by decide +kernel, by kernel_rfl⟩⟩⟩
theorem ok121 : OkF Tryd.prog (dcOf Tryd.prog) 121 Zz.F_impl_point_howManyAsked := Or.inl ⟨rfl, ⟨⟨Tryd.f121, _, Tryd.func121, rfl, by kernel_rfl, by kernel_rfl, by kernel_rfl, by decide +kernel, by kernel_rfl⟩⟩⟩
theorem ok122 : OkF Tryd.prog (dcOf Tryd.prog) 122 Zz.F_impl_readRow := Or.inl ⟨rfl, ⟨⟨Tryd.f122, _, Tryd.func122, rfl, by kernel_rfl, by kernel_rfl, by kernel_rfl, by decide +kernel, by kernel_rfl⟩⟩⟩
theorem ok123 : OkF Tryd.prog (dcOf Tryd.prog) 123 Zz.F_impl_readAnd := Or.inl ⟨rfl, ⟨⟨Tryd.f123, _, Tryd.func123, rfl, by kernel_rfl, by kernel_rfl, by kernel_rfl, by decide +kernel, by kernel_rfl⟩⟩⟩
theorem ok124 : OkF Tryd.prog (dcOf Tryd.prog) 124 Zz.F_impl_foldTerm_impl_writtenPart := Or.inl ⟨rfl, ⟨⟨Tryd.f124, _, Tryd.func124, rfl, by kernel_rfl, by kernel_rfl, by kernel_rfl, by decide +kernel, by kernel_rfl⟩⟩⟩
theorem ok125 : OkF Tryd.prog (dcOf Tryd.prog) 125 Zz.F_impl_writePart := Or.inl ⟨rfl, ⟨⟨Tryd.f125, _, Tryd.func125, rfl, by kernel_rfl, by kernel_rfl, by kernel_rfl, by decide +kernel, by kernel_rfl⟩⟩⟩
theorem ok126 : OkF Tryd.prog (dcOf Tryd.prog) 126 Zz.F_impl_hasState := Or.inl ⟨rfl, ⟨⟨Tryd.f126, _, Tryd.func126, rfl, by kernel_rfl, by kernel_rfl, by kernel_rfl, by decide +kernel, by kernel_rfl⟩⟩⟩
theorem ok127 : OkF Tryd.prog (dcOf Tryd.prog) 127 Zz.F_impl_foldTerm_uint32 := Or.inl ⟨rfl, ⟨⟨Tryd.f127, _, Tryd.func127, rfl, by kernel_rfl, by kernel_rfl, by kernel_rfl, by decide +kernel, by kernel_rfl⟩⟩⟩
theorem ok128 : OkF Tryd.prog (dcOf Tryd.prog) 128 Zz.F_impl_statesOfPart := Or.inl ⟨rfl, ⟨⟨Tryd.f128, _, Tryd.func128, rfl, by kernel_rfl, by kernel_rfl, by kernel_rfl, by decide +kernel, by kernel_rfl⟩⟩⟩
theorem ok129 : OkF Tryd.prog (dcOf Tryd.prog) 129 Zz.F_impl_outcomeIn := Or.inl ⟨rfl, ⟨⟨Tryd.f129, _, Tryd.func129, rfl, by kernel_rfl, by kernel_rfl, by kernel_rfl, by decide +kernel, by kernel_rfl⟩⟩⟩
theorem ok137 : OkF Tryd.prog (dcOf Tryd.prog) 137 Zz.F_impl_valueAmong := Or.inl ⟨rfl, ⟨⟨Tryd.f137, _, Tryd.func137, rfl, by kernel_rfl, by kernel_rfl, by kernel_rfl, by decide +kernel, by kernel_rfl⟩⟩⟩
theorem ok150 : OkF Tryd.prog (dcOf Tryd.prog) 150 Zz.F_math_bits_OnesCount64 := Or.inl ⟨rfl, ⟨⟨Tryd.f150, _, Tryd.func150, rfl, by kernel_rfl, by kernel_rfl, by kernel_rfl, by decide +kernel, by kernel_rfl⟩⟩⟩
theorem ok154 : OkF Tryd.prog (dcOf Tryd.prog) 154 Zz.F_impl_statesSaying := Or.inl ⟨rfl, ⟨⟨Tryd.f154, _, Tryd.func154, rfl, by kernel_rfl, by kernel_rfl, by kernel_rfl, by decide +kernel, by kernel_rfl⟩⟩⟩
theorem ok155 : OkF Tryd.prog (dcOf Tryd.prog) 155 Zz.F_impl_readNot := Or.inl ⟨rfl, ⟨⟨Tryd.f155, _, Tryd.func155, rfl, by kernel_rfl, by kernel_rfl, by kernel_rfl, by decide +kernel, by kernel_rfl⟩⟩⟩
theorem ok156 : OkF Tryd.prog (dcOf Tryd.prog) 156 Zz.F_impl_bracketedFrom := Or.inl ⟨rfl, ⟨⟨Tryd.f156, _, Tryd.func156, rfl, by kernel_rfl, by kernel_rfl, by kernel_rfl, by decide +kernel, by kernel_rfl⟩⟩⟩
theorem ok166 : OkF Tryd.prog (dcOf Tryd.prog) 166 Zz.F_impl_readLetter := Or.inl ⟨rfl, ⟨⟨Tryd.f166, _, Tryd.func166, rfl, by kernel_rfl, by kernel_rfl, by kernel_rfl, by decide +kernel, by kernel_rfl⟩⟩⟩
theorem mixed : Tryd.prog.follows .mixedOrders = true := by kernel_rfl
theorem okAll : ∀ f F, Zz.lf f = some F → OkF Tryd.prog (dcOf Tryd.prog) f F := by
  intro f F h
  unfold Zz.lf at h
  split at h
  · injection h with h; subst h; exact ok5
  · injection h with h; subst h; exact ok6
  · injection h with h; subst h; exact ok15
  · injection h with h; subst h; exact ok16
  · injection h with h; subst h; exact ok22
  · injection h with h; subst h; exact ok23
  · injection h with h; subst h; exact ok24
  · injection h with h; subst h; exact ok25
  · injection h with h; subst h; exact ok26
  · injection h with h; subst h; exact ok27
  · injection h with h; subst h; exact ok28
  · injection h with h; subst h; exact ok29
  · injection h with h; subst h; exact ok30
  · injection h with h; subst h; exact ok31
  · injection h with h; subst h; exact ok32
  · injection h with h; subst h; exact ok47
  · injection h with h; subst h; exact ok48
  · injection h with h; subst h; exact ok49
  · injection h with h; subst h; exact ok50
  · injection h with h; subst h; exact ok51
  · injection h with h; subst h; exact ok52
  · injection h with h; subst h; exact ok53
  · injection h with h; subst h; exact ok54
  · injection h with h; subst h; exact ok58
  · injection h with h; subst h; exact ok60
  · injection h with h; subst h; exact ok61
  · injection h with h; subst h; exact ok62
  · injection h with h; subst h; exact ok63
  · injection h with h; subst h; exact ok65
  · injection h with h; subst h; exact ok67
  · injection h with h; subst h; exact ok69
  · injection h with h; subst h; exact ok70
  · injection h with h; subst h; exact ok76
  · injection h with h; subst h; exact ok77
  · injection h with h; subst h; exact ok78
  · injection h with h; subst h; exact ok79
  · injection h with h; subst h; exact ok80
  · injection h with h; subst h; exact ok81
  · injection h with h; subst h; exact ok82
  · injection h with h; subst h; exact ok83
  · injection h with h; subst h; exact ok84
  · injection h with h; subst h; exact ok85
  · injection h with h; subst h; exact ok86
  · injection h with h; subst h; exact ok87
  · injection h with h; subst h; exact ok88
  · injection h with h; subst h; exact ok107
  · injection h with h; subst h; exact ok108
  · injection h with h; subst h; exact ok109
  · injection h with h; subst h; exact ok113
  · injection h with h; subst h; exact ok115
  · injection h with h; subst h; exact ok116
  · injection h with h; subst h; exact ok117
  · injection h with h; subst h; exact ok118
  · injection h with h; subst h; exact ok119
  · injection h with h; subst h; exact ok120
  · injection h with h; subst h; exact ok121
  · injection h with h; subst h; exact ok122
  · injection h with h; subst h; exact ok123
  · injection h with h; subst h; exact ok124
  · injection h with h; subst h; exact ok125
  · injection h with h; subst h; exact ok126
  · injection h with h; subst h; exact ok127
  · injection h with h; subst h; exact ok128
  · injection h with h; subst h; exact ok129
  · injection h with h; subst h; exact ok137
  · injection h with h; subst h; exact ok150
  · injection h with h; subst h; exact ok154
  · injection h with h; subst h; exact ok155
  · injection h with h; subst h; exact ok156
  · injection h with h; subst h; exact ok166
  · cases h
theorem said {f : Nat} {args : List DV} {r : DV × List DV} (h : call Zz.lf f args = some r) : CallSpec Tryd.prog f args r := call_sound okAll (draw_ok mixed) h
end Go.Proofs.YtahkmbihhkjebabDoor.oks
