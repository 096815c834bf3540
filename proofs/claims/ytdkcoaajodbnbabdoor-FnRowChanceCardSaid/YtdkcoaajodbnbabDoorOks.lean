/- That the data is what the program says, function by function. No conditions. -/
import Derived.Test.YtdkcoaajodbnbabDoorIr
import Derived.Test.YtdkcoaajodbnbabDoorLgD
import Derived.Test.YtdkcoaajodbnbabDoorRows
set_option linter.unusedSectionVars false
set_option linter.unusedVariables false
set_option linter.unusedSimpArgs false
namespace Go.Proofs.YtdkcoaajodbnbabDoor.oks
open Go.Lg Zz
theorem ok3 : OkF Tryd.prog (dcOf Tryd.prog) 3 Zz.F_laws_FnTrueWeight := Or.inl ⟨rfl, ⟨⟨Tryd.f3, _, Tryd.func3, rfl, by kernel_rfl, by kernel_rfl, by kernel_rfl, by decide +kernel, by kernel_rfl⟩⟩⟩
theorem ok4 : OkF Tryd.prog (dcOf Tryd.prog) 4 Zz.F_laws_FnExactTrueWeight := Or.inl ⟨rfl, ⟨⟨Tryd.f4, _, Tryd.func4, rfl, by kernel_rfl, by kernel_rfl, by kernel_rfl, by decide +kernel, by kernel_rfl⟩⟩⟩
theorem ok5 : OkF Tryd.prog (dcOf Tryd.prog) 5 Zz.F_laws_FnAskedIn := Or.inl ⟨rfl, ⟨⟨Tryd.f5, _, Tryd.func5, rfl, by kernel_rfl, by kernel_rfl, by kernel_rfl, by decide +kernel, by kernel_rfl⟩⟩⟩
theorem ok9 : OkF Tryd.prog (dcOf Tryd.prog) 9 Zz.F_laws_FnRowChance := Or.inl ⟨rfl, ⟨⟨Tryd.f9, _, Tryd.func9, rfl, by kernel_rfl, by kernel_rfl, by kernel_rfl, by decide +kernel, by kernel_rfl⟩⟩⟩
theorem ok10 : OkF Tryd.prog (dcOf Tryd.prog) 10 Zz.F_spec_DrawTrueWeight := Or.inl ⟨rfl, ⟨⟨Tryd.f10, _, Tryd.func10, rfl, by kernel_rfl, by kernel_rfl, by kernel_rfl, by decide +kernel, by kernel_rfl⟩⟩⟩
theorem ok11 : OkF Tryd.prog (dcOf Tryd.prog) 11 Zz.F_impl_TrueWeight := Or.inl ⟨rfl, ⟨⟨Tryd.f11, _, Tryd.func11, rfl, by kernel_rfl, by kernel_rfl, by kernel_rfl, by decide +kernel, by kernel_rfl⟩⟩⟩
theorem ok12 : OkF Tryd.prog (dcOf Tryd.prog) 12 Zz.F_spec_TrueWeight := Or.inl ⟨rfl, ⟨⟨Tryd.f12, _, Tryd.func12, rfl, by kernel_rfl, by kernel_rfl, by kernel_rfl, by decide +kernel, by kernel_rfl⟩⟩⟩
theorem ok13 : OkF Tryd.prog (dcOf Tryd.prog) 13 Zz.F_laws_alive := Or.inl ⟨rfl, ⟨⟨Tryd.f13, _, Tryd.func13, rfl, by kernel_rfl, by kernel_rfl, by kernel_rfl, by decide +kernel, by kernel_rfl⟩⟩⟩
theorem ok14 : OkF Tryd.prog (dcOf Tryd.prog) 14 Zz.F_impl_OtherTests := Or.inl ⟨rfl, ⟨⟨Tryd.f14, _, Tryd.func14, rfl, by kernel_rfl, by kernel_rfl, by kernel_rfl, by decide +kernel, by kernel_rfl⟩⟩⟩
theorem ok15 : OkF Tryd.prog (dcOf Tryd.prog) 15 Zz.F_impl_DualTerm := Or.inl ⟨rfl, ⟨⟨Tryd.f15, _, Tryd.func15, rfl, by kernel_rfl, by kernel_rfl, by kernel_rfl, by decide +kernel, by kernel_rfl⟩⟩⟩
theorem ok16 : OkF Tryd.prog (dcOf Tryd.prog) 16 Zz.F_laws_power := Or.inl ⟨rfl, ⟨⟨Tryd.f16, _, Tryd.func16, rfl, by kernel_rfl, by kernel_rfl, by kernel_rfl, by decide +kernel, by kernel_rfl⟩⟩⟩
theorem ok17 : OkF Tryd.prog (dcOf Tryd.prog) 17 Zz.F_laws_szTestS := Or.inl ⟨rfl, ⟨⟨Tryd.f17, _, Tryd.func17, rfl, by kernel_rfl, by kernel_rfl, by kernel_rfl, by decide +kernel, by kernel_rfl⟩⟩⟩
theorem ok18 : OkF Tryd.prog (dcOf Tryd.prog) 18 Zz.F_laws_szMarkS := Or.inl ⟨rfl, ⟨⟨Tryd.f18, _, Tryd.func18, rfl, by kernel_rfl, by kernel_rfl, by kernel_rfl, by decide +kernel, by kernel_rfl⟩⟩⟩
theorem ok19 : OkF Tryd.prog (dcOf Tryd.prog) 19 Zz.F_laws_toTestS := Or.inl ⟨rfl, ⟨⟨Tryd.f19, _, Tryd.func19, rfl, by kernel_rfl, by kernel_rfl, by kernel_rfl, by decide +kernel, by kernel_rfl⟩⟩⟩
theorem ok20 : OkF Tryd.prog (dcOf Tryd.prog) 20 Zz.F_laws_toMarkS := Or.inl ⟨rfl, ⟨⟨Tryd.f20, _, Tryd.func20, rfl, by kernel_rfl, by kernel_rfl, by kernel_rfl, by decide +kernel, by kernel_rfl⟩⟩⟩
theorem ok21 : OkF Tryd.prog (dcOf Tryd.prog) 21 Zz.F_laws_eqTestS := Or.inl ⟨rfl, ⟨⟨Tryd.f21, _, Tryd.func21, rfl, by kernel_rfl, by kernel_rfl, by kernel_rfl, by decide +kernel, by kernel_rfl⟩⟩⟩
theorem ok22 : OkF Tryd.prog (dcOf Tryd.prog) 22 Zz.F_laws_eqMarkS := Or.inl ⟨rfl, ⟨⟨Tryd.f22, _, Tryd.func22, rfl, by kernel_rfl, by kernel_rfl, by kernel_rfl, by decide +kernel, by kernel_rfl⟩⟩⟩
theorem ok23 : OkF Tryd.prog (dcOf Tryd.prog) 23 Zz.F_spec_DrawAskedIn := Or.inl ⟨rfl, ⟨⟨Tryd.f23, _, Tryd.func23, rfl, by kernel_rfl, by kernel_rfl, by kernel_rfl, by decide +kernel, by kernel_rfl⟩⟩⟩
theorem ok24 : OkF Tryd.prog (dcOf Tryd.prog) 24 Zz.F_impl_AskedIn := Or.inl ⟨rfl, ⟨⟨Tryd.f24, _, Tryd.func24, rfl, by kernel_rfl, by kernel_rfl, by kernel_rfl, by decide +kernel, by kernel_rfl⟩⟩⟩
theorem ok25 : OkF Tryd.prog (dcOf Tryd.prog) 25 Zz.F_spec_AskedIn := Or.inl ⟨rfl, ⟨⟨Tryd.f25, _, Tryd.func25, rfl, by kernel_rfl, by kernel_rfl, by kernel_rfl, by decide +kernel, by kernel_rfl⟩⟩⟩
theorem ok26 : OkF Tryd.prog (dcOf Tryd.prog) 26 Zz.F_impl_ProofOk := Or.inl ⟨rfl, ⟨⟨Tryd.f26, _, Tryd.func26, rfl, by kernel_rfl, by kernel_rfl, by kernel_rfl, by decide +kernel, by kernel_rfl⟩⟩⟩
theorem ok42 : OkF Tryd.prog (dcOf Tryd.prog) 42 Zz.F_impl_RowTerm := Or.inl ⟨rfl, ⟨⟨Tryd.f42, _, Tryd.func42, rfl, by kernel_rfl, by kernel_rfl, by kernel_rfl, by decide +kernel, by kernel_rfl⟩⟩⟩
theorem ok43 : OkF Tryd.prog (dcOf Tryd.prog) 43 Zz.F_impl_OrderOk := Or.inl ⟨rfl, ⟨⟨Tryd.f43, _, Tryd.func43, rfl, by kernel_rfl, by kernel_rfl, by kernel_rfl, by decide +kernel, by kernel_rfl⟩⟩⟩
theorem ok45 : OkF Tryd.prog (dcOf Tryd.prog) 45 Zz.F_spec_DrawOtherTests := Or.inl ⟨rfl, ⟨⟨Tryd.f45, _, Tryd.func45, rfl, by kernel_rfl, by kernel_rfl, by kernel_rfl, by decide +kernel, by kernel_rfl⟩⟩⟩
theorem ok46 : OkF Tryd.prog (dcOf Tryd.prog) 46 Zz.F_spec_TestsOk := Or.inl ⟨rfl, ⟨⟨Tryd.f46, _, Tryd.func46, rfl, by kernel_rfl, by kernel_rfl, by kernel_rfl, by decide +kernel, by kernel_rfl⟩⟩⟩
theorem ok47 : OkF Tryd.prog (dcOf Tryd.prog) 47 Zz.F_impl_TestsOk := Or.inl ⟨rfl, ⟨⟨Tryd.f47, _, Tryd.func47, rfl, by kernel_rfl, by kernel_rfl, by kernel_rfl, by decide +kernel, by kernel_rfl⟩⟩⟩
theorem ok48 : OkF Tryd.prog (dcOf Tryd.prog) 48 Zz.F_spec_l20Case := Or.inl ⟨rfl, ⟨⟨Tryd.f48, _, Tryd.func48, rfl, by kernel_rfl, by kernel_rfl, by kernel_rfl, by decide +kernel, by kernel_rfl⟩⟩⟩
theorem ok49 : OkF Tryd.prog (dcOf Tryd.prog) 49 Zz.F_spec_l20Open := Or.inl ⟨rfl, ⟨⟨Tryd.f49, _, Tryd.func49, rfl, by kernel_rfl, by kernel_rfl, by kernel_rfl, by decide +kernel, by kernel_rfl⟩⟩⟩
theorem ok50 : OkF Tryd.prog (dcOf Tryd.prog) 50 Zz.F_impl_TermOk := Or.inl ⟨rfl, ⟨⟨Tryd.f50, _, Tryd.func50, rfl, by kernel_rfl, by kernel_rfl, by kernel_rfl, by decide +kernel, by kernel_rfl⟩⟩⟩
theorem ok51 : OkF Tryd.prog (dcOf Tryd.prog) 51 Zz.F_impl_weightOfStates := Or.inl ⟨rfl, ⟨⟨Tryd.f51, _, Tryd.func51, rfl, by kernel_rfl, by kernel_rfl, by kernel_rfl, by decide +kernel, by kernel_rfl⟩⟩⟩
theorem ok52 : OkF Tryd.prog (dcOf Tryd.prog) 52 Zz.F_impl_trueStates := Or.inl ⟨rfl, ⟨⟨Tryd.f52, _, Tryd.func52, rfl, by kernel_rfl, by kernel_rfl, by kernel_rfl, by decide +kernel, by kernel_rfl⟩⟩⟩
theorem ok53 : OkF Tryd.prog (dcOf Tryd.prog) 53 Zz.F_spec_TermOk := Or.inl ⟨rfl, ⟨⟨Tryd.f53, _, Tryd.func53, rfl, by kernel_rfl, by kernel_rfl, by kernel_rfl, by decide +kernel, by kernel_rfl⟩⟩⟩
theorem ok54 : OkF Tryd.prog (dcOf Tryd.prog) 54 Zz.F_spec_l3Value := Or.inl ⟨rfl, ⟨⟨Tryd.f54, _, Tryd.func54, rfl, by kernel_rfl, by kernel_rfl, by kernel_rfl, by decide +kernel, by kernel_rfl⟩⟩⟩
theorem ok55 : OkF Tryd.prog (dcOf Tryd.prog) 55 Zz.F_spec_l1Weight := Or.inl ⟨rfl, ⟨⟨Tryd.f55, _, Tryd.func55, rfl, by kernel_rfl, by kernel_rfl, by kernel_rfl, by decide +kernel, by kernel_rfl⟩⟩⟩
theorem ok56 : OkF Tryd.prog (dcOf Tryd.prog) 56 Zz.F_laws_toTest := Or.inl ⟨rfl, ⟨⟨Tryd.f56, _, Tryd.func56, rfl, by kernel_rfl, by kernel_rfl, by kernel_rfl, by decide +kernel, by kernel_rfl⟩⟩⟩
theorem ok57 : OkF Tryd.prog (dcOf Tryd.prog) 57 Zz.F_laws_toMark := Or.inl ⟨rfl, ⟨⟨Tryd.f57, _, Tryd.func57, rfl, by kernel_rfl, by kernel_rfl, by kernel_rfl, by decide +kernel, by kernel_rfl⟩⟩⟩
theorem ok58 : OkF Tryd.prog (dcOf Tryd.prog) 58 Zz.F_laws_eqTest := Or.inl ⟨rfl, ⟨⟨Tryd.f58, _, Tryd.func58, rfl, by kernel_rfl, by kernel_rfl, by kernel_rfl, by decide +kernel, by kernel_rfl⟩⟩⟩
theorem ok59 : OkF Tryd.prog (dcOf Tryd.prog) 59 Zz.F_laws_eqMark := Or.inl ⟨rfl, ⟨⟨Tryd.f59, _, Tryd.func59, rfl, by kernel_rfl, by kernel_rfl, by kernel_rfl, by decide +kernel, by kernel_rfl⟩⟩⟩
theorem ok60 : OkF Tryd.prog (dcOf Tryd.prog) 60 Zz.F_spec_l20State := Or.inl ⟨rfl, ⟨⟨Tryd.f60, _, Tryd.func60, rfl, by kernel_rfl, by kernel_rfl, by kernel_rfl, by decide +kernel, by kernel_rfl⟩⟩⟩
theorem ok61 : OkF Tryd.prog (dcOf Tryd.prog) 61 Zz.F_spec_l20Order := Or.inl ⟨rfl, ⟨⟨Tryd.f61, _, Tryd.func61, rfl, by kernel_rfl, by kernel_rfl, by kernel_rfl, by decide +kernel, by kernel_rfl⟩⟩⟩
theorem ok62 : OkF Tryd.prog (dcOf Tryd.prog) 62 Zz.F_impl_StateOk := Or.inl ⟨rfl, ⟨⟨Tryd.f62, _, Tryd.func62, rfl, by kernel_rfl, by kernel_rfl, by kernel_rfl, by decide +kernel, by kernel_rfl⟩⟩⟩
theorem ok63 : OkF Tryd.prog (dcOf Tryd.prog) 63 Zz.F_impl_hasState := Or.inl ⟨rfl, ⟨⟨Tryd.f63, _, Tryd.func63, rfl, by kernel_rfl, by kernel_rfl, by kernel_rfl, by decide +kernel, by kernel_rfl⟩⟩⟩
theorem ok64 : OkF Tryd.prog (dcOf Tryd.prog) 64 Zz.F_impl_openStates := Or.inl ⟨rfl, ⟨⟨Tryd.f64, _, Tryd.func64, rfl, by kernel_rfl, by kernel_rfl, by kernel_rfl, by decide +kernel, by kernel_rfl⟩⟩⟩
theorem ok65 : OkF Tryd.prog (dcOf Tryd.prog) 65 Zz.F_spec_OrderOk := Or.inl ⟨rfl, ⟨⟨Tryd.f65, _, Tryd.func65, rfl, by kernel_rfl, by kernel_rfl, by kernel_rfl, by decide +kernel, by kernel_rfl⟩⟩⟩
theorem ok66 : OkF Tryd.prog (dcOf Tryd.prog) 66 Zz.F_spec_StateOk := Or.inl ⟨rfl, ⟨⟨Tryd.f66, _, Tryd.func66, rfl, by kernel_rfl, by kernel_rfl, by kernel_rfl, by decide +kernel, by kernel_rfl⟩⟩⟩
theorem ok67 : OkF Tryd.prog (dcOf Tryd.prog) 67 Zz.F_spec_l4Asked := Or.inl ⟨rfl, ⟨⟨Tryd.f67, _, Tryd.func67, rfl, by kernel_rfl, by kernel_rfl, by kernel_rfl, by decide +kernel, by kernel_rfl⟩⟩⟩
theorem ok68 : OkF Tryd.prog (dcOf Tryd.prog) 68 Zz.F_spec_l3Table := Or.inl ⟨rfl, ⟨⟨Tryd.f68, _, Tryd.func68, rfl, by kernel_rfl, by kernel_rfl, by kernel_rfl, by decide +kernel, by kernel_rfl⟩⟩⟩
theorem ok69 : OkF Tryd.prog (dcOf Tryd.prog) 69 Zz.F_impl_ForcedBy := Or.inl ⟨rfl, ⟨⟨Tryd.f69, _, Tryd.func69, rfl, by kernel_rfl, by kernel_rfl, by kernel_rfl, by decide +kernel, by kernel_rfl⟩⟩⟩
theorem ok70 : OkF Tryd.prog (dcOf Tryd.prog) 70 Zz.F_impl_knownBy := Or.inl ⟨rfl, ⟨⟨Tryd.f70, _, Tryd.func70, rfl, by kernel_rfl, by kernel_rfl, by kernel_rfl, by decide +kernel, by kernel_rfl⟩⟩⟩
theorem ok74 : OkF Tryd.prog (dcOf Tryd.prog) 74 Zz.F_impl_isWithin := Or.inl ⟨rfl, ⟨⟨Tryd.f74, _, Tryd.func74, rfl, by kernel_rfl, by kernel_rfl, by kernel_rfl, by decide +kernel, by kernel_rfl⟩⟩⟩
theorem ok76 : OkF Tryd.prog (dcOf Tryd.prog) 76 Zz.F_impl_statesOf := Or.inl ⟨rfl, ⟨⟨Tryd.f76, _, Tryd.func76, rfl, by kernel_rfl, by kernel_rfl, by kernel_rfl, by decide +kernel, by kernel_rfl⟩⟩⟩
theorem ok77 : OkF Tryd.prog (dcOf Tryd.prog) 77 Zz.F_impl_WeightOf := Or.inl ⟨rfl, ⟨⟨Tryd.f77, _, Tryd.func77, rfl, by kernel_rfl, by kernel_rfl, by kernel_rfl, by decide +kernel, by kernel_rfl⟩⟩⟩
theorem ok79 : OkF Tryd.prog (dcOf Tryd.prog) 79 Zz.F_spec_l20Tests := Or.inl ⟨rfl, ⟨⟨Tryd.f79, _, Tryd.func79, rfl, by kernel_rfl, by kernel_rfl, by kernel_rfl, by decide +kernel, by kernel_rfl⟩⟩⟩
theorem ok80 : OkF Tryd.prog (dcOf Tryd.prog) 80 Zz.F_spec_l20Rd_pick := Or.inl ⟨rfl, ⟨⟨Tryd.f80, _, Tryd.func80, rfl, by kernel_rfl, by kernel_rfl, by kernel_rfl, by decide +kernel, by kernel_rfl⟩⟩⟩
theorem ok81 : OkF Tryd.prog (dcOf Tryd.prog) 81 Zz.F_impl_rowOk := Or.inl ⟨rfl, ⟨⟨Tryd.f81, _, Tryd.func81, rfl, by kernel_rfl, by kernel_rfl, by kernel_rfl, by decide +kernel, by kernel_rfl⟩⟩⟩
theorem ok86 : OkF Tryd.prog (dcOf Tryd.prog) 86 Zz.F_spec_l1In := Or.inl ⟨rfl, ⟨⟨Tryd.f86, _, Tryd.func86, rfl, by kernel_rfl, by kernel_rfl, by kernel_rfl, by decide +kernel, by kernel_rfl⟩⟩⟩
theorem ok88 : OkF Tryd.prog (dcOf Tryd.prog) 88 Zz.F_impl_manyOk := Or.inl ⟨rfl, ⟨⟨Tryd.f88, _, Tryd.func88, rfl, by kernel_rfl, by kernel_rfl, by kernel_rfl, by decide +kernel, by kernel_rfl⟩⟩⟩
theorem ok89 : OkF Tryd.prog (dcOf Tryd.prog) 89 Zz.F_impl_hasTest := Or.inl ⟨rfl, ⟨⟨Tryd.f89, _, Tryd.func89, rfl, by kernel_rfl, by kernel_rfl, by kernel_rfl, by decide +kernel, by kernel_rfl⟩⟩⟩
theorem ok92 : OkF Tryd.prog (dcOf Tryd.prog) 92 Zz.F_spec_l20Term := Or.inl ⟨rfl, ⟨⟨Tryd.f92, _, Tryd.func92, rfl, by kernel_rfl, by kernel_rfl, by kernel_rfl, by decide +kernel, by kernel_rfl⟩⟩⟩
theorem ok93 : OkF Tryd.prog (dcOf Tryd.prog) 93 Zz.F_impl_partsTaken := Or.inl ⟨rfl, ⟨⟨Tryd.f93, _, Tryd.func93, rfl, by kernel_rfl, by kernel_rfl, by kernel_rfl, by decide +kernel, by kernel_rfl⟩⟩⟩
theorem ok94 : OkF Tryd.prog (dcOf Tryd.prog) 94 Zz.F_impl_markOk := Or.inl ⟨rfl, ⟨⟨Tryd.f94, _, Tryd.func94, rfl, by kernel_rfl, by kernel_rfl, by kernel_rfl, by decide +kernel, by kernel_rfl⟩⟩⟩
theorem ok95 : OkF Tryd.prog (dcOf Tryd.prog) 95 Zz.F_impl_foldTerm_uint32 := Or.inl ⟨rfl, ⟨⟨Tryd.f95, _, Tryd.func95, rfl, by kernel_rfl, by kernel_rfl, by kernel_rfl, by decide +kernel, by kernel_rfl⟩⟩⟩
theorem ok96 : OkF Tryd.prog (dcOf Tryd.prog) 96 Zz.F_impl_statesOfPart := Or.inl ⟨rfl, ⟨⟨Tryd.f96, _, Tryd.func96, rfl, by kernel_rfl, by kernel_rfl, by kernel_rfl, by decide +kernel, by kernel_rfl⟩⟩⟩
theorem ok97 : OkF Tryd.prog (dcOf Tryd.prog) 97 Zz.F_spec_l2Starts := Or.inl ⟨rfl, ⟨⟨Tryd.f97, _, Tryd.func97, rfl, by kernel_rfl, by kernel_rfl, by kernel_rfl, by decide +kernel, by kernel_rfl⟩⟩⟩
theorem ok98 : OkF Tryd.prog (dcOf Tryd.prog) 98 Zz.F_spec_l20Rd_odd := Or.inl ⟨rfl, ⟨⟨Tryd.f98, _, Tryd.func98, rfl, by kernel_rfl, by kernel_rfl, by kernel_rfl, by decide +kernel, by kernel_rfl⟩⟩⟩
theorem ok99 : OkF Tryd.prog (dcOf Tryd.prog) 99 Zz.F_impl_turnedStates := Or.inl ⟨rfl, ⟨⟨Tryd.f99, _, Tryd.func99, rfl, by kernel_rfl, by kernel_rfl, by kernel_rfl, by decide +kernel, by kernel_rfl⟩⟩⟩
theorem ok100 : OkF Tryd.prog (dcOf Tryd.prog) 100 Zz.F_spec_l4None := Or.inl ⟨rfl, ⟨⟨Tryd.f100, _, Tryd.func100, rfl, by kernel_rfl, by kernel_rfl, by kernel_rfl, by decide +kernel, by kernel_rfl⟩⟩⟩
theorem ok101 : OkF Tryd.prog (dcOf Tryd.prog) 101 Zz.F_spec_l3Forced := Or.inl ⟨rfl, ⟨⟨Tryd.f101, _, Tryd.func101, rfl, by kernel_rfl, by kernel_rfl, by kernel_rfl, by decide +kernel, by kernel_rfl⟩⟩⟩
theorem ok102 : OkF Tryd.prog (dcOf Tryd.prog) 102 Zz.F_impl_KnownOk := Or.inl ⟨rfl, ⟨⟨Tryd.f102, _, Tryd.func102, rfl, by kernel_rfl, by kernel_rfl, by kernel_rfl, by decide +kernel, by kernel_rfl⟩⟩⟩
theorem ok103 : OkF Tryd.prog (dcOf Tryd.prog) 103 Zz.F_impl_valueAmong := Or.inl ⟨rfl, ⟨⟨Tryd.f103, _, Tryd.func103, rfl, by kernel_rfl, by kernel_rfl, by kernel_rfl, by decide +kernel, by kernel_rfl⟩⟩⟩
theorem ok104 : OkF Tryd.prog (dcOf Tryd.prog) 104 Zz.F_impl_agreeingStates := Or.inl ⟨rfl, ⟨⟨Tryd.f104, _, Tryd.func104, rfl, by kernel_rfl, by kernel_rfl, by kernel_rfl, by decide +kernel, by kernel_rfl⟩⟩⟩
theorem ok105 : OkF Tryd.prog (dcOf Tryd.prog) 105 Zz.F_impl_outcomeIn := Or.inl ⟨rfl, ⟨⟨Tryd.f105, _, Tryd.func105, rfl, by kernel_rfl, by kernel_rfl, by kernel_rfl, by decide +kernel, by kernel_rfl⟩⟩⟩
theorem ok109 : OkF Tryd.prog (dcOf Tryd.prog) 109 Zz.F_spec_l1Agrees := Or.inl ⟨rfl, ⟨⟨Tryd.f109, _, Tryd.func109, rfl, by kernel_rfl, by kernel_rfl, by kernel_rfl, by decide +kernel, by kernel_rfl⟩⟩⟩
theorem ok110 : OkF Tryd.prog (dcOf Tryd.prog) 110 Zz.F_impl_statesSaying := Or.inl ⟨rfl, ⟨⟨Tryd.f110, _, Tryd.func110, rfl, by kernel_rfl, by kernel_rfl, by kernel_rfl, by decide +kernel, by kernel_rfl⟩⟩⟩
theorem mixed : Tryd.prog.follows .mixedOrders = true := by kernel_rfl
theorem okAll : ∀ f F, Zz.lf f = some F → OkF Tryd.prog (dcOf Tryd.prog) f F := by
  intro f F h
  unfold Zz.lf at h
  split at h
  · injection h with h; subst h; exact ok3
  · injection h with h; subst h; exact ok4
  · injection h with h; subst h; exact ok5
  · injection h with h; subst h; exact ok9
  · injection h with h; subst h; exact ok10
  · injection h with h; subst h; exact ok11
  · injection h with h; subst h; exact ok12
  · injection h with h; subst h; exact ok13
  · injection h with h; subst h; exact ok14
  · injection h with h; subst h; exact ok15
  · injection h with h; subst h; exact ok16
  · injection h with h; subst h; exact ok17
  · injection h with h; subst h; exact ok18
  · injection h with h; subst h; exact ok19
  · injection h with h; subst h; exact ok20
  · injection h with h; subst h; exact ok21
  · injection h with h; subst h; exact ok22
  · injection h with h; subst h; exact ok23
  · injection h with h; subst h; exact ok24
  · injection h with h; subst h; exact ok25
  · injection h with h; subst h; exact ok26
  · injection h with h; subst h; exact ok42
  · injection h with h; subst h; exact ok43
  · injection h with h; subst h; exact ok45
  · injection h with h; subst h; exact ok46
  · injection h with h; subst h; exact ok47
  · injection h with h; subst h; exact ok48
  · injection h with h; subst h; exact ok49
  · injection h with h; subst h; exact ok50
  · injection h with h; subst h; exact ok51
  · injection h with h; subst h; exact ok52
  · injection h with h; subst h; exact ok53
  · injection h with h; subst h; exact ok54
  · injection h with h; subst h; exact ok55
  · injection h with h; subst h; exact ok56
  · injection h with h; subst h; exact ok57
  · injection h with h; subst h; exact ok58
  · injection h with h; subst h; exact ok59
  · injection h with h; subst h; exact ok60
  · injection h with h; subst h; exact ok61
  · injection h with h; subst h; exact ok62
  · injection h with h; subst h; exact ok63
  · injection h with h; subst h; exact ok64
  · injection h with h; subst h; exact ok65
  · injection h with h; subst h; exact ok66
  · injection h with h; subst h; exact ok67
  · injection h with h; subst h; exact ok68
  · injection h with h; subst h; exact ok69
  · injection h with h; subst h; exact ok70
  · injection h with h; subst h; exact ok74
  · injection h with h; subst h; exact ok76
  · injection h with h; subst h; exact ok77
  · injection h with h; subst h; exact ok79
  · injection h with h; subst h; exact ok80
  · injection h with h; subst h; exact ok81
  · injection h with h; subst h; exact ok86
  · injection h with h; subst h; exact ok88
  · injection h with h; subst h; exact ok89
  · injection h with h; subst h; exact ok92
  · injection h with h; subst h; exact ok93
  · injection h with h; subst h; exact ok94
  · injection h with h; subst h; exact ok95
  · injection h with h; subst h; exact ok96
  · injection h with h; subst h; exact ok97
  · injection h with h; subst h; exact ok98
  · injection h with h; subst h; exact ok99
  · injection h with h; subst h; exact ok100
  · injection h with h; subst h; exact ok101
  · injection h with h; subst h; exact ok102
  · injection h with h; subst h; exact ok103
  · injection h with h; subst h; exact ok104
  · injection h with h; subst h; exact ok105
  · injection h with h; subst h; exact ok109
  · injection h with h; subst h; exact ok110
  · cases h
theorem said {f : Nat} {args : List DV} {r : DV × List DV} (h : call Zz.lf f args = some r) : CallSpec Tryd.prog f args r := call_sound okAll (draw_ok mixed) h
end Go.Proofs.YtdkcoaajodbnbabDoor.oks
