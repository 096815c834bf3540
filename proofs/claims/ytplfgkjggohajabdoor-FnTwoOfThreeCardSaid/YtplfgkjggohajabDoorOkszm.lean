/- That the data is what the program says, function by function. No conditions. -/
import Derived.Test.YtplfgkjggohajabDoorIrzm
import Derived.Test.YtplfgkjggohajabDoorLgD
import Derived.Test.YtplfgkjggohajabDoorRows
set_option linter.unusedSectionVars false
set_option linter.unusedVariables false
set_option linter.unusedSimpArgs false
namespace Go.Proofs.YtplfgkjggohajabDoor.oks
open Go.Lg Zz
theorem ok12 : OkF Tryd.prog (dcOf Tryd.prog) 12 Zz.F_laws_FnTwoOfThree := Or.inl ⟨rfl,⟨⟨Tryd.f12,_,Tryd.func12,rfl,by kernel_rfl,by kernel_rfl,by kernel_rfl,by decide +kernel,by kernel_rfl⟩⟩⟩
theorem ok17 : OkF Tryd.prog (dcOf Tryd.prog) 17 Zz.F_laws_alive := Or.inl ⟨rfl,⟨⟨Tryd.f17,_,Tryd.func17,rfl,by kernel_rfl,by kernel_rfl,by kernel_rfl,by decide +kernel,by kernel_rfl⟩⟩⟩
theorem ok28 : OkF Tryd.prog (dcOf Tryd.prog) 28 Zz.F_spec_TestsOk := Or.inl ⟨rfl,⟨⟨Tryd.f28,_,Tryd.func28,rfl,by kernel_rfl,by kernel_rfl,by kernel_rfl,by decide +kernel,by kernel_rfl⟩⟩⟩
theorem ok45 : OkF Tryd.prog (dcOf Tryd.prog) 45 Zz.F_spec_DrawCountBest := Or.inl ⟨rfl,⟨⟨Tryd.f45,_,Tryd.func45,rfl,by kernel_rfl,by kernel_rfl,by kernel_rfl,by decide +kernel,by kernel_rfl⟩⟩⟩
theorem ok46 : OkF Tryd.prog (dcOf Tryd.prog) 46 Zz.F_impl_ReadTerm := Or.inl ⟨rfl,⟨⟨Tryd.f46,_,Tryd.func46,rfl,by kernel_rfl,by kernel_rfl,by kernel_rfl,by decide +kernel,by kernel_rfl⟩⟩⟩
theorem ok47 : OkF Tryd.prog (dcOf Tryd.prog) 47 Zz.F_impl_BestAverage := Or.inl ⟨rfl,⟨⟨Tryd.f47,_,Tryd.func47,rfl,by kernel_rfl,by kernel_rfl,by kernel_rfl,by decide +kernel,by kernel_rfl⟩⟩⟩
theorem ok48 : OkF Tryd.prog (dcOf Tryd.prog) 48 Zz.F_impl_CountBest := Or.inl ⟨rfl,⟨⟨Tryd.f48,_,Tryd.func48,rfl,by kernel_rfl,by kernel_rfl,by kernel_rfl,by decide +kernel,by kernel_rfl⟩⟩⟩
theorem ok49 : OkF Tryd.prog (dcOf Tryd.prog) 49 Zz.F_impl_TrueWeight := Or.inl ⟨rfl,⟨⟨Tryd.f49,_,Tryd.func49,rfl,by kernel_rfl,by kernel_rfl,by kernel_rfl,by decide +kernel,by kernel_rfl⟩⟩⟩
theorem ok50 : OkF Tryd.prog (dcOf Tryd.prog) 50 Zz.F_impl_CountWeight := Or.inl ⟨rfl,⟨⟨Tryd.f50,_,Tryd.func50,rfl,by kernel_rfl,by kernel_rfl,by kernel_rfl,by decide +kernel,by kernel_rfl⟩⟩⟩
theorem ok52 : OkF Tryd.prog (dcOf Tryd.prog) 52 Zz.F_spec_l20Open := Or.inl ⟨rfl,⟨⟨Tryd.f52,_,Tryd.func52,rfl,by kernel_rfl,by kernel_rfl,by kernel_rfl,by decide +kernel,by kernel_rfl⟩⟩⟩
theorem ok55 : OkF Tryd.prog (dcOf Tryd.prog) 55 Zz.F_impl_startOf := Or.inl ⟨rfl,⟨⟨Tryd.f55,_,Tryd.func55,rfl,by kernel_rfl,by kernel_rfl,by kernel_rfl,by decide +kernel,by kernel_rfl⟩⟩⟩
theorem ok63 : OkF Tryd.prog (dcOf Tryd.prog) 63 Zz.F_impl_TestsOk := Or.inl ⟨rfl,⟨⟨Tryd.f63,_,Tryd.func63,rfl,by kernel_rfl,by kernel_rfl,by kernel_rfl,by decide +kernel,by kernel_rfl⟩⟩⟩
theorem ok65 : OkF Tryd.prog (dcOf Tryd.prog) 65 Zz.F_impl_point_howManyAsked := Or.inl ⟨rfl,⟨⟨Tryd.f65,_,Tryd.func65,rfl,by kernel_rfl,by kernel_rfl,by kernel_rfl,by decide +kernel,by kernel_rfl⟩⟩⟩
theorem ok66 : OkF Tryd.prog (dcOf Tryd.prog) 66 Zz.F_spec_l20Rd_pick := Or.inl ⟨rfl,⟨⟨Tryd.f66,_,Tryd.func66,rfl,by kernel_rfl,by kernel_rfl,by kernel_rfl,by decide +kernel,by kernel_rfl⟩⟩⟩
theorem ok68 : OkF Tryd.prog (dcOf Tryd.prog) 68 Zz.F_impl_TermOk := Or.inl ⟨rfl,⟨⟨Tryd.f68,_,Tryd.func68,rfl,by kernel_rfl,by kernel_rfl,by kernel_rfl,by decide +kernel,by kernel_rfl⟩⟩⟩
theorem ok69 : OkF Tryd.prog (dcOf Tryd.prog) 69 Zz.F_spec_l20Tests := Or.inl ⟨rfl,⟨⟨Tryd.f69,_,Tryd.func69,rfl,by kernel_rfl,by kernel_rfl,by kernel_rfl,by decide +kernel,by kernel_rfl⟩⟩⟩
theorem ok70 : OkF Tryd.prog (dcOf Tryd.prog) 70 Zz.F_spec_l1In := Or.inl ⟨rfl,⟨⟨Tryd.f70,_,Tryd.func70,rfl,by kernel_rfl,by kernel_rfl,by kernel_rfl,by decide +kernel,by kernel_rfl⟩⟩⟩
theorem ok72 : OkF Tryd.prog (dcOf Tryd.prog) 72 Zz.F_impl_WeightOf := Or.inl ⟨rfl,⟨⟨Tryd.f72,_,Tryd.func72,rfl,by kernel_rfl,by kernel_rfl,by kernel_rfl,by decide +kernel,by kernel_rfl⟩⟩⟩
theorem ok73 : OkF Tryd.prog (dcOf Tryd.prog) 73 Zz.F_impl_isWithin := Or.inl ⟨rfl,⟨⟨Tryd.f73,_,Tryd.func73,rfl,by kernel_rfl,by kernel_rfl,by kernel_rfl,by decide +kernel,by kernel_rfl⟩⟩⟩
theorem ok77 : OkF Tryd.prog (dcOf Tryd.prog) 77 Zz.F_impl_StateOk := Or.inl ⟨rfl,⟨⟨Tryd.f77,_,Tryd.func77,rfl,by kernel_rfl,by kernel_rfl,by kernel_rfl,by decide +kernel,by kernel_rfl⟩⟩⟩
theorem ok78 : OkF Tryd.prog (dcOf Tryd.prog) 78 Zz.F_impl_hasState := Or.inl ⟨rfl,⟨⟨Tryd.f78,_,Tryd.func78,rfl,by kernel_rfl,by kernel_rfl,by kernel_rfl,by decide +kernel,by kernel_rfl⟩⟩⟩
theorem ok79 : OkF Tryd.prog (dcOf Tryd.prog) 79 Zz.F_impl_trueStates := Or.inl ⟨rfl,⟨⟨Tryd.f79,_,Tryd.func79,rfl,by kernel_rfl,by kernel_rfl,by kernel_rfl,by decide +kernel,by kernel_rfl⟩⟩⟩
theorem ok84 : OkF Tryd.prog (dcOf Tryd.prog) 84 Zz.F_spec_l20Count := Or.inl ⟨rfl,⟨⟨Tryd.f84,_,Tryd.func84,rfl,by kernel_rfl,by kernel_rfl,by kernel_rfl,by decide +kernel,by kernel_rfl⟩⟩⟩
theorem ok85 : OkF Tryd.prog (dcOf Tryd.prog) 85 Zz.F_impl_readOr := Or.inl ⟨rfl,⟨⟨Tryd.f85,_,Tryd.func85,rfl,by kernel_rfl,by kernel_rfl,by kernel_rfl,by decide +kernel,by kernel_rfl⟩⟩⟩
theorem ok86 : OkF Tryd.prog (dcOf Tryd.prog) 86 Zz.F_impl_TermText := Or.inl ⟨rfl,⟨⟨Tryd.f86,_,Tryd.func86,rfl,by kernel_rfl,by kernel_rfl,by kernel_rfl,by decide +kernel,by kernel_rfl⟩⟩⟩
theorem ok87 : OkF Tryd.prog (dcOf Tryd.prog) 87 Zz.F_impl_leastFrom := Or.inl ⟨rfl,⟨⟨Tryd.f87,_,Tryd.func87,rfl,by kernel_rfl,by kernel_rfl,by kernel_rfl,by decide +kernel,by kernel_rfl⟩⟩⟩
theorem ok88 : OkF Tryd.prog (dcOf Tryd.prog) 88 Zz.F_impl_averagesOf := Or.inl ⟨rfl,⟨⟨Tryd.f88,_,Tryd.func88,rfl,by kernel_rfl,by kernel_rfl,by kernel_rfl,by decide +kernel,by kernel_rfl⟩⟩⟩
theorem ok89 : OkF Tryd.prog (dcOf Tryd.prog) 89 Zz.F_impl_CountOk := Or.inl ⟨rfl,⟨⟨Tryd.f89,_,Tryd.func89,rfl,by kernel_rfl,by kernel_rfl,by kernel_rfl,by decide +kernel,by kernel_rfl⟩⟩⟩
theorem ok90 : OkF Tryd.prog (dcOf Tryd.prog) 90 Zz.F_impl_leastToCount := Or.inl ⟨rfl,⟨⟨Tryd.f90,_,Tryd.func90,rfl,by kernel_rfl,by kernel_rfl,by kernel_rfl,by decide +kernel,by kernel_rfl⟩⟩⟩
theorem ok91 : OkF Tryd.prog (dcOf Tryd.prog) 91 Zz.F_impl_allOf := Or.inl ⟨rfl,⟨⟨Tryd.f91,_,Tryd.func91,rfl,by kernel_rfl,by kernel_rfl,by kernel_rfl,by decide +kernel,by kernel_rfl⟩⟩⟩
theorem ok92 : OkF Tryd.prog (dcOf Tryd.prog) 92 Zz.F_impl_CountBest_1 := Or.inl ⟨rfl,⟨⟨Tryd.f92,_,Tryd.func92,rfl,by kernel_rfl,by kernel_rfl,by kernel_rfl,by decide +kernel,by kernel_rfl⟩⟩⟩
theorem ok93 : OkF Tryd.prog (dcOf Tryd.prog) 93 Zz.F_impl_weightOfStates := Or.inl ⟨rfl,⟨⟨Tryd.f93,_,Tryd.func93,rfl,by kernel_rfl,by kernel_rfl,by kernel_rfl,by decide +kernel,by kernel_rfl⟩⟩⟩
theorem ok94 : OkF Tryd.prog (dcOf Tryd.prog) 94 Zz.F_impl_statesOf := Or.inl ⟨rfl,⟨⟨Tryd.f94,_,Tryd.func94,rfl,by kernel_rfl,by kernel_rfl,by kernel_rfl,by decide +kernel,by kernel_rfl⟩⟩⟩
theorem ok95 : OkF Tryd.prog (dcOf Tryd.prog) 95 Zz.F_impl_sizeOf := Or.inl ⟨rfl,⟨⟨Tryd.f95,_,Tryd.func95,rfl,by kernel_rfl,by kernel_rfl,by kernel_rfl,by decide +kernel,by kernel_rfl⟩⟩⟩
theorem ok98 : OkF Tryd.prog (dcOf Tryd.prog) 98 Zz.F_impl_point_value := Or.inl ⟨rfl,⟨⟨Tryd.f98,_,Tryd.func98,rfl,by kernel_rfl,by kernel_rfl,by kernel_rfl,by decide +kernel,by kernel_rfl⟩⟩⟩
theorem ok99 : OkF Tryd.prog (dcOf Tryd.prog) 99 Zz.F_impl_point_answered := Or.inl ⟨rfl,⟨⟨Tryd.f99,_,Tryd.func99,rfl,by kernel_rfl,by kernel_rfl,by kernel_rfl,by decide +kernel,by kernel_rfl⟩⟩⟩
theorem ok100 : OkF Tryd.prog (dcOf Tryd.prog) 100 Zz.F_impl_letterOf := Or.inl ⟨rfl,⟨⟨Tryd.f100,_,Tryd.func100,rfl,by kernel_rfl,by kernel_rfl,by kernel_rfl,by decide +kernel,by kernel_rfl⟩⟩⟩
theorem ok107 : OkF Tryd.prog (dcOf Tryd.prog) 107 Zz.F_impl_point_canAsk := Or.inl ⟨rfl,⟨⟨Tryd.f107,_,Tryd.func107,rfl,by kernel_rfl,by kernel_rfl,by kernel_rfl,by decide +kernel,by kernel_rfl⟩⟩⟩
theorem ok108 : OkF Tryd.prog (dcOf Tryd.prog) 108 Zz.F_impl_manyOk := Or.inl ⟨rfl,⟨⟨Tryd.f108,_,Tryd.func108,rfl,by kernel_rfl,by kernel_rfl,by kernel_rfl,by decide +kernel,by kernel_rfl⟩⟩⟩
theorem ok112 : OkF Tryd.prog (dcOf Tryd.prog) 112 Zz.F_impl_placeOf := Or.inl ⟨rfl,⟨⟨Tryd.f112,_,Tryd.func112,rfl,by kernel_rfl,by kernel_rfl,by kernel_rfl,by decide +kernel,by kernel_rfl⟩⟩⟩
theorem ok113 : OkF Tryd.prog (dcOf Tryd.prog) 113 Zz.F_impl_partsTaken := Or.inl ⟨rfl,⟨⟨Tryd.f113,_,Tryd.func113,rfl,by kernel_rfl,by kernel_rfl,by kernel_rfl,by decide +kernel,by kernel_rfl⟩⟩⟩
theorem ok114 : OkF Tryd.prog (dcOf Tryd.prog) 114 Zz.F_impl_markOk := Or.inl ⟨rfl,⟨⟨Tryd.f114,_,Tryd.func114,rfl,by kernel_rfl,by kernel_rfl,by kernel_rfl,by decide +kernel,by kernel_rfl⟩⟩⟩
theorem ok115 : OkF Tryd.prog (dcOf Tryd.prog) 115 Zz.F_spec_l20Rd_odd := Or.inl ⟨rfl,⟨⟨Tryd.f115,_,Tryd.func115,rfl,by kernel_rfl,by kernel_rfl,by kernel_rfl,by decide +kernel,by kernel_rfl⟩⟩⟩
theorem ok117 : OkF Tryd.prog (dcOf Tryd.prog) 117 Zz.F_impl_outcomeIn := Or.inl ⟨rfl,⟨⟨Tryd.f117,_,Tryd.func117,rfl,by kernel_rfl,by kernel_rfl,by kernel_rfl,by decide +kernel,by kernel_rfl⟩⟩⟩
theorem ok118 : OkF Tryd.prog (dcOf Tryd.prog) 118 Zz.F_impl_foldTerm_uint32 := Or.inl ⟨rfl,⟨⟨Tryd.f118,_,Tryd.func118,rfl,by kernel_rfl,by kernel_rfl,by kernel_rfl,by decide +kernel,by kernel_rfl⟩⟩⟩
theorem ok119 : OkF Tryd.prog (dcOf Tryd.prog) 119 Zz.F_impl_statesOfPart := Or.inl ⟨rfl,⟨⟨Tryd.f119,_,Tryd.func119,rfl,by kernel_rfl,by kernel_rfl,by kernel_rfl,by decide +kernel,by kernel_rfl⟩⟩⟩
theorem ok120 : OkF Tryd.prog (dcOf Tryd.prog) 120 Zz.F_impl_readRow := Or.inl ⟨rfl,⟨⟨Tryd.f120,_,Tryd.func120,rfl,by kernel_rfl,by kernel_rfl,by kernel_rfl,by decide +kernel,by kernel_rfl⟩⟩⟩
theorem ok121 : OkF Tryd.prog (dcOf Tryd.prog) 121 Zz.F_impl_readAnd := Or.inl ⟨rfl,⟨⟨Tryd.f121,_,Tryd.func121,rfl,by kernel_rfl,by kernel_rfl,by kernel_rfl,by decide +kernel,by kernel_rfl⟩⟩⟩
theorem ok122 : OkF Tryd.prog (dcOf Tryd.prog) 122 Zz.F_impl_foldTerm_impl_writtenPart := Or.inl ⟨rfl,⟨⟨Tryd.f122,_,Tryd.func122,rfl,by kernel_rfl,by kernel_rfl,by kernel_rfl,by decide +kernel,by kernel_rfl⟩⟩⟩
theorem ok123 : OkF Tryd.prog (dcOf Tryd.prog) 123 Zz.F_impl_writePart := Or.inl ⟨rfl,⟨⟨Tryd.f123,_,Tryd.func123,rfl,by kernel_rfl,by kernel_rfl,by kernel_rfl,by decide +kernel,by kernel_rfl⟩⟩⟩
theorem ok124 : OkF Tryd.prog (dcOf Tryd.prog) 124 Zz.F_impl_point_isForced := Or.inl ⟨rfl,⟨⟨Tryd.f124,_,Tryd.func124,rfl,by kernel_rfl,by kernel_rfl,by kernel_rfl,by decide +kernel,by kernel_rfl⟩⟩⟩
theorem ok125 : OkF Tryd.prog (dcOf Tryd.prog) 125 Zz.F_impl_averagesOf_1 := Or.inl ⟨rfl,⟨⟨Tryd.f125,_,Tryd.func125,rfl,by kernel_rfl,by kernel_rfl,by kernel_rfl,by decide +kernel,by kernel_rfl⟩⟩⟩
theorem ok126 : OkF Tryd.prog (dcOf Tryd.prog) 126 Zz.F_impl_averageAsking := Or.inl ⟨rfl,⟨⟨Tryd.f126,_,Tryd.func126,rfl,by kernel_rfl,by kernel_rfl,by kernel_rfl,by decide +kernel,by kernel_rfl⟩⟩⟩
theorem ok127 : OkF Tryd.prog (dcOf Tryd.prog) 127 Zz.F_impl_hasTest := Or.inl ⟨rfl,⟨⟨Tryd.f127,_,Tryd.func127,rfl,by kernel_rfl,by kernel_rfl,by kernel_rfl,by decide +kernel,by kernel_rfl⟩⟩⟩
theorem ok128 : OkF Tryd.prog (dcOf Tryd.prog) 128 Zz.F_math_bits_OnesCount := Or.inl ⟨rfl,⟨⟨Tryd.f128,_,Tryd.func128,rfl,by kernel_rfl,by kernel_rfl,by kernel_rfl,by decide +kernel,by kernel_rfl⟩⟩⟩
theorem ok133 : OkF Tryd.prog (dcOf Tryd.prog) 133 Zz.F_impl_valueAmong := Or.inl ⟨rfl,⟨⟨Tryd.f133,_,Tryd.func133,rfl,by kernel_rfl,by kernel_rfl,by kernel_rfl,by decide +kernel,by kernel_rfl⟩⟩⟩
theorem ok134 : OkF Tryd.prog (dcOf Tryd.prog) 134 Zz.F_impl_statesSaying := Or.inl ⟨rfl,⟨⟨Tryd.f134,_,Tryd.func134,rfl,by kernel_rfl,by kernel_rfl,by kernel_rfl,by decide +kernel,by kernel_rfl⟩⟩⟩
theorem ok140 : OkF Tryd.prog (dcOf Tryd.prog) 140 Zz.F_impl_readNot := Or.inl ⟨rfl,⟨⟨Tryd.f140,_,Tryd.func140,rfl,by kernel_rfl,by kernel_rfl,by kernel_rfl,by decide +kernel,by kernel_rfl⟩⟩⟩
theorem ok141 : OkF Tryd.prog (dcOf Tryd.prog) 141 Zz.F_impl_bracketedFrom := Or.inl ⟨rfl,⟨⟨Tryd.f141,_,Tryd.func141,rfl,by kernel_rfl,by kernel_rfl,by kernel_rfl,by decide +kernel,by kernel_rfl⟩⟩⟩
theorem ok142 : OkF Tryd.prog (dcOf Tryd.prog) 142 Zz.F_impl_wholeOf := Or.inl ⟨rfl,⟨⟨Tryd.f142,_,Tryd.func142,rfl,by kernel_rfl,by kernel_rfl,by kernel_rfl,by decide +kernel,by kernel_rfl⟩⟩⟩
theorem ok144 : OkF Tryd.prog (dcOf Tryd.prog) 144 Zz.F_math_bits_OnesCount64 := Or.inl ⟨rfl,⟨⟨Tryd.f144,_,Tryd.func144,rfl,by kernel_rfl,by kernel_rfl,by kernel_rfl,by decide +kernel,by kernel_rfl⟩⟩⟩
theorem ok151 : OkF Tryd.prog (dcOf Tryd.prog) 151 Zz.F_impl_readLetter := Or.inl ⟨rfl,⟨⟨Tryd.f151,_,Tryd.func151,rfl,by kernel_rfl,by kernel_rfl,by kernel_rfl,by decide +kernel,by kernel_rfl⟩⟩⟩
theorem mixed : Tryd.prog.follows .mixedOrders = true := by kernel_rfl
theorem okAll : ∀ f F,Zz.lf f = some F → OkF Tryd.prog (dcOf Tryd.prog) f F := by
 intro f F h
 unfold Zz.lf at h
 split at h
 ·injection h with h; subst h; exact ok12
 ·injection h with h; subst h; exact ok17
 ·injection h with h; subst h; exact ok28
 ·injection h with h; subst h; exact ok45
 ·injection h with h; subst h; exact ok46
 ·injection h with h; subst h; exact ok47
 ·injection h with h; subst h; exact ok48
 ·injection h with h; subst h; exact ok49
 ·injection h with h; subst h; exact ok50
 ·injection h with h; subst h; exact ok52
 ·injection h with h; subst h; exact ok55
 ·injection h with h; subst h; exact ok63
 ·injection h with h; subst h; exact ok65
 ·injection h with h; subst h; exact ok66
 ·injection h with h; subst h; exact ok68
 ·injection h with h; subst h; exact ok69
 ·injection h with h; subst h; exact ok70
 ·injection h with h; subst h; exact ok72
 ·injection h with h; subst h; exact ok73
 ·injection h with h; subst h; exact ok77
 ·injection h with h; subst h; exact ok78
 ·injection h with h; subst h; exact ok79
 ·injection h with h; subst h; exact ok84
 ·injection h with h; subst h; exact ok85
 ·injection h with h; subst h; exact ok86
 ·injection h with h; subst h; exact ok87
 ·injection h with h; subst h; exact ok88
 ·injection h with h; subst h; exact ok89
 ·injection h with h; subst h; exact ok90
 ·injection h with h; subst h; exact ok91
 ·injection h with h; subst h; exact ok92
 ·injection h with h; subst h; exact ok93
 ·injection h with h; subst h; exact ok94
 ·injection h with h; subst h; exact ok95
 ·injection h with h; subst h; exact ok98
 ·injection h with h; subst h; exact ok99
 ·injection h with h; subst h; exact ok100
 ·injection h with h; subst h; exact ok107
 ·injection h with h; subst h; exact ok108
 ·injection h with h; subst h; exact ok112
 ·injection h with h; subst h; exact ok113
 ·injection h with h; subst h; exact ok114
 ·injection h with h; subst h; exact ok115
 ·injection h with h; subst h; exact ok117
 ·injection h with h; subst h; exact ok118
 ·injection h with h; subst h; exact ok119
 ·injection h with h; subst h; exact ok120
 ·injection h with h; subst h; exact ok121
 ·injection h with h; subst h; exact ok122
 ·injection h with h; subst h; exact ok123
 ·injection h with h; subst h; exact ok124
 ·injection h with h; subst h; exact ok125
 ·injection h with h; subst h; exact ok126
 ·injection h with h; subst h; exact ok127
 ·injection h with h; subst h; exact ok128
 ·injection h with h; subst h; exact ok133
 ·injection h with h; subst h; exact ok134
 ·injection h with h; subst h; exact ok140
 ·injection h with h; subst h; exact ok141
 ·injection h with h; subst h; exact ok142
 ·injection h with h; subst h; exact ok144
 ·injection h with h; subst h; exact ok151
 ·cases h
theorem backs : BackSound Tryd.prog := back_none (by kernel_rfl)
theorem said {f : Nat} {args : List DV} {r : DV × List DV} (h : call Zz.lf f args = some r) : CallSpec Tryd.prog f args r := call_sound okAll (draw_ok mixed) backs h
end Go.Proofs.YtplfgkjggohajabDoor.oks
