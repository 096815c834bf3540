/- The functions of the program, read as data. No conditions. -/
import Derived.Test.YtahkmbihhkjebabDoorLgC
set_option linter.unusedSectionVars false
set_option linter.unusedVariables false
set_option linter.unusedSimpArgs false
namespace Zz
open Go.Lg
instance : GL := ⟨[(2, .st [.w (2863311530#32), .w (3435973836#32), .w (4042322160#32), .w (4278255360#32), .w (4294901760#32)])], [142], ["l4_orders.go:82"], [], [(75, [0]), (95, [3]), (114, [0, 2]), (132, [0]), (158, [0, 2]), (160, [0])], [], ["l20_draw.go:447"]⟩
theorem gEnv_2 : gEnv [2] = [(1048578, .adr (.st [.w (2863311530#32), .w (3435973836#32), .w (4042322160#32), .w (4278255360#32), .w (4294901760#32)]))] := rfl
def n_laws_FnCountBest : Nat := 5
def n_laws_FnTwoOfThree : Nat := 6
def n_laws_alive : Nat := 15
def n_impl_OtherTests : Nat := 16
def n_impl_CountBest : Nat := 22
def n_spec_DrawCountBest : Nat := 23
def n_spec_CountBest : Nat := 24
def n_impl_BestAverage : Nat := 25
def n_impl_RowTerm : Nat := 26
def n_laws_power : Nat := 27
def n_impl_CostOf : Nat := 28
def n_spec_TestsOk : Nat := 29
def n_impl_ReadTerm : Nat := 30
def n_impl_TrueWeight : Nat := 31
def n_impl_CountWeight : Nat := 32
def n_spec_l20Open : Nat := 47
def n_spec_l20Tests : Nat := 48
def n_spec_l20Rd_pick : Nat := 49
def n_spec_l8Heads : Nat := 50
def n_impl_TestsOk : Nat := 51
def n_impl_StateOk : Nat := 52
def n_impl_isWithin : Nat := 53
def n_impl_sizeOf : Nat := 54
def n_spec_l1In : Nat := 58
def n_spec_l20Count : Nat := 60
def n_impl_CountOk : Nat := 61
def n_impl_leastToCount : Nat := 62
def n_impl_allOf : Nat := 63
def n_spec_CountOk : Nat := 65
def n_spec_l1Power : Nat := 67
def n_impl_rowOk : Nat := 69
def n_impl_wholeOf : Nat := 70
def n_impl_CountBest_1 : Nat := 76
def n_spec_l8Best : Nat := 77
def n_impl_TermOk : Nat := 78
def n_impl_leastFrom : Nat := 79
def n_impl_startOf : Nat := 80
def n_impl_averagesOf : Nat := 81
def n_impl_manyOk : Nat := 82
def n_impl_readOr : Nat := 83
def n_impl_TermText : Nat := 84
def n_impl_weightOfStates : Nat := 85
def n_impl_trueStates : Nat := 86
def n_impl_statesOf : Nat := 87
def n_impl_WeightOf : Nat := 88
def n_spec_l20Rd_odd : Nat := 107
def n_math_bits_OnesCount : Nat := 108
def n_impl_hasTest : Nat := 109
def n_impl_averageAsking : Nat := 113
def n_impl_partsTaken : Nat := 115
def n_impl_markOk : Nat := 116
def n_impl_point_isForced : Nat := 117
def n_impl_point_canAsk : Nat := 118
def n_impl_point_answered : Nat := 119
def n_impl_averagesOf_1 : Nat := 120
def n_impl_point_howManyAsked : Nat := 121
def n_impl_readRow : Nat := 122
def n_impl_readAnd : Nat := 123
def n_impl_foldTerm_impl_writtenPart : Nat := 124
def n_impl_writePart : Nat := 125
def n_impl_hasState : Nat := 126
def n_impl_foldTerm_uint32 : Nat := 127
def n_impl_statesOfPart : Nat := 128
def n_impl_outcomeIn : Nat := 129
def n_impl_valueAmong : Nat := 137
def n_math_bits_OnesCount32 : Nat := 149
def n_math_bits_OnesCount64 : Nat := 150
def n_impl_statesSaying : Nat := 154
def n_impl_readNot : Nat := 155
def n_impl_bracketedFrom : Nat := 156
def n_impl_readLetter : Nat := 166
/-- laws.FnCountBest -/
def F_laws_FnCountBest : LF :=
 { nparams := 1, results := [.t 2], body :=
 (.seq
 (.region false [⟨some 2, .mv, [.c (.b false)], none⟩] [2])
 (.seq
 (.seq
 (.region false [⟨some 6, .mv, [.t 0], none⟩,
 ⟨some 7, .len, [.t 6], none⟩,
 ⟨some 8, .bin .gtr, [.t 7, .c (.i 1048576)], none⟩] [6, 7])
 (.cond (.t 8) [8]
 (.seq
 (.region false [⟨some 2, .mv, [.c (.b true)], none⟩] [0])
 .ret)
 .skip))
 (.seq
 (.region false [⟨some 10, .mv, [.t 0], none⟩,
 ⟨some 11, .call n_spec_DrawCountBest 5632, [.t 10], none⟩,
 ⟨some 9, .mv, [.t 11], none⟩,
 ⟨some 12, .ext 0, [.t 9], none⟩,
 ⟨some 13, .ext 1, [.t 9], none⟩,
 ⟨some 3, .mv, [.t 12], none⟩,
 ⟨some 4, .mv, [.t 13], none⟩] [0, 9, 10, 11, 12, 13])
 (.seq
 (.region false [⟨some 14, .mv, [.t 3], none⟩,
 ⟨some 15, .mv, [.t 4], none⟩,
 ⟨some 16, .call n_impl_CountBest 8192, [.t 14, .t 15], none⟩,
 ⟨some 5, .mv, [.t 16], none⟩] [14, 15, 16])
 (.seq
 (.seq
 (.region false [⟨some 17, .mv, [.t 5], none⟩,
 ⟨some 18, .mv, [.t 3], none⟩,
 ⟨some 19, .mv, [.t 4], none⟩,
 ⟨some 20, .call n_spec_CountBest 10240, [.t 18, .t 19], none⟩,
 ⟨some 21, .bin .neq, [.t 17, .t 20], none⟩] [17, 18, 19, 20])
 (.cond (.t 21) [21]
 (.seq
 (.region false [⟨some 2, .mv, [.c (.b false)], none⟩] [3, 4, 5])
 .ret)
 .skip))
 (.seq
 (.seq
 (.region false [⟨some 22, .mv, [.t 5], none⟩,
 ⟨some 23, .bin .lss, [.t 22, .c (.i 0)], none⟩] [22])
 (.cond (.t 23) [23]
 (.seq
 (.region false [⟨some 24, .mv, [.t 5], none⟩,
 ⟨some 25, .bin .eql, [.t 24, .c (.i (-1))], none⟩,
 ⟨some 26, .mv, [.t 25], none⟩,
 ⟨some 27, .call n_laws_alive 13824, [], some (26, true)⟩,
 ⟨some 28, .pick, [.t 26, .t 27, .c (.b false)], none⟩,
 ⟨some 2, .mv, [.t 28], none⟩] [3, 4, 5, 24, 25, 26, 27, 28])
 .ret)
 .skip))
 (.seq
 (.region false [⟨some 29, .mv, [.t 3], none⟩,
 ⟨some 30, .call n_impl_OtherTests 15360, [.t 29], none⟩,
 ⟨some 31, .mv, [.t 3], none⟩,
 ⟨some 32, .len, [.t 31], none⟩,
 ⟨some 33, .mv, [.t 4], none⟩,
 ⟨some 34, .bin .sub, [.t 32, .t 33], none⟩,
 ⟨some 35, .bin .add, [.t 34, .c (.i 1)], none⟩,
 ⟨some 36, .call n_impl_CountBest 18432, [.t 30, .t 35], none⟩,
 ⟨some 37, .mv, [.t 5], none⟩,
 ⟨some 38, .bin .eql, [.t 36, .t 37], none⟩,
 ⟨some 39, .mv, [.t 38], none⟩,
 ⟨some 40, .mv, [.t 3], some (39, true)⟩,
 ⟨some 41, .call n_impl_CountBest 20992, [.t 40, .c (.i 1)], some (39, true)⟩,
 ⟨some 42, .mv, [.t 3], some (39, true)⟩,
 ⟨some 43, .mv, [.t 3], some (39, true)⟩,
 ⟨some 44, .len, [.t 43], some (39, true)⟩,
 ⟨some 45, .call n_impl_RowTerm 23040, [.t 44, .c (.i 1)], some (39, true)⟩,
 ⟨some 46, .call n_impl_BestAverage 23552, [.t 42, .t 45], some (39, true)⟩,
 ⟨some 47, .bin .eql, [.t 41, .t 46], some (39, true)⟩,
 ⟨some 48, .pick, [.t 39, .t 47, .c (.b false)], none⟩,
 ⟨some 49, .mv, [.t 48], none⟩,
 ⟨some 50, .mv, [.t 5], some (49, true)⟩,
 ⟨some 51, .mv, [.t 3], some (49, true)⟩,
 ⟨some 52, .len, [.t 51], some (49, true)⟩,
 ⟨some 53, .call n_laws_power 27136, [.t 52], some (49, true)⟩,
 ⟨some 54, .mv, [.t 3], some (49, true)⟩,
 ⟨some 55, .call n_impl_CostOf 28160, [.t 54], some (49, true)⟩,
 ⟨some 56, .bin .mul, [.t 53, .t 55], some (49, true)⟩,
 ⟨some 57, .bin .leq, [.t 50, .t 56], some (49, true)⟩,
 ⟨some 58, .pick, [.t 49, .t 57, .c (.b false)], none⟩,
 ⟨some 2, .mv, [.t 58], none⟩] [3, 4, 5, 29, 30, 31, 32, 33, 34, 35, 36, 37, 38, 39, 40, 41, 42, 43, 44, 45, 46, 47, 48, 49, 50, 51, 52, 53, 54, 55, 56, 57, 58])
 .ret))))))) }
/-- laws.FnTwoOfThree -/
def F_laws_FnTwoOfThree : LF :=
 { nparams := 1, results := [.t 2], body :=
 (.seq
 (.region false [⟨some 2, .mv, [.c (.b false)], none⟩] [2])
 (.seq
 (.seq
 (.region false [⟨some 8, .mv, [.t 0], none⟩,
 ⟨some 9, .len, [.t 8], none⟩,
 ⟨some 10, .bin .gtr, [.t 9, .c (.i 1048576)], none⟩] [8, 9])
 (.cond (.t 10) [10]
 (.seq
 (.region false [⟨some 2, .mv, [.c (.b true)], none⟩] [0])
 .ret)
 .skip))
 (.seq
 (.region false [⟨some 12, .mv, [.t 0], none⟩,
 ⟨some 13, .call n_spec_DrawCountBest 6656, [.t 12], none⟩,
 ⟨some 11, .mv, [.t 13], none⟩,
 ⟨some 14, .ext 0, [.t 11], none⟩,
 ⟨some 15, .ext 1, [.t 11], none⟩,
 ⟨some 3, .mv, [.t 14], none⟩,
 ⟨some 4, .mv, [.t 15], none⟩] [0, 4, 11, 12, 13, 14, 15])
 (.seq
 (.seq
 (.region false [⟨some 16, .mv, [.t 3], none⟩,
 ⟨some 17, .call n_spec_TestsOk 8704, [.t 16], none⟩,
 ⟨some 18, .un .not, [.t 17], none⟩,
 ⟨some 19, .mv, [.t 18], none⟩,
 ⟨some 20, .mv, [.t 3], some (19, false)⟩,
 ⟨some 21, .len, [.t 20], some (19, false)⟩,
 ⟨some 22, .bin .lss, [.t 21, .c (.i 3)], some (19, false)⟩,
 ⟨some 23, .pick, [.t 19, .c (.b true), .t 22], none⟩] [16, 17, 18, 19, 20, 21, 22])
 (.cond (.t 23) [23]
 (.seq
 (.region false [⟨some 24, .call n_laws_alive 12288, [], none⟩,
 ⟨some 2, .mv, [.t 24], none⟩] [3, 24])
 .ret)
 .skip))
 (.seq
 (.region false [⟨some 25, .mv, [.t 3], none⟩,
 ⟨some 26, .slice false true 2, [.t 25, .c (.i 3)], none⟩,
 ⟨some 5, .mv, [.t 26], none⟩] [3, 25, 26])
 (.seq
 (.region false [⟨some 28, .call n_impl_ReadTerm 14336, [.c (.i 3), .c (.s [97, 38, 98, 124, 97, 38, 99, 124, 98, 38, 99])], none⟩,
 ⟨some 27, .mv, [.t 28], none⟩,
 ⟨some 29, .ext 0, [.t 27], none⟩,
 ⟨some 30, .ext 1, [.t 27], none⟩,
 ⟨some 6, .mv, [.t 29], none⟩,
 ⟨some 7, .mv, [.t 30], none⟩] [27, 28, 29, 30])
 (.seq
 (.region false [⟨some 31, .call n_laws_alive 15872, [], none⟩,
 ⟨some 32, .mv, [.t 31], none⟩,
 ⟨some 33, .mv, [.t 7], some (32, true)⟩,
 ⟨some 34, .mv, [.t 33], some (32, true)⟩,
 ⟨some 35, .mv, [.t 5], some (34, true)⟩,
 ⟨some 36, .mv, [.t 6], some (34, true)⟩,
 ⟨some 37, .call n_impl_BestAverage 18944, [.t 35, .t 36], some (34, true)⟩,
 ⟨some 38, .mv, [.t 5], some (34, true)⟩,
 ⟨some 39, .call n_impl_CountBest 19968, [.t 38, .c (.i 2)], some (34, true)⟩,
 ⟨some 40, .bin .eql, [.t 37, .t 39], some (34, true)⟩,
 ⟨some 41, .pick, [.t 34, .t 40, .c (.b false)], some (32, true)⟩,
 ⟨some 42, .mv, [.t 41], some (32, true)⟩,
 ⟨some 43, .mv, [.t 5], some (42, true)⟩,
 ⟨some 44, .mv, [.t 6], some (42, true)⟩,
 ⟨some 45, .call n_impl_TrueWeight 23040, [.t 43, .t 44], some (42, true)⟩,
 ⟨some 46, .mv, [.t 5], some (42, true)⟩,
 ⟨some 47, .call n_impl_CountWeight 24064, [.t 46, .c (.i 2)], some (42, true)⟩,
 ⟨some 48, .bin .eql, [.t 45, .t 47], some (42, true)⟩,
 ⟨some 49, .pick, [.t 42, .t 48, .c (.b false)], some (32, true)⟩,
 ⟨some 50, .pick, [.t 32, .t 49, .c (.b false)], none⟩,
 ⟨some 2, .mv, [.t 50], none⟩] [5, 6, 7, 31, 32, 33, 34, 35, 36, 37, 38, 39, 40, 41, 42, 43, 44, 45, 46, 47, 48, 49, 50])
 .ret))))))) }
/-- laws.alive -/
def F_laws_alive : LF :=
 { nparams := 0, results := [.t 0], body :=
 (.seq
 (.region false [⟨some 0, .mv, [.c (.b false)], none⟩] [0])
 (.seq
 (.region false [⟨some 1, .build [.i 0, .i 0] [(0, 1), (1, 1)], [.c (.i 1), .c (.i 1)], none⟩,
 ⟨some 2, .bslice 1040 1 2 (.st [.i 0, .i 0]) [0], [.t 1], none⟩,
 ⟨some 3, .call n_impl_TestsOk 1536, [.t 2], none⟩,
 ⟨some 4, .mv, [.t 3], none⟩,
 ⟨some 5, .build [.i 0, .i 0] [], [], some (4, true)⟩,
 ⟨some 6, .bslice 3088 1 2 (.st [.i 0, .i 0]) [0], [.t 5], some (4, true)⟩,
 ⟨some 7, .call n_impl_TestsOk 3584, [.t 6], some (4, true)⟩,
 ⟨some 8, .un .not, [.t 7], some (4, true)⟩,
 ⟨some 9, .pick, [.t 4, .t 8, .c (.b false)], none⟩,
 ⟨some 0, .mv, [.t 9], none⟩] [1, 2, 3, 4, 5, 6, 7, 8, 9])
 .ret)) }
/-- impl.OtherTests -/
def F_impl_OtherTests_L0 : LC :=
 (.seq
 (.region false [⟨some 15, .bin .lss, [.t 14, .t 13], none⟩] [])
 (.seq
 (.cond (.t 15) [15]
 .skip
 (.exit 0))
 (.seq
 (.block 1
 (.seq
 (.region false [⟨some 16, .mv, [.t 14], none⟩,
 ⟨some 17, .idxa 2, [.t 12, .t 14], none⟩,
 ⟨some 18, .load 2 true, [.t 17], none⟩,
 ⟨some 5, .alloc 2576 (.st [.i 0, .i 0]), [], none⟩,
 ⟨some 4, .mv, [.t 16], none⟩,
 ⟨none, .store 2, [.t 5, .t 18], none⟩] [16, 17, 18])
 (.region false [⟨some 19, .mv, [.t 3], none⟩,
 ⟨some 20, .mv, [.t 4], none⟩,
 ⟨some 21, .fld 0 1 false, [.t 5], none⟩,
 ⟨some 22, .load 1 false, [.t 21], none⟩,
 ⟨some 23, .fld 1 1 false, [.t 5], none⟩,
 ⟨some 24, .load 1 false, [.t 23], none⟩,
 ⟨some 25, .bin .sub, [.c (.i 6), .t 24], none⟩,
 ⟨some 26, .build [.i 0, .i 0] [(0, 1), (1, 1)], [.t 22, .t 25], none⟩,
 ⟨some 27, .idxa 2, [.t 19, .t 20], none⟩,
 ⟨none, .store 2, [.t 27, .t 26], none⟩] [4, 5, 19, 20, 21, 22, 23, 24, 25, 26, 27])))
 (.region false [⟨some 28, .bin .add, [.t 14, .c (.i 1)], none⟩,
 ⟨some 14, .mv, [.t 28], none⟩] [28]))))
def F_impl_OtherTests_W0 : LC := .loop F_impl_OtherTests_L0
def F_impl_OtherTests : LF :=
 { nparams := 1, results := [.t 2], body :=
 (.seq
 (.region false [⟨some 2, .newnil 1040, [], none⟩] [2])
 (.seq
 (.seq
 (.region false [⟨some 6, .mv, [.t 0], none⟩,
 ⟨some 7, .call n_impl_TestsOk 3584, [.t 6], none⟩,
 ⟨some 8, .un .not, [.t 7], none⟩] [6, 7])
 (.cond (.t 8) [8]
 (.seq
 (.region false [⟨some 2, .newnil 1040, [], none⟩] [0])
 .ret)
 .skip))
 (.seq
 (.region false [⟨some 9, .mv, [.t 0], none⟩,
 ⟨some 10, .len, [.t 9], none⟩,
 ⟨some 11, .make 5648 2 (.st [.i 0, .i 0]), [.t 10, .t 10], none⟩,
 ⟨some 3, .mv, [.t 11], none⟩] [9, 10, 11])
 (.seq
 (.seq
 (.region false [⟨some 12, .mv, [.t 0], none⟩,
 ⟨some 13, .len, [.t 12], none⟩,
 ⟨some 14, .mv, [.c (.i 0)], none⟩] [0])
 (.block 0
 F_impl_OtherTests_W0))
 (.seq
 (.region false [⟨some 29, .mv, [.t 3], none⟩,
 ⟨some 2, .mv, [.t 29], none⟩] [3, 12, 13, 14, 29])
 .ret))))) }
/-- impl.CountBest -/
def F_impl_CountBest : LF :=
 { nparams := 2, results := [.t 4], body :=
 (.seq
 (.region false [⟨some 4, .mv, [.c (.i 0)], none⟩] [4])
 (.seq
 (.seq
 (.region false [⟨some 5, .mv, [.t 0], none⟩,
 ⟨some 6, .mv, [.t 1], none⟩,
 ⟨some 7, .call n_impl_CountOk 3584, [.t 5, .t 6], none⟩,
 ⟨some 8, .un .not, [.t 7], none⟩] [5, 6, 7])
 (.cond (.t 8) [8]
 (.seq
 (.region false [⟨some 4, .mv, [.c (.i (-1))], none⟩] [0, 1])
 .ret)
 .skip))
 (.seq
 (.region false [⟨some 9, .mv, [.t 0], none⟩,
 ⟨some 10, .mv, [.t 0], none⟩,
 ⟨some 11, .call n_impl_allOf 5632, [.t 10], none⟩,
 ⟨some 12, .mv, [.t 1], none⟩,
 ⟨some 13, .call n_impl_leastToCount 6656, [.t 9, .t 11, .t 12, .c (.fn n_impl_CountBest_1 [])], none⟩,
 ⟨some 4, .mv, [.t 13], none⟩] [0, 1, 9, 10, 11, 12, 13])
 .ret))) }
/-- spec.DrawCountBest -/
def F_spec_DrawCountBest : LF :=
 { nparams := 1, results := [.t 2, .t 3], body :=
 (.seq
 (.region false [⟨some 2, .newnil 1040, [], none⟩,
 ⟨some 3, .mv, [.c (.i 0)], none⟩] [2, 3])
 (.seq
 (.region false [⟨some 4, .mv, [.t 0], none⟩,
 ⟨some 5, .call n_spec_l20Open 2560, [.t 4], none⟩,
 ⟨some 6, .call n_spec_l20Count 3072, [.t 5], none⟩,
 ⟨some 7, .ext 0, [.t 6], none⟩,
 ⟨some 8, .ext 1, [.t 6], none⟩,
 ⟨some 2, .mv, [.t 7], none⟩,
 ⟨some 3, .mv, [.t 8], none⟩] [0, 4, 5, 6, 7, 8])
 .ret)) }
/-- spec.CountBest -/
def F_spec_CountBest : LF :=
 { nparams := 2, results := [.t 4], body :=
 (.seq
 (.region false [⟨some 4, .mv, [.c (.i 0)], none⟩] [4])
 (.seq
 (.seq
 (.region false [⟨some 5, .mv, [.t 0], none⟩,
 ⟨some 6, .mv, [.t 1], none⟩,
 ⟨some 7, .call n_spec_CountOk 3584, [.t 5, .t 6], none⟩,
 ⟨some 8, .un .not, [.t 7], none⟩] [5, 6, 7])
 (.cond (.t 8) [8]
 (.seq
 (.region false [⟨some 4, .mv, [.c (.i (-1))], none⟩] [0, 1])
 .ret)
 .skip))
 (.seq
 (.region true [⟨some 9, .mv, [.t 0], none⟩,
 ⟨some 10, .mv, [.t 0], none⟩,
 ⟨some 11, .len, [.t 10], none⟩,
 ⟨some 12, .bin .shl, [.c (.i 1), .t 11], none⟩,
 ⟨some 13, .bin .sub, [.t 12, .c (.i 1)], none⟩,
 ⟨some 14, .mv, [.t 1], none⟩,
 ⟨some 15, .mv, [.t 0], none⟩,
 ⟨some 16, .len, [.t 15], none⟩,
 ⟨some 17, .call n_spec_l1Power 8704, [.t 16], none⟩,
 ⟨some 18, .call n_spec_l8Best 9216, [.t 9, .t 13, .t 14, .t 17], none⟩,
 ⟨some 4, .mv, [.t 18], none⟩] [0, 1, 9, 10, 11, 12, 13, 14, 15, 16, 17, 18])
 .ret))) }
/-- impl.BestAverage -/
def F_impl_BestAverage : LF :=
 { nparams := 2, results := [.t 4], body :=
 (.seq
 (.region false [⟨some 4, .mv, [.c (.i 0)], none⟩] [4])
 (.seq
 (.region false [⟨some 8, .mv, [.t 0], none⟩,
 ⟨some 9, .len, [.t 8], none⟩,
 ⟨some 5, .mv, [.t 9], none⟩] [8, 9])
 (.seq
 (.seq
 (.region false [⟨some 10, .mv, [.t 0], none⟩,
 ⟨some 11, .call n_impl_TestsOk 5632, [.t 10], none⟩,
 ⟨some 12, .un .not, [.t 11], none⟩,
 ⟨some 13, .mv, [.t 12], none⟩,
 ⟨some 14, .mv, [.t 5], some (13, false)⟩,
 ⟨some 15, .mv, [.t 1], some (13, false)⟩,
 ⟨some 16, .call n_impl_TermOk 8192, [.t 14, .t 15], some (13, false)⟩,
 ⟨some 17, .un .not, [.t 16], some (13, false)⟩,
 ⟨some 18, .pick, [.t 13, .c (.b true), .t 17], none⟩] [10, 11, 12, 13, 14, 15, 16, 17])
 (.cond (.t 18) [18]
 (.seq
 (.region false [⟨some 4, .mv, [.c (.i (-1))], none⟩] [0, 1, 5])
 .ret)
 .skip))
 (.seq
 (.region false [⟨some 20, .mv, [.t 5], none⟩,
 ⟨some 21, .mv, [.t 1], none⟩,
 ⟨some 22, .call n_impl_startOf 11264, [.t 20, .t 21], none⟩,
 ⟨some 23, .mv, [.t 0], none⟩,
 ⟨some 24, .call n_impl_averagesOf 12288, [.t 23], none⟩,
 ⟨some 25, .call n_impl_leastFrom 12800, [.t 22, .t 24], none⟩,
 ⟨some 19, .mv, [.t 25], none⟩,
 ⟨some 26, .ext 0, [.t 19], none⟩,
 ⟨some 27, .ext 1, [.t 19], none⟩,
 ⟨some 6, .mv, [.t 26], none⟩,
 ⟨some 7, .mv, [.t 27], none⟩] [0, 1, 5, 6, 19, 20, 21, 22, 23, 24, 25, 26, 27])
 (.seq
 (.region false [⟨some 28, .mv, [.t 7], none⟩,
 ⟨some 4, .mv, [.t 28], none⟩] [7, 28])
 .ret))))) }
/-- impl.RowTerm -/
def F_impl_RowTerm_L0 : LC :=
 (.seq
 (.seq
 (.region false [⟨some 22, .mv, [.t 7], none⟩,
 ⟨some 23, .mv, [.t 0], none⟩,
 ⟨some 24, .bin .lss, [.t 22, .t 23], none⟩] [22, 23])
 (.cond (.t 24) [24]
 .skip
 (.exit 0)))
 (.seq
 (.block 1
 (.region false [⟨some 27, .mv, [.t 6], none⟩,
 ⟨some 28, .mv, [.t 7], none⟩,
 ⟨some 29, .build [.i 0, .i 0] [(0, 1), (1, 1)], [.c (.i 0), .t 28], none⟩,
 ⟨some 30, .load 2 true, [.t 5], none⟩,
 ⟨some 31, .bslice 15888 2 2 (.st [.i 0, .i 0]) [0, 1], [.t 29, .t 30], none⟩,
 ⟨some 32, .app 16400 2, [.t 27, .t 31], none⟩,
 ⟨some 6, .mv, [.t 32], none⟩] [27, 28, 29, 30, 31, 32]))
 (.region false [⟨some 25, .mv, [.t 7], none⟩,
 ⟨some 26, .bin .add, [.t 25, .c (.i 1)], none⟩,
 ⟨some 7, .mv, [.t 26], none⟩] [25, 26])))
def F_impl_RowTerm_W0 : LC := .loop F_impl_RowTerm_L0
def F_impl_RowTerm : LF :=
 { nparams := 2, results := [.t 4], body :=
 (.seq
 (.region false [⟨some 4, .newnil 2064, [], none⟩] [4])
 (.seq
 (.seq
 (.region false [⟨some 8, .mv, [.t 0], none⟩,
 ⟨some 9, .call n_impl_manyOk 4608, [.t 8], none⟩,
 ⟨some 10, .un .not, [.t 9], none⟩,
 ⟨some 11, .mv, [.t 10], none⟩,
 ⟨some 12, .mv, [.t 1], some (11, false)⟩,
 ⟨some 13, .call n_impl_rowOk 6656, [.t 12], some (11, false)⟩,
 ⟨some 14, .un .not, [.t 13], some (11, false)⟩,
 ⟨some 15, .pick, [.t 11, .c (.b true), .t 14], none⟩] [8, 9, 10, 11, 12, 13, 14])
 (.cond (.t 15) [15]
 (.seq
 (.region false [⟨some 4, .newnil 2064, [], none⟩] [0, 1])
 .ret)
 .skip))
 (.seq
 (.region false [⟨some 16, .build [.i 0, .i 0] [(0, 1)], [.c (.i 2)], none⟩,
 ⟨some 5, .alloc 2576 (.st [.i 0, .i 0]), [], none⟩,
 ⟨none, .store 2, [.t 5, .t 16], none⟩] [16])
 (.seq
 (.seq
 (.region false [⟨some 17, .mv, [.t 1], none⟩,
 ⟨some 18, .bin .eql, [.t 17, .c (.i 1)], none⟩] [1, 17])
 (.cond (.t 18) [18]
 (.region false [⟨some 19, .fld 0 1 false, [.t 5], none⟩,
 ⟨none, .store 1, [.t 19, .c (.i 3)], none⟩] [19])
 .skip))
 (.seq
 (.region false [⟨some 20, .build [.i 0, .i 0] [(0, 1), (1, 1)], [.c (.i 0), .c (.i 0)], none⟩,
 ⟨some 21, .bslice 10768 1 2 (.st [.i 0, .i 0]) [0], [.t 20], none⟩,
 ⟨some 6, .mv, [.t 21], none⟩] [20, 21])
 (.seq
 (.seq
 (.region false [⟨some 7, .mv, [.c (.i 1)], none⟩] [])
 (.block 0
 F_impl_RowTerm_W0))
 (.seq
 (.region false [⟨some 33, .mv, [.t 6], none⟩,
 ⟨some 4, .mv, [.t 33], none⟩] [0, 5, 6, 7, 33])
 .ret))))))) }
/-- laws.power -/
def F_laws_power_L0 : LC :=
 (.seq
 (.seq
 (.region false [⟨some 5, .mv, [.t 4], none⟩,
 ⟨some 6, .mv, [.t 0], none⟩,
 ⟨some 7, .bin .lss, [.t 5, .t 6], none⟩] [5, 6])
 (.cond (.t 7) [7]
 .skip
 (.exit 0)))
 (.seq
 (.block 1
 (.region false [⟨some 10, .mv, [.t 3], none⟩,
 ⟨some 11, .bin .mul, [.t 10, .c (.i 6)], none⟩,
 ⟨some 3, .mv, [.t 11], none⟩] [10, 11]))
 (.region false [⟨some 8, .mv, [.t 4], none⟩,
 ⟨some 9, .bin .add, [.t 8, .c (.i 1)], none⟩,
 ⟨some 4, .mv, [.t 9], none⟩] [8, 9])))
def F_laws_power_W0 : LC := .loop F_laws_power_L0
def F_laws_power : LF :=
 { nparams := 1, results := [.t 2], body :=
 (.seq
 (.region false [⟨some 2, .mv, [.c (.i 0)], none⟩] [2])
 (.seq
 (.region false [⟨some 3, .mv, [.c (.i 1)], none⟩] [])
 (.seq
 (.seq
 (.region false [⟨some 4, .mv, [.c (.i 0)], none⟩] [])
 (.block 0
 F_laws_power_W0))
 (.seq
 (.region false [⟨some 12, .mv, [.t 3], none⟩,
 ⟨some 2, .mv, [.t 12], none⟩] [0, 3, 4, 12])
 .ret)))) }
/-- impl.CostOf -/
def F_impl_CostOf_L0 : LC :=
 (.seq
 (.region false [⟨some 12, .bin .lss, [.t 11, .t 10], none⟩] [])
 (.seq
 (.cond (.t 12) [12]
 .skip
 (.exit 0))
 (.seq
 (.block 1
 (.seq
 (.region false [⟨some 13, .idxa 2, [.t 9, .t 11], none⟩,
 ⟨some 14, .load 2 true, [.t 13], none⟩,
 ⟨some 5, .alloc 2576 (.st [.i 0, .i 0]), [], none⟩,
 ⟨none, .store 2, [.t 5, .t 14], none⟩] [13, 14])
 (.region false [⟨some 15, .mv, [.t 3], none⟩,
 ⟨some 16, .fld 0 1 false, [.t 5], none⟩,
 ⟨some 17, .load 1 false, [.t 16], none⟩,
 ⟨some 18, .bin .add, [.t 15, .t 17], none⟩,
 ⟨some 3, .mv, [.t 18], none⟩] [5, 15, 16, 17, 18])))
 (.region false [⟨some 19, .bin .add, [.t 11, .c (.i 1)], none⟩,
 ⟨some 11, .mv, [.t 19], none⟩] [19]))))
def F_impl_CostOf_W0 : LC := .loop F_impl_CostOf_L0
def F_impl_CostOf : LF :=
 { nparams := 1, results := [.t 2], body :=
 (.seq
 (.region false [⟨some 2, .mv, [.c (.i 0)], none⟩] [2])
 (.seq
 (.seq
 (.region false [⟨some 6, .mv, [.t 0], none⟩,
 ⟨some 7, .call n_impl_TestsOk 3584, [.t 6], none⟩,
 ⟨some 8, .un .not, [.t 7], none⟩] [6, 7])
 (.cond (.t 8) [8]
 (.seq
 (.region false [⟨some 2, .mv, [.c (.i (-1))], none⟩] [0])
 .ret)
 .skip))
 (.seq
 (.region false [⟨some 3, .mv, [.c (.i 0)], none⟩] [])
 (.seq
 (.seq
 (.region false [⟨some 9, .mv, [.t 0], none⟩,
 ⟨some 10, .len, [.t 9], none⟩,
 ⟨some 11, .mv, [.c (.i 0)], none⟩] [0])
 (.block 0
 F_impl_CostOf_W0))
 (.seq
 (.region false [⟨some 20, .mv, [.t 3], none⟩,
 ⟨some 2, .mv, [.t 20], none⟩] [3, 9, 10, 11, 20])
 .ret))))) }
/-- spec.TestsOk -/
def F_spec_TestsOk_L0 : LC :=
 (.seq
 (.seq
 (.region false [⟨some 4, .mv, [.t 3], none⟩,
 ⟨some 5, .mv, [.t 0], none⟩,
 ⟨some 6, .len, [.t 5], none⟩,
 ⟨some 7, .bin .lss, [.t 4, .t 6], none⟩] [4, 5, 6])
 (.cond (.t 7) [7]
 .skip
 (.exit 0)))
 (.seq
 (.block 1
 (.seq
 (.region false [⟨some 10, .mv, [.t 0], none⟩,
 ⟨some 11, .mv, [.t 3], none⟩,
 ⟨some 12, .idxa 2, [.t 10, .t 11], none⟩,
 ⟨some 13, .fld 0 1 false, [.t 12], none⟩,
 ⟨some 14, .load 1 false, [.t 13], none⟩,
 ⟨some 15, .call n_spec_l1In 7680, [.t 14, .c (.i 1), .c (.i 9)], none⟩,
 ⟨some 16, .un .not, [.t 15], none⟩,
 ⟨some 17, .mv, [.t 16], none⟩,
 ⟨some 18, .mv, [.t 0], some (17, false)⟩,
 ⟨some 19, .mv, [.t 3], some (17, false)⟩,
 ⟨some 20, .idxa 2, [.t 18, .t 19], some (17, false)⟩,
 ⟨some 21, .fld 1 1 false, [.t 20], some (17, false)⟩,
 ⟨some 22, .load 1 false, [.t 21], some (17, false)⟩,
 ⟨some 23, .call n_spec_l1In 11776, [.t 22, .c (.i 1), .c (.i 5)], some (17, false)⟩,
 ⟨some 24, .un .not, [.t 23], some (17, false)⟩,
 ⟨some 25, .pick, [.t 17, .c (.b true), .t 24], none⟩] [10, 11, 12, 13, 14, 15, 16, 17, 18, 19, 20, 21, 22, 23, 24])
 (.cond (.t 25) [25]
 (.seq
 (.region false [⟨some 2, .mv, [.c (.b false)], none⟩] [0, 3])
 .ret)
 .skip)))
 (.region false [⟨some 8, .mv, [.t 3], none⟩,
 ⟨some 9, .bin .add, [.t 8, .c (.i 1)], none⟩,
 ⟨some 3, .mv, [.t 9], none⟩] [8, 9])))
def F_spec_TestsOk_W0 : LC := .loop F_spec_TestsOk_L0
def F_spec_TestsOk : LF :=
 { nparams := 1, results := [.t 2], body :=
 (.seq
 (.region false [⟨some 2, .mv, [.c (.b false)], none⟩] [2])
 (.seq
 (.seq
 (.region false [⟨some 3, .mv, [.c (.i 0)], none⟩] [])
 (.block 0
 F_spec_TestsOk_W0))
 (.seq
 (.region false [⟨some 26, .mv, [.t 0], none⟩,
 ⟨some 27, .len, [.t 26], none⟩,
 ⟨some 28, .call n_spec_l1In 14336, [.t 27, .c (.i 1), .c (.i 5)], none⟩,
 ⟨some 2, .mv, [.t 28], none⟩] [0, 3, 26, 27, 28])
 .ret))) }
/-- impl.ReadTerm -/
def F_impl_ReadTerm : LF :=
 { nparams := 2, results := [.t 4, .t 5], body :=
 (.seq
 (.region false [⟨some 4, .newnil 2064, [], none⟩,
 ⟨some 5, .mv, [.c (.b false)], none⟩] [4, 5])
 (.seq
 (.seq
 (.region false [⟨some 8, .mv, [.t 1], none⟩,
 ⟨some 9, .lens, [.t 8], none⟩,
 ⟨some 10, .bin .gtr, [.t 9, .c (.i 80)], none⟩] [8, 9])
 (.cond (.t 10) [10]
 (.seq
 (.region false [⟨some 4, .newnil 2064, [], none⟩,
 ⟨some 5, .mv, [.c (.b false)], none⟩] [0, 1])
 .ret)
 .skip))
 (.seq
 (.region false [⟨some 12, .mv, [.t 1], none⟩,
 ⟨some 13, .call n_impl_readOr 6656, [.t 12], none⟩,
 ⟨some 11, .mv, [.t 13], none⟩,
 ⟨some 14, .ext 0, [.t 11], none⟩,
 ⟨some 15, .ext 1, [.t 11], none⟩,
 ⟨some 6, .mv, [.t 14], none⟩,
 ⟨some 7, .mv, [.t 15], none⟩] [11, 12, 13, 14, 15])
 (.seq
 (.seq
 (.region false [⟨some 16, .mv, [.t 7], none⟩,
 ⟨some 17, .bin .neq, [.t 16, .c (.s [])], none⟩,
 ⟨some 18, .mv, [.t 17], none⟩,
 ⟨some 19, .mv, [.t 0], some (18, false)⟩,
 ⟨some 20, .mv, [.t 6], some (18, false)⟩,
 ⟨some 21, .call n_impl_TermOk 10752, [.t 19, .t 20], some (18, false)⟩,
 ⟨some 22, .un .not, [.t 21], some (18, false)⟩,
 ⟨some 23, .pick, [.t 18, .c (.b true), .t 22], none⟩,
 ⟨some 24, .mv, [.t 23], none⟩,
 ⟨some 25, .mv, [.t 0], some (24, false)⟩,
 ⟨some 26, .mv, [.t 6], some (24, false)⟩,
 ⟨some 27, .call n_impl_TermText 13824, [.t 25, .t 26], some (24, false)⟩,
 ⟨some 28, .mv, [.t 1], some (24, false)⟩,
 ⟨some 29, .bin .neq, [.t 27, .t 28], some (24, false)⟩,
 ⟨some 30, .pick, [.t 24, .c (.b true), .t 29], none⟩] [0, 1, 7, 16, 17, 18, 19, 20, 21, 22, 23, 24, 25, 26, 27, 28, 29])
 (.cond (.t 30) [30]
 (.seq
 (.region false [⟨some 4, .newnil 2064, [], none⟩,
 ⟨some 5, .mv, [.c (.b false)], none⟩] [6])
 .ret)
 .skip))
 (.seq
 (.region false [⟨some 31, .mv, [.t 6], none⟩,
 ⟨some 4, .mv, [.t 31], none⟩,
 ⟨some 5, .mv, [.c (.b true)], none⟩] [6, 31])
 .ret))))) }
/-- impl.TrueWeight -/
def F_impl_TrueWeight : LF :=
 { nparams := 2, results := [.t 4], body :=
 (.seq
 (.region false [⟨some 4, .mv, [.c (.i 0)], none⟩] [4])
 (.seq
 (.seq
 (.region false [⟨some 5, .mv, [.t 0], none⟩,
 ⟨some 6, .call n_impl_TestsOk 3072, [.t 5], none⟩,
 ⟨some 7, .un .not, [.t 6], none⟩,
 ⟨some 8, .mv, [.t 7], none⟩,
 ⟨some 9, .mv, [.t 0], some (8, false)⟩,
 ⟨some 10, .len, [.t 9], some (8, false)⟩,
 ⟨some 11, .mv, [.t 1], some (8, false)⟩,
 ⟨some 12, .call n_impl_TermOk 6144, [.t 10, .t 11], some (8, false)⟩,
 ⟨some 13, .un .not, [.t 12], some (8, false)⟩,
 ⟨some 14, .pick, [.t 8, .c (.b true), .t 13], none⟩] [5, 6, 7, 8, 9, 10, 11, 12, 13])
 (.cond (.t 14) [14]
 (.seq
 (.region false [⟨some 4, .mv, [.c (.i (-1))], none⟩] [0, 1])
 .ret)
 .skip))
 (.seq
 (.region false [⟨some 15, .mv, [.t 0], none⟩,
 ⟨some 16, .mv, [.t 1], none⟩,
 ⟨some 17, .call n_impl_trueStates 8704, [.t 16], none⟩,
 ⟨some 18, .call n_impl_weightOfStates 9216, [.t 15, .t 17], none⟩,
 ⟨some 4, .mv, [.t 18], none⟩] [0, 1, 15, 16, 17, 18])
 .ret))) }
/-- impl.CountWeight -/
def F_impl_CountWeight_L0 : LC :=
 (.seq
 (.region false [⟨some 15, .bin .lss, [.t 14, .t 13], none⟩] [])
 (.seq
 (.cond (.t 15) [15]
 .skip
 (.exit 0))
 (.seq
 (.block 1
 (.seq
 (.region false [⟨some 16, .mv, [.t 14], none⟩,
 ⟨some 6, .mv, [.t 16], none⟩] [16])
 (.seq
 (.region false [⟨some 17, .mv, [.t 6], none⟩,
 ⟨some 18, .call n_impl_sizeOf 9216, [.t 17], none⟩,
 ⟨some 19, .mv, [.t 1], none⟩,
 ⟨some 20, .bin .geq, [.t 18, .t 19], none⟩] [17, 18, 19])
 (.cond (.t 20) [20]
 (.region false [⟨some 21, .mv, [.t 5], none⟩,
 ⟨some 22, .mv, [.t 0], none⟩,
 ⟨some 23, .mv, [.t 6], none⟩,
 ⟨some 24, .call n_impl_WeightOf 12288, [.t 22, .t 23], none⟩,
 ⟨some 25, .bin .add, [.t 21, .t 24], none⟩,
 ⟨some 5, .mv, [.t 25], none⟩] [6, 21, 22, 23, 24, 25])
 .skip))))
 (.region false [⟨some 26, .bin .add, [.t 14, .c (.i 1)], none⟩,
 ⟨some 14, .mv, [.t 26], none⟩] [6, 26]))))
def F_impl_CountWeight_W0 : LC := .loop F_impl_CountWeight_L0
def F_impl_CountWeight : LF :=
 { nparams := 2, results := [.t 4], body :=
 (.seq
 (.region false [⟨some 4, .mv, [.c (.i 0)], none⟩] [4])
 (.seq
 (.seq
 (.region false [⟨some 7, .mv, [.t 0], none⟩,
 ⟨some 8, .mv, [.t 1], none⟩,
 ⟨some 9, .call n_impl_CountOk 4608, [.t 7, .t 8], none⟩,
 ⟨some 10, .un .not, [.t 9], none⟩] [7, 8, 9])
 (.cond (.t 10) [10]
 (.seq
 (.region false [⟨some 4, .mv, [.c (.i (-1))], none⟩] [0, 1])
 .ret)
 .skip))
 (.seq
 (.region false [⟨some 5, .mv, [.c (.i 0)], none⟩] [])
 (.seq
 (.seq
 (.region false [⟨some 11, .mv, [.t 0], none⟩,
 ⟨some 12, .len, [.t 11], none⟩,
 ⟨some 13, .call n_impl_statesOf 6656, [.t 12], none⟩,
 ⟨some 14, .mv, [.c (.i 0)], none⟩] [11, 12])
 (.block 0
 F_impl_CountWeight_W0))
 (.seq
 (.region false [⟨some 27, .mv, [.t 5], none⟩,
 ⟨some 4, .mv, [.t 27], none⟩] [0, 1, 5, 13, 14, 27])
 .ret))))) }
/-- spec.l20Open -/
def F_spec_l20Open : LF :=
 { nparams := 1, results := [.t 2], body :=
 (.seq
 (.region false [⟨some 2, .mv, [.c (.np)], none⟩] [2])
 (.seq
 (.seq
 (.region false [⟨some 3, .mv, [.t 0], none⟩,
 ⟨some 4, .len, [.t 3], none⟩,
 ⟨some 5, .bin .gtr, [.t 4, .c (.i 2000)], none⟩] [3, 4])
 (.cond (.t 5) [5]
 (.region false [⟨some 6, .mv, [.t 0], none⟩,
 ⟨some 7, .slice false true 1, [.t 6, .c (.i 2000)], none⟩,
 ⟨some 0, .mv, [.t 7], none⟩] [6, 7])
 .skip))
 (.seq
 (.region false [⟨some 8, .mv, [.t 0], none⟩,
 ⟨some 9, .build [.sl 1 [], .i 0] [(0, 1)], [.t 8], none⟩,
 ⟨some 10, .box 5136, [.t 9], none⟩,
 ⟨some 2, .mv, [.t 10], none⟩] [0, 8, 9, 10])
 .ret))) }
/-- spec.l20Tests -/
def F_spec_l20Tests_L0 : LC :=
 (.seq
 (.seq
 (.region false [⟨some 11, .mv, [.t 6], none⟩,
 ⟨some 12, .bin .gtr, [.t 11, .c (.i 0)], none⟩] [11])
 (.cond (.t 12) [12]
 .skip
 (.exit 0)))
 (.seq
 (.block 1
 (.region false [⟨some 15, .mv, [.t 5], none⟩,
 ⟨some 16, .mv, [.t 0], none⟩,
 ⟨some 17, .call n_spec_l20Rd_pick 8704, [.t 16, .c (.i 9)], none⟩,
 ⟨some 18, .bin .add, [.c (.i 1), .t 17], none⟩,
 ⟨some 19, .mv, [.t 0], none⟩,
 ⟨some 20, .call n_spec_l20Rd_pick 10240, [.t 19, .c (.i 5)], none⟩,
 ⟨some 21, .bin .add, [.c (.i 1), .t 20], none⟩,
 ⟨some 22, .build [.i 0, .i 0] [(0, 1), (1, 1)], [.t 18, .t 21], none⟩,
 ⟨some 23, .bslice 11792 1 2 (.st [.i 0, .i 0]) [0], [.t 22], none⟩,
 ⟨some 24, .app 12304 2, [.t 15, .t 23], none⟩,
 ⟨some 5, .mv, [.t 24], none⟩] [15, 16, 17, 18, 19, 20, 21, 22, 23, 24]))
 (.region false [⟨some 13, .mv, [.t 6], none⟩,
 ⟨some 14, .bin .sub, [.t 13, .c (.i 1)], none⟩,
 ⟨some 6, .mv, [.t 14], none⟩] [13, 14])))
def F_spec_l20Tests_W0 : LC := .loop F_spec_l20Tests_L0
def F_spec_l20Tests : LF :=
 { nparams := 2, results := [.t 4], body :=
 (.seq
 (.region false [⟨some 4, .newnil 2064, [], none⟩] [4])
 (.seq
 (.region false [⟨some 7, .bslice 3600 0 2 (.st [.i 0, .i 0]) [], [], none⟩,
 ⟨some 5, .mv, [.t 7], none⟩] [7])
 (.seq
 (.seq
 (.region false [⟨some 8, .mv, [.t 0], none⟩,
 ⟨some 9, .call n_spec_l20Rd_pick 4608, [.t 8, .c (.i 5)], none⟩,
 ⟨some 10, .bin .add, [.c (.i 1), .t 9], none⟩,
 ⟨some 6, .mv, [.t 10], none⟩] [8, 9, 10])
 (.block 0
 F_spec_l20Tests_W0))
 (.seq
 (.seq
 (.region false [⟨some 25, .mv, [.t 0], none⟩,
 ⟨some 26, .mv, [.t 1], none⟩,
 ⟨some 27, .call n_spec_l20Rd_odd 13824, [.t 25, .t 26], none⟩] [1, 6, 25, 26])
 (.cond (.t 27) [27]
 (.seq
 (.region false [⟨some 28, .mv, [.t 0], none⟩,
 ⟨some 29, .call n_spec_l20Rd_pick 14848, [.t 28, .c (.i 3)], none⟩] [28])
 (.block 2
 (.seq
 (.region false [⟨some 39, .bin .eql, [.t 29, .c (.i 0)], none⟩,
 ⟨some 38, .mv, [.t 39], none⟩] [39])
 (.cond (.t 38) [38]
 (.seq
 (.region false [⟨some 40, .bslice 20496 0 2 (.st [.i 0, .i 0]) [], [], none⟩,
 ⟨some 4, .mv, [.t 40], none⟩] [5, 29, 40])
 .ret)
 (.seq
 (.region false [⟨some 42, .bin .eql, [.t 29, .c (.i 1)], none⟩,
 ⟨some 41, .mv, [.t 42], none⟩] [29, 42])
 (.cond (.t 41) [41]
 (.region false [⟨some 43, .mv, [.t 5], none⟩,
 ⟨some 44, .bslice 22536 2 1 (.i 0) [0, 1], [.c (.i 0), .c (.i 10)], none⟩,
 ⟨some 45, .mv, [.t 0], none⟩,
 ⟨some 46, .call n_spec_l20Rd_pick 23552, [.t 45, .c (.i 2)], none⟩,
 ⟨some 47, .idxa 1, [.t 44, .t 46], none⟩,
 ⟨some 48, .load 1 false, [.t 47], none⟩,
 ⟨some 49, .idxa 2, [.t 43, .c (.i 0)], none⟩,
 ⟨some 50, .fld 0 1 false, [.t 49], none⟩,
 ⟨none, .store 1, [.t 50, .t 48], none⟩] [43, 44, 45, 46, 47, 48, 49, 50])
 (.region false [⟨some 30, .mv, [.t 5], none⟩,
 ⟨some 31, .bslice 15880 2 1 (.i 0) [0, 1], [.c (.i 0), .c (.i 6)], none⟩,
 ⟨some 32, .mv, [.t 0], none⟩,
 ⟨some 33, .call n_spec_l20Rd_pick 16896, [.t 32, .c (.i 2)], none⟩,
 ⟨some 34, .idxa 1, [.t 31, .t 33], none⟩,
 ⟨some 35, .load 1 false, [.t 34], none⟩,
 ⟨some 36, .idxa 2, [.t 30, .c (.i 0)], none⟩,
 ⟨some 37, .fld 1 1 false, [.t 36], none⟩,
 ⟨none, .store 1, [.t 37, .t 35], none⟩] [30, 31, 32, 33, 34, 35, 36, 37])))))))
 .skip))
 (.seq
 (.region false [⟨some 51, .mv, [.t 5], none⟩,
 ⟨some 4, .mv, [.t 51], none⟩] [5, 51])
 .ret))))) }
/-- spec.l20Rd).pick -/
def F_spec_l20Rd_pick : LF :=
 { nparams := 2, results := [.t 4], body :=
 (.seq
 (.region false [⟨some 4, .mv, [.c (.i 0)], none⟩] [4])
 (.seq
 (.region false [⟨some 7, .mv, [.t 0], none⟩,
 ⟨some 8, .mv, [.t 0], none⟩,
 ⟨some 9, .chk, [.t 8], none⟩,
 ⟨some 10, .fld 1 1 false, [.t 9], none⟩,
 ⟨some 11, .load 1 false, [.t 10], none⟩,
 ⟨some 12, .bin .add, [.t 11, .c (.i 1)], none⟩,
 ⟨some 13, .chk, [.t 7], none⟩,
 ⟨some 14, .fld 1 1 false, [.t 13], none⟩,
 ⟨none, .store 1, [.t 14, .t 12], none⟩] [7, 8, 9, 10, 11, 12, 13, 14])
 (.seq
 (.seq
 (.region false [⟨some 15, .mv, [.t 1], none⟩,
 ⟨some 16, .bin .lss, [.t 15, .c (.i 1)], none⟩,
 ⟨some 17, .mv, [.t 16], none⟩,
 ⟨some 18, .mv, [.t 0], some (17, false)⟩,
 ⟨some 19, .chk, [.t 18], some (17, false)⟩,
 ⟨some 20, .fld 0 1 false, [.t 19], some (17, false)⟩,
 ⟨some 21, .load 1 false, [.t 20], some (17, false)⟩,
 ⟨some 22, .len, [.t 21], some (17, false)⟩,
 ⟨some 23, .bin .eql, [.t 22, .c (.i 0)], some (17, false)⟩,
 ⟨some 24, .pick, [.t 17, .c (.b true), .t 23], none⟩] [15, 16, 17, 18, 19, 20, 21, 22, 23])
 (.cond (.t 24) [24]
 (.seq
 (.region false [⟨some 4, .mv, [.c (.i 0)], none⟩] [1])
 .ret)
 .skip))
 (.seq
 (.region false [⟨some 25, .mv, [.t 0], none⟩,
 ⟨some 26, .chk, [.t 25], none⟩,
 ⟨some 27, .fld 1 1 false, [.t 26], none⟩,
 ⟨some 28, .load 1 false, [.t 27], none⟩,
 ⟨some 29, .bin .sub, [.t 28, .c (.i 1)], none⟩,
 ⟨some 5, .mv, [.t 29], none⟩] [25, 26, 27, 28, 29])
 (.seq
 (.seq
 (.region false [⟨some 30, .mv, [.t 5], none⟩,
 ⟨some 31, .mv, [.t 0], none⟩,
 ⟨some 32, .chk, [.t 31], none⟩,
 ⟨some 33, .fld 0 1 false, [.t 32], none⟩,
 ⟨some 34, .load 1 false, [.t 33], none⟩,
 ⟨some 35, .len, [.t 34], none⟩,
 ⟨some 36, .bin .lss, [.t 30, .t 35], none⟩] [30, 31, 32, 33, 34, 35])
 (.cond (.t 36) [36]
 (.seq
 (.region false [⟨some 37, .mv, [.t 0], none⟩,
 ⟨some 38, .chk, [.t 37], none⟩,
 ⟨some 39, .fld 0 1 false, [.t 38], none⟩,
 ⟨some 40, .load 1 false, [.t 39], none⟩,
 ⟨some 41, .mv, [.t 5], none⟩,
 ⟨some 42, .idxa 1, [.t 40, .t 41], none⟩,
 ⟨some 43, .load 1 false, [.t 42], none⟩,
 ⟨some 44, .conv .b2i 22528, [.t 43], none⟩,
 ⟨some 45, .mv, [.t 1], none⟩,
 ⟨some 46, .bin .rem, [.t 44, .t 45], none⟩,
 ⟨some 4, .mv, [.t 46], none⟩] [1, 5, 37, 38, 39, 40, 41, 42, 43, 44, 45, 46])
 .ret)
 .skip))
 (.seq
 (.region true [⟨some 47, .mv, [.t 0], none⟩,
 ⟨some 48, .chk, [.t 47], none⟩,
 ⟨some 49, .fld 0 1 false, [.t 48], none⟩,
 ⟨some 50, .load 1 false, [.t 49], none⟩,
 ⟨some 51, .mv, [.t 5], none⟩,
 ⟨some 52, .mv, [.t 0], none⟩,
 ⟨some 53, .chk, [.t 52], none⟩,
 ⟨some 54, .fld 0 1 false, [.t 53], none⟩,
 ⟨some 55, .load 1 false, [.t 54], none⟩,
 ⟨some 56, .len, [.t 55], none⟩,
 ⟨some 57, .bin .rem, [.t 51, .t 56], none⟩,
 ⟨some 58, .idxa 1, [.t 50, .t 57], none⟩,
 ⟨some 59, .load 1 false, [.t 58], none⟩,
 ⟨some 60, .conv .b2i 30720, [.t 59], none⟩,
 ⟨some 61, .bin .mul, [.t 60, .c (.i 131)], none⟩,
 ⟨some 62, .mv, [.t 0], none⟩,
 ⟨some 63, .chk, [.t 62], none⟩,
 ⟨some 64, .fld 0 1 false, [.t 63], none⟩,
 ⟨some 65, .load 1 false, [.t 64], none⟩,
 ⟨some 66, .mv, [.t 5], none⟩,
 ⟨some 67, .bin .mul, [.t 66, .c (.i 7)], none⟩,
 ⟨some 68, .bin .add, [.t 67, .c (.i 3)], none⟩,
 ⟨some 69, .mv, [.t 0], none⟩,
 ⟨some 70, .chk, [.t 69], none⟩,
 ⟨some 71, .fld 0 1 false, [.t 70], none⟩,
 ⟨some 72, .load 1 false, [.t 71], none⟩,
 ⟨some 73, .len, [.t 72], none⟩,
 ⟨some 74, .bin .rem, [.t 68, .t 73], none⟩,
 ⟨some 75, .idxa 1, [.t 65, .t 74], none⟩,
 ⟨some 76, .load 1 false, [.t 75], none⟩,
 ⟨some 77, .conv .b2i 39424, [.t 76], none⟩,
 ⟨some 78, .bin .mul, [.t 77, .c (.i 1117)], none⟩,
 ⟨some 79, .bin .add, [.t 61, .t 78], none⟩,
 ⟨some 80, .mv, [.t 5], none⟩,
 ⟨some 81, .bin .mul, [.t 80, .c (.i 29)], none⟩,
 ⟨some 82, .bin .add, [.t 79, .t 81], none⟩,
 ⟨some 83, .mv, [.t 5], none⟩,
 ⟨some 84, .mv, [.t 0], none⟩,
 ⟨some 85, .chk, [.t 84], none⟩,
 ⟨some 86, .fld 0 1 false, [.t 85], none⟩,
 ⟨some 87, .load 1 false, [.t 86], none⟩,
 ⟨some 88, .len, [.t 87], none⟩,
 ⟨some 89, .bin .quo, [.t 83, .t 88], none⟩,
 ⟨some 90, .bin .mul, [.t 89, .c (.i 53)], none⟩,
 ⟨some 91, .bin .add, [.t 82, .t 90], none⟩,
 ⟨some 6, .mv, [.t 91], none⟩] [5, 47, 48, 49, 50, 51, 52, 53, 54, 55, 56, 57, 58, 59, 60, 61, 62, 63, 64, 65, 66, 67, 68, 69, 70, 71, 72, 73, 74, 75, 76, 77, 78, 79, 80, 81, 82, 83, 84, 85, 86, 87, 88, 89, 90, 91])
 (.seq
 (.region false [⟨some 92, .mv, [.t 6], none⟩,
 ⟨some 93, .mv, [.t 6], none⟩,
 ⟨some 94, .bin .quo, [.t 93, .c (.i 64)], none⟩,
 ⟨some 95, .bin .xor, [.t 92, .t 94], none⟩,
 ⟨some 6, .mv, [.t 95], none⟩] [92, 93, 94, 95])
 (.seq
 (.region false [⟨some 96, .mv, [.t 6], none⟩,
 ⟨some 97, .mv, [.t 1], none⟩,
 ⟨some 98, .bin .rem, [.t 96, .t 97], none⟩,
 ⟨some 4, .mv, [.t 98], none⟩] [1, 6, 96, 97, 98])
 .ret)))))))) }
/-- spec.l8Heads -/
def F_spec_l8Heads_L0 : LC :=
 (.seq
 (.seq
 (.region false [⟨some 4, .mv, [.t 0], none⟩,
 ⟨some 5, .bin .gtr, [.t 4, .c (.i 0)], none⟩] [4])
 (.cond (.t 5) [5]
 .skip
 (.exit 0)))
 (.block 1
 (.seq
 (.region false [⟨some 6, .mv, [.t 3], none⟩,
 ⟨some 7, .mv, [.t 0], none⟩,
 ⟨some 8, .bin .rem, [.t 7, .c (.i 2)], none⟩,
 ⟨some 9, .bin .add, [.t 6, .t 8], none⟩,
 ⟨some 3, .mv, [.t 9], none⟩] [6, 7, 8, 9])
 (.region false [⟨some 10, .mv, [.t 0], none⟩,
 ⟨some 11, .bin .quo, [.t 10, .c (.i 2)], none⟩,
 ⟨some 0, .mv, [.t 11], none⟩] [10, 11]))))
def F_spec_l8Heads_W0 : LC := .loop F_spec_l8Heads_L0
def F_spec_l8Heads : LF :=
 { nparams := 1, results := [.t 2], body :=
 (.seq
 (.region false [⟨some 2, .mv, [.c (.i 0)], none⟩] [2])
 (.seq
 (.region false [⟨some 3, .mv, [.c (.i 0)], none⟩] [])
 (.seq
 (.block 0
 F_spec_l8Heads_W0)
 (.seq
 (.region false [⟨some 12, .mv, [.t 3], none⟩,
 ⟨some 2, .mv, [.t 12], none⟩] [0, 3, 12])
 .ret)))) }
/-- impl.TestsOk -/
def F_impl_TestsOk_L0 : LC :=
 (.seq
 (.region false [⟨some 12, .bin .lss, [.t 11, .t 10], none⟩] [])
 (.seq
 (.cond (.t 12) [12]
 .skip
 (.exit 0))
 (.seq
 (.block 1
 (.seq
 (.region false [⟨some 13, .idxa 2, [.t 9, .t 11], none⟩,
 ⟨some 14, .load 2 true, [.t 13], none⟩,
 ⟨some 4, .alloc 2064 (.st [.i 0, .i 0]), [], none⟩,
 ⟨none, .store 2, [.t 4, .t 14], none⟩] [13, 14])
 (.seq
 (.region false [⟨some 15, .fld 0 1 false, [.t 4], none⟩,
 ⟨some 16, .load 1 false, [.t 15], none⟩,
 ⟨some 17, .call n_impl_isWithin 8704, [.t 16, .c (.i 1), .c (.i 9)], none⟩,
 ⟨some 18, .un .not, [.t 17], none⟩,
 ⟨some 19, .mv, [.t 18], none⟩,
 ⟨some 20, .fld 1 1 false, [.t 4], some (19, false)⟩,
 ⟨some 21, .load 1 false, [.t 20], some (19, false)⟩,
 ⟨some 22, .call n_impl_isWithin 11264, [.t 21, .c (.i 1), .c (.i 5)], some (19, false)⟩,
 ⟨some 23, .un .not, [.t 22], some (19, false)⟩,
 ⟨some 24, .pick, [.t 19, .c (.b true), .t 23], none⟩] [4, 15, 16, 17, 18, 19, 20, 21, 22, 23])
 (.cond (.t 24) [24]
 (.seq
 (.region false [⟨some 2, .mv, [.c (.b false)], none⟩] [9, 10, 11])
 .ret)
 .skip))))
 (.region false [⟨some 25, .bin .add, [.t 11, .c (.i 1)], none⟩,
 ⟨some 11, .mv, [.t 25], none⟩] [25]))))
def F_impl_TestsOk_W0 : LC := .loop F_impl_TestsOk_L0
def F_impl_TestsOk : LF :=
 { nparams := 1, results := [.t 2], body :=
 (.seq
 (.region false [⟨some 2, .mv, [.c (.b false)], none⟩] [2])
 (.seq
 (.seq
 (.region false [⟨some 5, .mv, [.t 0], none⟩,
 ⟨some 6, .len, [.t 5], none⟩,
 ⟨some 7, .call n_impl_manyOk 3584, [.t 6], none⟩,
 ⟨some 8, .un .not, [.t 7], none⟩] [5, 6, 7])
 (.cond (.t 8) [8]
 (.seq
 (.region false [⟨some 2, .mv, [.c (.b false)], none⟩] [0])
 .ret)
 .skip))
 (.seq
 (.seq
 (.region false [⟨some 9, .mv, [.t 0], none⟩,
 ⟨some 10, .len, [.t 9], none⟩,
 ⟨some 11, .mv, [.c (.i 0)], none⟩] [0])
 (.block 0
 F_impl_TestsOk_W0))
 (.seq
 (.region false [⟨some 2, .mv, [.c (.b true)], none⟩] [9, 10, 11])
 .ret)))) }
/-- impl.StateOk -/
def F_impl_StateOk : LF :=
 { nparams := 2, results := [.t 4], body :=
 (.seq
 (.region false [⟨some 4, .mv, [.c (.b false)], none⟩] [4])
 (.seq
 (.region false [⟨some 5, .mv, [.t 0], none⟩,
 ⟨some 6, .call n_impl_manyOk 3072, [.t 5], none⟩,
 ⟨some 7, .mv, [.t 6], none⟩,
 ⟨some 8, .mv, [.t 1], some (7, true)⟩,
 ⟨some 9, .mv, [.t 0], some (7, true)⟩,
 ⟨some 10, .call n_impl_statesOf 5120, [.t 9], some (7, true)⟩,
 ⟨some 11, .bin .sub, [.t 10, .c (.i 1)], some (7, true)⟩,
 ⟨some 12, .call n_impl_isWithin 6144, [.t 8, .c (.i 0), .t 11], some (7, true)⟩,
 ⟨some 13, .pick, [.t 7, .t 12, .c (.b false)], none⟩,
 ⟨some 4, .mv, [.t 13], none⟩] [0, 1, 5, 6, 7, 8, 9, 10, 11, 12, 13])
 .ret)) }
/-- impl.isWithin -/
def F_impl_isWithin : LF :=
 { nparams := 3, results := [.t 6], body :=
 (.seq
 (.region false [⟨some 6, .mv, [.c (.b false)], none⟩] [6])
 (.seq
 (.region false [⟨some 7, .mv, [.t 1], none⟩,
 ⟨some 8, .mv, [.t 0], none⟩,
 ⟨some 9, .bin .leq, [.t 7, .t 8], none⟩,
 ⟨some 10, .mv, [.t 9], none⟩,
 ⟨some 11, .mv, [.t 0], some (10, true)⟩,
 ⟨some 12, .mv, [.t 2], some (10, true)⟩,
 ⟨some 13, .bin .leq, [.t 11, .t 12], some (10, true)⟩,
 ⟨some 14, .pick, [.t 10, .t 13, .c (.b false)], none⟩,
 ⟨some 6, .mv, [.t 14], none⟩] [0, 1, 2, 7, 8, 9, 10, 11, 12, 13, 14])
 .ret)) }
/-- impl.sizeOf -/
def F_impl_sizeOf : LF :=
 { nparams := 1, results := [.t 2], body :=
 (.seq
 (.region false [⟨some 2, .mv, [.c (.i 0)], none⟩] [2])
 (.seq
 (.region false [⟨some 3, .mv, [.t 0], none⟩,
 ⟨some 4, .conv .i2q 2048, [.t 3], none⟩,
 ⟨some 5, .call n_math_bits_OnesCount 2560, [.t 4], none⟩,
 ⟨some 2, .mv, [.t 5], none⟩] [0, 3, 4, 5])
 .ret)) }
/-- spec.l1In -/
def F_spec_l1In : LF :=
 { nparams := 3, results := [.t 6], body :=
 (.seq
 (.region false [⟨some 6, .mv, [.c (.b false)], none⟩] [6])
 (.seq
 (.region false [⟨some 7, .mv, [.t 0], none⟩,
 ⟨some 8, .mv, [.t 1], none⟩,
 ⟨some 9, .bin .geq, [.t 7, .t 8], none⟩,
 ⟨some 10, .mv, [.t 9], none⟩,
 ⟨some 11, .mv, [.t 0], some (10, true)⟩,
 ⟨some 12, .mv, [.t 2], some (10, true)⟩,
 ⟨some 13, .bin .leq, [.t 11, .t 12], some (10, true)⟩,
 ⟨some 14, .pick, [.t 10, .t 13, .c (.b false)], none⟩,
 ⟨some 6, .mv, [.t 14], none⟩] [0, 1, 2, 7, 8, 9, 10, 11, 12, 13, 14])
 .ret)) }
/-- spec.l20Count -/
def F_spec_l20Count : LF :=
 { nparams := 1, results := [.t 2, .t 3], body :=
 (.seq
 (.region false [⟨some 2, .newnil 1040, [], none⟩,
 ⟨some 3, .mv, [.c (.i 0)], none⟩] [2, 3])
 (.seq
 (.region false [⟨some 5, .mv, [.t 0], none⟩,
 ⟨some 6, .call n_spec_l20Tests 3072, [.t 5, .c (.i 14)], none⟩,
 ⟨some 4, .mv, [.t 6], none⟩] [5, 6])
 (.seq
 (.region false [⟨some 7, .mv, [.t 4], none⟩,
 ⟨some 8, .mv, [.t 0], none⟩,
 ⟨some 9, .mv, [.t 4], none⟩,
 ⟨some 10, .len, [.t 9], none⟩,
 ⟨some 11, .mm true, [.t 10, .c (.i 1)], none⟩,
 ⟨some 12, .call n_spec_l20Rd_pick 6144, [.t 8, .t 11], none⟩,
 ⟨some 13, .bin .add, [.c (.i 1), .t 12], none⟩,
 ⟨some 14, .mv, [.t 0], none⟩,
 ⟨some 15, .call n_spec_l20Rd_pick 7680, [.t 14, .c (.i 30)], none⟩,
 ⟨some 16, .bin .quo, [.t 15, .c (.i 29)], none⟩,
 ⟨some 17, .bin .add, [.t 13, .t 16], none⟩,
 ⟨some 18, .mv, [.t 0], none⟩,
 ⟨some 19, .call n_spec_l20Rd_pick 9728, [.t 18, .c (.i 40)], none⟩,
 ⟨some 20, .bin .quo, [.t 19, .c (.i 39)], none⟩,
 ⟨some 21, .bin .mul, [.t 20, .c (.i 2)], none⟩,
 ⟨some 22, .bin .sub, [.t 17, .t 21], none⟩,
 ⟨some 2, .mv, [.t 7], none⟩,
 ⟨some 3, .mv, [.t 22], none⟩] [4, 7, 8, 9, 10, 11, 12, 13, 14, 15, 16, 17, 18, 19, 20, 21, 22])
 .ret))) }
/-- impl.CountOk -/
def F_impl_CountOk : LF :=
 { nparams := 2, results := [.t 4], body :=
 (.seq
 (.region false [⟨some 4, .mv, [.c (.b false)], none⟩] [4])
 (.seq
 (.region false [⟨some 5, .mv, [.t 0], none⟩,
 ⟨some 6, .call n_impl_TestsOk 3072, [.t 5], none⟩,
 ⟨some 7, .mv, [.t 6], none⟩,
 ⟨some 8, .mv, [.t 1], some (7, true)⟩,
 ⟨some 9, .mv, [.t 0], some (7, true)⟩,
 ⟨some 10, .len, [.t 9], some (7, true)⟩,
 ⟨some 11, .call n_impl_isWithin 5632, [.t 8, .c (.i 1), .t 10], some (7, true)⟩,
 ⟨some 12, .pick, [.t 7, .t 11, .c (.b false)], none⟩,
 ⟨some 4, .mv, [.t 12], none⟩] [0, 1, 5, 6, 7, 8, 9, 10, 11, 12])
 .ret)) }
/-- impl.leastToCount -/
def F_impl_leastToCount_L0 : LC :=
 (.seq
 (.region false [⟨some 32, .bin .lss, [.t 31, .t 30], none⟩] [])
 (.seq
 (.cond (.t 32) [32]
 .skip
 (.exit 0))
 (.seq
 (.block 1
 (.seq
 (.region false [⟨some 33, .mv, [.t 31], none⟩,
 ⟨some 34, .idxa 2, [.t 29, .t 31], none⟩,
 ⟨some 35, .load 2 true, [.t 34], none⟩,
 ⟨some 12, .alloc 6160 (.st [.i 0, .i 0]), [], none⟩,
 ⟨some 11, .mv, [.t 33], none⟩,
 ⟨none, .store 2, [.t 12, .t 35], none⟩] [33, 34, 35])
 (.seq
 (.seq
 (.region false [⟨some 36, .mv, [.t 9], none⟩,
 ⟨some 37, .mv, [.t 11], none⟩,
 ⟨some 38, .call n_impl_hasTest 19456, [.t 36, .t 37], none⟩,
 ⟨some 39, .un .not, [.t 38], none⟩] [36, 37, 38])
 (.cond (.t 39) [39]
 (.exit 1)
 .skip))
 (.seq
 (.region false [⟨some 40, .mv, [.t 1], none⟩,
 ⟨some 41, .mv, [.t 11], none⟩,
 ⟨some 42, .bin .shl, [.c (.i 1), .t 41], none⟩,
 ⟨some 43, .bin .andNot, [.t 40, .t 42], none⟩,
 ⟨some 13, .mv, [.t 43], none⟩] [11, 40, 41, 42, 43])
 (.seq
 (.region false [⟨some 44, .mv, [.t 0], none⟩,
 ⟨some 45, .mv, [.t 13], none⟩,
 ⟨some 46, .mv, [.t 2], none⟩,
 ⟨some 47, .mv, [.t 3], none⟩,
 ⟨some 48, .call n_impl_leastToCount 24576, [.t 44, .t 45, .t 46, .t 47], none⟩,
 ⟨some 14, .mv, [.t 48], none⟩] [44, 45, 46, 47, 48])
 (.seq
 (.region false [⟨some 49, .mv, [.t 0], none⟩,
 ⟨some 50, .mv, [.t 13], none⟩,
 ⟨some 51, .mv, [.t 2], none⟩,
 ⟨some 52, .bin .sub, [.t 51, .c (.i 1)], none⟩,
 ⟨some 53, .mv, [.t 3], none⟩,
 ⟨some 54, .call n_impl_leastToCount 27648, [.t 49, .t 50, .t 52, .t 53], none⟩,
 ⟨some 15, .mv, [.t 54], none⟩] [13, 49, 50, 51, 52, 53, 54])
 (.seq
 (.region true [⟨some 55, .load 2 true, [.t 12], none⟩,
 ⟨some 56, .mv, [.t 1], none⟩,
 ⟨some 57, .call n_impl_sizeOf 29184, [.t 56], none⟩,
 ⟨some 58, .mv, [.t 14], none⟩,
 ⟨some 59, .mv, [.t 15], none⟩,
 ⟨some 60, .call n_impl_averageAsking 30720, [.t 55, .t 57, .t 58, .t 59], none⟩,
 ⟨some 16, .mv, [.t 60], none⟩] [12, 14, 15, 55, 56, 57, 58, 59, 60])
 (.seq
 (.region false [⟨some 61, .mv, [.t 10], none⟩,
 ⟨some 62, .bin .eql, [.t 61, .c (.i (-1))], none⟩,
 ⟨some 63, .mv, [.t 62], none⟩,
 ⟨some 64, .mv, [.t 16], some (63, false)⟩,
 ⟨some 65, .mv, [.t 10], some (63, false)⟩,
 ⟨some 66, .bin .lss, [.t 64, .t 65], some (63, false)⟩,
 ⟨some 67, .pick, [.t 63, .c (.b true), .t 66], none⟩] [61, 62, 63, 64, 65, 66])
 (.cond (.t 67) [67]
 (.region false [⟨some 68, .mv, [.t 16], none⟩,
 ⟨some 10, .mv, [.t 68], none⟩] [16, 68])
 .skip)))))))))
 (.region false [⟨some 69, .bin .add, [.t 31, .c (.i 1)], none⟩,
 ⟨some 31, .mv, [.t 69], none⟩] [11, 12, 16, 69]))))
def F_impl_leastToCount_W0 : LC := .loop F_impl_leastToCount_L0
def F_impl_leastToCount : LF :=
 { nparams := 4, results := [.t 8], body :=
 (.seq
 (.region false [⟨some 8, .mv, [.c (.i 0)], none⟩] [8])
 (.seq
 (.seq
 (.region false [⟨some 17, .mv, [.t 2], none⟩,
 ⟨some 18, .bin .eql, [.t 17, .c (.i 0)], none⟩,
 ⟨some 19, .mv, [.t 18], none⟩,
 ⟨some 20, .mv, [.t 1], some (19, false)⟩,
 ⟨some 21, .call n_impl_sizeOf 10752, [.t 20], some (19, false)⟩,
 ⟨some 22, .mv, [.t 2], some (19, false)⟩,
 ⟨some 23, .bin .lss, [.t 21, .t 22], some (19, false)⟩,
 ⟨some 24, .pick, [.t 19, .c (.b true), .t 23], none⟩] [17, 18, 19, 20, 21, 22, 23])
 (.cond (.t 24) [24]
 (.seq
 (.region false [⟨some 8, .mv, [.c (.i 0)], none⟩] [0, 1, 2, 3])
 .ret)
 .skip))
 (.seq
 (.region false [⟨some 25, .mv, [.t 3], none⟩,
 ⟨some 26, .mv, [.t 1], none⟩,
 ⟨some 27, .mv, [.t 2], none⟩,
 ⟨some 28, .calld 14336, [.t 25, .t 26, .t 27], none⟩,
 ⟨some 9, .mv, [.t 28], none⟩,
 ⟨some 10, .mv, [.c (.i (-1))], none⟩] [25, 26, 27, 28])
 (.seq
 (.seq
 (.region false [⟨some 29, .mv, [.t 0], none⟩,
 ⟨some 30, .len, [.t 29], none⟩,
 ⟨some 31, .mv, [.c (.i 0)], none⟩] [])
 (.block 0
 F_impl_leastToCount_W0))
 (.seq
 (.region false [⟨some 70, .mv, [.t 10], none⟩,
 ⟨some 8, .mv, [.t 70], none⟩] [0, 1, 2, 3, 9, 10, 29, 30, 31, 70])
 .ret))))) }
/-- impl.allOf -/
def F_impl_allOf : LF :=
 { nparams := 1, results := [.t 2], body :=
 (.seq
 (.region false [⟨some 2, .mv, [.c (.i 0)], none⟩] [2])
 (.seq
 (.region false [⟨some 3, .mv, [.t 0], none⟩,
 ⟨some 4, .len, [.t 3], none⟩,
 ⟨some 5, .call n_impl_statesOf 2560, [.t 4], none⟩,
 ⟨some 6, .bin .sub, [.t 5, .c (.i 1)], none⟩,
 ⟨some 2, .mv, [.t 6], none⟩] [0, 3, 4, 5, 6])
 .ret)) }
/-- spec.CountOk -/
def F_spec_CountOk : LF :=
 { nparams := 2, results := [.t 4], body :=
 (.seq
 (.region false [⟨some 4, .mv, [.c (.b false)], none⟩] [4])
 (.seq
 (.region false [⟨some 5, .mv, [.t 0], none⟩,
 ⟨some 6, .call n_spec_TestsOk 3072, [.t 5], none⟩,
 ⟨some 7, .mv, [.t 6], none⟩,
 ⟨some 8, .mv, [.t 1], some (7, true)⟩,
 ⟨some 9, .mv, [.t 0], some (7, true)⟩,
 ⟨some 10, .len, [.t 9], some (7, true)⟩,
 ⟨some 11, .call n_spec_l1In 5632, [.t 8, .c (.i 1), .t 10], some (7, true)⟩,
 ⟨some 12, .pick, [.t 7, .t 11, .c (.b false)], none⟩,
 ⟨some 4, .mv, [.t 12], none⟩] [0, 1, 5, 6, 7, 8, 9, 10, 11, 12])
 .ret)) }
/-- spec.l1Power -/
def F_spec_l1Power_L0 : LC :=
 (.seq
 (.seq
 (.region false [⟨some 5, .mv, [.t 4], none⟩,
 ⟨some 6, .mv, [.t 0], none⟩,
 ⟨some 7, .bin .lss, [.t 5, .t 6], none⟩] [5, 6])
 (.cond (.t 7) [7]
 .skip
 (.exit 0)))
 (.seq
 (.block 1
 (.region false [⟨some 10, .mv, [.t 3], none⟩,
 ⟨some 11, .bin .mul, [.t 10, .c (.i 6)], none⟩,
 ⟨some 3, .mv, [.t 11], none⟩] [10, 11]))
 (.region false [⟨some 8, .mv, [.t 4], none⟩,
 ⟨some 9, .bin .add, [.t 8, .c (.i 1)], none⟩,
 ⟨some 4, .mv, [.t 9], none⟩] [8, 9])))
def F_spec_l1Power_W0 : LC := .loop F_spec_l1Power_L0
def F_spec_l1Power : LF :=
 { nparams := 1, results := [.t 2], body :=
 (.seq
 (.region false [⟨some 2, .mv, [.c (.i 0)], none⟩] [2])
 (.seq
 (.region false [⟨some 3, .mv, [.c (.i 1)], none⟩] [])
 (.seq
 (.seq
 (.region false [⟨some 4, .mv, [.c (.i 0)], none⟩] [])
 (.block 0
 F_spec_l1Power_W0))
 (.seq
 (.region false [⟨some 12, .mv, [.t 3], none⟩,
 ⟨some 2, .mv, [.t 12], none⟩] [0, 3, 4, 12])
 .ret)))) }
/-- impl.rowOk -/
def F_impl_rowOk : LF :=
 { nparams := 1, results := [.t 2], body :=
 (.seq
 (.region false [⟨some 2, .mv, [.c (.b false)], none⟩] [2])
 (.seq
 (.region false [⟨some 3, .mv, [.t 0], none⟩,
 ⟨some 4, .bin .eql, [.t 3, .c (.i 0)], none⟩,
 ⟨some 5, .mv, [.t 4], none⟩,
 ⟨some 6, .mv, [.t 0], some (5, false)⟩,
 ⟨some 7, .bin .eql, [.t 6, .c (.i 1)], some (5, false)⟩,
 ⟨some 8, .pick, [.t 5, .c (.b true), .t 7], none⟩,
 ⟨some 2, .mv, [.t 8], none⟩] [0, 3, 4, 5, 6, 7, 8])
 .ret)) }
/-- impl.wholeOf -/
def F_impl_wholeOf_L0 : LC :=
 (.seq
 (.region false [⟨some 6, .bin .lss, [.t 5, .t 4], none⟩] [])
 (.seq
 (.cond (.t 6) [6]
 .skip
 (.exit 0))
 (.seq
 (.block 1
 (.region false [⟨some 7, .mv, [.t 3], none⟩,
 ⟨some 8, .bin .mul, [.t 7, .c (.i 6)], none⟩,
 ⟨some 3, .mv, [.t 8], none⟩] [7, 8]))
 (.region false [⟨some 9, .bin .add, [.t 5, .c (.i 1)], none⟩,
 ⟨some 5, .mv, [.t 9], none⟩] [9]))))
def F_impl_wholeOf_W0 : LC := .loop F_impl_wholeOf_L0
def F_impl_wholeOf : LF :=
 { nparams := 1, results := [.t 2], body :=
 (.seq
 (.region false [⟨some 2, .mv, [.c (.i 0)], none⟩] [2])
 (.seq
 (.region false [⟨some 3, .mv, [.c (.i 1)], none⟩] [])
 (.seq
 (.seq
 (.region false [⟨some 4, .mv, [.t 0], none⟩,
 ⟨some 5, .mv, [.c (.i 0)], none⟩] [0])
 (.block 0
 F_impl_wholeOf_W0))
 (.seq
 (.region false [⟨some 10, .mv, [.t 3], none⟩,
 ⟨some 2, .mv, [.t 10], none⟩] [3, 4, 5, 10])
 .ret)))) }
/-- impl.CountBest$1 -/
def F_impl_CountBest_1 : LF :=
 { nparams := 2, results := [.t 4], body :=
 (.seq
 (.region false [⟨some 4, .mv, [.c (.i 0)], none⟩] [1, 4])
 (.seq
 (.region false [⟨some 5, .mv, [.t 0], none⟩,
 ⟨some 4, .mv, [.t 5], none⟩] [0, 5])
 .ret)) }
/-- spec.l8Best -/
def F_spec_l8Best_L0 : LC :=
 (.seq
 (.seq
 (.region false [⟨some 20, .mv, [.t 10], none⟩,
 ⟨some 21, .mv, [.t 0], none⟩,
 ⟨some 22, .len, [.t 21], none⟩,
 ⟨some 23, .bin .lss, [.t 20, .t 22], none⟩] [20, 21, 22])
 (.cond (.t 23) [23]
 .skip
 (.exit 0)))
 (.seq
 (.block 1
 (.seq
 (.seq
 (.region false [⟨some 26, .mv, [.t 1], none⟩,
 ⟨some 27, .mv, [.t 10], none⟩,
 ⟨some 28, .bin .shr, [.t 26, .t 27], none⟩,
 ⟨some 29, .bin .rem, [.t 28, .c (.i 2)], none⟩,
 ⟨some 30, .bin .eql, [.t 29, .c (.i 0)], none⟩] [26, 27, 28, 29])
 (.cond (.t 30) [30]
 (.exit 1)
 .skip))
 (.seq
 (.region true [⟨some 31, .mv, [.t 3], none⟩,
 ⟨some 32, .mv, [.t 0], none⟩,
 ⟨some 33, .mv, [.t 10], none⟩,
 ⟨some 34, .idxa 2, [.t 32, .t 33], none⟩,
 ⟨some 35, .fld 0 1 false, [.t 34], none⟩,
 ⟨some 36, .load 1 false, [.t 35], none⟩,
 ⟨some 37, .bin .mul, [.t 31, .t 36], none⟩,
 ⟨some 38, .mv, [.t 0], none⟩,
 ⟨some 39, .mv, [.t 1], none⟩,
 ⟨some 40, .mv, [.t 10], none⟩,
 ⟨some 41, .bin .shl, [.c (.i 1), .t 40], none⟩,
 ⟨some 42, .bin .sub, [.t 39, .t 41], none⟩,
 ⟨some 43, .mv, [.t 2], none⟩,
 ⟨some 44, .bin .sub, [.t 43, .c (.i 1)], none⟩,
 ⟨some 45, .mv, [.t 3], none⟩,
 ⟨some 46, .bin .quo, [.t 45, .c (.i 6)], none⟩,
 ⟨some 47, .mv, [.t 0], none⟩,
 ⟨some 48, .mv, [.t 10], none⟩,
 ⟨some 49, .idxa 2, [.t 47, .t 48], none⟩,
 ⟨some 50, .fld 1 1 false, [.t 49], none⟩,
 ⟨some 51, .load 1 false, [.t 50], none⟩,
 ⟨some 52, .bin .mul, [.t 46, .t 51], none⟩,
 ⟨some 53, .call n_spec_l8Best 27136, [.t 38, .t 42, .t 44, .t 52], none⟩,
 ⟨some 54, .bin .add, [.t 37, .t 53], none⟩,
 ⟨some 55, .mv, [.t 0], none⟩,
 ⟨some 56, .mv, [.t 1], none⟩,
 ⟨some 57, .mv, [.t 10], none⟩,
 ⟨some 58, .bin .shl, [.c (.i 1), .t 57], none⟩,
 ⟨some 59, .bin .sub, [.t 56, .t 58], none⟩,
 ⟨some 60, .mv, [.t 2], none⟩,
 ⟨some 61, .mv, [.t 3], none⟩,
 ⟨some 62, .bin .quo, [.t 61, .c (.i 6)], none⟩,
 ⟨some 63, .mv, [.t 0], none⟩,
 ⟨some 64, .mv, [.t 10], none⟩,
 ⟨some 65, .idxa 2, [.t 63, .t 64], none⟩,
 ⟨some 66, .fld 1 1 false, [.t 65], none⟩,
 ⟨some 67, .load 1 false, [.t 66], none⟩,
 ⟨some 68, .bin .sub, [.c (.i 6), .t 67], none⟩,
 ⟨some 69, .bin .mul, [.t 62, .t 68], none⟩,
 ⟨some 70, .call n_spec_l8Best 35840, [.t 55, .t 59, .t 60, .t 69], none⟩,
 ⟨some 71, .bin .add, [.t 54, .t 70], none⟩,
 ⟨some 11, .mv, [.t 71], none⟩] [31, 32, 33, 34, 35, 36, 37, 38, 39, 40, 41, 42, 43, 44, 45, 46, 47, 48, 49, 50, 51, 52, 53, 54, 55, 56, 57, 58, 59, 60, 61, 62, 63, 64, 65, 66, 67, 68, 69, 70, 71])
 (.seq
 (.region false [⟨some 72, .mv, [.t 9], none⟩,
 ⟨some 73, .bin .lss, [.t 72, .c (.i 0)], none⟩,
 ⟨some 74, .mv, [.t 73], none⟩,
 ⟨some 75, .mv, [.t 11], some (74, false)⟩,
 ⟨some 76, .mv, [.t 9], some (74, false)⟩,
 ⟨some 77, .bin .lss, [.t 75, .t 76], some (74, false)⟩,
 ⟨some 78, .pick, [.t 74, .c (.b true), .t 77], none⟩] [72, 73, 74, 75, 76, 77])
 (.cond (.t 78) [78]
 (.region false [⟨some 79, .mv, [.t 11], none⟩,
 ⟨some 9, .mv, [.t 79], none⟩] [11, 79])
 .skip)))))
 (.region false [⟨some 24, .mv, [.t 10], none⟩,
 ⟨some 25, .bin .add, [.t 24, .c (.i 1)], none⟩,
 ⟨some 10, .mv, [.t 25], none⟩] [11, 24, 25])))
def F_spec_l8Best_W0 : LC := .loop F_spec_l8Best_L0
def F_spec_l8Best : LF :=
 { nparams := 4, results := [.t 8], body :=
 (.seq
 (.region false [⟨some 8, .mv, [.c (.i 0)], none⟩] [8])
 (.seq
 (.seq
 (.region false [⟨some 12, .mv, [.t 2], none⟩,
 ⟨some 13, .bin .eql, [.t 12, .c (.i 0)], none⟩,
 ⟨some 14, .mv, [.t 13], none⟩,
 ⟨some 15, .mv, [.t 2], some (14, false)⟩,
 ⟨some 16, .mv, [.t 1], some (14, false)⟩,
 ⟨some 17, .call n_spec_l8Heads 8704, [.t 16], some (14, false)⟩,
 ⟨some 18, .bin .gtr, [.t 15, .t 17], some (14, false)⟩,
 ⟨some 19, .pick, [.t 14, .c (.b true), .t 18], none⟩] [12, 13, 14, 15, 16, 17, 18])
 (.cond (.t 19) [19]
 (.seq
 (.region false [⟨some 8, .mv, [.c (.i 0)], none⟩] [0, 1, 2, 3])
 .ret)
 .skip))
 (.seq
 (.region false [⟨some 9, .mv, [.c (.i (-1))], none⟩] [])
 (.seq
 (.seq
 (.region false [⟨some 10, .mv, [.c (.i 0)], none⟩] [])
 (.block 0
 F_spec_l8Best_W0))
 (.seq
 (.region false [⟨some 80, .mv, [.t 9], none⟩,
 ⟨some 8, .mv, [.t 80], none⟩] [0, 1, 2, 3, 9, 10, 80])
 .ret))))) }
/-- impl.TermOk -/
def F_impl_TermOk_L0 : LC :=
 (.seq
 (.region false [⟨some 21, .bin .lss, [.t 20, .t 19], none⟩] [])
 (.seq
 (.cond (.t 21) [21]
 .skip
 (.exit 0))
 (.seq
 (.block 1
 (.seq
 (.region false [⟨some 22, .idxa 2, [.t 18, .t 20], none⟩,
 ⟨some 23, .load 2 true, [.t 22], none⟩,
 ⟨some 7, .alloc 3600 (.st [.i 0, .i 0]), [], none⟩,
 ⟨none, .store 2, [.t 7, .t 23], none⟩] [22, 23])
 (.seq
 (.region false [⟨some 24, .fld 0 1 false, [.t 7], none⟩,
 ⟨some 25, .load 1 false, [.t 24], none⟩,
 ⟨some 26, .call n_impl_partsTaken 13312, [.t 25], none⟩,
 ⟨some 8, .mv, [.t 26], none⟩] [24, 25, 26])
 (.seq
 (.seq
 (.region false [⟨some 27, .mv, [.t 0], none⟩,
 ⟨some 28, .load 2 true, [.t 7], none⟩,
 ⟨some 29, .call n_impl_markOk 14848, [.t 27, .t 28], none⟩,
 ⟨some 30, .un .not, [.t 29], none⟩,
 ⟨some 31, .mv, [.t 30], none⟩,
 ⟨some 32, .mv, [.t 5], some (31, false)⟩,
 ⟨some 33, .mv, [.t 8], some (31, false)⟩,
 ⟨some 34, .bin .lss, [.t 32, .t 33], some (31, false)⟩,
 ⟨some 35, .pick, [.t 31, .c (.b true), .t 34], none⟩] [7, 27, 28, 29, 30, 31, 32, 33, 34])
 (.cond (.t 35) [35]
 (.seq
 (.region false [⟨some 4, .mv, [.c (.b false)], none⟩] [0, 5, 8, 18, 19, 20])
 .ret)
 .skip))
 (.region false [⟨some 36, .mv, [.t 5], none⟩,
 ⟨some 37, .mv, [.t 8], none⟩,
 ⟨some 38, .bin .sub, [.c (.i 1), .t 37], none⟩,
 ⟨some 39, .bin .add, [.t 36, .t 38], none⟩,
 ⟨some 5, .mv, [.t 39], none⟩] [8, 36, 37, 38, 39])))))
 (.region false [⟨some 40, .bin .add, [.t 20, .c (.i 1)], none⟩,
 ⟨some 20, .mv, [.t 40], none⟩] [40]))))
def F_impl_TermOk_W0 : LC := .loop F_impl_TermOk_L0
def F_impl_TermOk : LF :=
 { nparams := 2, results := [.t 4], body :=
 (.seq
 (.region false [⟨some 4, .mv, [.c (.b false)], none⟩] [4])
 (.seq
 (.seq
 (.region false [⟨some 9, .mv, [.t 0], none⟩,
 ⟨some 10, .call n_impl_manyOk 5120, [.t 9], none⟩,
 ⟨some 11, .un .not, [.t 10], none⟩,
 ⟨some 12, .mv, [.t 11], none⟩,
 ⟨some 13, .mv, [.t 1], some (12, false)⟩,
 ⟨some 14, .len, [.t 13], some (12, false)⟩,
 ⟨some 15, .call n_impl_isWithin 7680, [.t 14, .c (.i 1), .c (.i 13)], some (12, false)⟩,
 ⟨some 16, .un .not, [.t 15], some (12, false)⟩,
 ⟨some 17, .pick, [.t 12, .c (.b true), .t 16], none⟩] [9, 10, 11, 12, 13, 14, 15, 16])
 (.cond (.t 17) [17]
 (.seq
 (.region false [⟨some 4, .mv, [.c (.b false)], none⟩] [0, 1])
 .ret)
 .skip))
 (.seq
 (.region false [⟨some 5, .mv, [.c (.i 0)], none⟩] [])
 (.seq
 (.seq
 (.region false [⟨some 18, .mv, [.t 1], none⟩,
 ⟨some 19, .len, [.t 18], none⟩,
 ⟨some 20, .mv, [.c (.i 0)], none⟩] [1])
 (.block 0
 F_impl_TermOk_W0))
 (.seq
 (.region false [⟨some 41, .mv, [.t 5], none⟩,
 ⟨some 42, .bin .eql, [.t 41, .c (.i 1)], none⟩,
 ⟨some 4, .mv, [.t 42], none⟩] [0, 5, 18, 19, 20, 41, 42])
 .ret))))) }
/-- impl.leastFrom -/
def F_impl_leastFrom_L0 : LC :=
 (.seq
 (.region false [⟨some 21, .bin .lss, [.t 20, .t 19], none⟩] [])
 (.seq
 (.cond (.t 21) [21]
 .skip
 (.exit 0))
 (.seq
 (.block 1
 (.seq
 (.region false [⟨some 22, .mv, [.t 20], none⟩,
 ⟨some 8, .mv, [.t 22], none⟩] [22])
 (.seq
 (.seq
 (.region false [⟨some 23, .load 4 true, [.t 2], none⟩,
 ⟨some 24, .mv, [.t 8], none⟩,
 ⟨some 25, .call n_impl_point_canAsk 12800, [.t 23, .t 24], none⟩,
 ⟨some 26, .un .not, [.t 25], none⟩] [23, 24, 25])
 (.cond (.t 26) [26]
 (.exit 1)
 .skip))
 (.seq
 (.region false [⟨some 28, .load 4 true, [.t 2], none⟩,
 ⟨some 29, .mv, [.t 8], none⟩,
 ⟨some 30, .call n_impl_point_answered 15360, [.t 28, .t 29, .c (.i 0)], none⟩,
 ⟨some 31, .mv, [.t 1], none⟩,
 ⟨some 32, .call n_impl_leastFrom 16384, [.t 30, .t 31], none⟩,
 ⟨some 27, .mv, [.t 32], none⟩,
 ⟨some 33, .ext 0, [.t 27], none⟩,
 ⟨some 34, .ext 1, [.t 27], none⟩,
 ⟨some 9, .mv, [.t 33], none⟩,
 ⟨some 10, .mv, [.t 34], none⟩] [9, 27, 28, 29, 30, 31, 32, 33, 34])
 (.seq
 (.region false [⟨some 36, .load 4 true, [.t 2], none⟩,
 ⟨some 37, .mv, [.t 8], none⟩,
 ⟨some 38, .call n_impl_point_answered 19456, [.t 36, .t 37, .c (.i 1)], none⟩,
 ⟨some 39, .mv, [.t 1], none⟩,
 ⟨some 40, .call n_impl_leastFrom 20480, [.t 38, .t 39], none⟩,
 ⟨some 35, .mv, [.t 40], none⟩,
 ⟨some 41, .ext 0, [.t 35], none⟩,
 ⟨some 42, .ext 1, [.t 35], none⟩,
 ⟨some 11, .mv, [.t 41], none⟩,
 ⟨some 12, .mv, [.t 42], none⟩] [11, 35, 36, 37, 38, 39, 40, 41, 42])
 (.seq
 (.region false [⟨some 43, .mv, [.t 1], none⟩,
 ⟨some 44, .load 4 true, [.t 2], none⟩,
 ⟨some 45, .mv, [.t 8], none⟩,
 ⟨some 46, .mv, [.t 10], none⟩,
 ⟨some 47, .mv, [.t 12], none⟩,
 ⟨some 48, .calld 24576, [.t 43, .t 44, .t 45, .t 46, .t 47], none⟩,
 ⟨some 13, .mv, [.t 48], none⟩] [10, 12, 43, 44, 45, 46, 47, 48])
 (.seq
 (.region false [⟨some 49, .mv, [.t 6], none⟩,
 ⟨some 50, .bin .eql, [.t 49, .c (.i (-1))], none⟩,
 ⟨some 51, .mv, [.t 50], none⟩,
 ⟨some 52, .mv, [.t 13], some (51, false)⟩,
 ⟨some 53, .mv, [.t 7], some (51, false)⟩,
 ⟨some 54, .bin .lss, [.t 52, .t 53], some (51, false)⟩,
 ⟨some 55, .pick, [.t 51, .c (.b true), .t 54], none⟩] [49, 50, 51, 52, 53, 54])
 (.cond (.t 55) [55]
 (.region false [⟨some 56, .mv, [.t 8], none⟩,
 ⟨some 57, .mv, [.t 13], none⟩,
 ⟨some 6, .mv, [.t 56], none⟩,
 ⟨some 7, .mv, [.t 57], none⟩] [8, 13, 56, 57])
 .skip))))))))
 (.region false [⟨some 58, .bin .add, [.t 20, .c (.i 1)], none⟩,
 ⟨some 20, .mv, [.t 58], none⟩] [8, 13, 58]))))
def F_impl_leastFrom_W0 : LC := .loop F_impl_leastFrom_L0
def F_impl_leastFrom : LF :=
 { nparams := 2, results := [.t 4, .t 5], body :=
 (.seq
 (.region false [⟨some 2, .box 1056, [.t 0], none⟩,
 ⟨some 4, .mv, [.c (.i 0)], none⟩,
 ⟨some 5, .mv, [.c (.i 0)], none⟩] [0, 4, 5])
 (.seq
 (.region false [⟨some 6, .mv, [.c (.i (-1))], none⟩,
 ⟨some 7, .mv, [.c (.i 0)], none⟩] [])
 (.seq
 (.seq
 (.region false [⟨some 14, .load 4 true, [.t 2], none⟩,
 ⟨some 15, .call n_impl_point_isForced 7680, [.t 14], none⟩] [14])
 (.cond (.t 15) [15]
 (.seq
 (.region false [⟨some 16, .mv, [.t 6], none⟩,
 ⟨some 17, .mv, [.t 7], none⟩,
 ⟨some 4, .mv, [.t 16], none⟩,
 ⟨some 5, .mv, [.t 17], none⟩] [1, 2, 6, 7, 16, 17])
 .ret)
 .skip))
 (.seq
 (.seq
 (.region false [⟨some 18, .fld 0 1 false, [.t 2], none⟩,
 ⟨some 19, .load 1 false, [.t 18], none⟩,
 ⟨some 20, .mv, [.c (.i 0)], none⟩] [18])
 (.block 0
 F_impl_leastFrom_W0))
 (.seq
 (.region false [⟨some 59, .mv, [.t 6], none⟩,
 ⟨some 60, .mv, [.t 7], none⟩,
 ⟨some 4, .mv, [.t 59], none⟩,
 ⟨some 5, .mv, [.t 60], none⟩] [1, 2, 6, 7, 19, 20, 59, 60])
 .ret))))) }
/-- impl.startOf -/
def F_impl_startOf : LF :=
 { nparams := 2, results := [.c 4 4 true], body :=
 (.seq
 (.region false [⟨some 4, .alloc 2080 (.st [.i 0, .i 0, .w (0#32), .w (0#32)]), [], none⟩] [])
 (.seq
 (.region false [⟨some 5, .mv, [.t 0], none⟩,
 ⟨some 6, .mv, [.t 1], none⟩,
 ⟨some 7, .call n_impl_trueStates 3584, [.t 6], none⟩,
 ⟨some 8, .build [.i 0, .i 0, .w (0#32), .w (0#32)] [(0, 1), (2, 1), (3, 1)], [.t 5, .c (.w (4294967295#32)), .t 7], none⟩,
 ⟨none, .store 4, [.t 4, .t 8], none⟩] [0, 1, 5, 6, 7, 8])
 .ret)) }
/-- impl.averagesOf -/
def F_impl_averagesOf : LF :=
 { nparams := 1, results := [.t 2], body :=
 (.seq
 (.region false [⟨some 1, .box 520, [.t 0], none⟩,
 ⟨some 2, .mv, [.c (.dead)], none⟩] [0, 2])
 (.seq
 (.region false [⟨some 3, .mkfn (mkNo n_impl_averagesOf_1 0), [.t 1], none⟩,
 ⟨some 2, .mv, [.t 3], none⟩] [1, 3])
 .ret)) }
/-- impl.manyOk -/
def F_impl_manyOk : LF :=
 { nparams := 1, results := [.t 2], body :=
 (.seq
 (.region false [⟨some 2, .mv, [.c (.b false)], none⟩] [2])
 (.seq
 (.region false [⟨some 3, .mv, [.t 0], none⟩,
 ⟨some 4, .call n_impl_isWithin 2048, [.t 3, .c (.i 1), .c (.i 5)], none⟩,
 ⟨some 2, .mv, [.t 4], none⟩] [0, 3, 4])
 .ret)) }
/-- impl.readOr -/
def F_impl_readOr : LF :=
 { nparams := 1, results := [.t 2, .t 3], body :=
 (.seq
 (.region false [⟨some 2, .newnil 1040, [], none⟩,
 ⟨some 3, .mv, [.c (.s [])], none⟩] [2, 3])
 (.seq
 (.region false [⟨some 4, .mv, [.t 0], none⟩,
 ⟨some 5, .call n_impl_readRow 2560, [.t 4, .c (.y 124), .c (.i 3), .c (.fn n_impl_readAnd [])], none⟩,
 ⟨some 6, .ext 0, [.t 5], none⟩,
 ⟨some 7, .ext 1, [.t 5], none⟩,
 ⟨some 2, .mv, [.t 6], none⟩,
 ⟨some 3, .mv, [.t 7], none⟩] [0, 4, 5, 6, 7])
 .ret)) }
/-- impl.TermText -/
def F_impl_TermText : LF :=
 { nparams := 2, results := [.t 4], body :=
 (.seq
 (.region false [⟨some 4, .mv, [.c (.s [])], none⟩] [4])
 (.seq
 (.seq
 (.region false [⟨some 5, .mv, [.t 0], none⟩,
 ⟨some 6, .mv, [.t 1], none⟩,
 ⟨some 7, .call n_impl_TermOk 3584, [.t 5, .t 6], none⟩,
 ⟨some 8, .un .not, [.t 7], none⟩] [0, 5, 6, 7])
 (.cond (.t 8) [8]
 (.seq
 (.region false [⟨some 4, .mv, [.c (.s [])], none⟩] [1])
 .ret)
 .skip))
 (.seq
 (.region false [⟨some 9, .mv, [.t 1], none⟩,
 ⟨some 10, .call n_impl_foldTerm_impl_writtenPart 5120, [.t 9, .c (.fn n_impl_writePart [])], none⟩,
 ⟨some 11, .fldv 0 1 false, [.t 10], none⟩,
 ⟨some 4, .mv, [.t 11], none⟩] [1, 9, 10, 11])
 .ret))) }
/-- impl.weightOfStates -/
def F_impl_weightOfStates_L0 : LC :=
 (.seq
 (.region false [⟨some 11, .bin .lss, [.t 10, .t 9], none⟩] [])
 (.seq
 (.cond (.t 11) [11]
 .skip
 (.exit 0))
 (.seq
 (.block 1
 (.seq
 (.region false [⟨some 12, .mv, [.t 10], none⟩,
 ⟨some 6, .mv, [.t 12], none⟩] [12])
 (.seq
 (.region false [⟨some 13, .mv, [.t 1], none⟩,
 ⟨some 14, .mv, [.t 6], none⟩,
 ⟨some 15, .call n_impl_hasState 7680, [.t 13, .t 14], none⟩] [13, 14])
 (.cond (.t 15) [15]
 (.region false [⟨some 16, .mv, [.t 5], none⟩,
 ⟨some 17, .mv, [.t 0], none⟩,
 ⟨some 18, .mv, [.t 6], none⟩,
 ⟨some 19, .call n_impl_WeightOf 9728, [.t 17, .t 18], none⟩,
 ⟨some 20, .bin .add, [.t 16, .t 19], none⟩,
 ⟨some 5, .mv, [.t 20], none⟩] [6, 16, 17, 18, 19, 20])
 .skip))))
 (.region false [⟨some 21, .bin .add, [.t 10, .c (.i 1)], none⟩,
 ⟨some 10, .mv, [.t 21], none⟩] [6, 21]))))
def F_impl_weightOfStates_W0 : LC := .loop F_impl_weightOfStates_L0
def F_impl_weightOfStates : LF :=
 { nparams := 2, results := [.t 4], body :=
 (.seq
 (.region false [⟨some 4, .mv, [.c (.i 0)], none⟩] [4])
 (.seq
 (.region false [⟨some 5, .mv, [.c (.i 0)], none⟩] [])
 (.seq
 (.seq
 (.region false [⟨some 7, .mv, [.t 0], none⟩,
 ⟨some 8, .len, [.t 7], none⟩,
 ⟨some 9, .call n_impl_statesOf 4608, [.t 8], none⟩,
 ⟨some 10, .mv, [.c (.i 0)], none⟩] [7, 8])
 (.block 0
 F_impl_weightOfStates_W0))
 (.seq
 (.region false [⟨some 22, .mv, [.t 5], none⟩,
 ⟨some 4, .mv, [.t 22], none⟩] [0, 1, 5, 9, 10, 22])
 .ret)))) }
/-- impl.trueStates -/
def F_impl_trueStates : LF :=
 { nparams := 1, results := [.t 2], body :=
 (.seq
 (.region false [⟨some 2, .mv, [.c (.w (0#32))], none⟩] [2])
 (.seq
 (.region false [⟨some 3, .mv, [.t 0], none⟩,
 ⟨some 4, .call n_impl_foldTerm_uint32 2048, [.t 3, .c (.fn n_impl_statesOfPart [])], none⟩,
 ⟨some 2, .mv, [.t 4], none⟩] [0, 3, 4])
 .ret)) }
/-- impl.statesOf -/
def F_impl_statesOf : LF :=
 { nparams := 1, results := [.t 2], body :=
 (.seq
 (.region false [⟨some 2, .mv, [.c (.i 0)], none⟩] [2])
 (.seq
 (.region false [⟨some 3, .mv, [.t 0], none⟩,
 ⟨some 4, .bin .shl, [.c (.i 1), .t 3], none⟩,
 ⟨some 2, .mv, [.t 4], none⟩] [0, 3, 4])
 .ret)) }
/-- impl.WeightOf -/
def F_impl_WeightOf_L0 : LC :=
 (.seq
 (.region false [⟨some 21, .bin .lss, [.t 20, .t 19], none⟩] [])
 (.seq
 (.cond (.t 21) [21]
 .skip
 (.exit 0))
 (.seq
 (.block 1
 (.seq
 (.region false [⟨some 22, .mv, [.t 20], none⟩,
 ⟨some 23, .idxa 2, [.t 18, .t 20], none⟩,
 ⟨some 24, .load 2 true, [.t 23], none⟩,
 ⟨some 7, .alloc 3600 (.st [.i 0, .i 0]), [], none⟩,
 ⟨some 6, .mv, [.t 22], none⟩,
 ⟨none, .store 2, [.t 7, .t 24], none⟩] [22, 23, 24])
 (.seq
 (.region false [⟨some 25, .mv, [.t 1], none⟩,
 ⟨some 26, .mv, [.t 6], none⟩,
 ⟨some 27, .call n_impl_outcomeIn 13824, [.t 25, .t 26], none⟩,
 ⟨some 28, .bin .eql, [.t 27, .c (.i 1)], none⟩] [6, 25, 26, 27])
 (.cond (.t 28) [28]
 (.region false [⟨some 29, .mv, [.t 5], none⟩,
 ⟨some 30, .fld 1 1 false, [.t 7], none⟩,
 ⟨some 31, .load 1 false, [.t 30], none⟩,
 ⟨some 32, .bin .mul, [.t 29, .t 31], none⟩,
 ⟨some 5, .mv, [.t 32], none⟩] [7, 29, 30, 31, 32])
 (.region false [⟨some 33, .mv, [.t 5], none⟩,
 ⟨some 34, .fld 1 1 false, [.t 7], none⟩,
 ⟨some 35, .load 1 false, [.t 34], none⟩,
 ⟨some 36, .bin .sub, [.c (.i 6), .t 35], none⟩,
 ⟨some 37, .bin .mul, [.t 33, .t 36], none⟩,
 ⟨some 5, .mv, [.t 37], none⟩] [7, 33, 34, 35, 36, 37])))))
 (.region false [⟨some 38, .bin .add, [.t 20, .c (.i 1)], none⟩,
 ⟨some 20, .mv, [.t 38], none⟩] [38]))))
def F_impl_WeightOf_W0 : LC := .loop F_impl_WeightOf_L0
def F_impl_WeightOf : LF :=
 { nparams := 2, results := [.t 4], body :=
 (.seq
 (.region false [⟨some 4, .mv, [.c (.i 0)], none⟩] [4])
 (.seq
 (.seq
 (.region false [⟨some 8, .mv, [.t 0], none⟩,
 ⟨some 9, .call n_impl_TestsOk 4608, [.t 8], none⟩,
 ⟨some 10, .un .not, [.t 9], none⟩,
 ⟨some 11, .mv, [.t 10], none⟩,
 ⟨some 12, .mv, [.t 0], some (11, false)⟩,
 ⟨some 13, .len, [.t 12], some (11, false)⟩,
 ⟨some 14, .mv, [.t 1], some (11, false)⟩,
 ⟨some 15, .call n_impl_StateOk 7680, [.t 13, .t 14], some (11, false)⟩,
 ⟨some 16, .un .not, [.t 15], some (11, false)⟩,
 ⟨some 17, .pick, [.t 11, .c (.b true), .t 16], none⟩] [8, 9, 10, 11, 12, 13, 14, 15, 16])
 (.cond (.t 17) [17]
 (.seq
 (.region false [⟨some 4, .mv, [.c (.i (-1))], none⟩] [0, 1])
 .ret)
 .skip))
 (.seq
 (.region false [⟨some 5, .mv, [.c (.i 1)], none⟩] [])
 (.seq
 (.seq
 (.region false [⟨some 18, .mv, [.t 0], none⟩,
 ⟨some 19, .len, [.t 18], none⟩,
 ⟨some 20, .mv, [.c (.i 0)], none⟩] [0])
 (.block 0
 F_impl_WeightOf_W0))
 (.seq
 (.region false [⟨some 39, .mv, [.t 5], none⟩,
 ⟨some 4, .mv, [.t 39], none⟩] [1, 5, 18, 19, 20, 39])
 .ret))))) }
/-- spec.l20Rd).odd -/
def F_spec_l20Rd_odd : LF :=
 { nparams := 2, results := [.t 4], body :=
 (.seq
 (.region false [⟨some 4, .mv, [.c (.b false)], none⟩] [4])
 (.seq
 (.region false [⟨some 5, .mv, [.t 1], none⟩,
 ⟨some 6, .bin .gtr, [.t 5, .c (.i 0)], none⟩,
 ⟨some 7, .mv, [.t 6], none⟩,
 ⟨some 8, .mv, [.t 0], some (7, true)⟩,
 ⟨some 9, .mv, [.t 1], some (7, true)⟩,
 ⟨some 10, .call n_spec_l20Rd_pick 5120, [.t 8, .t 9], some (7, true)⟩,
 ⟨some 11, .mv, [.t 1], some (7, true)⟩,
 ⟨some 12, .bin .sub, [.t 11, .c (.i 1)], some (7, true)⟩,
 ⟨some 13, .bin .eql, [.t 10, .t 12], some (7, true)⟩,
 ⟨some 14, .pick, [.t 7, .t 13, .c (.b false)], none⟩,
 ⟨some 4, .mv, [.t 14], none⟩] [1, 5, 6, 7, 8, 9, 10, 11, 12, 13, 14])
 .ret)) }
/-- bits.OnesCount -/
def F_math_bits_OnesCount : LF :=
 { nparams := 1, results := [.t 2], body :=
 (.seq
 (.region false [⟨some 2, .mv, [.c (.i 0)], none⟩] [2])
 (.seq
 (.cond (.c (.b false)) []
 (.seq
 .void
 .ret)
 .skip)
 (.seq
 (.region false [⟨some 6, .mv, [.t 0], none⟩,
 ⟨some 7, .call n_math_bits_OnesCount64 3584, [.t 6], none⟩,
 ⟨some 2, .mv, [.t 7], none⟩] [0, 6, 7])
 .ret))) }
/-- impl.hasTest -/
def F_impl_hasTest : LF :=
 { nparams := 2, results := [.t 4], body :=
 (.seq
 (.region false [⟨some 4, .mv, [.c (.b false)], none⟩] [4])
 (.seq
 (.region false [⟨some 5, .mv, [.t 0], none⟩,
 ⟨some 6, .mv, [.t 1], none⟩,
 ⟨some 7, .bin .shr, [.t 5, .t 6], none⟩,
 ⟨some 8, .bin .and, [.t 7, .c (.i 1)], none⟩,
 ⟨some 9, .bin .eql, [.t 8, .c (.i 1)], none⟩,
 ⟨some 4, .mv, [.t 9], none⟩] [0, 1, 5, 6, 7, 8, 9])
 .ret)) }
/-- impl.averageAsking -/
def F_impl_averageAsking : LF :=
 { nparams := 4, results := [.t 8], body :=
 (.seq
 (.region false [⟨some 4, .box 2064, [.t 0], none⟩,
 ⟨some 8, .mv, [.c (.i 0)], none⟩] [0, 8])
 (.seq
 (.region true [⟨some 9, .fld 0 1 false, [.t 4], none⟩,
 ⟨some 10, .load 1 false, [.t 9], none⟩,
 ⟨some 11, .mv, [.t 1], none⟩,
 ⟨some 12, .call n_impl_wholeOf 6144, [.t 11], none⟩,
 ⟨some 13, .bin .mul, [.t 10, .t 12], none⟩,
 ⟨some 14, .fld 1 1 false, [.t 4], none⟩,
 ⟨some 15, .load 1 false, [.t 14], none⟩,
 ⟨some 16, .bin .sub, [.c (.i 6), .t 15], none⟩,
 ⟨some 17, .mv, [.t 2], none⟩,
 ⟨some 18, .bin .mul, [.t 16, .t 17], none⟩,
 ⟨some 19, .bin .add, [.t 13, .t 18], none⟩,
 ⟨some 20, .fld 1 1 false, [.t 4], none⟩,
 ⟨some 21, .load 1 false, [.t 20], none⟩,
 ⟨some 22, .mv, [.t 3], none⟩,
 ⟨some 23, .bin .mul, [.t 21, .t 22], none⟩,
 ⟨some 24, .bin .add, [.t 19, .t 23], none⟩,
 ⟨some 8, .mv, [.t 24], none⟩] [1, 2, 3, 4, 9, 10, 11, 12, 13, 14, 15, 16, 17, 18, 19, 20, 21, 22, 23, 24])
 .ret)) }
/-- impl.partsTaken -/
def F_impl_partsTaken : LF :=
 { nparams := 1, results := [.t 2], body :=
 (.seq
 (.region false [⟨some 2, .mv, [.c (.i 0)], none⟩] [2])
 (.seq
 (.seq
 (.region false [⟨some 3, .mv, [.t 0], none⟩] [0])
 (.block 0
 (.seq
 (.region false [⟨some 5, .bin .eql, [.t 3, .c (.i 0)], none⟩,
 ⟨some 4, .mv, [.t 5], none⟩] [5])
 (.cond (.t 4) [4]
 (.seq
 (.region false [⟨some 2, .mv, [.c (.i 0)], none⟩] [3])
 .ret)
 (.seq
 (.region false [⟨some 7, .bin .eql, [.t 3, .c (.i 1)], none⟩,
 ⟨some 6, .mv, [.t 7], none⟩] [3, 7])
 (.cond (.t 6) [6]
 (.seq
 (.region false [⟨some 2, .mv, [.c (.i 1)], none⟩] [])
 .ret)
 .skip))))))
 (.seq
 (.region false [⟨some 2, .mv, [.c (.i 2)], none⟩] [])
 .ret))) }
/-- impl.markOk -/
def F_impl_markOk : LF :=
 { nparams := 2, results := [.t 4], body :=
 (.seq
 (.region false [⟨some 3, .box 1552, [.t 1], none⟩,
 ⟨some 4, .mv, [.c (.b false)], none⟩] [1, 4])
 (.seq
 (.seq
 (.region false [⟨some 5, .fld 0 1 false, [.t 3], none⟩,
 ⟨some 6, .load 1 false, [.t 5], none⟩,
 ⟨some 7, .bin .eql, [.t 6, .c (.i 0)], none⟩] [5, 6])
 (.cond (.t 7) [7]
 (.seq
 (.region false [⟨some 8, .fld 1 1 false, [.t 3], none⟩,
 ⟨some 9, .load 1 false, [.t 8], none⟩,
 ⟨some 10, .mv, [.t 0], none⟩,
 ⟨some 11, .bin .sub, [.t 10, .c (.i 1)], none⟩,
 ⟨some 12, .call n_impl_isWithin 6144, [.t 9, .c (.i 0), .t 11], none⟩,
 ⟨some 4, .mv, [.t 12], none⟩] [0, 3, 8, 9, 10, 11, 12])
 .ret)
 .skip))
 (.seq
 (.region false [⟨some 13, .fld 0 1 false, [.t 3], none⟩,
 ⟨some 14, .load 1 false, [.t 13], none⟩,
 ⟨some 15, .call n_impl_isWithin 7680, [.t 14, .c (.i 1), .c (.i 3)], none⟩,
 ⟨some 16, .mv, [.t 15], none⟩,
 ⟨some 17, .fld 1 1 false, [.t 3], some (16, true)⟩,
 ⟨some 18, .load 1 false, [.t 17], some (16, true)⟩,
 ⟨some 19, .bin .eql, [.t 18, .c (.i 0)], some (16, true)⟩,
 ⟨some 20, .pick, [.t 16, .t 19, .c (.b false)], none⟩,
 ⟨some 4, .mv, [.t 20], none⟩] [0, 3, 13, 14, 15, 16, 17, 18, 19, 20])
 .ret))) }
/-- impl.point).isForced -/
def F_impl_point_isForced : LF :=
 { nparams := 1, results := [.t 2], body :=
 (.seq
 (.region false [⟨some 1, .box 544, [.t 0], none⟩,
 ⟨some 2, .mv, [.c (.b false)], none⟩] [0, 2])
 (.seq
 (.region false [⟨some 3, .fld 3 1 false, [.t 1], none⟩,
 ⟨some 4, .load 1 false, [.t 3], none⟩,
 ⟨some 5, .fld 2 1 false, [.t 1], none⟩,
 ⟨some 6, .load 1 false, [.t 5], none⟩,
 ⟨some 7, .call n_impl_valueAmong 3584, [.t 4, .t 6], none⟩,
 ⟨some 8, .bin .neq, [.t 7, .c (.i (-1))], none⟩,
 ⟨some 2, .mv, [.t 8], none⟩] [1, 3, 4, 5, 6, 7, 8])
 .ret)) }
/-- impl.point).canAsk -/
def F_impl_point_canAsk : LF :=
 { nparams := 2, results := [.t 4], body :=
 (.seq
 (.region false [⟨some 2, .box 1056, [.t 0], none⟩,
 ⟨some 4, .mv, [.c (.b false)], none⟩] [0, 4])
 (.seq
 (.region false [⟨some 5, .mv, [.t 1], none⟩,
 ⟨some 6, .fld 0 1 false, [.t 2], none⟩,
 ⟨some 7, .load 1 false, [.t 6], none⟩,
 ⟨some 8, .bin .sub, [.t 7, .c (.i 1)], none⟩,
 ⟨some 9, .call n_impl_isWithin 4608, [.t 5, .c (.i 0), .t 8], none⟩,
 ⟨some 10, .mv, [.t 9], none⟩,
 ⟨some 11, .fld 1 1 false, [.t 2], some (10, true)⟩,
 ⟨some 12, .load 1 false, [.t 11], some (10, true)⟩,
 ⟨some 13, .mv, [.t 1], some (10, true)⟩,
 ⟨some 14, .call n_impl_hasTest 7168, [.t 12, .t 13], some (10, true)⟩,
 ⟨some 15, .un .not, [.t 14], some (10, true)⟩,
 ⟨some 16, .pick, [.t 10, .t 15, .c (.b false)], none⟩,
 ⟨some 4, .mv, [.t 16], none⟩] [1, 2, 5, 6, 7, 8, 9, 10, 11, 12, 13, 14, 15, 16])
 .ret)) }
/-- impl.point).answered -/
def F_impl_point_answered : LF :=
 { nparams := 3, results := [.c 6 4 true], body :=
 (.seq
 (.region false [⟨some 3, .box 1568, [.t 0], none⟩,
 ⟨some 6, .alloc 3104 (.st [.i 0, .i 0, .w (0#32), .w (0#32)]), [], none⟩] [0])
 (.seq
 (.region true [⟨some 7, .fld 1 1 false, [.t 3], none⟩,
 ⟨some 8, .load 1 false, [.t 7], none⟩,
 ⟨some 9, .mv, [.t 1], none⟩,
 ⟨some 10, .bin .shl, [.c (.i 1), .t 9], none⟩,
 ⟨some 11, .bin .or, [.t 8, .t 10], none⟩,
 ⟨some 12, .fld 1 1 false, [.t 3], none⟩,
 ⟨none, .store 1, [.t 12, .t 11], none⟩] [7, 8, 9, 10, 11, 12])
 (.seq
 (.region true [⟨some 13, .fld 2 1 false, [.t 3], none⟩,
 ⟨some 14, .load 1 false, [.t 13], none⟩,
 ⟨some 15, .mv, [.t 1], none⟩,
 ⟨some 16, .mv, [.t 2], none⟩,
 ⟨some 17, .call n_impl_statesSaying 8704, [.t 15, .t 16], none⟩,
 ⟨some 18, .bin .and, [.t 14, .t 17], none⟩,
 ⟨some 19, .fld 2 1 false, [.t 3], none⟩,
 ⟨none, .store 1, [.t 19, .t 18], none⟩] [1, 2, 13, 14, 15, 16, 17, 18, 19])
 (.seq
 (.region false [⟨some 20, .load 4 true, [.t 3], none⟩,
 ⟨none, .store 4, [.t 6, .t 20], none⟩] [3, 20])
 .ret)))) }
/-- impl.averagesOf$1 -/
def F_impl_averagesOf_1 : LF :=
 { nparams := 5, results := [.t 9], body :=
 (.seq
 (.region false [⟨some 5, .box 2592, [.t 0], none⟩,
 ⟨some 9, .mv, [.c (.i 0)], none⟩] [0, 9])
 (.seq
 (.region true [⟨some 10, .load 1 false, [.t 4], none⟩,
 ⟨some 11, .mv, [.t 1], none⟩,
 ⟨some 12, .idxa 2, [.t 10, .t 11], none⟩,
 ⟨some 13, .load 2 true, [.t 12], none⟩,
 ⟨some 14, .fld 0 1 false, [.t 5], none⟩,
 ⟨some 15, .load 1 false, [.t 14], none⟩,
 ⟨some 16, .load 4 true, [.t 5], none⟩,
 ⟨some 17, .call n_impl_point_howManyAsked 8704, [.t 16], none⟩,
 ⟨some 18, .bin .sub, [.t 15, .t 17], none⟩,
 ⟨some 19, .mv, [.t 2], none⟩,
 ⟨some 20, .mv, [.t 3], none⟩,
 ⟨some 21, .call n_impl_averageAsking 10752, [.t 13, .t 18, .t 19, .t 20], none⟩,
 ⟨some 9, .mv, [.t 21], none⟩] [1, 2, 3, 4, 5, 10, 11, 12, 13, 14, 15, 16, 17, 18, 19, 20, 21])
 .ret)) }
/-- impl.point).howManyAsked -/
def F_impl_point_howManyAsked : LF :=
 { nparams := 1, results := [.t 2], body :=
 (.seq
 (.region false [⟨some 1, .box 544, [.t 0], none⟩,
 ⟨some 2, .mv, [.c (.i 0)], none⟩] [0, 2])
 (.seq
 (.region false [⟨some 3, .fld 1 1 false, [.t 1], none⟩,
 ⟨some 4, .load 1 false, [.t 3], none⟩,
 ⟨some 5, .call n_impl_sizeOf 2560, [.t 4], none⟩,
 ⟨some 2, .mv, [.t 5], none⟩] [1, 3, 4, 5])
 .ret)) }
/-- impl.readRow -/
def F_impl_readRow_L0 : LC :=
 (.seq
 (.seq
 (.region false [⟨some 19, .mv, [.t 10], none⟩,
 ⟨some 20, .len, [.t 19], none⟩,
 ⟨some 21, .bin .gtr, [.t 20, .c (.i 0)], none⟩,
 ⟨some 22, .mv, [.t 21], none⟩,
 ⟨some 23, .mv, [.t 11], some (22, true)⟩,
 ⟨some 24, .bin .neq, [.t 23, .c (.s [])], some (22, true)⟩,
 ⟨some 25, .pick, [.t 22, .t 24, .c (.b false)], none⟩,
 ⟨some 26, .mv, [.t 25], none⟩,
 ⟨some 27, .mv, [.t 11], some (26, true)⟩,
 ⟨some 28, .idx, [.t 27, .c (.i 0)], some (26, true)⟩,
 ⟨some 29, .mv, [.t 1], some (26, true)⟩,
 ⟨some 30, .bin .eql, [.t 28, .t 29], some (26, true)⟩,
 ⟨some 31, .pick, [.t 26, .t 30, .c (.b false)], none⟩] [19, 20, 21, 22, 23, 24, 25, 26, 27, 28, 29, 30])
 (.cond (.t 31) [31]
 .skip
 (.exit 0)))
 (.block 1
 (.seq
 (.region false [⟨some 12, .newnil 6160, [], none⟩] [12])
 (.seq
 (.region false [⟨some 33, .mv, [.t 3], none⟩,
 ⟨some 34, .mv, [.t 11], none⟩,
 ⟨some 35, .slices true false, [.t 34, .c (.i 1)], none⟩,
 ⟨some 36, .calld 18432, [.t 33, .t 35], none⟩,
 ⟨some 32, .mv, [.t 36], none⟩,
 ⟨some 37, .ext 0, [.t 32], none⟩,
 ⟨some 38, .ext 1, [.t 32], none⟩,
 ⟨some 12, .mv, [.t 37], none⟩,
 ⟨some 11, .mv, [.t 38], none⟩] [32, 33, 34, 35, 36, 37, 38])
 (.seq
 (.seq
 (.region false [⟨some 39, .mv, [.t 12], none⟩,
 ⟨some 40, .len, [.t 39], none⟩,
 ⟨some 41, .bin .eql, [.t 40, .c (.i 0)], none⟩] [39, 40])
 (.cond (.t 41) [41]
 (.seq
 (.region false [⟨some 8, .newnil 4112, [], none⟩,
 ⟨some 9, .mv, [.c (.s [])], none⟩] [1, 2, 3, 10, 11, 12])
 .ret)
 .skip))
 (.region false [⟨some 42, .mv, [.t 10], none⟩,
 ⟨some 43, .mv, [.t 12], none⟩,
 ⟨some 44, .app 22544 2, [.t 42, .t 43], none⟩,
 ⟨some 45, .mv, [.t 2], none⟩,
 ⟨some 46, .build [.i 0, .i 0] [(0, 1)], [.t 45], none⟩,
 ⟨some 47, .bslice 24080 1 2 (.st [.i 0, .i 0]) [0], [.t 46], none⟩,
 ⟨some 48, .app 24592 2, [.t 44, .t 47], none⟩,
 ⟨some 10, .mv, [.t 48], none⟩] [12, 42, 43, 44, 45, 46, 47, 48]))))))
def F_impl_readRow_W0 : LC := .loop F_impl_readRow_L0
def F_impl_readRow : LF :=
 { nparams := 4, results := [.t 8, .t 9], body :=
 (.seq
 (.region false [⟨some 8, .newnil 4112, [], none⟩,
 ⟨some 9, .mv, [.c (.s [])], none⟩] [8, 9])
 (.seq
 (.region false [⟨some 14, .mv, [.t 3], none⟩,
 ⟨some 15, .mv, [.t 0], none⟩,
 ⟨some 16, .calld 8192, [.t 14, .t 15], none⟩,
 ⟨some 13, .mv, [.t 16], none⟩,
 ⟨some 17, .ext 0, [.t 13], none⟩,
 ⟨some 18, .ext 1, [.t 13], none⟩,
 ⟨some 10, .mv, [.t 17], none⟩,
 ⟨some 11, .mv, [.t 18], none⟩] [0, 13, 14, 15, 16, 17, 18])
 (.seq
 (.block 0
 F_impl_readRow_W0)
 (.seq
 (.region false [⟨some 49, .mv, [.t 10], none⟩,
 ⟨some 50, .mv, [.t 11], none⟩,
 ⟨some 8, .mv, [.t 49], none⟩,
 ⟨some 9, .mv, [.t 50], none⟩] [1, 2, 3, 10, 11, 49, 50])
 .ret)))) }
/-- impl.readAnd -/
def F_impl_readAnd : LF :=
 { nparams := 1, results := [.t 2, .t 3], body :=
 (.seq
 (.region false [⟨some 2, .newnil 1040, [], none⟩,
 ⟨some 3, .mv, [.c (.s [])], none⟩] [2, 3])
 (.seq
 (.region false [⟨some 4, .mv, [.t 0], none⟩,
 ⟨some 5, .call n_impl_readRow 2560, [.t 4, .c (.y 38), .c (.i 2), .c (.fn n_impl_readNot [])], none⟩,
 ⟨some 6, .ext 0, [.t 5], none⟩,
 ⟨some 7, .ext 1, [.t 5], none⟩,
 ⟨some 2, .mv, [.t 6], none⟩,
 ⟨some 3, .mv, [.t 7], none⟩] [0, 4, 5, 6, 7])
 .ret)) }
/-- impl.writtenPart] -/
def F_impl_foldTerm_impl_writtenPart_L0 : LC :=
 (.seq
 (.region false [⟨some 13, .bin .lss, [.t 12, .t 11], none⟩] [])
 (.seq
 (.cond (.t 13) [13]
 .skip
 (.exit 0))
 (.seq
 (.block 1
 (.seq
 (.region false [⟨some 14, .idxa 2, [.t 10, .t 12], none⟩,
 ⟨some 15, .load 2 true, [.t 14], none⟩,
 ⟨some 7, .alloc 3600 (.st [.i 0, .i 0]), [], none⟩,
 ⟨none, .store 2, [.t 7, .t 15], none⟩] [14, 15])
 (.seq
 (.region false [⟨some 16, .mv, [.t 5], none⟩,
 ⟨some 17, .len, [.t 16], none⟩,
 ⟨some 18, .fld 0 1 false, [.t 7], none⟩,
 ⟨some 19, .load 1 false, [.t 18], none⟩,
 ⟨some 20, .call n_impl_partsTaken 10240, [.t 19], none⟩,
 ⟨some 21, .bin .sub, [.t 17, .t 20], none⟩,
 ⟨some 8, .mv, [.t 21], none⟩] [16, 17, 18, 19, 20, 21])
 (.seq
 (.region true [⟨some 22, .mv, [.t 1], none⟩,
 ⟨some 23, .load 2 true, [.t 7], none⟩,
 ⟨some 24, .mv, [.t 5], none⟩,
 ⟨some 25, .mv, [.t 8], none⟩,
 ⟨some 26, .slice true false 2, [.t 24, .t 25], none⟩,
 ⟨some 27, .calld 13824, [.t 22, .t 23, .t 26], none⟩,
 ⟨some 9, .alloc 4624 (.st [.s [], .i 0]), [], none⟩,
 ⟨none, .store 2, [.t 9, .t 27], none⟩] [7, 22, 23, 24, 25, 26, 27])
 (.region true [⟨some 28, .mv, [.t 5], none⟩,
 ⟨some 29, .mv, [.t 8], none⟩,
 ⟨some 30, .slice false true 2, [.t 28, .t 29], none⟩,
 ⟨some 31, .load 2 true, [.t 9], none⟩,
 ⟨some 32, .bslice 16400 1 2 (.st [.s [], .i 0]) [0], [.t 31], none⟩,
 ⟨some 33, .app 16912 2, [.t 30, .t 32], none⟩,
 ⟨some 5, .mv, [.t 33], none⟩] [8, 9, 28, 29, 30, 31, 32, 33])))))
 (.region false [⟨some 34, .bin .add, [.t 12, .c (.i 1)], none⟩,
 ⟨some 12, .mv, [.t 34], none⟩] [34]))))
def F_impl_foldTerm_impl_writtenPart_W0 : LC := .loop F_impl_foldTerm_impl_writtenPart_L0
def F_impl_foldTerm_impl_writtenPart : LF :=
 { nparams := 2, results := [.c 4 2 true], body :=
 (.seq
 (.region false [⟨some 4, .alloc 2064 (.st [.s [], .i 0]), [], none⟩] [])
 (.seq
 (.region false [⟨some 5, .newnil 2576, [], none⟩] [])
 (.seq
 (.seq
 (.region false [⟨some 10, .mv, [.t 0], none⟩,
 ⟨some 11, .len, [.t 10], none⟩,
 ⟨some 12, .mv, [.c (.i 0)], none⟩] [0])
 (.block 0
 F_impl_foldTerm_impl_writtenPart_W0))
 (.seq
 (.region false [⟨some 35, .mv, [.t 5], none⟩,
 ⟨some 36, .idxa 2, [.t 35, .c (.i 0)], none⟩,
 ⟨some 37, .load 2 true, [.t 36], none⟩,
 ⟨none, .store 2, [.t 4, .t 37], none⟩] [1, 5, 10, 11, 12, 35, 36, 37])
 .ret)))) }
/-- impl.writePart -/
def F_impl_writePart : LF :=
 { nparams := 2, results := [.c 4 2 true], body :=
 (.seq
 (.region false [⟨some 2, .box 1040, [.t 0], none⟩,
 ⟨some 4, .alloc 2064 (.st [.s [], .i 0]), [], none⟩] [0])
 (.seq
 (.region false [⟨some 6, .fld 0 1 false, [.t 2], none⟩,
 ⟨some 7, .load 1 false, [.t 6], none⟩,
 ⟨some 8, .build [.s [], .i 0] [(1, 1)], [.t 7], none⟩,
 ⟨some 5, .alloc 2576 (.st [.s [], .i 0]), [], none⟩,
 ⟨none, .store 2, [.t 5, .t 8], none⟩] [6, 7, 8])
 (.seq
 (.seq
 (.region false [⟨some 9, .fld 0 1 false, [.t 2], none⟩,
 ⟨some 10, .load 1 false, [.t 9], none⟩] [9])
 (.block 0
 (.seq
 (.region false [⟨some 12, .bin .eql, [.t 10, .c (.i 0)], none⟩,
 ⟨some 11, .mv, [.t 12], none⟩] [12])
 (.cond (.t 11) [11]
 (.region false [⟨some 13, .fld 1 1 false, [.t 2], none⟩,
 ⟨some 14, .load 1 false, [.t 13], none⟩,
 ⟨some 15, .bin .add, [.c (.i 97), .t 14], none⟩,
 ⟨some 16, .conv .i2r 8192, [.t 15], none⟩,
 ⟨some 17, .conv .r2s 8704, [.t 16], none⟩,
 ⟨some 18, .fld 0 1 false, [.t 5], none⟩,
 ⟨none, .store 1, [.t 18, .t 17], none⟩] [1, 2, 10, 13, 14, 15, 16, 17, 18])
 (.seq
 (.region false [⟨some 20, .bin .eql, [.t 10, .c (.i 1)], none⟩,
 ⟨some 19, .mv, [.t 20], none⟩] [2, 20])
 (.cond (.t 19) [19]
 (.region false [⟨some 21, .mv, [.t 1], none⟩,
 ⟨some 22, .idxa 2, [.t 21, .c (.i 0)], none⟩,
 ⟨some 23, .load 2 true, [.t 22], none⟩,
 ⟨some 24, .call n_impl_bracketedFrom 12288, [.c (.i 2), .t 23], none⟩,
 ⟨some 25, .bin .add, [.c (.s [33]), .t 24], none⟩,
 ⟨some 26, .fld 0 1 false, [.t 5], none⟩,
 ⟨none, .store 1, [.t 26, .t 25], none⟩] [1, 10, 21, 22, 23, 24, 25, 26])
 (.seq
 (.region false [⟨some 28, .bin .eql, [.t 10, .c (.i 2)], none⟩,
 ⟨some 27, .mv, [.t 28], none⟩] [28])
 (.cond (.t 27) [27]
 (.region true [⟨some 29, .mv, [.t 1], none⟩,
 ⟨some 30, .idxa 2, [.t 29, .c (.i 0)], none⟩,
 ⟨some 31, .load 2 true, [.t 30], none⟩,
 ⟨some 32, .call n_impl_bracketedFrom 16384, [.c (.i 3), .t 31], none⟩,
 ⟨some 33, .bin .add, [.t 32, .c (.s [38])], none⟩,
 ⟨some 34, .mv, [.t 1], none⟩,
 ⟨some 35, .idxa 2, [.t 34, .c (.i 1)], none⟩,
 ⟨some 36, .load 2 true, [.t 35], none⟩,
 ⟨some 37, .call n_impl_bracketedFrom 18944, [.c (.i 2), .t 36], none⟩,
 ⟨some 38, .bin .add, [.t 33, .t 37], none⟩,
 ⟨some 39, .fld 0 1 false, [.t 5], none⟩,
 ⟨none, .store 1, [.t 39, .t 38], none⟩] [1, 10, 29, 30, 31, 32, 33, 34, 35, 36, 37, 38, 39])
 (.seq
 (.region false [⟨some 41, .bin .eql, [.t 10, .c (.i 3)], none⟩,
 ⟨some 40, .mv, [.t 41], none⟩] [10, 41])
 (.cond (.t 40) [40]
 (.region true [⟨some 42, .mv, [.t 1], none⟩,
 ⟨some 43, .idxa 2, [.t 42, .c (.i 0)], none⟩,
 ⟨some 44, .fld 0 1 false, [.t 43], none⟩,
 ⟨some 45, .load 1 false, [.t 44], none⟩,
 ⟨some 46, .bin .add, [.t 45, .c (.s [124])], none⟩,
 ⟨some 47, .mv, [.t 1], none⟩,
 ⟨some 48, .idxa 2, [.t 47, .c (.i 1)], none⟩,
 ⟨some 49, .load 2 true, [.t 48], none⟩,
 ⟨some 50, .call n_impl_bracketedFrom 25600, [.c (.i 3), .t 49], none⟩,
 ⟨some 51, .bin .add, [.t 46, .t 50], none⟩,
 ⟨some 52, .fld 0 1 false, [.t 5], none⟩,
 ⟨none, .store 1, [.t 52, .t 51], none⟩] [1, 42, 43, 44, 45, 46, 47, 48, 49, 50, 51, 52])
 .skip))))))))))
 (.seq
 (.region false [⟨some 53, .load 2 true, [.t 5], none⟩,
 ⟨none, .store 2, [.t 4, .t 53], none⟩] [1, 5, 53])
 .ret)))) }
/-- impl.hasState -/
def F_impl_hasState : LF :=
 { nparams := 2, results := [.t 4], body :=
 (.seq
 (.region false [⟨some 4, .mv, [.c (.b false)], none⟩] [4])
 (.seq
 (.region false [⟨some 5, .mv, [.t 0], none⟩,
 ⟨some 6, .mv, [.t 1], none⟩,
 ⟨some 7, .bin .shr, [.t 5, .t 6], none⟩,
 ⟨some 8, .bin .and, [.t 7, .c (.w (1#32))], none⟩,
 ⟨some 9, .bin .eql, [.t 8, .c (.w (1#32))], none⟩,
 ⟨some 4, .mv, [.t 9], none⟩] [0, 1, 5, 6, 7, 8, 9])
 .ret)) }
/-- impl.foldTerm[uint32] -/
def F_impl_foldTerm_uint32_L0 : LC :=
 (.seq
 (.region false [⟨some 13, .bin .lss, [.t 12, .t 11], none⟩] [])
 (.seq
 (.cond (.t 13) [13]
 .skip
 (.exit 0))
 (.seq
 (.block 1
 (.seq
 (.region false [⟨some 14, .idxa 2, [.t 10, .t 12], none⟩,
 ⟨some 15, .load 2 true, [.t 14], none⟩,
 ⟨some 7, .alloc 3600 (.st [.i 0, .i 0]), [], none⟩,
 ⟨none, .store 2, [.t 7, .t 15], none⟩] [14, 15])
 (.seq
 (.region false [⟨some 16, .mv, [.t 5], none⟩,
 ⟨some 17, .len, [.t 16], none⟩,
 ⟨some 18, .fld 0 1 false, [.t 7], none⟩,
 ⟨some 19, .load 1 false, [.t 18], none⟩,
 ⟨some 20, .call n_impl_partsTaken 10240, [.t 19], none⟩,
 ⟨some 21, .bin .sub, [.t 17, .t 20], none⟩,
 ⟨some 8, .mv, [.t 21], none⟩] [16, 17, 18, 19, 20, 21])
 (.seq
 (.region true [⟨some 22, .mv, [.t 1], none⟩,
 ⟨some 23, .load 2 true, [.t 7], none⟩,
 ⟨some 24, .mv, [.t 5], none⟩,
 ⟨some 25, .mv, [.t 8], none⟩,
 ⟨some 26, .slice true false 1, [.t 24, .t 25], none⟩,
 ⟨some 27, .calld 13824, [.t 22, .t 23, .t 26], none⟩,
 ⟨some 9, .mv, [.t 27], none⟩] [7, 22, 23, 24, 25, 26, 27])
 (.region false [⟨some 28, .mv, [.t 5], none⟩,
 ⟨some 29, .mv, [.t 8], none⟩,
 ⟨some 30, .slice false true 1, [.t 28, .t 29], none⟩,
 ⟨some 31, .mv, [.t 9], none⟩,
 ⟨some 32, .bslice 16392 1 1 (.w (0#32)) [0], [.t 31], none⟩,
 ⟨some 33, .app 16904 1, [.t 30, .t 32], none⟩,
 ⟨some 5, .mv, [.t 33], none⟩] [8, 9, 28, 29, 30, 31, 32, 33])))))
 (.region false [⟨some 34, .bin .add, [.t 12, .c (.i 1)], none⟩,
 ⟨some 12, .mv, [.t 34], none⟩] [34]))))
def F_impl_foldTerm_uint32_W0 : LC := .loop F_impl_foldTerm_uint32_L0
def F_impl_foldTerm_uint32 : LF :=
 { nparams := 2, results := [.t 4], body :=
 (.seq
 (.region false [⟨some 4, .mv, [.c (.w (0#32))], none⟩] [4])
 (.seq
 (.region false [⟨some 5, .newnil 2568, [], none⟩] [])
 (.seq
 (.seq
 (.region false [⟨some 10, .mv, [.t 0], none⟩,
 ⟨some 11, .len, [.t 10], none⟩,
 ⟨some 12, .mv, [.c (.i 0)], none⟩] [0])
 (.block 0
 F_impl_foldTerm_uint32_W0))
 (.seq
 (.region false [⟨some 35, .mv, [.t 5], none⟩,
 ⟨some 36, .idxa 1, [.t 35, .c (.i 0)], none⟩,
 ⟨some 37, .load 1 false, [.t 36], none⟩,
 ⟨some 4, .mv, [.t 37], none⟩] [1, 5, 10, 11, 12, 35, 36, 37])
 .ret)))) }
/-- impl.statesOfPart -/
def F_impl_statesOfPart : LF :=
 { gl := [2], nparams := 2, results := [.t 4], body :=
 (.seq
 (.region false [⟨some 2, .box 1040, [.t 0], none⟩,
 ⟨some 4, .mv, [.c (.w (0#32))], none⟩] [0, 4])
 (.seq
 (.seq
 (.region false [⟨some 5, .fld 0 1 false, [.t 2], none⟩,
 ⟨some 6, .load 1 false, [.t 5], none⟩] [5])
 (.block 0
 (.seq
 (.region false [⟨some 8, .bin .eql, [.t 6, .c (.i 0)], none⟩,
 ⟨some 7, .mv, [.t 8], none⟩] [8])
 (.cond (.t 7) [7]
 (.seq
 (.region false [⟨some 9, .fld 1 1 false, [.t 2], none⟩,
 ⟨some 10, .load 1 false, [.t 9], none⟩,
 ⟨some 11, .idxp 5 1, [.t 1048578, .t 10], none⟩,
 ⟨some 12, .load 1 false, [.t 11], none⟩,
 ⟨some 4, .mv, [.t 12], none⟩] [1, 2, 6, 9, 10, 11, 12])
 .ret)
 (.seq
 (.region false [⟨some 14, .bin .eql, [.t 6, .c (.i 1)], none⟩,
 ⟨some 13, .mv, [.t 14], none⟩] [2, 14])
 (.cond (.t 13) [13]
 (.seq
 (.region false [⟨some 15, .mv, [.t 1], none⟩,
 ⟨some 16, .idxa 1, [.t 15, .c (.i 0)], none⟩,
 ⟨some 17, .load 1 false, [.t 16], none⟩,
 ⟨some 18, .un .xor, [.t 17], none⟩,
 ⟨some 4, .mv, [.t 18], none⟩] [1, 6, 15, 16, 17, 18])
 .ret)
 (.seq
 (.region false [⟨some 20, .bin .eql, [.t 6, .c (.i 2)], none⟩,
 ⟨some 19, .mv, [.t 20], none⟩] [6, 20])
 (.cond (.t 19) [19]
 (.seq
 (.region true [⟨some 21, .mv, [.t 1], none⟩,
 ⟨some 22, .idxa 1, [.t 21, .c (.i 0)], none⟩,
 ⟨some 23, .load 1 false, [.t 22], none⟩,
 ⟨some 24, .mv, [.t 1], none⟩,
 ⟨some 25, .idxa 1, [.t 24, .c (.i 1)], none⟩,
 ⟨some 26, .load 1 false, [.t 25], none⟩,
 ⟨some 27, .bin .and, [.t 23, .t 26], none⟩,
 ⟨some 4, .mv, [.t 27], none⟩] [1, 21, 22, 23, 24, 25, 26, 27])
 .ret)
 .skip))))))))
 (.seq
 (.region true [⟨some 28, .mv, [.t 1], none⟩,
 ⟨some 29, .idxa 1, [.t 28, .c (.i 0)], none⟩,
 ⟨some 30, .load 1 false, [.t 29], none⟩,
 ⟨some 31, .mv, [.t 1], none⟩,
 ⟨some 32, .idxa 1, [.t 31, .c (.i 1)], none⟩,
 ⟨some 33, .load 1 false, [.t 32], none⟩,
 ⟨some 34, .bin .or, [.t 30, .t 33], none⟩,
 ⟨some 4, .mv, [.t 34], none⟩] [1, 28, 29, 30, 31, 32, 33, 34])
 .ret))) }
/-- impl.outcomeIn -/
def F_impl_outcomeIn : LF :=
 { nparams := 2, results := [.t 4], body :=
 (.seq
 (.region false [⟨some 4, .mv, [.c (.i 0)], none⟩] [4])
 (.seq
 (.region false [⟨some 5, .mv, [.t 0], none⟩,
 ⟨some 6, .mv, [.t 1], none⟩,
 ⟨some 7, .bin .shr, [.t 5, .t 6], none⟩,
 ⟨some 8, .bin .and, [.t 7, .c (.i 1)], none⟩,
 ⟨some 4, .mv, [.t 8], none⟩] [0, 1, 5, 6, 7, 8])
 .ret)) }
/-- impl.valueAmong -/
def F_impl_valueAmong : LF :=
 { nparams := 2, results := [.t 4], body :=
 (.seq
 (.region false [⟨some 4, .mv, [.c (.i 0)], none⟩] [4])
 (.seq
 (.seq
 (.region false [⟨some 5, .mv, [.t 0], none⟩,
 ⟨some 6, .mv, [.t 1], none⟩,
 ⟨some 7, .bin .and, [.t 5, .t 6], none⟩] [0, 5, 6])
 (.block 0
 (.seq
 (.region false [⟨some 9, .mv, [.t 1], none⟩,
 ⟨some 10, .bin .eql, [.t 7, .t 9], none⟩,
 ⟨some 8, .mv, [.t 10], none⟩] [1, 9, 10])
 (.cond (.t 8) [8]
 (.seq
 (.region false [⟨some 4, .mv, [.c (.i 1)], none⟩] [7])
 .ret)
 (.seq
 (.region false [⟨some 12, .bin .eql, [.t 7, .c (.w (0#32))], none⟩,
 ⟨some 11, .mv, [.t 12], none⟩] [7, 12])
 (.cond (.t 11) [11]
 (.seq
 (.region false [⟨some 4, .mv, [.c (.i 0)], none⟩] [])
 .ret)
 .skip))))))
 (.seq
 (.region false [⟨some 4, .mv, [.c (.i (-1))], none⟩] [])
 .ret))) }
/-- bits.OnesCount64 -/
def F_math_bits_OnesCount64 : LF :=
 { nparams := 1, results := [.t 2], body :=
 (.seq
 (.region false [⟨some 2, .mv, [.c (.i 0)], none⟩] [2])
 (.seq
 (.region false [⟨some 3, .mv, [.t 0], none⟩,
 ⟨some 4, .bin .shr, [.t 3, .c (.q 1)], none⟩,
 ⟨some 5, .bin .and, [.t 4, .c (.q 6148914691236517205)], none⟩,
 ⟨some 6, .mv, [.t 0], none⟩,
 ⟨some 7, .bin .and, [.t 6, .c (.q 6148914691236517205)], none⟩,
 ⟨some 8, .bin .add, [.t 5, .t 7], none⟩,
 ⟨some 0, .mv, [.t 8], none⟩] [3, 4, 5, 6, 7, 8])
 (.seq
 (.region false [⟨some 9, .mv, [.t 0], none⟩,
 ⟨some 10, .bin .shr, [.t 9, .c (.q 2)], none⟩,
 ⟨some 11, .bin .and, [.t 10, .c (.q 3689348814741910323)], none⟩,
 ⟨some 12, .mv, [.t 0], none⟩,
 ⟨some 13, .bin .and, [.t 12, .c (.q 3689348814741910323)], none⟩,
 ⟨some 14, .bin .add, [.t 11, .t 13], none⟩,
 ⟨some 0, .mv, [.t 14], none⟩] [9, 10, 11, 12, 13, 14])
 (.seq
 (.region false [⟨some 15, .mv, [.t 0], none⟩,
 ⟨some 16, .bin .shr, [.t 15, .c (.q 4)], none⟩,
 ⟨some 17, .mv, [.t 0], none⟩,
 ⟨some 18, .bin .add, [.t 16, .t 17], none⟩,
 ⟨some 19, .bin .and, [.t 18, .c (.q 1085102592571150095)], none⟩,
 ⟨some 0, .mv, [.t 19], none⟩] [15, 16, 17, 18, 19])
 (.seq
 (.region false [⟨some 20, .mv, [.t 0], none⟩,
 ⟨some 21, .mv, [.t 0], none⟩,
 ⟨some 22, .bin .shr, [.t 21, .c (.q 8)], none⟩,
 ⟨some 23, .bin .add, [.t 20, .t 22], none⟩,
 ⟨some 0, .mv, [.t 23], none⟩] [20, 21, 22, 23])
 (.seq
 (.region false [⟨some 24, .mv, [.t 0], none⟩,
 ⟨some 25, .mv, [.t 0], none⟩,
 ⟨some 26, .bin .shr, [.t 25, .c (.q 16)], none⟩,
 ⟨some 27, .bin .add, [.t 24, .t 26], none⟩,
 ⟨some 0, .mv, [.t 27], none⟩] [24, 25, 26, 27])
 (.seq
 (.region false [⟨some 28, .mv, [.t 0], none⟩,
 ⟨some 29, .mv, [.t 0], none⟩,
 ⟨some 30, .bin .shr, [.t 29, .c (.q 32)], none⟩,
 ⟨some 31, .bin .add, [.t 28, .t 30], none⟩,
 ⟨some 0, .mv, [.t 31], none⟩] [28, 29, 30, 31])
 (.seq
 (.region false [⟨some 32, .mv, [.t 0], none⟩,
 ⟨some 33, .conv .q2i 16896, [.t 32], none⟩,
 ⟨some 34, .bin .and, [.t 33, .c (.i 127)], none⟩,
 ⟨some 2, .mv, [.t 34], none⟩] [0, 32, 33, 34])
 .ret)))))))) }
/-- impl.statesSaying -/
def F_impl_statesSaying : LF :=
 { gl := [2], nparams := 2, results := [.t 4], body :=
 (.seq
 (.region false [⟨some 4, .mv, [.c (.w (0#32))], none⟩] [4])
 (.seq
 (.seq
 (.region false [⟨some 5, .mv, [.t 1], none⟩,
 ⟨some 6, .bin .eql, [.t 5, .c (.i 1)], none⟩] [1, 5])
 (.cond (.t 6) [6]
 (.seq
 (.region false [⟨some 7, .mv, [.t 0], none⟩,
 ⟨some 8, .idxp 5 1, [.t 1048578, .t 7], none⟩,
 ⟨some 9, .load 1 false, [.t 8], none⟩,
 ⟨some 4, .mv, [.t 9], none⟩] [0, 7, 8, 9])
 .ret)
 .skip))
 (.seq
 (.region false [⟨some 10, .mv, [.t 0], none⟩,
 ⟨some 11, .idxp 5 1, [.t 1048578, .t 10], none⟩,
 ⟨some 12, .load 1 false, [.t 11], none⟩,
 ⟨some 13, .un .xor, [.t 12], none⟩,
 ⟨some 4, .mv, [.t 13], none⟩] [0, 10, 11, 12, 13])
 .ret))) }
/-- impl.readNot -/
def F_impl_readNot : LF :=
 { nparams := 1, results := [.t 2, .t 3], body :=
 (.seq
 (.region false [⟨some 2, .newnil 1040, [], none⟩,
 ⟨some 3, .mv, [.c (.s [])], none⟩] [2, 3])
 (.seq
 (.seq
 (.region false [⟨some 8, .mv, [.t 0], none⟩,
 ⟨some 9, .bin .eql, [.t 8, .c (.s [])], none⟩] [8])
 (.cond (.t 9) [9]
 (.seq
 (.region false [⟨some 2, .newnil 1040, [], none⟩,
 ⟨some 3, .mv, [.c (.s [])], none⟩] [0])
 .ret)
 .skip))
 (.seq
 (.seq
 (.region false [⟨some 10, .mv, [.t 0], none⟩,
 ⟨some 11, .idx, [.t 10, .c (.i 0)], none⟩] [10])
 (.block 0
 (.seq
 (.region false [⟨some 13, .bin .eql, [.t 11, .c (.y 33)], none⟩,
 ⟨some 12, .mv, [.t 13], none⟩] [13])
 (.cond (.t 12) [12]
 (.seq
 (.region false [⟨some 15, .mv, [.t 0], none⟩,
 ⟨some 16, .slices true false, [.t 15, .c (.i 1)], none⟩,
 ⟨some 17, .call n_impl_readNot 8704, [.t 16], none⟩,
 ⟨some 14, .mv, [.t 17], none⟩,
 ⟨some 18, .ext 0, [.t 14], none⟩,
 ⟨some 19, .ext 1, [.t 14], none⟩,
 ⟨some 4, .mv, [.t 18], none⟩,
 ⟨some 5, .mv, [.t 19], none⟩] [0, 11, 14, 15, 16, 17, 18, 19])
 (.seq
 (.seq
 (.region false [⟨some 20, .mv, [.t 4], none⟩,
 ⟨some 21, .len, [.t 20], none⟩,
 ⟨some 22, .bin .eql, [.t 21, .c (.i 0)], none⟩] [20, 21])
 (.cond (.t 22) [22]
 (.seq
 (.region false [⟨some 2, .newnil 1040, [], none⟩,
 ⟨some 3, .mv, [.c (.s [])], none⟩] [4, 5])
 .ret)
 .skip))
 (.seq
 (.region false [⟨some 23, .mv, [.t 4], none⟩,
 ⟨some 24, .build [.i 0, .i 0] [(0, 1)], [.c (.i 1)], none⟩,
 ⟨some 25, .bslice 12816 1 2 (.st [.i 0, .i 0]) [0], [.t 24], none⟩,
 ⟨some 26, .app 13328 2, [.t 23, .t 25], none⟩,
 ⟨some 27, .mv, [.t 5], none⟩,
 ⟨some 2, .mv, [.t 26], none⟩,
 ⟨some 3, .mv, [.t 27], none⟩] [4, 5, 23, 24, 25, 26, 27])
 .ret)))
 (.seq
 (.region false [⟨some 29, .bin .eql, [.t 11, .c (.y 40)], none⟩,
 ⟨some 28, .mv, [.t 29], none⟩] [11, 29])
 (.cond (.t 28) [28]
 (.seq
 (.region false [⟨some 31, .mv, [.t 0], none⟩,
 ⟨some 32, .slices true false, [.t 31, .c (.i 1)], none⟩,
 ⟨some 33, .call n_impl_readOr 16896, [.t 32], none⟩,
 ⟨some 30, .mv, [.t 33], none⟩,
 ⟨some 34, .ext 0, [.t 30], none⟩,
 ⟨some 35, .ext 1, [.t 30], none⟩,
 ⟨some 6, .mv, [.t 34], none⟩,
 ⟨some 7, .mv, [.t 35], none⟩] [0, 30, 31, 32, 33, 34, 35])
 (.seq
 (.seq
 (.region false [⟨some 36, .mv, [.t 7], none⟩,
 ⟨some 37, .bin .eql, [.t 36, .c (.s [])], none⟩,
 ⟨some 38, .mv, [.t 37], none⟩,
 ⟨some 39, .mv, [.t 7], some (38, false)⟩,
 ⟨some 40, .idx, [.t 39, .c (.i 0)], some (38, false)⟩,
 ⟨some 41, .bin .neq, [.t 40, .c (.y 41)], some (38, false)⟩,
 ⟨some 42, .pick, [.t 38, .c (.b true), .t 41], none⟩] [36, 37, 38, 39, 40, 41])
 (.cond (.t 42) [42]
 (.seq
 (.region false [⟨some 2, .newnil 1040, [], none⟩,
 ⟨some 3, .mv, [.c (.s [])], none⟩] [6, 7])
 .ret)
 .skip))
 (.seq
 (.region true [⟨some 43, .mv, [.t 6], none⟩,
 ⟨some 44, .mv, [.t 7], none⟩,
 ⟨some 45, .slices true false, [.t 44, .c (.i 1)], none⟩,
 ⟨some 2, .mv, [.t 43], none⟩,
 ⟨some 3, .mv, [.t 45], none⟩] [6, 7, 43, 44, 45])
 .ret)))
 .skip))))))
 (.seq
 (.region false [⟨some 46, .mv, [.t 0], none⟩,
 ⟨some 47, .call n_impl_readLetter 24064, [.t 46], none⟩,
 ⟨some 48, .ext 0, [.t 47], none⟩,
 ⟨some 49, .ext 1, [.t 47], none⟩,
 ⟨some 2, .mv, [.t 48], none⟩,
 ⟨some 3, .mv, [.t 49], none⟩] [0, 46, 47, 48, 49])
 .ret)))) }
/-- impl.bracketedFrom -/
def F_impl_bracketedFrom : LF :=
 { nparams := 2, results := [.t 4], body :=
 (.seq
 (.region false [⟨some 3, .box 1552, [.t 1], none⟩,
 ⟨some 4, .mv, [.c (.s [])], none⟩] [1, 4])
 (.seq
 (.seq
 (.region false [⟨some 5, .fld 1 1 false, [.t 3], none⟩,
 ⟨some 6, .load 1 false, [.t 5], none⟩,
 ⟨some 7, .mv, [.t 0], none⟩,
 ⟨some 8, .bin .geq, [.t 6, .t 7], none⟩] [0, 5, 6, 7])
 (.cond (.t 8) [8]
 (.seq
 (.region false [⟨some 9, .fld 0 1 false, [.t 3], none⟩,
 ⟨some 10, .load 1 false, [.t 9], none⟩,
 ⟨some 11, .bin .add, [.c (.s [40]), .t 10], none⟩,
 ⟨some 12, .bin .add, [.t 11, .c (.s [41])], none⟩,
 ⟨some 4, .mv, [.t 12], none⟩] [3, 9, 10, 11, 12])
 .ret)
 .skip))
 (.seq
 (.region false [⟨some 13, .fld 0 1 false, [.t 3], none⟩,
 ⟨some 14, .load 1 false, [.t 13], none⟩,
 ⟨some 4, .mv, [.t 14], none⟩] [3, 13, 14])
 .ret))) }
/-- impl.readLetter -/
def F_impl_readLetter : LF :=
 { nparams := 1, results := [.t 2, .t 3], body :=
 (.seq
 (.region false [⟨some 2, .newnil 1040, [], none⟩,
 ⟨some 3, .mv, [.c (.s [])], none⟩] [2, 3])
 (.seq
 (.region false [⟨some 5, .mv, [.t 0], none⟩,
 ⟨some 6, .idx, [.t 5, .c (.i 0)], none⟩,
 ⟨some 7, .conv .b2i 3584, [.t 6], none⟩,
 ⟨some 8, .bin .sub, [.t 7, .c (.i 97)], none⟩,
 ⟨some 4, .mv, [.t 8], none⟩] [5, 6, 7, 8])
 (.seq
 (.seq
 (.region false [⟨some 9, .mv, [.t 4], none⟩,
 ⟨some 10, .call n_impl_isWithin 5120, [.t 9, .c (.i 0), .c (.i 4)], none⟩,
 ⟨some 11, .un .not, [.t 10], none⟩] [9, 10])
 (.cond (.t 11) [11]
 (.seq
 (.region false [⟨some 2, .newnil 1040, [], none⟩,
 ⟨some 3, .mv, [.c (.s [])], none⟩] [0, 4])
 .ret)
 .skip))
 (.seq
 (.region true [⟨some 12, .mv, [.t 4], none⟩,
 ⟨some 13, .build [.i 0, .i 0] [(1, 1)], [.t 12], none⟩,
 ⟨some 14, .bslice 7184 1 2 (.st [.i 0, .i 0]) [0], [.t 13], none⟩,
 ⟨some 15, .mv, [.t 0], none⟩,
 ⟨some 16, .slices true false, [.t 15, .c (.i 1)], none⟩,
 ⟨some 2, .mv, [.t 14], none⟩,
 ⟨some 3, .mv, [.t 16], none⟩] [0, 4, 12, 13, 14, 15, 16])
 .ret)))) }
def lf : Nat → Option LF
 | 5 => some F_laws_FnCountBest
 | 6 => some F_laws_FnTwoOfThree
 | 15 => some F_laws_alive
 | 16 => some F_impl_OtherTests
 | 22 => some F_impl_CountBest
 | 23 => some F_spec_DrawCountBest
 | 24 => some F_spec_CountBest
 | 25 => some F_impl_BestAverage
 | 26 => some F_impl_RowTerm
 | 27 => some F_laws_power
 | 28 => some F_impl_CostOf
 | 29 => some F_spec_TestsOk
 | 30 => some F_impl_ReadTerm
 | 31 => some F_impl_TrueWeight
 | 32 => some F_impl_CountWeight
 | 47 => some F_spec_l20Open
 | 48 => some F_spec_l20Tests
 | 49 => some F_spec_l20Rd_pick
 | 50 => some F_spec_l8Heads
 | 51 => some F_impl_TestsOk
 | 52 => some F_impl_StateOk
 | 53 => some F_impl_isWithin
 | 54 => some F_impl_sizeOf
 | 58 => some F_spec_l1In
 | 60 => some F_spec_l20Count
 | 61 => some F_impl_CountOk
 | 62 => some F_impl_leastToCount
 | 63 => some F_impl_allOf
 | 65 => some F_spec_CountOk
 | 67 => some F_spec_l1Power
 | 69 => some F_impl_rowOk
 | 70 => some F_impl_wholeOf
 | 76 => some F_impl_CountBest_1
 | 77 => some F_spec_l8Best
 | 78 => some F_impl_TermOk
 | 79 => some F_impl_leastFrom
 | 80 => some F_impl_startOf
 | 81 => some F_impl_averagesOf
 | 82 => some F_impl_manyOk
 | 83 => some F_impl_readOr
 | 84 => some F_impl_TermText
 | 85 => some F_impl_weightOfStates
 | 86 => some F_impl_trueStates
 | 87 => some F_impl_statesOf
 | 88 => some F_impl_WeightOf
 | 107 => some F_spec_l20Rd_odd
 | 108 => some F_math_bits_OnesCount
 | 109 => some F_impl_hasTest
 | 113 => some F_impl_averageAsking
 | 115 => some F_impl_partsTaken
 | 116 => some F_impl_markOk
 | 117 => some F_impl_point_isForced
 | 118 => some F_impl_point_canAsk
 | 119 => some F_impl_point_answered
 | 120 => some F_impl_averagesOf_1
 | 121 => some F_impl_point_howManyAsked
 | 122 => some F_impl_readRow
 | 123 => some F_impl_readAnd
 | 124 => some F_impl_foldTerm_impl_writtenPart
 | 125 => some F_impl_writePart
 | 126 => some F_impl_hasState
 | 127 => some F_impl_foldTerm_uint32
 | 128 => some F_impl_statesOfPart
 | 129 => some F_impl_outcomeIn
 | 137 => some F_impl_valueAmong
 | 150 => some F_math_bits_OnesCount64
 | 154 => some F_impl_statesSaying
 | 155 => some F_impl_readNot
 | 156 => some F_impl_bracketedFrom
 | 166 => some F_impl_readLetter
 | _ => none
theorem w_impl_OtherTests_0 (S : LS) : ex lf F_impl_OtherTests_W0 S = match ex lf F_impl_OtherTests_L0 S with | some (.normal, S1) => ex lf F_impl_OtherTests_W0 S1 | r => r := ex_loop lf F_impl_OtherTests_L0 S
theorem w_impl_RowTerm_0 (S : LS) : ex lf F_impl_RowTerm_W0 S = match ex lf F_impl_RowTerm_L0 S with | some (.normal, S1) => ex lf F_impl_RowTerm_W0 S1 | r => r := ex_loop lf F_impl_RowTerm_L0 S
theorem w_laws_power_0 (S : LS) : ex lf F_laws_power_W0 S = match ex lf F_laws_power_L0 S with | some (.normal, S1) => ex lf F_laws_power_W0 S1 | r => r := ex_loop lf F_laws_power_L0 S
theorem w_impl_CostOf_0 (S : LS) : ex lf F_impl_CostOf_W0 S = match ex lf F_impl_CostOf_L0 S with | some (.normal, S1) => ex lf F_impl_CostOf_W0 S1 | r => r := ex_loop lf F_impl_CostOf_L0 S
theorem w_spec_TestsOk_0 (S : LS) : ex lf F_spec_TestsOk_W0 S = match ex lf F_spec_TestsOk_L0 S with | some (.normal, S1) => ex lf F_spec_TestsOk_W0 S1 | r => r := ex_loop lf F_spec_TestsOk_L0 S
theorem w_impl_CountWeight_0 (S : LS) : ex lf F_impl_CountWeight_W0 S = match ex lf F_impl_CountWeight_L0 S with | some (.normal, S1) => ex lf F_impl_CountWeight_W0 S1 | r => r := ex_loop lf F_impl_CountWeight_L0 S
theorem w_spec_l20Tests_0 (S : LS) : ex lf F_spec_l20Tests_W0 S = match ex lf F_spec_l20Tests_L0 S with | some (.normal, S1) => ex lf F_spec_l20Tests_W0 S1 | r => r := ex_loop lf F_spec_l20Tests_L0 S
theorem w_spec_l8Heads_0 (S : LS) : ex lf F_spec_l8Heads_W0 S = match ex lf F_spec_l8Heads_L0 S with | some (.normal, S1) => ex lf F_spec_l8Heads_W0 S1 | r => r := ex_loop lf F_spec_l8Heads_L0 S
theorem w_impl_TestsOk_0 (S : LS) : ex lf F_impl_TestsOk_W0 S = match ex lf F_impl_TestsOk_L0 S with | some (.normal, S1) => ex lf F_impl_TestsOk_W0 S1 | r => r := ex_loop lf F_impl_TestsOk_L0 S
theorem w_impl_leastToCount_0 (S : LS) : ex lf F_impl_leastToCount_W0 S = match ex lf F_impl_leastToCount_L0 S with | some (.normal, S1) => ex lf F_impl_leastToCount_W0 S1 | r => r := ex_loop lf F_impl_leastToCount_L0 S
theorem w_spec_l1Power_0 (S : LS) : ex lf F_spec_l1Power_W0 S = match ex lf F_spec_l1Power_L0 S with | some (.normal, S1) => ex lf F_spec_l1Power_W0 S1 | r => r := ex_loop lf F_spec_l1Power_L0 S
theorem w_impl_wholeOf_0 (S : LS) : ex lf F_impl_wholeOf_W0 S = match ex lf F_impl_wholeOf_L0 S with | some (.normal, S1) => ex lf F_impl_wholeOf_W0 S1 | r => r := ex_loop lf F_impl_wholeOf_L0 S
theorem w_spec_l8Best_0 (S : LS) : ex lf F_spec_l8Best_W0 S = match ex lf F_spec_l8Best_L0 S with | some (.normal, S1) => ex lf F_spec_l8Best_W0 S1 | r => r := ex_loop lf F_spec_l8Best_L0 S
theorem w_impl_TermOk_0 (S : LS) : ex lf F_impl_TermOk_W0 S = match ex lf F_impl_TermOk_L0 S with | some (.normal, S1) => ex lf F_impl_TermOk_W0 S1 | r => r := ex_loop lf F_impl_TermOk_L0 S
theorem w_impl_leastFrom_0 (S : LS) : ex lf F_impl_leastFrom_W0 S = match ex lf F_impl_leastFrom_L0 S with | some (.normal, S1) => ex lf F_impl_leastFrom_W0 S1 | r => r := ex_loop lf F_impl_leastFrom_L0 S
theorem w_impl_weightOfStates_0 (S : LS) : ex lf F_impl_weightOfStates_W0 S = match ex lf F_impl_weightOfStates_L0 S with | some (.normal, S1) => ex lf F_impl_weightOfStates_W0 S1 | r => r := ex_loop lf F_impl_weightOfStates_L0 S
theorem w_impl_WeightOf_0 (S : LS) : ex lf F_impl_WeightOf_W0 S = match ex lf F_impl_WeightOf_L0 S with | some (.normal, S1) => ex lf F_impl_WeightOf_W0 S1 | r => r := ex_loop lf F_impl_WeightOf_L0 S
theorem w_impl_readRow_0 (S : LS) : ex lf F_impl_readRow_W0 S = match ex lf F_impl_readRow_L0 S with | some (.normal, S1) => ex lf F_impl_readRow_W0 S1 | r => r := ex_loop lf F_impl_readRow_L0 S
theorem w_impl_foldTerm_impl_writtenPart_0 (S : LS) : ex lf F_impl_foldTerm_impl_writtenPart_W0 S = match ex lf F_impl_foldTerm_impl_writtenPart_L0 S with | some (.normal, S1) => ex lf F_impl_foldTerm_impl_writtenPart_W0 S1 | r => r := ex_loop lf F_impl_foldTerm_impl_writtenPart_L0 S
theorem w_impl_foldTerm_uint32_0 (S : LS) : ex lf F_impl_foldTerm_uint32_W0 S = match ex lf F_impl_foldTerm_uint32_L0 S with | some (.normal, S1) => ex lf F_impl_foldTerm_uint32_W0 S1 | r => r := ex_loop lf F_impl_foldTerm_uint32_L0 S
end Zz
