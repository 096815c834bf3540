/- The functions of the program, read as data. No conditions. -/
import Derived.Test.YtahkmbihhkjebabDoorLgEzo
set_option linter.unusedSectionVars false
set_option linter.unusedVariables false
set_option linter.unusedSimpArgs false
namespace Zz
open Go.Lg
instance : GL := ⟨[(2, .st [.w (2863311530#32), .w (3435973836#32), .w (4042322160#32), .w (4278255360#32), .w (4294901760#32)])], [142], ["l4_orders.go:82"], [], [(75, [0]), (95, [3]), (114, [0, 2]), (132, [0]), (158, [0, 2]), (160, [0])], [(28, 114, 6)], ["l20_draw.go:447"]⟩
theorem gEnv_2 : gEnv [2] = [(1048578, .adr (.st [.w (2863311530#32), .w (3435973836#32), .w (4042322160#32), .w (4278255360#32), .w (4294901760#32)]))] := rfl
def n_laws_FnBestAverage : Nat := 8
def n_laws_FnDearer : Nat := 11
def n_laws_alive : Nat := 15
def n_impl_OtherTests : Nat := 16
def n_impl_RowAverage : Nat := 20
def n_impl_RatioOrder : Nat := 21
def n_impl_BestAverage : Nat := 25
def n_impl_RowTerm : Nat := 26
def n_laws_power : Nat := 27
def n_spec_TestsOk : Nat := 29
def n_spec_DrawBestAverage : Nat := 41
def n_spec_BestAverage : Nat := 42
def n_impl_BestOrder : Nat := 43
def n_impl_DualTerm : Nat := 44
def n_spec_l20Open : Nat := 47
def n_spec_l20Tests : Nat := 48
def n_spec_l20Rd_pick : Nat := 49
def n_impl_TestsOk : Nat := 51
def n_impl_StateOk : Nat := 52
def n_impl_isWithin : Nat := 53
def n_impl_sizeOf : Nat := 54
def n_spec_l1In : Nat := 58
def n_spec_l1Power : Nat := 67
def n_impl_OrderOk : Nat := 68
def n_impl_rowOk : Nat := 69
def n_impl_wholeOf : Nat := 70
def n_impl_endChance : Nat := 71
def n_impl_RatioOrder_1 : Nat := 72
def n_impl_ratioOf : Nat := 73
def n_impl_ratio_isLess : Nat := 74
def n_impl_inserted_int : Nat := 75
def n_impl_TermOk : Nat := 78
def n_impl_leastFrom : Nat := 79
def n_impl_startOf : Nat := 80
def n_impl_averagesOf : Nat := 81
def n_impl_manyOk : Nat := 82
def n_impl_weightOfStates : Nat := 85
def n_impl_trueStates : Nat := 86
def n_impl_statesOf : Nat := 87
def n_impl_WeightOf : Nat := 88
def n_spec_l20Case : Nat := 99
def n_spec_TermOk : Nat := 100
def n_spec_l6Best : Nat := 101
def n_spec_l3Table : Nat := 102
def n_spec_l4None : Nat := 103
def n_impl_bestBehind : Nat := 104
def n_impl_openWeights : Nat := 105
def n_spec_l20Rd_odd : Nat := 107
def n_math_bits_OnesCount : Nat := 108
def n_impl_hasTest : Nat := 109
def n_impl_averageAsking : Nat := 113
def n_slices_Insert_int_int : Nat := 114
def n_impl_partsTaken : Nat := 115
def n_impl_markOk : Nat := 116
def n_impl_point_isForced : Nat := 117
def n_impl_point_canAsk : Nat := 118
def n_impl_point_answered : Nat := 119
def n_impl_averagesOf_1 : Nat := 120
def n_impl_point_howManyAsked : Nat := 121
def n_impl_hasState : Nat := 126
def n_impl_foldTerm_uint32 : Nat := 127
def n_impl_statesOfPart : Nat := 128
def n_impl_outcomeIn : Nat := 129
def n_impl_valueAmong : Nat := 137
def n_spec_l20Term : Nat := 145
def n_spec_l3Forced : Nat := 146
def n_spec_l3Value : Nat := 147
def n_impl_openStates : Nat := 148
def n_math_bits_OnesCount32 : Nat := 149
def n_math_bits_OnesCount64 : Nat := 150
def n_slices_rotateRight_int : Nat := 153
def n_impl_statesSaying : Nat := 154
def n_spec_l1Agrees : Nat := 162
def n_spec_l2Starts : Nat := 163
def n_impl_turnedStates : Nat := 164
def n_slices_rotateLeft_int : Nat := 165
def n_slices_Reverse_int_int : Nat := 170
/-- laws.FnBestAverage -/
def F_laws_FnBestAverage_L0 : LC :=
 (.seq
 (.seq
 (.region false [⟨some 38, .mv, [.t 8], none⟩,
 ⟨some 39, .bin .leq, [.t 38, .c (.i 1)], none⟩] [38])
 (.cond (.t 39) [39]
 .skip
 (.exit 0)))
 (.seq
 (.block 1
 (.seq
 (.region false [⟨some 42, .mv, [.t 3], none⟩,
 ⟨some 43, .mv, [.t 3], none⟩,
 ⟨some 44, .len, [.t 43], none⟩,
 ⟨some 45, .mv, [.t 8], none⟩,
 ⟨some 46, .call n_impl_RowTerm 23552, [.t 44, .t 45], none⟩,
 ⟨some 47, .call n_impl_BestAverage 24064, [.t 42, .t 46], none⟩,
 ⟨some 48, .mv, [.t 3], none⟩,
 ⟨some 49, .mv, [.t 3], none⟩,
 ⟨some 50, .mv, [.t 8], none⟩,
 ⟨some 51, .call n_impl_RatioOrder 26112, [.t 49, .t 50], none⟩,
 ⟨some 52, .mv, [.t 8], none⟩,
 ⟨some 53, .call n_impl_RowAverage 27136, [.t 48, .t 51, .t 52], none⟩,
 ⟨some 54, .bin .neq, [.t 47, .t 53], none⟩] [42, 43, 44, 45, 46, 47, 48, 49, 50, 51, 52, 53])
 (.cond (.t 54) [54]
 (.seq
 (.region false [⟨some 2, .mv, [.c (.b false)], none⟩] [3, 4, 5, 7, 8])
 .ret)
 .skip)))
 (.region false [⟨some 40, .mv, [.t 8], none⟩,
 ⟨some 41, .bin .add, [.t 40, .c (.i 1)], none⟩,
 ⟨some 8, .mv, [.t 41], none⟩] [40, 41])))
def F_laws_FnBestAverage_W0 : LC := .loop F_laws_FnBestAverage_L0
def F_laws_FnBestAverage : LF :=
 { nparams := 1, results := [.t 2], body :=
 (.seq
 (.region false [⟨some 2, .mv, [.c (.b false)], none⟩] [2])
 (.seq
 (.seq
 (.region false [⟨some 9, .mv, [.t 0], none⟩,
 ⟨some 10, .len, [.t 9], none⟩,
 ⟨some 11, .bin .gtr, [.t 10, .c (.i 1048576)], none⟩] [9, 10])
 (.cond (.t 11) [11]
 (.seq
 (.region false [⟨some 2, .mv, [.c (.b true)], none⟩] [0])
 .ret)
 .skip))
 (.seq
 (.region false [⟨some 13, .mv, [.t 0], none⟩,
 ⟨some 14, .call n_spec_DrawBestAverage 7168, [.t 13], none⟩,
 ⟨some 12, .mv, [.t 14], none⟩,
 ⟨some 15, .ext 0, [.t 12], none⟩,
 ⟨some 16, .ext 1, [.t 12], none⟩,
 ⟨some 3, .mv, [.t 15], none⟩,
 ⟨some 4, .mv, [.t 16], none⟩] [0, 12, 13, 14, 15, 16])
 (.seq
 (.region false [⟨some 17, .mv, [.t 3], none⟩,
 ⟨some 18, .mv, [.t 4], none⟩,
 ⟨some 19, .call n_impl_BestAverage 9728, [.t 17, .t 18], none⟩,
 ⟨some 5, .mv, [.t 19], none⟩] [17, 18, 19])
 (.seq
 (.seq
 (.region false [⟨some 20, .mv, [.t 5], none⟩,
 ⟨some 21, .mv, [.t 3], none⟩,
 ⟨some 22, .mv, [.t 4], none⟩,
 ⟨some 23, .call n_spec_BestAverage 11776, [.t 21, .t 22], none⟩,
 ⟨some 24, .bin .neq, [.t 20, .t 23], none⟩] [20, 21, 22, 23])
 (.cond (.t 24) [24]
 (.seq
 (.region false [⟨some 2, .mv, [.c (.b false)], none⟩] [3, 4, 5])
 .ret)
 .skip))
 (.seq
 (.seq
 (.region false [⟨some 25, .mv, [.t 5], none⟩,
 ⟨some 26, .bin .lss, [.t 25, .c (.i 0)], none⟩] [25])
 (.cond (.t 26) [26]
 (.seq
 (.region false [⟨some 27, .mv, [.t 5], none⟩,
 ⟨some 28, .bin .eql, [.t 27, .c (.i (-1))], none⟩,
 ⟨some 29, .mv, [.t 28], none⟩,
 ⟨some 30, .call n_laws_alive 15360, [], some (29, true)⟩,
 ⟨some 31, .pick, [.t 29, .t 30, .c (.b false)], none⟩,
 ⟨some 2, .mv, [.t 31], none⟩] [3, 4, 5, 27, 28, 29, 30, 31])
 .ret)
 .skip))
 (.seq
 (.region false [⟨some 33, .mv, [.t 3], none⟩,
 ⟨some 34, .mv, [.t 4], none⟩,
 ⟨some 35, .call n_impl_BestOrder 17920, [.t 33, .t 34], none⟩,
 ⟨some 32, .mv, [.t 35], none⟩,
 ⟨some 36, .ext 0, [.t 32], none⟩,
 ⟨some 37, .ext 1, [.t 32], none⟩,
 ⟨some 6, .mv, [.t 36], none⟩,
 ⟨some 7, .mv, [.t 37], none⟩] [6, 32, 33, 34, 35, 36, 37])
 (.seq
 (.seq
 (.region false [⟨some 8, .mv, [.c (.i 0)], none⟩] [])
 (.block 0
 F_laws_FnBestAverage_W0))
 (.seq
 (.region false [⟨some 55, .mv, [.t 5], none⟩,
 ⟨some 56, .mv, [.t 7], none⟩,
 ⟨some 57, .bin .leq, [.t 55, .t 56], none⟩,
 ⟨some 58, .mv, [.t 57], none⟩,
 ⟨some 59, .mv, [.t 3], some (58, true)⟩,
 ⟨some 60, .call n_impl_OtherTests 30720, [.t 59], some (58, true)⟩,
 ⟨some 61, .mv, [.t 3], some (58, true)⟩,
 ⟨some 62, .len, [.t 61], some (58, true)⟩,
 ⟨some 63, .mv, [.t 4], some (58, true)⟩,
 ⟨some 64, .call n_impl_DualTerm 32768, [.t 62, .t 63], some (58, true)⟩,
 ⟨some 65, .call n_impl_BestAverage 33280, [.t 60, .t 64], some (58, true)⟩,
 ⟨some 66, .mv, [.t 5], some (58, true)⟩,
 ⟨some 67, .bin .eql, [.t 65, .t 66], some (58, true)⟩,
 ⟨some 68, .pick, [.t 58, .t 67, .c (.b false)], none⟩,
 ⟨some 2, .mv, [.t 68], none⟩] [3, 4, 5, 7, 8, 55, 56, 57, 58, 59, 60, 61, 62, 63, 64, 65, 66, 67, 68])
 .ret))))))))) }
/-- laws.FnDearer -/
def F_laws_FnDearer : LF :=
 { nparams := 1, results := [.t 2], body :=
 (.seq
 (.region false [⟨some 2, .mv, [.c (.b false)], none⟩] [2])
 (.seq
 (.seq
 (.region false [⟨some 10, .mv, [.t 0], none⟩,
 ⟨some 11, .len, [.t 10], none⟩,
 ⟨some 12, .bin .gtr, [.t 11, .c (.i 1048576)], none⟩] [10, 11])
 (.cond (.t 12) [12]
 (.seq
 (.region false [⟨some 2, .mv, [.c (.b true)], none⟩] [0])
 .ret)
 .skip))
 (.seq
 (.region false [⟨some 14, .mv, [.t 0], none⟩,
 ⟨some 15, .call n_spec_DrawBestAverage 7680, [.t 14], none⟩,
 ⟨some 13, .mv, [.t 15], none⟩,
 ⟨some 16, .ext 0, [.t 13], none⟩,
 ⟨some 17, .ext 1, [.t 13], none⟩,
 ⟨some 3, .mv, [.t 16], none⟩,
 ⟨some 4, .mv, [.t 17], none⟩] [0, 13, 14, 15, 16, 17])
 (.seq
 (.region false [⟨some 18, .mv, [.t 3], none⟩,
 ⟨some 19, .mv, [.t 4], none⟩,
 ⟨some 20, .call n_impl_BestAverage 10240, [.t 18, .t 19], none⟩,
 ⟨some 5, .mv, [.t 20], none⟩] [18, 19, 20])
 (.seq
 (.seq
 (.region false [⟨some 21, .mv, [.t 5], none⟩,
 ⟨some 22, .bin .lss, [.t 21, .c (.i 0)], none⟩] [21])
 (.cond (.t 22) [22]
 (.seq
 (.region false [⟨some 23, .call n_laws_alive 11776, [], none⟩,
 ⟨some 2, .mv, [.t 23], none⟩] [3, 4, 5, 23])
 .ret)
 .skip))
 (.seq
 (.region false [⟨some 24, .bslice 12304 0 2 (.st [.i 0, .i 0]) [], [], none⟩,
 ⟨some 25, .mv, [.t 3], none⟩,
 ⟨some 26, .app 13328 2, [.t 24, .t 25], none⟩,
 ⟨some 6, .mv, [.t 26], none⟩] [24, 25, 26])
 (.seq
 (.region true [⟨some 27, .mv, [.t 6], none⟩,
 ⟨some 28, .mv, [.t 3], none⟩,
 ⟨some 29, .idxa 2, [.t 28, .c (.i 0)], none⟩,
 ⟨some 30, .fld 0 1 false, [.t 29], none⟩,
 ⟨some 31, .load 1 false, [.t 30], none⟩,
 ⟨some 32, .bin .add, [.t 31, .c (.i 1)], none⟩,
 ⟨some 33, .mv, [.t 3], none⟩,
 ⟨some 34, .idxa 2, [.t 33, .c (.i 0)], none⟩,
 ⟨some 35, .fld 1 1 false, [.t 34], none⟩,
 ⟨some 36, .load 1 false, [.t 35], none⟩,
 ⟨some 37, .build [.i 0, .i 0] [(0, 1), (1, 1)], [.t 32, .t 36], none⟩,
 ⟨some 38, .idxa 2, [.t 27, .c (.i 0)], none⟩,
 ⟨none, .store 2, [.t 38, .t 37], none⟩] [27, 28, 29, 30, 31, 32, 33, 34, 35, 36, 37, 38])
 (.seq
 (.region false [⟨some 39, .bslice 19984 0 2 (.st [.i 0, .i 0]) [], [], none⟩,
 ⟨some 40, .mv, [.t 3], none⟩,
 ⟨some 41, .app 21008 2, [.t 39, .t 40], none⟩,
 ⟨some 7, .mv, [.t 41], none⟩] [39, 40, 41])
 (.seq
 (.region true [⟨some 42, .mv, [.t 7], none⟩,
 ⟨some 43, .mv, [.t 3], none⟩,
 ⟨some 44, .idxa 2, [.t 43, .c (.i 0)], none⟩,
 ⟨some 45, .fld 0 1 false, [.t 44], none⟩,
 ⟨some 46, .load 1 false, [.t 45], none⟩,
 ⟨some 47, .bin .add, [.t 46, .c (.i 2)], none⟩,
 ⟨some 48, .mv, [.t 3], none⟩,
 ⟨some 49, .idxa 2, [.t 48, .c (.i 0)], none⟩,
 ⟨some 50, .fld 1 1 false, [.t 49], none⟩,
 ⟨some 51, .load 1 false, [.t 50], none⟩,
 ⟨some 52, .build [.i 0, .i 0] [(0, 1), (1, 1)], [.t 47, .t 51], none⟩,
 ⟨some 53, .idxa 2, [.t 42, .c (.i 0)], none⟩,
 ⟨none, .store 2, [.t 53, .t 52], none⟩] [42, 43, 44, 45, 46, 47, 48, 49, 50, 51, 52, 53])
 (.seq
 (.region false [⟨some 54, .mv, [.t 6], none⟩,
 ⟨some 55, .mv, [.t 4], none⟩,
 ⟨some 56, .call n_impl_BestAverage 28672, [.t 54, .t 55], none⟩,
 ⟨some 8, .mv, [.t 56], none⟩] [6, 54, 55, 56])
 (.seq
 (.region false [⟨some 57, .mv, [.t 7], none⟩,
 ⟨some 58, .mv, [.t 4], none⟩,
 ⟨some 59, .call n_impl_BestAverage 30208, [.t 57, .t 58], none⟩,
 ⟨some 9, .mv, [.t 59], none⟩] [4, 7, 57, 58, 59])
 (.seq
 (.region false [⟨some 60, .call n_laws_alive 30720, [], none⟩,
 ⟨some 61, .mv, [.t 60], none⟩,
 ⟨some 62, .mv, [.t 8], some (61, true)⟩,
 ⟨some 63, .bin .lss, [.t 62, .c (.i 0)], some (61, true)⟩,
 ⟨some 64, .mv, [.t 63], some (61, true)⟩,
 ⟨some 65, .mv, [.t 8], some (64, false)⟩,
 ⟨some 66, .mv, [.t 5], some (64, false)⟩,
 ⟨some 67, .bin .geq, [.t 65, .t 66], some (64, false)⟩,
 ⟨some 68, .mv, [.t 67], some (64, false)⟩,
 ⟨some 69, .mv, [.t 8], some (68, true)⟩,
 ⟨some 70, .mv, [.t 5], some (68, true)⟩,
 ⟨some 71, .mv, [.t 3], some (68, true)⟩,
 ⟨some 72, .len, [.t 71], some (68, true)⟩,
 ⟨some 73, .call n_laws_power 37376, [.t 72], some (68, true)⟩,
 ⟨some 74, .bin .add, [.t 70, .t 73], some (68, true)⟩,
 ⟨some 75, .bin .leq, [.t 69, .t 74], some (68, true)⟩,
 ⟨some 76, .pick, [.t 68, .t 75, .c (.b false)], some (64, false)⟩,
 ⟨some 77, .pick, [.t 64, .c (.b true), .t 76], some (61, true)⟩,
 ⟨some 78, .mv, [.t 77], some (61, true)⟩,
 ⟨some 79, .mv, [.t 8], some (78, true)⟩,
 ⟨some 80, .bin .lss, [.t 79, .c (.i 0)], some (78, true)⟩,
 ⟨some 81, .mv, [.t 80], some (78, true)⟩,
 ⟨some 82, .mv, [.t 9], some (81, false)⟩,
 ⟨some 83, .bin .lss, [.t 82, .c (.i 0)], some (81, false)⟩,
 ⟨some 84, .pick, [.t 81, .c (.b true), .t 83], some (78, true)⟩,
 ⟨some 85, .mv, [.t 84], some (78, true)⟩,
 ⟨some 86, .mv, [.t 9], some (85, false)⟩,
 ⟨some 87, .mv, [.t 8], some (85, false)⟩,
 ⟨some 88, .bin .sub, [.t 86, .t 87], some (85, false)⟩,
 ⟨some 89, .mv, [.t 8], some (85, false)⟩,
 ⟨some 90, .mv, [.t 5], some (85, false)⟩,
 ⟨some 91, .bin .sub, [.t 89, .t 90], some (85, false)⟩,
 ⟨some 92, .bin .leq, [.t 88, .t 91], some (85, false)⟩,
 ⟨some 93, .pick, [.t 85, .c (.b true), .t 92], some (78, true)⟩,
 ⟨some 94, .pick, [.t 78, .t 93, .c (.b false)], some (61, true)⟩,
 ⟨some 95, .pick, [.t 61, .t 94, .c (.b false)], none⟩,
 ⟨some 2, .mv, [.t 95], none⟩] [3, 5, 8, 9, 60, 61, 62, 63, 64, 65, 66, 67, 68, 69, 70, 71, 72, 73, 74, 75, 76, 77, 78, 79, 80, 81, 82, 83, 84, 85, 86, 87, 88, 89, 90, 91, 92, 93, 94, 95])
 .ret)))))))))))) }
/-- laws.alive -/
def F_laws_alive : LF :=
 { nparams := 0, results := [.t 0], body :=
 (.seq
 (.region false [⟨some 0, .mv, [.c (.b false)], none⟩] [0])
 (.seq
 (.region false [⟨some 1, .build [.i 0, .i 0] [(0, 1), (1, 1)], [.c (.i 1), .c (.i 1)], none⟩,
 ⟨some 2, .bslice 1040 1 2 (.st [.i 0, .i 0]) [0], [.t 1], none⟩,
 ⟨some 3, .call n_impl_TestsOk 1536, [.t 2], none⟩,
 ⟨some 4, .mv, [.t 3], none⟩,
 ⟨some 5, .build [.i 0, .i 0] [], [], some (4, true)⟩,
 ⟨some 6, .bslice 3088 1 2 (.st [.i 0, .i 0]) [0], [.t 5], some (4, true)⟩,
 ⟨some 7, .call n_impl_TestsOk 3584, [.t 6], some (4, true)⟩,
 ⟨some 8, .un .not, [.t 7], some (4, true)⟩,
 ⟨some 9, .pick, [.t 4, .t 8, .c (.b false)], none⟩,
 ⟨some 0, .mv, [.t 9], none⟩] [1, 2, 3, 4, 5, 6, 7, 8, 9])
 .ret)) }
/-- impl.OtherTests -/
def F_impl_OtherTests_L0 : LC :=
 (.seq
 (.region false [⟨some 15, .bin .lss, [.t 14, .t 13], none⟩] [])
 (.seq
 (.cond (.t 15) [15]
 .skip
 (.exit 0))
 (.seq
 (.block 1
 (.seq
 (.region false [⟨some 16, .mv, [.t 14], none⟩,
 ⟨some 17, .idxa 2, [.t 12, .t 14], none⟩,
 ⟨some 18, .load 2 true, [.t 17], none⟩,
 ⟨some 5, .alloc 2576 (.st [.i 0, .i 0]), [], none⟩,
 ⟨some 4, .mv, [.t 16], none⟩,
 ⟨none, .store 2, [.t 5, .t 18], none⟩] [16, 17, 18])
 (.region false [⟨some 19, .mv, [.t 3], none⟩,
 ⟨some 20, .mv, [.t 4], none⟩,
 ⟨some 21, .fld 0 1 false, [.t 5], none⟩,
 ⟨some 22, .load 1 false, [.t 21], none⟩,
 ⟨some 23, .fld 1 1 false, [.t 5], none⟩,
 ⟨some 24, .load 1 false, [.t 23], none⟩,
 ⟨some 25, .bin .sub, [.c (.i 6), .t 24], none⟩,
 ⟨some 26, .build [.i 0, .i 0] [(0, 1), (1, 1)], [.t 22, .t 25], none⟩,
 ⟨some 27, .idxa 2, [.t 19, .t 20], none⟩,
 ⟨none, .store 2, [.t 27, .t 26], none⟩] [4, 5, 19, 20, 21, 22, 23, 24, 25, 26, 27])))
 (.region false [⟨some 28, .bin .add, [.t 14, .c (.i 1)], none⟩,
 ⟨some 14, .mv, [.t 28], none⟩] [28]))))
def F_impl_OtherTests_W0 : LC := .loop F_impl_OtherTests_L0
def F_impl_OtherTests : LF :=
 { nparams := 1, results := [.t 2], body :=
 (.seq
 (.region false [⟨some 2, .newnil 1040, [], none⟩] [2])
 (.seq
 (.seq
 (.region false [⟨some 6, .mv, [.t 0], none⟩,
 ⟨some 7, .call n_impl_TestsOk 3584, [.t 6], none⟩,
 ⟨some 8, .un .not, [.t 7], none⟩] [6, 7])
 (.cond (.t 8) [8]
 (.seq
 (.region false [⟨some 2, .newnil 1040, [], none⟩] [0])
 .ret)
 .skip))
 (.seq
 (.region false [⟨some 9, .mv, [.t 0], none⟩,
 ⟨some 10, .len, [.t 9], none⟩,
 ⟨some 11, .make 5648 2 (.st [.i 0, .i 0]), [.t 10, .t 10], none⟩,
 ⟨some 3, .mv, [.t 11], none⟩] [9, 10, 11])
 (.seq
 (.seq
 (.region false [⟨some 12, .mv, [.t 0], none⟩,
 ⟨some 13, .len, [.t 12], none⟩,
 ⟨some 14, .mv, [.c (.i 0)], none⟩] [0])
 (.block 0
 F_impl_OtherTests_W0))
 (.seq
 (.region false [⟨some 29, .mv, [.t 3], none⟩,
 ⟨some 2, .mv, [.t 29], none⟩] [3, 12, 13, 14, 29])
 .ret))))) }
/-- impl.RowAverage -/
def F_impl_RowAverage_L0 : LC :=
 (.seq
 (.region false [⟨some 33, .bin .lss, [.t 32, .t 31], none⟩] [])
 (.seq
 (.cond (.t 33) [33]
 .skip
 (.exit 0))
 (.seq
 (.block 1
 (.seq
 (.region false [⟨some 34, .idxa 1, [.t 30, .t 32], none⟩,
 ⟨some 35, .load 1 false, [.t 34], none⟩,
 ⟨some 11, .mv, [.t 35], none⟩] [34, 35])
 (.seq
 (.region false [⟨some 36, .mv, [.t 8], none⟩,
 ⟨some 37, .mv, [.t 0], none⟩,
 ⟨some 38, .mv, [.t 11], none⟩,
 ⟨some 39, .idxa 2, [.t 37, .t 38], none⟩,
 ⟨some 40, .fld 0 1 false, [.t 39], none⟩,
 ⟨some 41, .load 1 false, [.t 40], none⟩,
 ⟨some 42, .mv, [.t 9], none⟩,
 ⟨some 43, .bin .mul, [.t 41, .t 42], none⟩,
 ⟨some 44, .bin .add, [.t 36, .t 43], none⟩,
 ⟨some 8, .mv, [.t 44], none⟩] [36, 37, 38, 39, 40, 41, 42, 43, 44])
 (.region false [⟨some 45, .mv, [.t 9], none⟩,
 ⟨some 46, .bin .quo, [.t 45, .c (.i 6)], none⟩,
 ⟨some 47, .mv, [.t 0], none⟩,
 ⟨some 48, .mv, [.t 11], none⟩,
 ⟨some 49, .idxa 2, [.t 47, .t 48], none⟩,
 ⟨some 50, .load 2 true, [.t 49], none⟩,
 ⟨some 51, .mv, [.t 2], none⟩,
 ⟨some 52, .call n_impl_endChance 26624, [.t 50, .t 51], none⟩,
 ⟨some 53, .bin .sub, [.c (.i 6), .t 52], none⟩,
 ⟨some 54, .bin .mul, [.t 46, .t 53], none⟩,
 ⟨some 9, .mv, [.t 54], none⟩] [11, 45, 46, 47, 48, 49, 50, 51, 52, 53, 54]))))
 (.region false [⟨some 55, .bin .add, [.t 32, .c (.i 1)], none⟩,
 ⟨some 32, .mv, [.t 55], none⟩] [55]))))
def F_impl_RowAverage_W0 : LC := .loop F_impl_RowAverage_L0
def F_impl_RowAverage : LF :=
 { nparams := 3, results := [.t 6], body :=
 (.seq
 (.region false [⟨some 6, .mv, [.c (.i 0)], none⟩] [6])
 (.seq
 (.region false [⟨some 12, .mv, [.t 0], none⟩,
 ⟨some 13, .len, [.t 12], none⟩,
 ⟨some 7, .mv, [.t 13], none⟩] [12, 13])
 (.seq
 (.seq
 (.region false [⟨some 14, .mv, [.t 0], none⟩,
 ⟨some 15, .call n_impl_TestsOk 7680, [.t 14], none⟩,
 ⟨some 16, .un .not, [.t 15], none⟩,
 ⟨some 17, .mv, [.t 16], none⟩,
 ⟨some 18, .mv, [.t 7], some (17, false)⟩,
 ⟨some 19, .mv, [.t 1], some (17, false)⟩,
 ⟨some 20, .call n_impl_OrderOk 10240, [.t 18, .t 19], some (17, false)⟩,
 ⟨some 21, .un .not, [.t 20], some (17, false)⟩,
 ⟨some 22, .pick, [.t 17, .c (.b true), .t 21], none⟩,
 ⟨some 23, .mv, [.t 22], none⟩,
 ⟨some 24, .mv, [.t 2], some (23, false)⟩,
 ⟨some 25, .call n_impl_rowOk 12800, [.t 24], some (23, false)⟩,
 ⟨some 26, .un .not, [.t 25], some (23, false)⟩,
 ⟨some 27, .pick, [.t 23, .c (.b true), .t 26], none⟩] [14, 15, 16, 17, 18, 19, 20, 21, 22, 23, 24, 25, 26])
 (.cond (.t 27) [27]
 (.seq
 (.region false [⟨some 6, .mv, [.c (.i (-1))], none⟩] [0, 1, 2, 7])
 .ret)
 .skip))
 (.seq
 (.region false [⟨some 28, .mv, [.t 7], none⟩,
 ⟨some 29, .call n_impl_wholeOf 14848, [.t 28], none⟩,
 ⟨some 8, .mv, [.c (.i 0)], none⟩,
 ⟨some 9, .mv, [.t 29], none⟩] [7, 28, 29])
 (.seq
 (.seq
 (.region false [⟨some 30, .mv, [.t 1], none⟩,
 ⟨some 31, .len, [.t 30], none⟩,
 ⟨some 32, .mv, [.c (.i 0)], none⟩] [1])
 (.block 0
 F_impl_RowAverage_W0))
 (.seq
 (.region false [⟨some 56, .mv, [.t 8], none⟩,
 ⟨some 6, .mv, [.t 56], none⟩] [0, 2, 8, 9, 30, 31, 32, 56])
 .ret)))))) }
/-- impl.RatioOrder -/
def F_impl_RatioOrder_L0 : LC :=
 (.ghost (.rename 6 3080)
 (.seq
 (.region false [⟨some 20, .bin .lss, [.t 19, .t 18], none⟩] [])
 (.seq
 (.cond (.t 20) [20]
 .skip
 (.exit 0))
 (.seq
 (.block 1
 (.seq
 (.region false [⟨some 21, .mv, [.t 19], none⟩,
 ⟨some 7, .mv, [.t 21], none⟩] [21])
 (.region false [⟨some 22, .mv, [.t 6], none⟩,
 ⟨some 23, .mv, [.t 7], none⟩,
 ⟨some 24, .mv, [.t 5], none⟩,
 ⟨some 25, .callm n_impl_inserted_int [0] 12800, [.t 22, .t 23, .t 24], none⟩,
 ⟨some 6, .mv, [.t 25], none⟩] [7, 22, 23, 24, 25])))
 (.region false [⟨some 26, .bin .add, [.t 19, .c (.i 1)], none⟩,
 ⟨some 19, .mv, [.t 26], none⟩] [26])))))
def F_impl_RatioOrder_W0 : LC := .loop F_impl_RatioOrder_L0
def F_impl_RatioOrder : LF :=
 { nparams := 2, results := [.t 4], body :=
 (.seq
 (.region false [⟨some 2, .box 1032, [.t 0], none⟩,
 ⟨some 3, .box 1544, [.t 1], none⟩,
 ⟨some 4, .newnil 2056, [], none⟩] [0, 1, 4])
 (.ghost (.close_ 2)
(.ghost (.close_ 3)
 (.seq
 (.seq
 (.region false [⟨some 8, .load 1 false, [.t 2], none⟩,
 ⟨some 9, .call n_impl_TestsOk 4608, [.t 8], none⟩,
 ⟨some 10, .un .not, [.t 9], none⟩,
 ⟨some 11, .mv, [.t 10], none⟩,
 ⟨some 12, .load 1 false, [.t 3], some (11, false)⟩,
 ⟨some 13, .call n_impl_rowOk 6656, [.t 12], some (11, false)⟩,
 ⟨some 14, .un .not, [.t 13], some (11, false)⟩,
 ⟨some 15, .pick, [.t 11, .c (.b true), .t 14], none⟩] [8, 9, 10, 11, 12, 13, 14])
 (.cond (.t 15) [15]
 (.seq
 (.region false [⟨some 4, .newnil 2056, [], none⟩] [2, 3])
 .ret)
 .skip))
 (.seq
 (.region false [⟨some 16, .mkfn (mkNo n_impl_RatioOrder_1 0), [.t 2, .t 3], none⟩,
 ⟨some 5, .mv, [.t 16], none⟩] [3, 16])
 (.seq
 (.region false [⟨some 6, .newnil 3080, [], none⟩] [])
 (.seq
 (.seq
 (.region false [⟨some 17, .load 1 false, [.t 2], none⟩,
 ⟨some 18, .len, [.t 17], none⟩,
 ⟨some 19, .mv, [.c (.i 0)], none⟩] [2, 17])
 (.block 0
 F_impl_RatioOrder_W0))
 (.seq
 (.region false [⟨some 27, .mv, [.t 6], none⟩,
 ⟨some 4, .mv, [.t 27], none⟩] [5, 6, 18, 19, 27])
 .ret)))))))) }
/-- impl.BestAverage -/
def F_impl_BestAverage : LF :=
 { nparams := 2, results := [.t 4], body :=
 (.seq
 (.region false [⟨some 4, .mv, [.c (.i 0)], none⟩] [4])
 (.seq
 (.region false [⟨some 8, .mv, [.t 0], none⟩,
 ⟨some 9, .len, [.t 8], none⟩,
 ⟨some 5, .mv, [.t 9], none⟩] [8, 9])
 (.seq
 (.seq
 (.region false [⟨some 10, .mv, [.t 0], none⟩,
 ⟨some 11, .call n_impl_TestsOk 5632, [.t 10], none⟩,
 ⟨some 12, .un .not, [.t 11], none⟩,
 ⟨some 13, .mv, [.t 12], none⟩,
 ⟨some 14, .mv, [.t 5], some (13, false)⟩,
 ⟨some 15, .mv, [.t 1], some (13, false)⟩,
 ⟨some 16, .call n_impl_TermOk 8192, [.t 14, .t 15], some (13, false)⟩,
 ⟨some 17, .un .not, [.t 16], some (13, false)⟩,
 ⟨some 18, .pick, [.t 13, .c (.b true), .t 17], none⟩] [10, 11, 12, 13, 14, 15, 16, 17])
 (.cond (.t 18) [18]
 (.seq
 (.region false [⟨some 4, .mv, [.c (.i (-1))], none⟩] [0, 1, 5])
 .ret)
 .skip))
 (.seq
 (.region false [⟨some 20, .mv, [.t 5], none⟩,
 ⟨some 21, .mv, [.t 1], none⟩,
 ⟨some 22, .call n_impl_startOf 11264, [.t 20, .t 21], none⟩,
 ⟨some 23, .mv, [.t 0], none⟩,
 ⟨some 24, .call n_impl_averagesOf 12288, [.t 23], none⟩,
 ⟨some 25, .call n_impl_leastFrom 12800, [.t 22, .t 24], none⟩,
 ⟨some 19, .mv, [.t 25], none⟩,
 ⟨some 26, .ext 0, [.t 19], none⟩,
 ⟨some 27, .ext 1, [.t 19], none⟩,
 ⟨some 6, .mv, [.t 26], none⟩,
 ⟨some 7, .mv, [.t 27], none⟩] [0, 1, 5, 6, 19, 20, 21, 22, 23, 24, 25, 26, 27])
 (.seq
 (.region false [⟨some 28, .mv, [.t 7], none⟩,
 ⟨some 4, .mv, [.t 28], none⟩] [7, 28])
 .ret))))) }
/-- impl.RowTerm -/
def F_impl_RowTerm_L0 : LC :=
 (.seq
 (.seq
 (.region false [⟨some 22, .mv, [.t 7], none⟩,
 ⟨some 23, .mv, [.t 0], none⟩,
 ⟨some 24, .bin .lss, [.t 22, .t 23], none⟩] [22, 23])
 (.cond (.t 24) [24]
 .skip
 (.exit 0)))
 (.seq
 (.block 1
 (.region false [⟨some 27, .mv, [.t 6], none⟩,
 ⟨some 28, .mv, [.t 7], none⟩,
 ⟨some 29, .build [.i 0, .i 0] [(0, 1), (1, 1)], [.c (.i 0), .t 28], none⟩,
 ⟨some 30, .load 2 true, [.t 5], none⟩,
 ⟨some 31, .bslice 15888 2 2 (.st [.i 0, .i 0]) [0, 1], [.t 29, .t 30], none⟩,
 ⟨some 32, .app 16400 2, [.t 27, .t 31], none⟩,
 ⟨some 6, .mv, [.t 32], none⟩] [27, 28, 29, 30, 31, 32]))
 (.region false [⟨some 25, .mv, [.t 7], none⟩,
 ⟨some 26, .bin .add, [.t 25, .c (.i 1)], none⟩,
 ⟨some 7, .mv, [.t 26], none⟩] [25, 26])))
def F_impl_RowTerm_W0 : LC := .loop F_impl_RowTerm_L0
def F_impl_RowTerm : LF :=
 { nparams := 2, results := [.t 4], body :=
 (.seq
 (.region false [⟨some 4, .newnil 2064, [], none⟩] [4])
 (.seq
 (.seq
 (.region false [⟨some 8, .mv, [.t 0], none⟩,
 ⟨some 9, .call n_impl_manyOk 4608, [.t 8], none⟩,
 ⟨some 10, .un .not, [.t 9], none⟩,
 ⟨some 11, .mv, [.t 10], none⟩,
 ⟨some 12, .mv, [.t 1], some (11, false)⟩,
 ⟨some 13, .call n_impl_rowOk 6656, [.t 12], some (11, false)⟩,
 ⟨some 14, .un .not, [.t 13], some (11, false)⟩,
 ⟨some 15, .pick, [.t 11, .c (.b true), .t 14], none⟩] [8, 9, 10, 11, 12, 13, 14])
 (.cond (.t 15) [15]
 (.seq
 (.region false [⟨some 4, .newnil 2064, [], none⟩] [0, 1])
 .ret)
 .skip))
 (.seq
 (.region false [⟨some 16, .build [.i 0, .i 0] [(0, 1)], [.c (.i 2)], none⟩,
 ⟨some 5, .alloc 2576 (.st [.i 0, .i 0]), [], none⟩,
 ⟨none, .store 2, [.t 5, .t 16], none⟩] [16])
 (.seq
 (.seq
 (.region false [⟨some 17, .mv, [.t 1], none⟩,
 ⟨some 18, .bin .eql, [.t 17, .c (.i 1)], none⟩] [1, 17])
 (.cond (.t 18) [18]
 (.region false [⟨some 19, .fld 0 1 false, [.t 5], none⟩,
 ⟨none, .store 1, [.t 19, .c (.i 3)], none⟩] [19])
 .skip))
 (.seq
 (.region false [⟨some 20, .build [.i 0, .i 0] [(0, 1), (1, 1)], [.c (.i 0), .c (.i 0)], none⟩,
 ⟨some 21, .bslice 10768 1 2 (.st [.i 0, .i 0]) [0], [.t 20], none⟩,
 ⟨some 6, .mv, [.t 21], none⟩] [20, 21])
 (.seq
 (.seq
 (.region false [⟨some 7, .mv, [.c (.i 1)], none⟩] [])
 (.block 0
 F_impl_RowTerm_W0))
 (.seq
 (.region false [⟨some 33, .mv, [.t 6], none⟩,
 ⟨some 4, .mv, [.t 33], none⟩] [0, 5, 6, 7, 33])
 .ret))))))) }
/-- laws.power -/
def F_laws_power_L0 : LC :=
 (.seq
 (.seq
 (.region false [⟨some 5, .mv, [.t 4], none⟩,
 ⟨some 6, .mv, [.t 0], none⟩,
 ⟨some 7, .bin .lss, [.t 5, .t 6], none⟩] [5, 6])
 (.cond (.t 7) [7]
 .skip
 (.exit 0)))
 (.seq
 (.block 1
 (.region false [⟨some 10, .mv, [.t 3], none⟩,
 ⟨some 11, .bin .mul, [.t 10, .c (.i 6)], none⟩,
 ⟨some 3, .mv, [.t 11], none⟩] [10, 11]))
 (.region false [⟨some 8, .mv, [.t 4], none⟩,
 ⟨some 9, .bin .add, [.t 8, .c (.i 1)], none⟩,
 ⟨some 4, .mv, [.t 9], none⟩] [8, 9])))
def F_laws_power_W0 : LC := .loop F_laws_power_L0
def F_laws_power : LF :=
 { nparams := 1, results := [.t 2], body :=
 (.seq
 (.region false [⟨some 2, .mv, [.c (.i 0)], none⟩] [2])
 (.seq
 (.region false [⟨some 3, .mv, [.c (.i 1)], none⟩] [])
 (.seq
 (.seq
 (.region false [⟨some 4, .mv, [.c (.i 0)], none⟩] [])
 (.block 0
 F_laws_power_W0))
 (.seq
 (.region false [⟨some 12, .mv, [.t 3], none⟩,
 ⟨some 2, .mv, [.t 12], none⟩] [0, 3, 4, 12])
 .ret)))) }
/-- spec.TestsOk -/
def F_spec_TestsOk_L0 : LC :=
 (.seq
 (.seq
 (.region false [⟨some 4, .mv, [.t 3], none⟩,
 ⟨some 5, .mv, [.t 0], none⟩,
 ⟨some 6, .len, [.t 5], none⟩,
 ⟨some 7, .bin .lss, [.t 4, .t 6], none⟩] [4, 5, 6])
 (.cond (.t 7) [7]
 .skip
 (.exit 0)))
 (.seq
 (.block 1
 (.seq
 (.region false [⟨some 10, .mv, [.t 0], none⟩,
 ⟨some 11, .mv, [.t 3], none⟩,
 ⟨some 12, .idxa 2, [.t 10, .t 11], none⟩,
 ⟨some 13, .fld 0 1 false, [.t 12], none⟩,
 ⟨some 14, .load 1 false, [.t 13], none⟩,
 ⟨some 15, .call n_spec_l1In 7680, [.t 14, .c (.i 1), .c (.i 9)], none⟩,
 ⟨some 16, .un .not, [.t 15], none⟩,
 ⟨some 17, .mv, [.t 16], none⟩,
 ⟨some 18, .mv, [.t 0], some (17, false)⟩,
 ⟨some 19, .mv, [.t 3], some (17, false)⟩,
 ⟨some 20, .idxa 2, [.t 18, .t 19], some (17, false)⟩,
 ⟨some 21, .fld 1 1 false, [.t 20], some (17, false)⟩,
 ⟨some 22, .load 1 false, [.t 21], some (17, false)⟩,
 ⟨some 23, .call n_spec_l1In 11776, [.t 22, .c (.i 1), .c (.i 5)], some (17, false)⟩,
 ⟨some 24, .un .not, [.t 23], some (17, false)⟩,
 ⟨some 25, .pick, [.t 17, .c (.b true), .t 24], none⟩] [10, 11, 12, 13, 14, 15, 16, 17, 18, 19, 20, 21, 22, 23, 24])
 (.cond (.t 25) [25]
 (.seq
 (.region false [⟨some 2, .mv, [.c (.b false)], none⟩] [0, 3])
 .ret)
 .skip)))
 (.region false [⟨some 8, .mv, [.t 3], none⟩,
 ⟨some 9, .bin .add, [.t 8, .c (.i 1)], none⟩,
 ⟨some 3, .mv, [.t 9], none⟩] [8, 9])))
def F_spec_TestsOk_W0 : LC := .loop F_spec_TestsOk_L0
def F_spec_TestsOk : LF :=
 { nparams := 1, results := [.t 2], body :=
 (.seq
 (.region false [⟨some 2, .mv, [.c (.b false)], none⟩] [2])
 (.seq
 (.seq
 (.region false [⟨some 3, .mv, [.c (.i 0)], none⟩] [])
 (.block 0
 F_spec_TestsOk_W0))
 (.seq
 (.region false [⟨some 26, .mv, [.t 0], none⟩,
 ⟨some 27, .len, [.t 26], none⟩,
 ⟨some 28, .call n_spec_l1In 14336, [.t 27, .c (.i 1), .c (.i 5)], none⟩,
 ⟨some 2, .mv, [.t 28], none⟩] [0, 3, 26, 27, 28])
 .ret))) }
/-- spec.DrawBestAverage -/
def F_spec_DrawBestAverage : LF :=
 { nparams := 1, results := [.t 2, .t 3], body :=
 (.seq
 (.region false [⟨some 2, .newnil 1040, [], none⟩,
 ⟨some 3, .newnil 1552, [], none⟩] [2, 3])
 (.seq
 (.region false [⟨some 4, .mv, [.t 0], none⟩,
 ⟨some 5, .call n_spec_l20Open 2560, [.t 4], none⟩,
 ⟨some 6, .call n_spec_l20Case 3072, [.t 5, .c (.i 12)], none⟩,
 ⟨some 7, .ext 0, [.t 6], none⟩,
 ⟨some 8, .ext 1, [.t 6], none⟩,
 ⟨some 2, .mv, [.t 7], none⟩,
 ⟨some 3, .mv, [.t 8], none⟩] [0, 4, 5, 6, 7, 8])
 .ret)) }
/-- spec.BestAverage -/
def F_spec_BestAverage : LF :=
 { nparams := 2, results := [.t 4], body :=
 (.seq
 (.region false [⟨some 4, .mv, [.c (.i 0)], none⟩] [4])
 (.seq
 (.seq
 (.region false [⟨some 7, .mv, [.t 0], none⟩,
 ⟨some 8, .call n_spec_TestsOk 4096, [.t 7], none⟩,
 ⟨some 9, .un .not, [.t 8], none⟩,
 ⟨some 10, .mv, [.t 9], none⟩,
 ⟨some 11, .mv, [.t 0], some (10, false)⟩,
 ⟨some 12, .len, [.t 11], some (10, false)⟩,
 ⟨some 13, .mv, [.t 1], some (10, false)⟩,
 ⟨some 14, .call n_spec_TermOk 7168, [.t 12, .t 13], some (10, false)⟩,
 ⟨some 15, .un .not, [.t 14], some (10, false)⟩,
 ⟨some 16, .pick, [.t 10, .c (.b true), .t 15], none⟩] [7, 8, 9, 10, 11, 12, 13, 14, 15])
 (.cond (.t 16) [16]
 (.seq
 (.region false [⟨some 4, .mv, [.c (.i (-1))], none⟩] [0, 1])
 .ret)
 .skip))
 (.seq
 (.region false [⟨some 18, .mv, [.t 0], none⟩,
 ⟨some 19, .mv, [.t 0], none⟩,
 ⟨some 20, .len, [.t 19], none⟩,
 ⟨some 21, .mv, [.t 1], none⟩,
 ⟨some 22, .call n_spec_l3Table 11264, [.t 20, .t 21], none⟩,
 ⟨some 23, .mv, [.t 0], none⟩,
 ⟨some 24, .len, [.t 23], none⟩,
 ⟨some 25, .call n_spec_l4None 12800, [.t 24], none⟩,
 ⟨some 26, .mv, [.t 0], none⟩,
 ⟨some 27, .len, [.t 26], none⟩,
 ⟨some 28, .call n_spec_l1Power 14336, [.t 27], none⟩,
 ⟨some 29, .call n_spec_l6Best 14848, [.t 18, .t 22, .t 25, .t 28], none⟩,
 ⟨some 17, .mv, [.t 29], none⟩,
 ⟨some 30, .ext 0, [.t 17], none⟩,
 ⟨some 31, .ext 1, [.t 17], none⟩,
 ⟨some 5, .mv, [.t 30], none⟩,
 ⟨some 6, .mv, [.t 31], none⟩] [0, 1, 6, 17, 18, 19, 20, 21, 22, 23, 24, 25, 26, 27, 28, 29, 30, 31])
 (.seq
 (.region false [⟨some 32, .mv, [.t 5], none⟩,
 ⟨some 4, .mv, [.t 32], none⟩] [5, 32])
 .ret)))) }
/-- impl.BestOrder -/
def F_impl_BestOrder : LF :=
 { nparams := 2, results := [.t 4, .t 5], body :=
 (.seq
 (.region false [⟨some 4, .newnil 2056, [], none⟩,
 ⟨some 5, .mv, [.c (.i 0)], none⟩] [4, 5])
 (.seq
 (.seq
 (.region false [⟨some 6, .mv, [.t 0], none⟩,
 ⟨some 7, .call n_impl_TestsOk 3584, [.t 6], none⟩,
 ⟨some 8, .un .not, [.t 7], none⟩,
 ⟨some 9, .mv, [.t 8], none⟩,
 ⟨some 10, .mv, [.t 0], some (9, false)⟩,
 ⟨some 11, .len, [.t 10], some (9, false)⟩,
 ⟨some 12, .mv, [.t 1], some (9, false)⟩,
 ⟨some 13, .call n_impl_TermOk 6656, [.t 11, .t 12], some (9, false)⟩,
 ⟨some 14, .un .not, [.t 13], some (9, false)⟩,
 ⟨some 15, .pick, [.t 9, .c (.b true), .t 14], none⟩] [6, 7, 8, 9, 10, 11, 12, 13, 14])
 (.cond (.t 15) [15]
 (.seq
 (.region false [⟨some 4, .newnil 2056, [], none⟩,
 ⟨some 5, .mv, [.c (.i (-1))], none⟩] [0, 1])
 .ret)
 .skip))
 (.seq
 (.region false [⟨some 16, .mv, [.t 0], none⟩,
 ⟨some 17, .mv, [.t 0], none⟩,
 ⟨some 18, .mv, [.t 1], none⟩,
 ⟨some 19, .call n_impl_trueStates 9728, [.t 18], none⟩,
 ⟨some 20, .call n_impl_openWeights 10240, [.t 17, .t 19], none⟩,
 ⟨some 21, .call n_impl_bestBehind 10752, [.t 16, .t 20, .c (.i 0)], none⟩,
 ⟨some 22, .ext 0, [.t 21], none⟩,
 ⟨some 23, .ext 1, [.t 21], none⟩,
 ⟨some 4, .mv, [.t 22], none⟩,
 ⟨some 5, .mv, [.t 23], none⟩] [0, 1, 16, 17, 18, 19, 20, 21, 22, 23])
 .ret))) }
/-- impl.DualTerm -/
def F_impl_DualTerm_L0 : LC :=
 (.seq
 (.region false [⟨some 18, .bin .lss, [.t 17, .t 16], none⟩] [])
 (.seq
 (.cond (.t 18) [18]
 .skip
 (.exit 0))
 (.seq
 (.block 1
 (.seq
 (.region false [⟨some 19, .mv, [.t 17], none⟩,
 ⟨some 20, .idxa 2, [.t 15, .t 17], none⟩,
 ⟨some 21, .load 2 true, [.t 20], none⟩,
 ⟨some 7, .alloc 3600 (.st [.i 0, .i 0]), [], none⟩,
 ⟨some 6, .mv, [.t 19], none⟩,
 ⟨none, .store 2, [.t 7, .t 21], none⟩] [19, 20, 21])
 (.seq
 (.region false [⟨some 22, .fld 0 1 false, [.t 7], none⟩,
 ⟨some 23, .load 1 false, [.t 22], none⟩] [22])
 (.block 2
 (.seq
 (.region false [⟨some 29, .bin .eql, [.t 23, .c (.i 2)], none⟩,
 ⟨some 28, .mv, [.t 29], none⟩] [29])
 (.cond (.t 28) [28]
 (.region false [⟨some 30, .mv, [.t 5], none⟩,
 ⟨some 31, .mv, [.t 6], none⟩,
 ⟨some 32, .build [.i 0, .i 0] [(0, 1)], [.c (.i 3)], none⟩,
 ⟨some 33, .idxa 2, [.t 30, .t 31], none⟩,
 ⟨none, .store 2, [.t 33, .t 32], none⟩] [6, 7, 23, 30, 31, 32, 33])
 (.seq
 (.region false [⟨some 35, .bin .eql, [.t 23, .c (.i 3)], none⟩,
 ⟨some 34, .mv, [.t 35], none⟩] [23, 35])
 (.cond (.t 34) [34]
 (.region false [⟨some 36, .mv, [.t 5], none⟩,
 ⟨some 37, .mv, [.t 6], none⟩,
 ⟨some 38, .build [.i 0, .i 0] [(0, 1)], [.c (.i 2)], none⟩,
 ⟨some 39, .idxa 2, [.t 36, .t 37], none⟩,
 ⟨none, .store 2, [.t 39, .t 38], none⟩] [6, 7, 36, 37, 38, 39])
 (.region false [⟨some 24, .mv, [.t 5], none⟩,
 ⟨some 25, .mv, [.t 6], none⟩,
 ⟨some 26, .load 2 true, [.t 7], none⟩,
 ⟨some 27, .idxa 2, [.t 24, .t 25], none⟩,
 ⟨none, .store 2, [.t 27, .t 26], none⟩] [6, 7, 24, 25, 26, 27])))))))))
 (.region false [⟨some 40, .bin .add, [.t 17, .c (.i 1)], none⟩,
 ⟨some 17, .mv, [.t 40], none⟩] [40]))))
def F_impl_DualTerm_W0 : LC := .loop F_impl_DualTerm_L0
def F_impl_DualTerm : LF :=
 { nparams := 2, results := [.t 4], body :=
 (.seq
 (.region false [⟨some 4, .newnil 2064, [], none⟩] [4])
 (.seq
 (.seq
 (.region false [⟨some 8, .mv, [.t 0], none⟩,
 ⟨some 9, .mv, [.t 1], none⟩,
 ⟨some 10, .call n_impl_TermOk 5120, [.t 8, .t 9], none⟩,
 ⟨some 11, .un .not, [.t 10], none⟩] [0, 8, 9, 10])
 (.cond (.t 11) [11]
 (.seq
 (.region false [⟨some 4, .newnil 2064, [], none⟩] [1])
 .ret)
 .skip))
 (.seq
 (.region false [⟨some 12, .mv, [.t 1], none⟩,
 ⟨some 13, .len, [.t 12], none⟩,
 ⟨some 14, .make 7184 2 (.st [.i 0, .i 0]), [.t 13, .t 13], none⟩,
 ⟨some 5, .mv, [.t 14], none⟩] [12, 13, 14])
 (.seq
 (.seq
 (.region false [⟨some 15, .mv, [.t 1], none⟩,
 ⟨some 16, .len, [.t 15], none⟩,
 ⟨some 17, .mv, [.c (.i 0)], none⟩] [1])
 (.block 0
 F_impl_DualTerm_W0))
 (.seq
 (.region false [⟨some 41, .mv, [.t 5], none⟩,
 ⟨some 4, .mv, [.t 41], none⟩] [5, 15, 16, 17, 41])
 .ret))))) }
/-- spec.l20Open -/
def F_spec_l20Open : LF :=
 { nparams := 1, results := [.t 2], body :=
 (.seq
 (.region false [⟨some 2, .mv, [.c (.np)], none⟩] [2])
 (.seq
 (.seq
 (.region false [⟨some 3, .mv, [.t 0], none⟩,
 ⟨some 4, .len, [.t 3], none⟩,
 ⟨some 5, .bin .gtr, [.t 4, .c (.i 2000)], none⟩] [3, 4])
 (.cond (.t 5) [5]
 (.region false [⟨some 6, .mv, [.t 0], none⟩,
 ⟨some 7, .slice false true 1, [.t 6, .c (.i 2000)], none⟩,
 ⟨some 0, .mv, [.t 7], none⟩] [6, 7])
 .skip))
 (.seq
 (.region false [⟨some 8, .mv, [.t 0], none⟩,
 ⟨some 9, .build [.sl 1 [], .i 0] [(0, 1)], [.t 8], none⟩,
 ⟨some 10, .box 5136, [.t 9], none⟩,
 ⟨some 2, .mv, [.t 10], none⟩] [0, 8, 9, 10])
 .ret))) }
/-- spec.l20Tests -/
def F_spec_l20Tests_L0 : LC :=
 (.seq
 (.seq
 (.region false [⟨some 11, .mv, [.t 6], none⟩,
 ⟨some 12, .bin .gtr, [.t 11, .c (.i 0)], none⟩] [11])
 (.cond (.t 12) [12]
 .skip
 (.exit 0)))
 (.seq
 (.block 1
 (.region false [⟨some 15, .mv, [.t 5], none⟩,
 ⟨some 16, .mv, [.t 0], none⟩,
 ⟨some 17, .call n_spec_l20Rd_pick 8704, [.t 16, .c (.i 9)], none⟩,
 ⟨some 18, .bin .add, [.c (.i 1), .t 17], none⟩,
 ⟨some 19, .mv, [.t 0], none⟩,
 ⟨some 20, .call n_spec_l20Rd_pick 10240, [.t 19, .c (.i 5)], none⟩,
 ⟨some 21, .bin .add, [.c (.i 1), .t 20], none⟩,
 ⟨some 22, .build [.i 0, .i 0] [(0, 1), (1, 1)], [.t 18, .t 21], none⟩,
 ⟨some 23, .bslice 11792 1 2 (.st [.i 0, .i 0]) [0], [.t 22], none⟩,
 ⟨some 24, .app 12304 2, [.t 15, .t 23], none⟩,
 ⟨some 5, .mv, [.t 24], none⟩] [15, 16, 17, 18, 19, 20, 21, 22, 23, 24]))
 (.region false [⟨some 13, .mv, [.t 6], none⟩,
 ⟨some 14, .bin .sub, [.t 13, .c (.i 1)], none⟩,
 ⟨some 6, .mv, [.t 14], none⟩] [13, 14])))
def F_spec_l20Tests_W0 : LC := .loop F_spec_l20Tests_L0
def F_spec_l20Tests : LF :=
 { nparams := 2, results := [.t 4], body :=
 (.seq
 (.region false [⟨some 4, .newnil 2064, [], none⟩] [4])
 (.seq
 (.region false [⟨some 7, .bslice 3600 0 2 (.st [.i 0, .i 0]) [], [], none⟩,
 ⟨some 5, .mv, [.t 7], none⟩] [7])
 (.seq
 (.seq
 (.region false [⟨some 8, .mv, [.t 0], none⟩,
 ⟨some 9, .call n_spec_l20Rd_pick 4608, [.t 8, .c (.i 5)], none⟩,
 ⟨some 10, .bin .add, [.c (.i 1), .t 9], none⟩,
 ⟨some 6, .mv, [.t 10], none⟩] [8, 9, 10])
 (.block 0
 F_spec_l20Tests_W0))
 (.seq
 (.seq
 (.region false [⟨some 25, .mv, [.t 0], none⟩,
 ⟨some 26, .mv, [.t 1], none⟩,
 ⟨some 27, .call n_spec_l20Rd_odd 13824, [.t 25, .t 26], none⟩] [1, 6, 25, 26])
 (.cond (.t 27) [27]
 (.seq
 (.region false [⟨some 28, .mv, [.t 0], none⟩,
 ⟨some 29, .call n_spec_l20Rd_pick 14848, [.t 28, .c (.i 3)], none⟩] [28])
 (.block 2
 (.seq
 (.region false [⟨some 39, .bin .eql, [.t 29, .c (.i 0)], none⟩,
 ⟨some 38, .mv, [.t 39], none⟩] [39])
 (.cond (.t 38) [38]
 (.seq
 (.region false [⟨some 40, .bslice 20496 0 2 (.st [.i 0, .i 0]) [], [], none⟩,
 ⟨some 4, .mv, [.t 40], none⟩] [5, 29, 40])
 .ret)
 (.seq
 (.region false [⟨some 42, .bin .eql, [.t 29, .c (.i 1)], none⟩,
 ⟨some 41, .mv, [.t 42], none⟩] [29, 42])
 (.cond (.t 41) [41]
 (.region false [⟨some 43, .mv, [.t 5], none⟩,
 ⟨some 44, .bslice 22536 2 1 (.i 0) [0, 1], [.c (.i 0), .c (.i 10)], none⟩,
 ⟨some 45, .mv, [.t 0], none⟩,
 ⟨some 46, .call n_spec_l20Rd_pick 23552, [.t 45, .c (.i 2)], none⟩,
 ⟨some 47, .idxa 1, [.t 44, .t 46], none⟩,
 ⟨some 48, .load 1 false, [.t 47], none⟩,
 ⟨some 49, .idxa 2, [.t 43, .c (.i 0)], none⟩,
 ⟨some 50, .fld 0 1 false, [.t 49], none⟩,
 ⟨none, .store 1, [.t 50, .t 48], none⟩] [43, 44, 45, 46, 47, 48, 49, 50])
 (.region false [⟨some 30, .mv, [.t 5], none⟩,
 ⟨some 31, .bslice 15880 2 1 (.i 0) [0, 1], [.c (.i 0), .c (.i 6)], none⟩,
 ⟨some 32, .mv, [.t 0], none⟩,
 ⟨some 33, .call n_spec_l20Rd_pick 16896, [.t 32, .c (.i 2)], none⟩,
 ⟨some 34, .idxa 1, [.t 31, .t 33], none⟩,
 ⟨some 35, .load 1 false, [.t 34], none⟩,
 ⟨some 36, .idxa 2, [.t 30, .c (.i 0)], none⟩,
 ⟨some 37, .fld 1 1 false, [.t 36], none⟩,
 ⟨none, .store 1, [.t 37, .t 35], none⟩] [30, 31, 32, 33, 34, 35, 36, 37])))))))
 .skip))
 (.seq
 (.region false [⟨some 51, .mv, [.t 5], none⟩,
 ⟨some 4, .mv, [.t 51], none⟩] [5, 51])
 .ret))))) }
/-- spec.l20Rd).pick -/
def F_spec_l20Rd_pick : LF :=
 { nparams := 2, results := [.t 4], body :=
 (.seq
 (.region false [⟨some 4, .mv, [.c (.i 0)], none⟩] [4])
 (.seq
 (.region false [⟨some 7, .mv, [.t 0], none⟩,
 ⟨some 8, .mv, [.t 0], none⟩,
 ⟨some 9, .chk, [.t 8], none⟩,
 ⟨some 10, .fld 1 1 false, [.t 9], none⟩,
 ⟨some 11, .load 1 false, [.t 10], none⟩,
 ⟨some 12, .bin .add, [.t 11, .c (.i 1)], none⟩,
 ⟨some 13, .chk, [.t 7], none⟩,
 ⟨some 14, .fld 1 1 false, [.t 13], none⟩,
 ⟨none, .store 1, [.t 14, .t 12], none⟩] [7, 8, 9, 10, 11, 12, 13, 14])
 (.seq
 (.seq
 (.region false [⟨some 15, .mv, [.t 1], none⟩,
 ⟨some 16, .bin .lss, [.t 15, .c (.i 1)], none⟩,
 ⟨some 17, .mv, [.t 16], none⟩,
 ⟨some 18, .mv, [.t 0], some (17, false)⟩,
 ⟨some 19, .chk, [.t 18], some (17, false)⟩,
 ⟨some 20, .fld 0 1 false, [.t 19], some (17, false)⟩,
 ⟨some 21, .load 1 false, [.t 20], some (17, false)⟩,
 ⟨some 22, .len, [.t 21], some (17, false)⟩,
 ⟨some 23, .bin .eql, [.t 22, .c (.i 0)], some (17, false)⟩,
 ⟨some 24, .pick, [.t 17, .c (.b true), .t 23], none⟩] [15, 16, 17, 18, 19, 20, 21, 22, 23])
 (.cond (.t 24) [24]
 (.seq
 (.region false [⟨some 4, .mv, [.c (.i 0)], none⟩] [1])
 .ret)
 .skip))
 (.seq
 (.region false [⟨some 25, .mv, [.t 0], none⟩,
 ⟨some 26, .chk, [.t 25], none⟩,
 ⟨some 27, .fld 1 1 false, [.t 26], none⟩,
 ⟨some 28, .load 1 false, [.t 27], none⟩,
 ⟨some 29, .bin .sub, [.t 28, .c (.i 1)], none⟩,
 ⟨some 5, .mv, [.t 29], none⟩] [25, 26, 27, 28, 29])
 (.seq
 (.seq
 (.region false [⟨some 30, .mv, [.t 5], none⟩,
 ⟨some 31, .mv, [.t 0], none⟩,
 ⟨some 32, .chk, [.t 31], none⟩,
 ⟨some 33, .fld 0 1 false, [.t 32], none⟩,
 ⟨some 34, .load 1 false, [.t 33], none⟩,
 ⟨some 35, .len, [.t 34], none⟩,
 ⟨some 36, .bin .lss, [.t 30, .t 35], none⟩] [30, 31, 32, 33, 34, 35])
 (.cond (.t 36) [36]
 (.seq
 (.region false [⟨some 37, .mv, [.t 0], none⟩,
 ⟨some 38, .chk, [.t 37], none⟩,
 ⟨some 39, .fld 0 1 false, [.t 38], none⟩,
 ⟨some 40, .load 1 false, [.t 39], none⟩,
 ⟨some 41, .mv, [.t 5], none⟩,
 ⟨some 42, .idxa 1, [.t 40, .t 41], none⟩,
 ⟨some 43, .load 1 false, [.t 42], none⟩,
 ⟨some 44, .conv .b2i 22528, [.t 43], none⟩,
 ⟨some 45, .mv, [.t 1], none⟩,
 ⟨some 46, .bin .rem, [.t 44, .t 45], none⟩,
 ⟨some 4, .mv, [.t 46], none⟩] [1, 5, 37, 38, 39, 40, 41, 42, 43, 44, 45, 46])
 .ret)
 .skip))
 (.seq
 (.region true [⟨some 47, .mv, [.t 0], none⟩,
 ⟨some 48, .chk, [.t 47], none⟩,
 ⟨some 49, .fld 0 1 false, [.t 48], none⟩,
 ⟨some 50, .load 1 false, [.t 49], none⟩,
 ⟨some 51, .mv, [.t 5], none⟩,
 ⟨some 52, .mv, [.t 0], none⟩,
 ⟨some 53, .chk, [.t 52], none⟩,
 ⟨some 54, .fld 0 1 false, [.t 53], none⟩,
 ⟨some 55, .load 1 false, [.t 54], none⟩,
 ⟨some 56, .len, [.t 55], none⟩,
 ⟨some 57, .bin .rem, [.t 51, .t 56], none⟩,
 ⟨some 58, .idxa 1, [.t 50, .t 57], none⟩,
 ⟨some 59, .load 1 false, [.t 58], none⟩,
 ⟨some 60, .conv .b2i 30720, [.t 59], none⟩,
 ⟨some 61, .bin .mul, [.t 60, .c (.i 131)], none⟩,
 ⟨some 62, .mv, [.t 0], none⟩,
 ⟨some 63, .chk, [.t 62], none⟩,
 ⟨some 64, .fld 0 1 false, [.t 63], none⟩,
 ⟨some 65, .load 1 false, [.t 64], none⟩,
 ⟨some 66, .mv, [.t 5], none⟩,
 ⟨some 67, .bin .mul, [.t 66, .c (.i 7)], none⟩,
 ⟨some 68, .bin .add, [.t 67, .c (.i 3)], none⟩,
 ⟨some 69, .mv, [.t 0], none⟩,
 ⟨some 70, .chk, [.t 69], none⟩,
 ⟨some 71, .fld 0 1 false, [.t 70], none⟩,
 ⟨some 72, .load 1 false, [.t 71], none⟩,
 ⟨some 73, .len, [.t 72], none⟩,
 ⟨some 74, .bin .rem, [.t 68, .t 73], none⟩,
 ⟨some 75, .idxa 1, [.t 65, .t 74], none⟩,
 ⟨some 76, .load 1 false, [.t 75], none⟩,
 ⟨some 77, .conv .b2i 39424, [.t 76], none⟩,
 ⟨some 78, .bin .mul, [.t 77, .c (.i 1117)], none⟩,
 ⟨some 79, .bin .add, [.t 61, .t 78], none⟩,
 ⟨some 80, .mv, [.t 5], none⟩,
 ⟨some 81, .bin .mul, [.t 80, .c (.i 29)], none⟩,
 ⟨some 82, .bin .add, [.t 79, .t 81], none⟩,
 ⟨some 83, .mv, [.t 5], none⟩,
 ⟨some 84, .mv, [.t 0], none⟩,
 ⟨some 85, .chk, [.t 84], none⟩,
 ⟨some 86, .fld 0 1 false, [.t 85], none⟩,
 ⟨some 87, .load 1 false, [.t 86], none⟩,
 ⟨some 88, .len, [.t 87], none⟩,
 ⟨some 89, .bin .quo, [.t 83, .t 88], none⟩,
 ⟨some 90, .bin .mul, [.t 89, .c (.i 53)], none⟩,
 ⟨some 91, .bin .add, [.t 82, .t 90], none⟩,
 ⟨some 6, .mv, [.t 91], none⟩] [5, 47, 48, 49, 50, 51, 52, 53, 54, 55, 56, 57, 58, 59, 60, 61, 62, 63, 64, 65, 66, 67, 68, 69, 70, 71, 72, 73, 74, 75, 76, 77, 78, 79, 80, 81, 82, 83, 84, 85, 86, 87, 88, 89, 90, 91])
 (.seq
 (.region false [⟨some 92, .mv, [.t 6], none⟩,
 ⟨some 93, .mv, [.t 6], none⟩,
 ⟨some 94, .bin .quo, [.t 93, .c (.i 64)], none⟩,
 ⟨some 95, .bin .xor, [.t 92, .t 94], none⟩,
 ⟨some 6, .mv, [.t 95], none⟩] [92, 93, 94, 95])
 (.seq
 (.region false [⟨some 96, .mv, [.t 6], none⟩,
 ⟨some 97, .mv, [.t 1], none⟩,
 ⟨some 98, .bin .rem, [.t 96, .t 97], none⟩,
 ⟨some 4, .mv, [.t 98], none⟩] [1, 6, 96, 97, 98])
 .ret)))))))) }
/-- impl.TestsOk -/
def F_impl_TestsOk_L0 : LC :=
 (.seq
 (.region false [⟨some 12, .bin .lss, [.t 11, .t 10], none⟩] [])
 (.seq
 (.cond (.t 12) [12]
 .skip
 (.exit 0))
 (.seq
 (.block 1
 (.seq
 (.region false [⟨some 13, .idxa 2, [.t 9, .t 11], none⟩,
 ⟨some 14, .load 2 true, [.t 13], none⟩,
 ⟨some 4, .alloc 2064 (.st [.i 0, .i 0]), [], none⟩,
 ⟨none, .store 2, [.t 4, .t 14], none⟩] [13, 14])
 (.seq
 (.region false [⟨some 15, .fld 0 1 false, [.t 4], none⟩,
 ⟨some 16, .load 1 false, [.t 15], none⟩,
 ⟨some 17, .call n_impl_isWithin 8704, [.t 16, .c (.i 1), .c (.i 9)], none⟩,
 ⟨some 18, .un .not, [.t 17], none⟩,
 ⟨some 19, .mv, [.t 18], none⟩,
 ⟨some 20, .fld 1 1 false, [.t 4], some (19, false)⟩,
 ⟨some 21, .load 1 false, [.t 20], some (19, false)⟩,
 ⟨some 22, .call n_impl_isWithin 11264, [.t 21, .c (.i 1), .c (.i 5)], some (19, false)⟩,
 ⟨some 23, .un .not, [.t 22], some (19, false)⟩,
 ⟨some 24, .pick, [.t 19, .c (.b true), .t 23], none⟩] [4, 15, 16, 17, 18, 19, 20, 21, 22, 23])
 (.cond (.t 24) [24]
 (.seq
 (.region false [⟨some 2, .mv, [.c (.b false)], none⟩] [9, 10, 11])
 .ret)
 .skip))))
 (.region false [⟨some 25, .bin .add, [.t 11, .c (.i 1)], none⟩,
 ⟨some 11, .mv, [.t 25], none⟩] [25]))))
def F_impl_TestsOk_W0 : LC := .loop F_impl_TestsOk_L0
def F_impl_TestsOk : LF :=
 { nparams := 1, results := [.t 2], body :=
 (.seq
 (.region false [⟨some 2, .mv, [.c (.b false)], none⟩] [2])
 (.seq
 (.seq
 (.region false [⟨some 5, .mv, [.t 0], none⟩,
 ⟨some 6, .len, [.t 5], none⟩,
 ⟨some 7, .call n_impl_manyOk 3584, [.t 6], none⟩,
 ⟨some 8, .un .not, [.t 7], none⟩] [5, 6, 7])
 (.cond (.t 8) [8]
 (.seq
 (.region false [⟨some 2, .mv, [.c (.b false)], none⟩] [0])
 .ret)
 .skip))
 (.seq
 (.seq
 (.region false [⟨some 9, .mv, [.t 0], none⟩,
 ⟨some 10, .len, [.t 9], none⟩,
 ⟨some 11, .mv, [.c (.i 0)], none⟩] [0])
 (.block 0
 F_impl_TestsOk_W0))
 (.seq
 (.region false [⟨some 2, .mv, [.c (.b true)], none⟩] [9, 10, 11])
 .ret)))) }
/-- impl.StateOk -/
def F_impl_StateOk : LF :=
 { nparams := 2, results := [.t 4], body :=
 (.seq
 (.region false [⟨some 4, .mv, [.c (.b false)], none⟩] [4])
 (.seq
 (.region false [⟨some 5, .mv, [.t 0], none⟩,
 ⟨some 6, .call n_impl_manyOk 3072, [.t 5], none⟩,
 ⟨some 7, .mv, [.t 6], none⟩,
 ⟨some 8, .mv, [.t 1], some (7, true)⟩,
 ⟨some 9, .mv, [.t 0], some (7, true)⟩,
 ⟨some 10, .call n_impl_statesOf 5120, [.t 9], some (7, true)⟩,
 ⟨some 11, .bin .sub, [.t 10, .c (.i 1)], some (7, true)⟩,
 ⟨some 12, .call n_impl_isWithin 6144, [.t 8, .c (.i 0), .t 11], some (7, true)⟩,
 ⟨some 13, .pick, [.t 7, .t 12, .c (.b false)], none⟩,
 ⟨some 4, .mv, [.t 13], none⟩] [0, 1, 5, 6, 7, 8, 9, 10, 11, 12, 13])
 .ret)) }
/-- impl.isWithin -/
def F_impl_isWithin : LF :=
 { nparams := 3, results := [.t 6], body :=
 (.seq
 (.region false [⟨some 6, .mv, [.c (.b false)], none⟩] [6])
 (.seq
 (.region false [⟨some 7, .mv, [.t 1], none⟩,
 ⟨some 8, .mv, [.t 0], none⟩,
 ⟨some 9, .bin .leq, [.t 7, .t 8], none⟩,
 ⟨some 10, .mv, [.t 9], none⟩,
 ⟨some 11, .mv, [.t 0], some (10, true)⟩,
 ⟨some 12, .mv, [.t 2], some (10, true)⟩,
 ⟨some 13, .bin .leq, [.t 11, .t 12], some (10, true)⟩,
 ⟨some 14, .pick, [.t 10, .t 13, .c (.b false)], none⟩,
 ⟨some 6, .mv, [.t 14], none⟩] [0, 1, 2, 7, 8, 9, 10, 11, 12, 13, 14])
 .ret)) }
/-- impl.sizeOf -/
def F_impl_sizeOf : LF :=
 { nparams := 1, results := [.t 2], body :=
 (.seq
 (.region false [⟨some 2, .mv, [.c (.i 0)], none⟩] [2])
 (.seq
 (.region false [⟨some 3, .mv, [.t 0], none⟩,
 ⟨some 4, .conv .i2q 2048, [.t 3], none⟩,
 ⟨some 5, .call n_math_bits_OnesCount 2560, [.t 4], none⟩,
 ⟨some 2, .mv, [.t 5], none⟩] [0, 3, 4, 5])
 .ret)) }
/-- spec.l1In -/
def F_spec_l1In : LF :=
 { nparams := 3, results := [.t 6], body :=
 (.seq
 (.region false [⟨some 6, .mv, [.c (.b false)], none⟩] [6])
 (.seq
 (.region false [⟨some 7, .mv, [.t 0], none⟩,
 ⟨some 8, .mv, [.t 1], none⟩,
 ⟨some 9, .bin .geq, [.t 7, .t 8], none⟩,
 ⟨some 10, .mv, [.t 9], none⟩,
 ⟨some 11, .mv, [.t 0], some (10, true)⟩,
 ⟨some 12, .mv, [.t 2], some (10, true)⟩,
 ⟨some 13, .bin .leq, [.t 11, .t 12], some (10, true)⟩,
 ⟨some 14, .pick, [.t 10, .t 13, .c (.b false)], none⟩,
 ⟨some 6, .mv, [.t 14], none⟩] [0, 1, 2, 7, 8, 9, 10, 11, 12, 13, 14])
 .ret)) }
/-- spec.l1Power -/
def F_spec_l1Power_L0 : LC :=
 (.seq
 (.seq
 (.region false [⟨some 5, .mv, [.t 4], none⟩,
 ⟨some 6, .mv, [.t 0], none⟩,
 ⟨some 7, .bin .lss, [.t 5, .t 6], none⟩] [5, 6])
 (.cond (.t 7) [7]
 .skip
 (.exit 0)))
 (.seq
 (.block 1
 (.region false [⟨some 10, .mv, [.t 3], none⟩,
 ⟨some 11, .bin .mul, [.t 10, .c (.i 6)], none⟩,
 ⟨some 3, .mv, [.t 11], none⟩] [10, 11]))
 (.region false [⟨some 8, .mv, [.t 4], none⟩,
 ⟨some 9, .bin .add, [.t 8, .c (.i 1)], none⟩,
 ⟨some 4, .mv, [.t 9], none⟩] [8, 9])))
def F_spec_l1Power_W0 : LC := .loop F_spec_l1Power_L0
def F_spec_l1Power : LF :=
 { nparams := 1, results := [.t 2], body :=
 (.seq
 (.region false [⟨some 2, .mv, [.c (.i 0)], none⟩] [2])
 (.seq
 (.region false [⟨some 3, .mv, [.c (.i 1)], none⟩] [])
 (.seq
 (.seq
 (.region false [⟨some 4, .mv, [.c (.i 0)], none⟩] [])
 (.block 0
 F_spec_l1Power_W0))
 (.seq
 (.region false [⟨some 12, .mv, [.t 3], none⟩,
 ⟨some 2, .mv, [.t 12], none⟩] [0, 3, 4, 12])
 .ret)))) }
/-- impl.OrderOk -/
def F_impl_OrderOk_L0 : LC :=
 (.seq
 (.region false [⟨some 20, .bin .lss, [.t 19, .t 18], none⟩] [])
 (.seq
 (.cond (.t 20) [20]
 .skip
 (.exit 0))
 (.seq
 (.block 1
 (.seq
 (.region false [⟨some 21, .idxa 1, [.t 17, .t 19], none⟩,
 ⟨some 22, .load 1 false, [.t 21], none⟩,
 ⟨some 7, .mv, [.t 22], none⟩] [21, 22])
 (.seq
 (.seq
 (.region false [⟨some 23, .mv, [.t 7], none⟩,
 ⟨some 24, .mv, [.t 0], none⟩,
 ⟨some 25, .bin .sub, [.t 24, .c (.i 1)], none⟩,
 ⟨some 26, .call n_impl_isWithin 13312, [.t 23, .c (.i 0), .t 25], none⟩,
 ⟨some 27, .un .not, [.t 26], none⟩,
 ⟨some 28, .mv, [.t 27], none⟩,
 ⟨some 29, .mv, [.t 5], some (28, false)⟩,
 ⟨some 30, .mv, [.t 7], some (28, false)⟩,
 ⟨some 31, .call n_impl_hasTest 15872, [.t 29, .t 30], some (28, false)⟩,
 ⟨some 32, .pick, [.t 28, .c (.b true), .t 31], none⟩] [23, 24, 25, 26, 27, 28, 29, 30, 31])
 (.cond (.t 32) [32]
 (.seq
 (.region false [⟨some 4, .mv, [.c (.b false)], none⟩] [0, 5, 7, 17, 18, 19])
 .ret)
 .skip))
 (.region false [⟨some 33, .mv, [.t 5], none⟩,
 ⟨some 34, .mv, [.t 7], none⟩,
 ⟨some 35, .bin .shl, [.c (.i 1), .t 34], none⟩,
 ⟨some 36, .bin .or, [.t 33, .t 35], none⟩,
 ⟨some 5, .mv, [.t 36], none⟩] [7, 33, 34, 35, 36]))))
 (.region false [⟨some 37, .bin .add, [.t 19, .c (.i 1)], none⟩,
 ⟨some 19, .mv, [.t 37], none⟩] [37]))))
def F_impl_OrderOk_W0 : LC := .loop F_impl_OrderOk_L0
def F_impl_OrderOk : LF :=
 { nparams := 2, results := [.t 4], body :=
 (.seq
 (.region false [⟨some 4, .mv, [.c (.b false)], none⟩] [4])
 (.seq
 (.seq
 (.region false [⟨some 8, .mv, [.t 0], none⟩,
 ⟨some 9, .call n_impl_manyOk 4608, [.t 8], none⟩,
 ⟨some 10, .un .not, [.t 9], none⟩,
 ⟨some 11, .mv, [.t 10], none⟩,
 ⟨some 12, .mv, [.t 1], some (11, false)⟩,
 ⟨some 13, .len, [.t 12], some (11, false)⟩,
 ⟨some 14, .mv, [.t 0], some (11, false)⟩,
 ⟨some 15, .bin .neq, [.t 13, .t 14], some (11, false)⟩,
 ⟨some 16, .pick, [.t 11, .c (.b true), .t 15], none⟩] [8, 9, 10, 11, 12, 13, 14, 15])
 (.cond (.t 16) [16]
 (.seq
 (.region false [⟨some 4, .mv, [.c (.b false)], none⟩] [0, 1])
 .ret)
 .skip))
 (.seq
 (.region false [⟨some 5, .mv, [.c (.i 0)], none⟩] [])
 (.seq
 (.seq
 (.region false [⟨some 17, .mv, [.t 1], none⟩,
 ⟨some 18, .len, [.t 17], none⟩,
 ⟨some 19, .mv, [.c (.i 0)], none⟩] [1])
 (.block 0
 F_impl_OrderOk_W0))
 (.seq
 (.region false [⟨some 4, .mv, [.c (.b true)], none⟩] [0, 5, 17, 18, 19])
 .ret))))) }
/-- impl.rowOk -/
def F_impl_rowOk : LF :=
 { nparams := 1, results := [.t 2], body :=
 (.seq
 (.region false [⟨some 2, .mv, [.c (.b false)], none⟩] [2])
 (.seq
 (.region false [⟨some 3, .mv, [.t 0], none⟩,
 ⟨some 4, .bin .eql, [.t 3, .c (.i 0)], none⟩,
 ⟨some 5, .mv, [.t 4], none⟩,
 ⟨some 6, .mv, [.t 0], some (5, false)⟩,
 ⟨some 7, .bin .eql, [.t 6, .c (.i 1)], some (5, false)⟩,
 ⟨some 8, .pick, [.t 5, .c (.b true), .t 7], none⟩,
 ⟨some 2, .mv, [.t 8], none⟩] [0, 3, 4, 5, 6, 7, 8])
 .ret)) }
/-- impl.wholeOf -/
def F_impl_wholeOf_L0 : LC :=
 (.seq
 (.region false [⟨some 6, .bin .lss, [.t 5, .t 4], none⟩] [])
 (.seq
 (.cond (.t 6) [6]
 .skip
 (.exit 0))
 (.seq
 (.block 1
 (.region false [⟨some 7, .mv, [.t 3], none⟩,
 ⟨some 8, .bin .mul, [.t 7, .c (.i 6)], none⟩,
 ⟨some 3, .mv, [.t 8], none⟩] [7, 8]))
 (.region false [⟨some 9, .bin .add, [.t 5, .c (.i 1)], none⟩,
 ⟨some 5, .mv, [.t 9], none⟩] [9]))))
def F_impl_wholeOf_W0 : LC := .loop F_impl_wholeOf_L0
def F_impl_wholeOf : LF :=
 { nparams := 1, results := [.t 2], body :=
 (.seq
 (.region false [⟨some 2, .mv, [.c (.i 0)], none⟩] [2])
 (.seq
 (.region false [⟨some 3, .mv, [.c (.i 1)], none⟩] [])
 (.seq
 (.seq
 (.region false [⟨some 4, .mv, [.t 0], none⟩,
 ⟨some 5, .mv, [.c (.i 0)], none⟩] [0])
 (.block 0
 F_impl_wholeOf_W0))
 (.seq
 (.region false [⟨some 10, .mv, [.t 3], none⟩,
 ⟨some 2, .mv, [.t 10], none⟩] [3, 4, 5, 10])
 .ret)))) }
/-- impl.endChance -/
def F_impl_endChance : LF :=
 { nparams := 2, results := [.t 4], body :=
 (.seq
 (.region false [⟨some 2, .box 1040, [.t 0], none⟩,
 ⟨some 4, .mv, [.c (.i 0)], none⟩] [0, 4])
 (.seq
 (.seq
 (.region false [⟨some 5, .mv, [.t 1], none⟩,
 ⟨some 6, .bin .eql, [.t 5, .c (.i 0)], none⟩] [1, 5])
 (.cond (.t 6) [6]
 (.seq
 (.region false [⟨some 7, .fld 1 1 false, [.t 2], none⟩,
 ⟨some 8, .load 1 false, [.t 7], none⟩,
 ⟨some 9, .bin .sub, [.c (.i 6), .t 8], none⟩,
 ⟨some 4, .mv, [.t 9], none⟩] [2, 7, 8, 9])
 .ret)
 .skip))
 (.seq
 (.region false [⟨some 10, .fld 1 1 false, [.t 2], none⟩,
 ⟨some 11, .load 1 false, [.t 10], none⟩,
 ⟨some 4, .mv, [.t 11], none⟩] [2, 10, 11])
 .ret))) }
/-- impl.RatioOrder$1 -/
def F_impl_RatioOrder_1 : LF :=
 { nparams := 4, results := [.t 6], body :=
 (.seq
 (.region false [⟨some 6, .mv, [.c (.b false)], none⟩] [6])
 (.seq
 (.region true [⟨some 7, .load 1 false, [.t 2], none⟩,
 ⟨some 8, .mv, [.t 0], none⟩,
 ⟨some 9, .idxa 2, [.t 7, .t 8], none⟩,
 ⟨some 10, .load 2 true, [.t 9], none⟩,
 ⟨some 11, .load 1 false, [.t 3], none⟩,
 ⟨some 12, .call n_impl_ratioOf 6144, [.t 10, .t 11], none⟩,
 ⟨some 13, .load 1 false, [.t 2], none⟩,
 ⟨some 14, .mv, [.t 1], none⟩,
 ⟨some 15, .idxa 2, [.t 13, .t 14], none⟩,
 ⟨some 16, .load 2 true, [.t 15], none⟩,
 ⟨some 17, .load 1 false, [.t 3], none⟩,
 ⟨some 18, .call n_impl_ratioOf 9216, [.t 16, .t 17], none⟩,
 ⟨some 19, .call n_impl_ratio_isLess 9728, [.t 12, .t 18], none⟩,
 ⟨some 6, .mv, [.t 19], none⟩] [0, 1, 2, 3, 7, 8, 9, 10, 11, 12, 13, 14, 15, 16, 17, 18, 19])
 .ret)) }
/-- impl.ratioOf -/
def F_impl_ratioOf : LF :=
 { nparams := 2, results := [.c 4 2 true], body :=
 (.seq
 (.region false [⟨some 2, .box 1040, [.t 0], none⟩,
 ⟨some 4, .alloc 2064 (.st [.i 0, .i 0]), [], none⟩] [0])
 (.seq
 (.region true [⟨some 5, .fld 0 1 false, [.t 2], none⟩,
 ⟨some 6, .load 1 false, [.t 5], none⟩,
 ⟨some 7, .load 2 true, [.t 2], none⟩,
 ⟨some 8, .mv, [.t 1], none⟩,
 ⟨some 9, .call n_impl_endChance 4608, [.t 7, .t 8], none⟩,
 ⟨some 10, .build [.i 0, .i 0] [(0, 1), (1, 1)], [.t 6, .t 9], none⟩,
 ⟨none, .store 2, [.t 4, .t 10], none⟩] [1, 2, 5, 6, 7, 8, 9, 10])
 .ret)) }
/-- impl.ratio).isLess -/
def F_impl_ratio_isLess : LF :=
 { nparams := 2, results := [.t 4], body :=
 (.seq
 (.region false [⟨some 2, .box 1040, [.t 0], none⟩,
 ⟨some 3, .box 1552, [.t 1], none⟩,
 ⟨some 4, .mv, [.c (.b false)], none⟩] [0, 1, 4])
 (.seq
 (.region false [⟨some 5, .fld 0 1 false, [.t 2], none⟩,
 ⟨some 6, .load 1 false, [.t 5], none⟩,
 ⟨some 7, .fld 1 1 false, [.t 3], none⟩,
 ⟨some 8, .load 1 false, [.t 7], none⟩,
 ⟨some 9, .bin .mul, [.t 6, .t 8], none⟩,
 ⟨some 10, .fld 0 1 false, [.t 3], none⟩,
 ⟨some 11, .load 1 false, [.t 10], none⟩,
 ⟨some 12, .fld 1 1 false, [.t 2], none⟩,
 ⟨some 13, .load 1 false, [.t 12], none⟩,
 ⟨some 14, .bin .mul, [.t 11, .t 13], none⟩,
 ⟨some 15, .bin .lss, [.t 9, .t 14], none⟩,
 ⟨some 4, .mv, [.t 15], none⟩] [2, 3, 5, 6, 7, 8, 9, 10, 11, 12, 13, 14, 15])
 .ret)) }
/-- impl.inserted[int] -/
def F_impl_inserted_int_L0 : LC :=
 (.seq
 (.seq
 (.region false [⟨some 10, .mv, [.t 7], none⟩,
 ⟨some 11, .bin .gtr, [.t 10, .c (.i 0)], none⟩,
 ⟨some 12, .mv, [.t 11], none⟩,
 ⟨some 13, .mv, [.t 2], some (12, true)⟩,
 ⟨some 14, .mv, [.t 1], some (12, true)⟩,
 ⟨some 15, .mv, [.t 0], some (12, true)⟩,
 ⟨some 16, .mv, [.t 7], some (12, true)⟩,
 ⟨some 17, .bin .sub, [.t 16, .c (.i 1)], some (12, true)⟩,
 ⟨some 18, .idxa 1, [.t 15, .t 17], some (12, true)⟩,
 ⟨some 19, .load 1 false, [.t 18], some (12, true)⟩,
 ⟨some 20, .calld 10240, [.t 13, .t 14, .t 19], some (12, true)⟩,
 ⟨some 21, .pick, [.t 12, .t 20, .c (.b false)], none⟩] [10, 11, 12, 13, 14, 15, 16, 17, 18, 19, 20])
 (.cond (.t 21) [21]
 .skip
 (.exit 0)))
 (.block 1
 (.region false [⟨some 22, .mv, [.t 7], none⟩,
 ⟨some 23, .bin .sub, [.t 22, .c (.i 1)], none⟩,
 ⟨some 7, .mv, [.t 23], none⟩] [22, 23])))
def F_impl_inserted_int_W0 : LC := .loop F_impl_inserted_int_L0
def F_impl_inserted_int : LF :=
 { nparams := 3, results := [.t 6], body :=
 (.seq
 (.region false [⟨some 6, .newnil 3080, [], none⟩] [6])
 (.seq
 (.region false [⟨some 8, .mv, [.t 0], none⟩,
 ⟨some 9, .len, [.t 8], none⟩,
 ⟨some 7, .mv, [.t 9], none⟩] [8, 9])
 (.seq
 (.block 0
 F_impl_inserted_int_W0)
 (.seq
 (.region false [⟨some 24, .mv, [.t 0], none⟩,
 ⟨some 25, .mv, [.t 7], none⟩,
 ⟨some 26, .mv, [.t 1], none⟩,
 ⟨some 27, .bslice 13832 1 1 (.i 0) [0], [.t 26], none⟩,
 ⟨some 28, .callm n_slices_Insert_int_int [0, 2] 14342, [.t 24, .t 25, .t 27], none⟩,
 ⟨some 6, .mv, [.t 28], none⟩] [0, 1, 2, 7, 24, 25, 26, 27, 28])
 .ret)))) }
/-- impl.TermOk -/
def F_impl_TermOk_L0 : LC :=
 (.seq
 (.region false [⟨some 21, .bin .lss, [.t 20, .t 19], none⟩] [])
 (.seq
 (.cond (.t 21) [21]
 .skip
 (.exit 0))
 (.seq
 (.block 1
 (.seq
 (.region false [⟨some 22, .idxa 2, [.t 18, .t 20], none⟩,
 ⟨some 23, .load 2 true, [.t 22], none⟩,
 ⟨some 7, .alloc 3600 (.st [.i 0, .i 0]), [], none⟩,
 ⟨none, .store 2, [.t 7, .t 23], none⟩] [22, 23])
 (.seq
 (.region false [⟨some 24, .fld 0 1 false, [.t 7], none⟩,
 ⟨some 25, .load 1 false, [.t 24], none⟩,
 ⟨some 26, .call n_impl_partsTaken 13312, [.t 25], none⟩,
 ⟨some 8, .mv, [.t 26], none⟩] [24, 25, 26])
 (.seq
 (.seq
 (.region false [⟨some 27, .mv, [.t 0], none⟩,
 ⟨some 28, .load 2 true, [.t 7], none⟩,
 ⟨some 29, .call n_impl_markOk 14848, [.t 27, .t 28], none⟩,
 ⟨some 30, .un .not, [.t 29], none⟩,
 ⟨some 31, .mv, [.t 30], none⟩,
 ⟨some 32, .mv, [.t 5], some (31, false)⟩,
 ⟨some 33, .mv, [.t 8], some (31, false)⟩,
 ⟨some 34, .bin .lss, [.t 32, .t 33], some (31, false)⟩,
 ⟨some 35, .pick, [.t 31, .c (.b true), .t 34], none⟩] [7, 27, 28, 29, 30, 31, 32, 33, 34])
 (.cond (.t 35) [35]
 (.seq
 (.region false [⟨some 4, .mv, [.c (.b false)], none⟩] [0, 5, 8, 18, 19, 20])
 .ret)
 .skip))
 (.region false [⟨some 36, .mv, [.t 5], none⟩,
 ⟨some 37, .mv, [.t 8], none⟩,
 ⟨some 38, .bin .sub, [.c (.i 1), .t 37], none⟩,
 ⟨some 39, .bin .add, [.t 36, .t 38], none⟩,
 ⟨some 5, .mv, [.t 39], none⟩] [8, 36, 37, 38, 39])))))
 (.region false [⟨some 40, .bin .add, [.t 20, .c (.i 1)], none⟩,
 ⟨some 20, .mv, [.t 40], none⟩] [40]))))
def F_impl_TermOk_W0 : LC := .loop F_impl_TermOk_L0
def F_impl_TermOk : LF :=
 { nparams := 2, results := [.t 4], body :=
 (.seq
 (.region false [⟨some 4, .mv, [.c (.b false)], none⟩] [4])
 (.seq
 (.seq
 (.region false [⟨some 9, .mv, [.t 0], none⟩,
 ⟨some 10, .call n_impl_manyOk 5120, [.t 9], none⟩,
 ⟨some 11, .un .not, [.t 10], none⟩,
 ⟨some 12, .mv, [.t 11], none⟩,
 ⟨some 13, .mv, [.t 1], some (12, false)⟩,
 ⟨some 14, .len, [.t 13], some (12, false)⟩,
 ⟨some 15, .call n_impl_isWithin 7680, [.t 14, .c (.i 1), .c (.i 13)], some (12, false)⟩,
 ⟨some 16, .un .not, [.t 15], some (12, false)⟩,
 ⟨some 17, .pick, [.t 12, .c (.b true), .t 16], none⟩] [9, 10, 11, 12, 13, 14, 15, 16])
 (.cond (.t 17) [17]
 (.seq
 (.region false [⟨some 4, .mv, [.c (.b false)], none⟩] [0, 1])
 .ret)
 .skip))
 (.seq
 (.region false [⟨some 5, .mv, [.c (.i 0)], none⟩] [])
 (.seq
 (.seq
 (.region false [⟨some 18, .mv, [.t 1], none⟩,
 ⟨some 19, .len, [.t 18], none⟩,
 ⟨some 20, .mv, [.c (.i 0)], none⟩] [1])
 (.block 0
 F_impl_TermOk_W0))
 (.seq
 (.region false [⟨some 41, .mv, [.t 5], none⟩,
 ⟨some 42, .bin .eql, [.t 41, .c (.i 1)], none⟩,
 ⟨some 4, .mv, [.t 42], none⟩] [0, 5, 18, 19, 20, 41, 42])
 .ret))))) }
/-- impl.leastFrom -/
def F_impl_leastFrom_L0 : LC :=
 (.seq
 (.region false [⟨some 21, .bin .lss, [.t 20, .t 19], none⟩] [])
 (.seq
 (.cond (.t 21) [21]
 .skip
 (.exit 0))
 (.seq
 (.block 1
 (.seq
 (.region false [⟨some 22, .mv, [.t 20], none⟩,
 ⟨some 8, .mv, [.t 22], none⟩] [22])
 (.seq
 (.seq
 (.region false [⟨some 23, .load 4 true, [.t 2], none⟩,
 ⟨some 24, .mv, [.t 8], none⟩,
 ⟨some 25, .call n_impl_point_canAsk 12800, [.t 23, .t 24], none⟩,
 ⟨some 26, .un .not, [.t 25], none⟩] [23, 24, 25])
 (.cond (.t 26) [26]
 (.exit 1)
 .skip))
 (.seq
 (.region false [⟨some 28, .load 4 true, [.t 2], none⟩,
 ⟨some 29, .mv, [.t 8], none⟩,
 ⟨some 30, .call n_impl_point_answered 15360, [.t 28, .t 29, .c (.i 0)], none⟩,
 ⟨some 31, .mv, [.t 1], none⟩,
 ⟨some 32, .call n_impl_leastFrom 16384, [.t 30, .t 31], none⟩,
 ⟨some 27, .mv, [.t 32], none⟩,
 ⟨some 33, .ext 0, [.t 27], none⟩,
 ⟨some 34, .ext 1, [.t 27], none⟩,
 ⟨some 9, .mv, [.t 33], none⟩,
 ⟨some 10, .mv, [.t 34], none⟩] [9, 27, 28, 29, 30, 31, 32, 33, 34])
 (.seq
 (.region false [⟨some 36, .load 4 true, [.t 2], none⟩,
 ⟨some 37, .mv, [.t 8], none⟩,
 ⟨some 38, .call n_impl_point_answered 19456, [.t 36, .t 37, .c (.i 1)], none⟩,
 ⟨some 39, .mv, [.t 1], none⟩,
 ⟨some 40, .call n_impl_leastFrom 20480, [.t 38, .t 39], none⟩,
 ⟨some 35, .mv, [.t 40], none⟩,
 ⟨some 41, .ext 0, [.t 35], none⟩,
 ⟨some 42, .ext 1, [.t 35], none⟩,
 ⟨some 11, .mv, [.t 41], none⟩,
 ⟨some 12, .mv, [.t 42], none⟩] [11, 35, 36, 37, 38, 39, 40, 41, 42])
 (.seq
 (.region false [⟨some 43, .mv, [.t 1], none⟩,
 ⟨some 44, .load 4 true, [.t 2], none⟩,
 ⟨some 45, .mv, [.t 8], none⟩,
 ⟨some 46, .mv, [.t 10], none⟩,
 ⟨some 47, .mv, [.t 12], none⟩,
 ⟨some 48, .calld 24576, [.t 43, .t 44, .t 45, .t 46, .t 47], none⟩,
 ⟨some 13, .mv, [.t 48], none⟩] [10, 12, 43, 44, 45, 46, 47, 48])
 (.seq
 (.region false [⟨some 49, .mv, [.t 6], none⟩,
 ⟨some 50, .bin .eql, [.t 49, .c (.i (-1))], none⟩,
 ⟨some 51, .mv, [.t 50], none⟩,
 ⟨some 52, .mv, [.t 13], some (51, false)⟩,
 ⟨some 53, .mv, [.t 7], some (51, false)⟩,
 ⟨some 54, .bin .lss, [.t 52, .t 53], some (51, false)⟩,
 ⟨some 55, .pick, [.t 51, .c (.b true), .t 54], none⟩] [49, 50, 51, 52, 53, 54])
 (.cond (.t 55) [55]
 (.region false [⟨some 56, .mv, [.t 8], none⟩,
 ⟨some 57, .mv, [.t 13], none⟩,
 ⟨some 6, .mv, [.t 56], none⟩,
 ⟨some 7, .mv, [.t 57], none⟩] [8, 13, 56, 57])
 .skip))))))))
 (.region false [⟨some 58, .bin .add, [.t 20, .c (.i 1)], none⟩,
 ⟨some 20, .mv, [.t 58], none⟩] [8, 13, 58]))))
def F_impl_leastFrom_W0 : LC := .loop F_impl_leastFrom_L0
def F_impl_leastFrom : LF :=
 { nparams := 2, results := [.t 4, .t 5], body :=
 (.seq
 (.region false [⟨some 2, .box 1056, [.t 0], none⟩,
 ⟨some 4, .mv, [.c (.i 0)], none⟩,
 ⟨some 5, .mv, [.c (.i 0)], none⟩] [0, 4, 5])
 (.seq
 (.region false [⟨some 6, .mv, [.c (.i (-1))], none⟩,
 ⟨some 7, .mv, [.c (.i 0)], none⟩] [])
 (.seq
 (.seq
 (.region false [⟨some 14, .load 4 true, [.t 2], none⟩,
 ⟨some 15, .call n_impl_point_isForced 7680, [.t 14], none⟩] [14])
 (.cond (.t 15) [15]
 (.seq
 (.region false [⟨some 16, .mv, [.t 6], none⟩,
 ⟨some 17, .mv, [.t 7], none⟩,
 ⟨some 4, .mv, [.t 16], none⟩,
 ⟨some 5, .mv, [.t 17], none⟩] [1, 2, 6, 7, 16, 17])
 .ret)
 .skip))
 (.seq
 (.seq
 (.region false [⟨some 18, .fld 0 1 false, [.t 2], none⟩,
 ⟨some 19, .load 1 false, [.t 18], none⟩,
 ⟨some 20, .mv, [.c (.i 0)], none⟩] [18])
 (.block 0
 F_impl_leastFrom_W0))
 (.seq
 (.region false [⟨some 59, .mv, [.t 6], none⟩,
 ⟨some 60, .mv, [.t 7], none⟩,
 ⟨some 4, .mv, [.t 59], none⟩,
 ⟨some 5, .mv, [.t 60], none⟩] [1, 2, 6, 7, 19, 20, 59, 60])
 .ret))))) }
/-- impl.startOf -/
def F_impl_startOf : LF :=
 { nparams := 2, results := [.c 4 4 true], body :=
 (.seq
 (.region false [⟨some 4, .alloc 2080 (.st [.i 0, .i 0, .w (0#32), .w (0#32)]), [], none⟩] [])
 (.seq
 (.region false [⟨some 5, .mv, [.t 0], none⟩,
 ⟨some 6, .mv, [.t 1], none⟩,
 ⟨some 7, .call n_impl_trueStates 3584, [.t 6], none⟩,
 ⟨some 8, .build [.i 0, .i 0, .w (0#32), .w (0#32)] [(0, 1), (2, 1), (3, 1)], [.t 5, .c (.w (4294967295#32)), .t 7], none⟩,
 ⟨none, .store 4, [.t 4, .t 8], none⟩] [0, 1, 5, 6, 7, 8])
 .ret)) }
/-- impl.averagesOf -/
def F_impl_averagesOf : LF :=
 { nparams := 1, results := [.t 2], body :=
 (.seq
 (.region false [⟨some 1, .box 520, [.t 0], none⟩,
 ⟨some 2, .mv, [.c (.dead)], none⟩] [0, 2])
 (.seq
 (.region false [⟨some 3, .mkfn (mkNo n_impl_averagesOf_1 0), [.t 1], none⟩,
 ⟨some 2, .mv, [.t 3], none⟩] [1, 3])
 .ret)) }
/-- impl.manyOk -/
def F_impl_manyOk : LF :=
 { nparams := 1, results := [.t 2], body :=
 (.seq
 (.region false [⟨some 2, .mv, [.c (.b false)], none⟩] [2])
 (.seq
 (.region false [⟨some 3, .mv, [.t 0], none⟩,
 ⟨some 4, .call n_impl_isWithin 2048, [.t 3, .c (.i 1), .c (.i 5)], none⟩,
 ⟨some 2, .mv, [.t 4], none⟩] [0, 3, 4])
 .ret)) }
/-- impl.weightOfStates -/
def F_impl_weightOfStates_L0 : LC :=
 (.seq
 (.region false [⟨some 11, .bin .lss, [.t 10, .t 9], none⟩] [])
 (.seq
 (.cond (.t 11) [11]
 .skip
 (.exit 0))
 (.seq
 (.block 1
 (.seq
 (.region false [⟨some 12, .mv, [.t 10], none⟩,
 ⟨some 6, .mv, [.t 12], none⟩] [12])
 (.seq
 (.region false [⟨some 13, .mv, [.t 1], none⟩,
 ⟨some 14, .mv, [.t 6], none⟩,
 ⟨some 15, .call n_impl_hasState 7680, [.t 13, .t 14], none⟩] [13, 14])
 (.cond (.t 15) [15]
 (.region false [⟨some 16, .mv, [.t 5], none⟩,
 ⟨some 17, .mv, [.t 0], none⟩,
 ⟨some 18, .mv, [.t 6], none⟩,
 ⟨some 19, .call n_impl_WeightOf 9728, [.t 17, .t 18], none⟩,
 ⟨some 20, .bin .add, [.t 16, .t 19], none⟩,
 ⟨some 5, .mv, [.t 20], none⟩] [6, 16, 17, 18, 19, 20])
 .skip))))
 (.region false [⟨some 21, .bin .add, [.t 10, .c (.i 1)], none⟩,
 ⟨some 10, .mv, [.t 21], none⟩] [6, 21]))))
def F_impl_weightOfStates_W0 : LC := .loop F_impl_weightOfStates_L0
def F_impl_weightOfStates : LF :=
 { nparams := 2, results := [.t 4], body :=
 (.seq
 (.region false [⟨some 4, .mv, [.c (.i 0)], none⟩] [4])
 (.seq
 (.region false [⟨some 5, .mv, [.c (.i 0)], none⟩] [])
 (.seq
 (.seq
 (.region false [⟨some 7, .mv, [.t 0], none⟩,
 ⟨some 8, .len, [.t 7], none⟩,
 ⟨some 9, .call n_impl_statesOf 4608, [.t 8], none⟩,
 ⟨some 10, .mv, [.c (.i 0)], none⟩] [7, 8])
 (.block 0
 F_impl_weightOfStates_W0))
 (.seq
 (.region false [⟨some 22, .mv, [.t 5], none⟩,
 ⟨some 4, .mv, [.t 22], none⟩] [0, 1, 5, 9, 10, 22])
 .ret)))) }
/-- impl.trueStates -/
def F_impl_trueStates : LF :=
 { nparams := 1, results := [.t 2], body :=
 (.seq
 (.region false [⟨some 2, .mv, [.c (.w (0#32))], none⟩] [2])
 (.seq
 (.region false [⟨some 3, .mv, [.t 0], none⟩,
 ⟨some 4, .call n_impl_foldTerm_uint32 2048, [.t 3, .c (.fn n_impl_statesOfPart [])], none⟩,
 ⟨some 2, .mv, [.t 4], none⟩] [0, 3, 4])
 .ret)) }
/-- impl.statesOf -/
def F_impl_statesOf : LF :=
 { nparams := 1, results := [.t 2], body :=
 (.seq
 (.region false [⟨some 2, .mv, [.c (.i 0)], none⟩] [2])
 (.seq
 (.region false [⟨some 3, .mv, [.t 0], none⟩,
 ⟨some 4, .bin .shl, [.c (.i 1), .t 3], none⟩,
 ⟨some 2, .mv, [.t 4], none⟩] [0, 3, 4])
 .ret)) }
/-- impl.WeightOf -/
def F_impl_WeightOf_L0 : LC :=
 (.seq
 (.region false [⟨some 21, .bin .lss, [.t 20, .t 19], none⟩] [])
 (.seq
 (.cond (.t 21) [21]
 .skip
 (.exit 0))
 (.seq
 (.block 1
 (.seq
 (.region false [⟨some 22, .mv, [.t 20], none⟩,
 ⟨some 23, .idxa 2, [.t 18, .t 20], none⟩,
 ⟨some 24, .load 2 true, [.t 23], none⟩,
 ⟨some 7, .alloc 3600 (.st [.i 0, .i 0]), [], none⟩,
 ⟨some 6, .mv, [.t 22], none⟩,
 ⟨none, .store 2, [.t 7, .t 24], none⟩] [22, 23, 24])
 (.seq
 (.region false [⟨some 25, .mv, [.t 1], none⟩,
 ⟨some 26, .mv, [.t 6], none⟩,
 ⟨some 27, .call n_impl_outcomeIn 13824, [.t 25, .t 26], none⟩,
 ⟨some 28, .bin .eql, [.t 27, .c (.i 1)], none⟩] [6, 25, 26, 27])
 (.cond (.t 28) [28]
 (.region false [⟨some 29, .mv, [.t 5], none⟩,
 ⟨some 30, .fld 1 1 false, [.t 7], none⟩,
 ⟨some 31, .load 1 false, [.t 30], none⟩,
 ⟨some 32, .bin .mul, [.t 29, .t 31], none⟩,
 ⟨some 5, .mv, [.t 32], none⟩] [7, 29, 30, 31, 32])
 (.region false [⟨some 33, .mv, [.t 5], none⟩,
 ⟨some 34, .fld 1 1 false, [.t 7], none⟩,
 ⟨some 35, .load 1 false, [.t 34], none⟩,
 ⟨some 36, .bin .sub, [.c (.i 6), .t 35], none⟩,
 ⟨some 37, .bin .mul, [.t 33, .t 36], none⟩,
 ⟨some 5, .mv, [.t 37], none⟩] [7, 33, 34, 35, 36, 37])))))
 (.region false [⟨some 38, .bin .add, [.t 20, .c (.i 1)], none⟩,
 ⟨some 20, .mv, [.t 38], none⟩] [38]))))
def F_impl_WeightOf_W0 : LC := .loop F_impl_WeightOf_L0
def F_impl_WeightOf : LF :=
 { nparams := 2, results := [.t 4], body :=
 (.seq
 (.region false [⟨some 4, .mv, [.c (.i 0)], none⟩] [4])
 (.seq
 (.seq
 (.region false [⟨some 8, .mv, [.t 0], none⟩,
 ⟨some 9, .call n_impl_TestsOk 4608, [.t 8], none⟩,
 ⟨some 10, .un .not, [.t 9], none⟩,
 ⟨some 11, .mv, [.t 10], none⟩,
 ⟨some 12, .mv, [.t 0], some (11, false)⟩,
 ⟨some 13, .len, [.t 12], some (11, false)⟩,
 ⟨some 14, .mv, [.t 1], some (11, false)⟩,
 ⟨some 15, .call n_impl_StateOk 7680, [.t 13, .t 14], some (11, false)⟩,
 ⟨some 16, .un .not, [.t 15], some (11, false)⟩,
 ⟨some 17, .pick, [.t 11, .c (.b true), .t 16], none⟩] [8, 9, 10, 11, 12, 13, 14, 15, 16])
 (.cond (.t 17) [17]
 (.seq
 (.region false [⟨some 4, .mv, [.c (.i (-1))], none⟩] [0, 1])
 .ret)
 .skip))
 (.seq
 (.region false [⟨some 5, .mv, [.c (.i 1)], none⟩] [])
 (.seq
 (.seq
 (.region false [⟨some 18, .mv, [.t 0], none⟩,
 ⟨some 19, .len, [.t 18], none⟩,
 ⟨some 20, .mv, [.c (.i 0)], none⟩] [0])
 (.block 0
 F_impl_WeightOf_W0))
 (.seq
 (.region false [⟨some 39, .mv, [.t 5], none⟩,
 ⟨some 4, .mv, [.t 39], none⟩] [1, 5, 18, 19, 20, 39])
 .ret))))) }
/-- spec.l20Case -/
def F_spec_l20Case : LF :=
 { nparams := 2, results := [.t 4, .t 5], body :=
 (.seq
 (.region false [⟨some 4, .newnil 2064, [], none⟩,
 ⟨some 5, .newnil 2576, [], none⟩] [4, 5])
 (.seq
 (.region false [⟨some 7, .mv, [.t 0], none⟩,
 ⟨some 8, .mv, [.t 1], none⟩,
 ⟨some 9, .bin .mul, [.t 8, .c (.i 2)], none⟩,
 ⟨some 10, .call n_spec_l20Tests 5120, [.t 7, .t 9], none⟩,
 ⟨some 6, .mv, [.t 10], none⟩] [7, 8, 9, 10])
 (.seq
 (.region false [⟨some 11, .mv, [.t 6], none⟩,
 ⟨some 12, .mv, [.t 0], none⟩,
 ⟨some 13, .mv, [.t 6], none⟩,
 ⟨some 14, .len, [.t 13], none⟩,
 ⟨some 15, .mv, [.t 1], none⟩,
 ⟨some 16, .call n_spec_l20Term 8192, [.t 12, .t 14, .t 15], none⟩,
 ⟨some 4, .mv, [.t 11], none⟩,
 ⟨some 5, .mv, [.t 16], none⟩] [1, 6, 11, 12, 13, 14, 15, 16])
 .ret))) }
/-- spec.TermOk -/
def F_spec_TermOk_L0 : LC :=
 (.seq
 (.seq
 (.region false [⟨some 7, .mv, [.t 6], none⟩,
 ⟨some 8, .mv, [.t 1], none⟩,
 ⟨some 9, .len, [.t 8], none⟩,
 ⟨some 10, .bin .lss, [.t 7, .t 9], none⟩] [7, 8, 9])
 (.cond (.t 10) [10]
 .skip
 (.exit 0)))
 (.seq
 (.block 1
 (.block 2
 (.seq
 (.region false [⟨some 14, .mv, [.t 1], none⟩,
 ⟨some 15, .mv, [.t 6], none⟩,
 ⟨some 16, .idxa 2, [.t 14, .t 15], none⟩,
 ⟨some 17, .fld 0 1 false, [.t 16], none⟩,
 ⟨some 18, .load 1 false, [.t 17], none⟩,
 ⟨some 19, .bin .eql, [.t 18, .c (.i 0)], none⟩,
 ⟨some 20, .mv, [.t 19], none⟩,
 ⟨some 21, .mv, [.t 1], some (20, true)⟩,
 ⟨some 22, .mv, [.t 6], some (20, true)⟩,
 ⟨some 23, .idxa 2, [.t 21, .t 22], some (20, true)⟩,
 ⟨some 24, .fld 1 1 false, [.t 23], some (20, true)⟩,
 ⟨some 25, .load 1 false, [.t 24], some (20, true)⟩,
 ⟨some 26, .bin .geq, [.t 25, .c (.i 0)], some (20, true)⟩,
 ⟨some 27, .pick, [.t 20, .t 26, .c (.b false)], none⟩,
 ⟨some 28, .mv, [.t 27], none⟩,
 ⟨some 29, .mv, [.t 1], some (28, true)⟩,
 ⟨some 30, .mv, [.t 6], some (28, true)⟩,
 ⟨some 31, .idxa 2, [.t 29, .t 30], some (28, true)⟩,
 ⟨some 32, .fld 1 1 false, [.t 31], some (28, true)⟩,
 ⟨some 33, .load 1 false, [.t 32], some (28, true)⟩,
 ⟨some 34, .mv, [.t 0], some (28, true)⟩,
 ⟨some 35, .bin .lss, [.t 33, .t 34], some (28, true)⟩,
 ⟨some 36, .pick, [.t 28, .t 35, .c (.b false)], none⟩,
 ⟨some 13, .mv, [.t 36], none⟩] [14, 15, 16, 17, 18, 19, 20, 21, 22, 23, 24, 25, 26, 27, 28, 29, 30, 31, 32, 33, 34, 35, 36])
 (.cond (.t 13) [13]
 (.region false [⟨some 37, .mv, [.t 5], none⟩,
 ⟨some 38, .bin .add, [.t 37, .c (.i 1)], none⟩,
 ⟨some 5, .mv, [.t 38], none⟩] [37, 38])
 (.seq
 (.region false [⟨some 40, .mv, [.t 1], none⟩,
 ⟨some 41, .mv, [.t 6], none⟩,
 ⟨some 42, .idxa 2, [.t 40, .t 41], none⟩,
 ⟨some 43, .load 2 true, [.t 42], none⟩,
 ⟨some 44, .build [.i 0, .i 0] [(0, 1)], [.c (.i 1)], none⟩,
 ⟨some 45, .eqs false 2, [.t 43, .t 44], none⟩,
 ⟨some 46, .mv, [.t 45], none⟩,
 ⟨some 47, .mv, [.t 5], some (46, true)⟩,
 ⟨some 48, .bin .geq, [.t 47, .c (.i 1)], some (46, true)⟩,
 ⟨some 49, .pick, [.t 46, .t 48, .c (.b false)], none⟩,
 ⟨some 39, .mv, [.t 49], none⟩] [40, 41, 42, 43, 44, 45, 46, 47, 48, 49])
 (.cond (.t 39) [39]
 .skip
 (.seq
 (.region false [⟨some 51, .mv, [.t 1], none⟩,
 ⟨some 52, .mv, [.t 6], none⟩,
 ⟨some 53, .idxa 2, [.t 51, .t 52], none⟩,
 ⟨some 54, .load 2 true, [.t 53], none⟩,
 ⟨some 55, .build [.i 0, .i 0] [(0, 1)], [.c (.i 2)], none⟩,
 ⟨some 56, .eqs false 2, [.t 54, .t 55], none⟩,
 ⟨some 57, .mv, [.t 56], none⟩,
 ⟨some 58, .mv, [.t 1], some (57, false)⟩,
 ⟨some 59, .mv, [.t 6], some (57, false)⟩,
 ⟨some 60, .idxa 2, [.t 58, .t 59], some (57, false)⟩,
 ⟨some 61, .load 2 true, [.t 60], some (57, false)⟩,
 ⟨some 62, .build [.i 0, .i 0] [(0, 1)], [.c (.i 3)], some (57, false)⟩,
 ⟨some 63, .eqs false 2, [.t 61, .t 62], some (57, false)⟩,
 ⟨some 64, .pick, [.t 57, .c (.b true), .t 63], none⟩,
 ⟨some 65, .mv, [.t 64], none⟩,
 ⟨some 66, .mv, [.t 5], some (65, true)⟩,
 ⟨some 67, .bin .geq, [.t 66, .c (.i 2)], some (65, true)⟩,
 ⟨some 68, .pick, [.t 65, .t 67, .c (.b false)], none⟩,
 ⟨some 50, .mv, [.t 68], none⟩] [51, 52, 53, 54, 55, 56, 57, 58, 59, 60, 61, 62, 63, 64, 65, 66, 67, 68])
 (.cond (.t 50) [50]
 (.region false [⟨some 69, .mv, [.t 5], none⟩,
 ⟨some 70, .bin .sub, [.t 69, .c (.i 1)], none⟩,
 ⟨some 5, .mv, [.t 70], none⟩] [69, 70])
 (.seq
 (.region false [⟨some 4, .mv, [.c (.b false)], none⟩] [0, 1, 5, 6])
 .ret)))))))))
 (.region false [⟨some 11, .mv, [.t 6], none⟩,
 ⟨some 12, .bin .add, [.t 11, .c (.i 1)], none⟩,
 ⟨some 6, .mv, [.t 12], none⟩] [11, 12])))
def F_spec_TermOk_W0 : LC := .loop F_spec_TermOk_L0
def F_spec_TermOk : LF :=
 { nparams := 2, results := [.t 4], body :=
 (.seq
 (.region false [⟨some 4, .mv, [.c (.b false)], none⟩] [4])
 (.seq
 (.region false [⟨some 5, .mv, [.c (.i 0)], none⟩] [])
 (.seq
 (.seq
 (.region false [⟨some 6, .mv, [.c (.i 0)], none⟩] [])
 (.block 0
 F_spec_TermOk_W0))
 (.seq
 (.region false [⟨some 71, .mv, [.t 0], none⟩,
 ⟨some 72, .call n_spec_l1In 36864, [.t 71, .c (.i 1), .c (.i 5)], none⟩,
 ⟨some 73, .mv, [.t 72], none⟩,
 ⟨some 74, .mv, [.t 5], some (73, true)⟩,
 ⟨some 75, .bin .eql, [.t 74, .c (.i 1)], some (73, true)⟩,
 ⟨some 76, .pick, [.t 73, .t 75, .c (.b false)], none⟩,
 ⟨some 77, .mv, [.t 76], none⟩,
 ⟨some 78, .mv, [.t 1], some (77, true)⟩,
 ⟨some 79, .len, [.t 78], some (77, true)⟩,
 ⟨some 80, .bin .leq, [.t 79, .c (.i 13)], some (77, true)⟩,
 ⟨some 81, .pick, [.t 77, .t 80, .c (.b false)], none⟩,
 ⟨some 4, .mv, [.t 81], none⟩] [0, 1, 5, 6, 71, 72, 73, 74, 75, 76, 77, 78, 79, 80, 81])
 .ret)))) }
/-- spec.l6Best -/
def F_spec_l6Best_L1 : LC :=
 (.seq
 (.seq
 (.region false [⟨some 43, .mv, [.t 14], none⟩,
 ⟨some 44, .bin .lss, [.t 43, .c (.i 2)], none⟩] [43])
 (.cond (.t 44) [44]
 .skip
 (.exit 2)))
 (.seq
 (.block 3
 (.seq
 (.region false [⟨some 47, .bslice 24072 0 1 (.i 0) [], [], none⟩,
 ⟨some 48, .mv, [.t 2], none⟩,
 ⟨some 49, .app 25096 1, [.t 47, .t 48], none⟩,
 ⟨some 15, .mv, [.t 49], none⟩] [47, 48, 49])
 (.seq
 (.region false [⟨some 50, .mv, [.t 15], none⟩,
 ⟨some 51, .mv, [.t 12], none⟩,
 ⟨some 52, .mv, [.t 14], none⟩,
 ⟨some 53, .idxa 1, [.t 50, .t 51], none⟩,
 ⟨none, .store 1, [.t 53, .t 52], none⟩] [50, 51, 52, 53])
 (.seq
 (.region false [⟨some 54, .mv, [.t 0], none⟩,
 ⟨some 55, .mv, [.t 12], none⟩,
 ⟨some 56, .idxa 2, [.t 54, .t 55], none⟩,
 ⟨some 57, .fld 1 1 false, [.t 56], none⟩,
 ⟨some 58, .load 1 false, [.t 57], none⟩,
 ⟨some 16, .mv, [.t 58], none⟩] [54, 55, 56, 57, 58])
 (.seq
 (.seq
 (.region false [⟨some 59, .mv, [.t 14], none⟩,
 ⟨some 60, .bin .eql, [.t 59, .c (.i 0)], none⟩] [59])
 (.cond (.t 60) [60]
 (.region false [⟨some 61, .mv, [.t 16], none⟩,
 ⟨some 62, .bin .sub, [.c (.i 6), .t 61], none⟩,
 ⟨some 16, .mv, [.t 62], none⟩] [61, 62])
 .skip))
 (.seq
 (.region false [⟨some 64, .mv, [.t 0], none⟩,
 ⟨some 65, .mv, [.t 1], none⟩,
 ⟨some 66, .mv, [.t 15], none⟩,
 ⟨some 67, .mv, [.t 3], none⟩,
 ⟨some 68, .bin .quo, [.t 67, .c (.i 6)], none⟩,
 ⟨some 69, .mv, [.t 16], none⟩,
 ⟨some 70, .bin .mul, [.t 68, .t 69], none⟩,
 ⟨some 71, .call n_spec_l6Best 36352, [.t 64, .t 65, .t 66, .t 70], none⟩,
 ⟨some 63, .mv, [.t 71], none⟩,
 ⟨some 72, .ext 0, [.t 63], none⟩,
 ⟨some 73, .ext 1, [.t 63], none⟩,
 ⟨some 17, .mv, [.t 72], none⟩,
 ⟨some 18, .mv, [.t 73], none⟩] [15, 16, 18, 63, 64, 65, 66, 67, 68, 69, 70, 71, 72, 73])
 (.region false [⟨some 74, .mv, [.t 13], none⟩,
 ⟨some 75, .mv, [.t 17], none⟩,
 ⟨some 76, .bin .add, [.t 74, .t 75], none⟩,
 ⟨some 13, .mv, [.t 76], none⟩] [17, 74, 75, 76])))))))
 (.region false [⟨some 45, .mv, [.t 14], none⟩,
 ⟨some 46, .bin .add, [.t 45, .c (.i 1)], none⟩,
 ⟨some 14, .mv, [.t 46], none⟩] [45, 46])))
def F_spec_l6Best_W1 : LC := .loop F_spec_l6Best_L1
def F_spec_l6Best_L0 : LC :=
 (.seq
 (.seq
 (.region false [⟨some 25, .mv, [.t 12], none⟩,
 ⟨some 26, .mv, [.t 0], none⟩,
 ⟨some 27, .len, [.t 26], none⟩,
 ⟨some 28, .bin .lss, [.t 25, .t 27], none⟩] [25, 26, 27])
 (.cond (.t 28) [28]
 .skip
 (.exit 0)))
 (.seq
 (.block 1
 (.seq
 (.seq
 (.region false [⟨some 31, .mv, [.t 2], none⟩,
 ⟨some 32, .mv, [.t 12], none⟩,
 ⟨some 33, .idxa 1, [.t 31, .t 32], none⟩,
 ⟨some 34, .load 1 false, [.t 33], none⟩,
 ⟨some 35, .bin .neq, [.t 34, .c (.i (-1))], none⟩] [31, 32, 33, 34])
 (.cond (.t 35) [35]
 (.exit 1)
 .skip))
 (.seq
 (.region false [⟨some 36, .mv, [.t 3], none⟩,
 ⟨some 37, .mv, [.t 0], none⟩,
 ⟨some 38, .mv, [.t 12], none⟩,
 ⟨some 39, .idxa 2, [.t 37, .t 38], none⟩,
 ⟨some 40, .fld 0 1 false, [.t 39], none⟩,
 ⟨some 41, .load 1 false, [.t 40], none⟩,
 ⟨some 42, .bin .mul, [.t 36, .t 41], none⟩,
 ⟨some 13, .mv, [.t 42], none⟩] [36, 37, 38, 39, 40, 41, 42])
 (.seq
 (.seq
 (.region false [⟨some 14, .mv, [.c (.i 0)], none⟩] [])
 (.block 2
 F_spec_l6Best_W1))
 (.seq
 (.region false [⟨some 77, .mv, [.t 10], none⟩,
 ⟨some 78, .bin .lss, [.t 77, .c (.i 0)], none⟩,
 ⟨some 79, .mv, [.t 78], none⟩,
 ⟨some 80, .mv, [.t 13], some (79, false)⟩,
 ⟨some 81, .mv, [.t 10], some (79, false)⟩,
 ⟨some 82, .bin .lss, [.t 80, .t 81], some (79, false)⟩,
 ⟨some 83, .pick, [.t 79, .c (.b true), .t 82], none⟩] [14, 77, 78, 79, 80, 81, 82])
 (.cond (.t 83) [83]
 (.seq
 (.region false [⟨some 84, .mv, [.t 13], none⟩,
 ⟨some 10, .mv, [.t 84], none⟩] [11, 13, 84])
 (.region false [⟨some 85, .mv, [.t 12], none⟩,
 ⟨some 11, .mv, [.t 85], none⟩] [85]))
 .skip))))))
 (.region false [⟨some 29, .mv, [.t 12], none⟩,
 ⟨some 30, .bin .add, [.t 29, .c (.i 1)], none⟩,
 ⟨some 12, .mv, [.t 30], none⟩] [13, 29, 30])))
def F_spec_l6Best_W0 : LC := .loop F_spec_l6Best_L0
def F_spec_l6Best : LF :=
 { nparams := 4, results := [.t 8, .t 9], body :=
 (.seq
 (.region false [⟨some 8, .mv, [.c (.i 0)], none⟩,
 ⟨some 9, .mv, [.c (.i 0)], none⟩] [8, 9])
 (.seq
 (.seq
 (.region false [⟨some 19, .mv, [.t 0], none⟩,
 ⟨some 20, .len, [.t 19], none⟩,
 ⟨some 21, .mv, [.t 1], none⟩,
 ⟨some 22, .mv, [.t 2], none⟩,
 ⟨some 23, .call n_spec_l3Forced 11776, [.t 20, .t 21, .t 22], none⟩,
 ⟨some 24, .bin .neq, [.t 23, .c (.i (-1))], none⟩] [19, 20, 21, 22, 23])
 (.cond (.t 24) [24]
 (.seq
 (.region false [⟨some 8, .mv, [.c (.i 0)], none⟩,
 ⟨some 9, .mv, [.c (.i (-1))], none⟩] [0, 1, 2, 3])
 .ret)
 .skip))
 (.seq
 (.region false [⟨some 10, .mv, [.c (.i (-1))], none⟩] [])
 (.seq
 (.region false [⟨some 11, .mv, [.c (.i (-1))], none⟩] [])
 (.seq
 (.seq
 (.region false [⟨some 12, .mv, [.c (.i 0)], none⟩] [])
 (.block 0
 F_spec_l6Best_W0))
 (.seq
 (.region false [⟨some 86, .mv, [.t 10], none⟩,
 ⟨some 87, .mv, [.t 11], none⟩,
 ⟨some 8, .mv, [.t 86], none⟩,
 ⟨some 9, .mv, [.t 87], none⟩] [0, 1, 2, 3, 10, 11, 12, 86, 87])
 .ret)))))) }
/-- spec.l3Table -/
def F_spec_l3Table_L0 : LC :=
 (.seq
 (.seq
 (.region false [⟨some 7, .mv, [.t 6], none⟩,
 ⟨some 8, .mv, [.t 0], none⟩,
 ⟨some 9, .bin .shl, [.c (.i 1), .t 8], none⟩,
 ⟨some 10, .bin .lss, [.t 7, .t 9], none⟩] [7, 8, 9])
 (.cond (.t 10) [10]
 .skip
 (.exit 0)))
 (.seq
 (.block 1
 (.region false [⟨some 13, .mv, [.t 5], none⟩,
 ⟨some 14, .mv, [.t 1], none⟩,
 ⟨some 15, .mv, [.t 6], none⟩,
 ⟨some 16, .call n_spec_l3Value 8192, [.t 14, .t 15], none⟩,
 ⟨some 17, .mv, [.t 6], none⟩,
 ⟨some 18, .bin .shl, [.t 16, .t 17], none⟩,
 ⟨some 19, .bin .or, [.t 13, .t 18], none⟩,
 ⟨some 5, .mv, [.t 19], none⟩] [13, 14, 15, 16, 17, 18, 19]))
 (.region false [⟨some 11, .mv, [.t 6], none⟩,
 ⟨some 12, .bin .add, [.t 11, .c (.i 1)], none⟩,
 ⟨some 6, .mv, [.t 12], none⟩] [11, 12])))
def F_spec_l3Table_W0 : LC := .loop F_spec_l3Table_L0
def F_spec_l3Table : LF :=
 { nparams := 2, results := [.t 4], body :=
 (.seq
 (.region false [⟨some 4, .mv, [.c (.i 0)], none⟩] [4])
 (.seq
 (.region false [⟨some 5, .mv, [.c (.i 0)], none⟩] [])
 (.seq
 (.seq
 (.region false [⟨some 6, .mv, [.c (.i 0)], none⟩] [])
 (.block 0
 F_spec_l3Table_W0))
 (.seq
 (.region false [⟨some 20, .mv, [.t 5], none⟩,
 ⟨some 4, .mv, [.t 20], none⟩] [0, 1, 5, 6, 20])
 .ret)))) }
/-- spec.l4None -/
def F_spec_l4None_L0 : LC :=
 (.seq
 (.seq
 (.region false [⟨some 6, .mv, [.t 4], none⟩,
 ⟨some 7, .mv, [.t 0], none⟩,
 ⟨some 8, .bin .lss, [.t 6, .t 7], none⟩] [6, 7])
 (.cond (.t 8) [8]
 .skip
 (.exit 0)))
 (.seq
 (.block 1
 (.region false [⟨some 11, .mv, [.t 3], none⟩,
 ⟨some 12, .bslice 6152 1 1 (.i 0) [0], [.c (.i (-1))], none⟩,
 ⟨some 13, .app 6664 1, [.t 11, .t 12], none⟩,
 ⟨some 3, .mv, [.t 13], none⟩] [11, 12, 13]))
 (.region false [⟨some 9, .mv, [.t 4], none⟩,
 ⟨some 10, .bin .add, [.t 9, .c (.i 1)], none⟩,
 ⟨some 4, .mv, [.t 10], none⟩] [9, 10])))
def F_spec_l4None_W0 : LC := .loop F_spec_l4None_L0
def F_spec_l4None : LF :=
 { nparams := 1, results := [.t 2], body :=
 (.seq
 (.region false [⟨some 2, .newnil 1032, [], none⟩] [2])
 (.seq
 (.region false [⟨some 5, .bslice 2568 0 1 (.i 0) [], [], none⟩,
 ⟨some 3, .mv, [.t 5], none⟩] [5])
 (.seq
 (.seq
 (.region false [⟨some 4, .mv, [.c (.i 0)], none⟩] [])
 (.block 0
 F_spec_l4None_W0))
 (.seq
 (.region false [⟨some 14, .mv, [.t 3], none⟩,
 ⟨some 2, .mv, [.t 14], none⟩] [0, 3, 4, 14])
 .ret)))) }
/-- impl.bestBehind -/
def F_impl_bestBehind_L0 : LC :=
 (.ghost (.rename 8 4104)
 (.seq
 (.region false [⟨some 17, .bin .lss, [.t 16, .t 15], none⟩] [])
 (.seq
 (.cond (.t 17) [17]
 .skip
 (.exit 0))
 (.seq
 (.block 1
 (.seq
 (.region false [⟨some 18, .mv, [.t 16], none⟩,
 ⟨some 19, .idxa 2, [.t 14, .t 16], none⟩,
 ⟨some 20, .load 2 true, [.t 19], none⟩,
 ⟨some 11, .alloc 5648 (.st [.i 0, .i 0]), [], none⟩,
 ⟨some 10, .mv, [.t 18], none⟩,
 ⟨none, .store 2, [.t 11, .t 20], none⟩] [18, 19, 20])
 (.seq
 (.seq
 (.region false [⟨some 21, .mv, [.t 2], none⟩,
 ⟨some 22, .mv, [.t 10], none⟩,
 ⟨some 23, .call n_impl_hasTest 11776, [.t 21, .t 22], none⟩] [21, 22])
 (.cond (.t 23) [23]
 (.exit 1)
 .skip))
 (.seq
 (.region false [⟨some 25, .mv, [.t 0], none⟩,
 ⟨some 26, .mv, [.t 1], none⟩,
 ⟨some 27, .mv, [.t 2], none⟩,
 ⟨some 28, .mv, [.t 10], none⟩,
 ⟨some 29, .bin .shl, [.c (.i 1), .t 28], none⟩,
 ⟨some 30, .bin .or, [.t 27, .t 29], none⟩,
 ⟨some 31, .call n_impl_bestBehind 15872, [.t 25, .t 26, .t 30], none⟩,
 ⟨some 24, .mv, [.t 31], none⟩,
 ⟨some 32, .ext 0, [.t 24], none⟩,
 ⟨some 33, .ext 1, [.t 24], none⟩,
 ⟨some 12, .mv, [.t 32], none⟩,
 ⟨some 13, .mv, [.t 33], none⟩] [24, 25, 26, 27, 28, 29, 30, 31, 32, 33])
 (.seq
 (.region true [⟨some 34, .mv, [.t 13], none⟩,
 ⟨some 35, .fld 0 1 false, [.t 11], none⟩,
 ⟨some 36, .load 1 false, [.t 35], none⟩,
 ⟨some 37, .mv, [.t 1], none⟩,
 ⟨some 38, .mv, [.t 2], none⟩,
 ⟨some 39, .idxa 1, [.t 37, .t 38], none⟩,
 ⟨some 40, .load 1 false, [.t 39], none⟩,
 ⟨some 41, .bin .mul, [.t 36, .t 40], none⟩,
 ⟨some 42, .bin .add, [.t 34, .t 41], none⟩,
 ⟨some 13, .mv, [.t 42], none⟩] [11, 34, 35, 36, 37, 38, 39, 40, 41, 42])
 (.seq
 (.region false [⟨some 43, .mv, [.t 8], none⟩,
 ⟨some 44, .eqn false, [.t 43], none⟩,
 ⟨some 45, .mv, [.t 44], none⟩,
 ⟨some 46, .mv, [.t 13], some (45, false)⟩,
 ⟨some 47, .mv, [.t 9], some (45, false)⟩,
 ⟨some 48, .bin .lss, [.t 46, .t 47], some (45, false)⟩,
 ⟨some 49, .pick, [.t 45, .c (.b true), .t 48], none⟩] [43, 44, 45, 46, 47, 48])
 (.cond (.t 49) [49]
 (.region false [⟨some 50, .mv, [.t 10], none⟩,
 ⟨some 51, .bslice 26120 1 1 (.i 0) [0], [.t 50], none⟩,
 ⟨some 52, .mv, [.t 12], none⟩,
 ⟨some 53, .app 27144 1, [.t 51, .t 52], none⟩,
 ⟨some 54, .mv, [.t 13], none⟩,
 ⟨some 8, .mv, [.t 53], none⟩,
 ⟨some 9, .mv, [.t 54], none⟩] [10, 12, 13, 50, 51, 52, 53, 54])
 .skip)))))))
 (.region false [⟨some 55, .bin .add, [.t 16, .c (.i 1)], none⟩,
 ⟨some 16, .mv, [.t 55], none⟩] [10, 11, 12, 13, 55])))))
def F_impl_bestBehind_W0 : LC := .loop F_impl_bestBehind_L0
def F_impl_bestBehind : LF :=
 { nparams := 3, results := [.t 6, .t 7], body :=
 (.seq
 (.region false [⟨some 6, .newnil 3080, [], none⟩,
 ⟨some 7, .mv, [.c (.i 0)], none⟩] [6, 7])
 (.seq
 (.region false [⟨some 8, .mv, [.c (.nil)], none⟩] [])
 (.seq
 (.region false [⟨some 9, .mv, [.c (.i 0)], none⟩] [])
 (.seq
 (.seq
 (.region false [⟨some 14, .mv, [.t 0], none⟩,
 ⟨some 15, .len, [.t 14], none⟩,
 ⟨some 16, .mv, [.c (.i 0)], none⟩] [])
 (.block 0
 F_impl_bestBehind_W0))
 (.seq
 (.region false [⟨some 56, .mv, [.t 8], none⟩,
 ⟨some 57, .mv, [.t 9], none⟩,
 ⟨some 6, .mv, [.t 56], none⟩,
 ⟨some 7, .mv, [.t 57], none⟩] [0, 1, 2, 8, 9, 14, 15, 16, 56, 57])
 .ret))))) }
/-- impl.openWeights -/
def F_impl_openWeights_L0 : LC :=
 (.seq
 (.region false [⟨some 16, .bin .lss, [.t 15, .t 14], none⟩] [])
 (.seq
 (.cond (.t 16) [16]
 .skip
 (.exit 0))
 (.seq
 (.block 1
 (.seq
 (.region false [⟨some 17, .mv, [.t 15], none⟩,
 ⟨some 7, .mv, [.t 17], none⟩] [17])
 (.region false [⟨some 18, .mv, [.t 6], none⟩,
 ⟨some 19, .mv, [.t 7], none⟩,
 ⟨some 20, .mv, [.t 0], none⟩,
 ⟨some 21, .mv, [.t 5], none⟩,
 ⟨some 22, .mv, [.t 1], none⟩,
 ⟨some 23, .mv, [.t 7], none⟩,
 ⟨some 24, .call n_impl_openStates 12288, [.t 21, .t 22, .t 23], none⟩,
 ⟨some 25, .call n_impl_weightOfStates 12800, [.t 20, .t 24], none⟩,
 ⟨some 26, .idxa 1, [.t 18, .t 19], none⟩,
 ⟨none, .store 1, [.t 26, .t 25], none⟩] [7, 18, 19, 20, 21, 22, 23, 24, 25, 26])))
 (.region false [⟨some 27, .bin .add, [.t 15, .c (.i 1)], none⟩,
 ⟨some 15, .mv, [.t 27], none⟩] [27]))))
def F_impl_openWeights_W0 : LC := .loop F_impl_openWeights_L0
def F_impl_openWeights : LF :=
 { nparams := 2, results := [.t 4], body :=
 (.seq
 (.region false [⟨some 4, .newnil 2056, [], none⟩] [4])
 (.seq
 (.region false [⟨some 8, .mv, [.t 0], none⟩,
 ⟨some 9, .len, [.t 8], none⟩,
 ⟨some 5, .mv, [.t 9], none⟩] [8, 9])
 (.seq
 (.region false [⟨some 10, .mv, [.t 5], none⟩,
 ⟨some 11, .call n_impl_statesOf 5632, [.t 10], none⟩,
 ⟨some 12, .make 6152 1 (.i 0), [.t 11, .t 11], none⟩,
 ⟨some 6, .mv, [.t 12], none⟩] [10, 11, 12])
 (.seq
 (.seq
 (.region false [⟨some 13, .mv, [.t 6], none⟩,
 ⟨some 14, .len, [.t 13], none⟩,
 ⟨some 15, .mv, [.c (.i 0)], none⟩] [13])
 (.block 0
 F_impl_openWeights_W0))
 (.seq
 (.region false [⟨some 28, .mv, [.t 6], none⟩,
 ⟨some 4, .mv, [.t 28], none⟩] [0, 1, 5, 6, 14, 15, 28])
 .ret))))) }
/-- spec.l20Rd).odd -/
def F_spec_l20Rd_odd : LF :=
 { nparams := 2, results := [.t 4], body :=
 (.seq
 (.region false [⟨some 4, .mv, [.c (.b false)], none⟩] [4])
 (.seq
 (.region false [⟨some 5, .mv, [.t 1], none⟩,
 ⟨some 6, .bin .gtr, [.t 5, .c (.i 0)], none⟩,
 ⟨some 7, .mv, [.t 6], none⟩,
 ⟨some 8, .mv, [.t 0], some (7, true)⟩,
 ⟨some 9, .mv, [.t 1], some (7, true)⟩,
 ⟨some 10, .call n_spec_l20Rd_pick 5120, [.t 8, .t 9], some (7, true)⟩,
 ⟨some 11, .mv, [.t 1], some (7, true)⟩,
 ⟨some 12, .bin .sub, [.t 11, .c (.i 1)], some (7, true)⟩,
 ⟨some 13, .bin .eql, [.t 10, .t 12], some (7, true)⟩,
 ⟨some 14, .pick, [.t 7, .t 13, .c (.b false)], none⟩,
 ⟨some 4, .mv, [.t 14], none⟩] [1, 5, 6, 7, 8, 9, 10, 11, 12, 13, 14])
 .ret)) }
/-- bits.OnesCount -/
def F_math_bits_OnesCount : LF :=
 { nparams := 1, results := [.t 2], body :=
 (.seq
 (.region false [⟨some 2, .mv, [.c (.i 0)], none⟩] [2])
 (.seq
 (.cond (.c (.b false)) []
 (.seq
 .void
 .ret)
 .skip)
 (.seq
 (.region false [⟨some 6, .mv, [.t 0], none⟩,
 ⟨some 7, .call n_math_bits_OnesCount64 3584, [.t 6], none⟩,
 ⟨some 2, .mv, [.t 7], none⟩] [0, 6, 7])
 .ret))) }
/-- impl.hasTest -/
def F_impl_hasTest : LF :=
 { nparams := 2, results := [.t 4], body :=
 (.seq
 (.region false [⟨some 4, .mv, [.c (.b false)], none⟩] [4])
 (.seq
 (.region false [⟨some 5, .mv, [.t 0], none⟩,
 ⟨some 6, .mv, [.t 1], none⟩,
 ⟨some 7, .bin .shr, [.t 5, .t 6], none⟩,
 ⟨some 8, .bin .and, [.t 7, .c (.i 1)], none⟩,
 ⟨some 9, .bin .eql, [.t 8, .c (.i 1)], none⟩,
 ⟨some 4, .mv, [.t 9], none⟩] [0, 1, 5, 6, 7, 8, 9])
 .ret)) }
/-- impl.averageAsking -/
def F_impl_averageAsking : LF :=
 { nparams := 4, results := [.t 8], body :=
 (.seq
 (.region false [⟨some 4, .box 2064, [.t 0], none⟩,
 ⟨some 8, .mv, [.c (.i 0)], none⟩] [0, 8])
 (.seq
 (.region true [⟨some 9, .fld 0 1 false, [.t 4], none⟩,
 ⟨some 10, .load 1 false, [.t 9], none⟩,
 ⟨some 11, .mv, [.t 1], none⟩,
 ⟨some 12, .call n_impl_wholeOf 6144, [.t 11], none⟩,
 ⟨some 13, .bin .mul, [.t 10, .t 12], none⟩,
 ⟨some 14, .fld 1 1 false, [.t 4], none⟩,
 ⟨some 15, .load 1 false, [.t 14], none⟩,
 ⟨some 16, .bin .sub, [.c (.i 6), .t 15], none⟩,
 ⟨some 17, .mv, [.t 2], none⟩,
 ⟨some 18, .bin .mul, [.t 16, .t 17], none⟩,
 ⟨some 19, .bin .add, [.t 13, .t 18], none⟩,
 ⟨some 20, .fld 1 1 false, [.t 4], none⟩,
 ⟨some 21, .load 1 false, [.t 20], none⟩,
 ⟨some 22, .mv, [.t 3], none⟩,
 ⟨some 23, .bin .mul, [.t 21, .t 22], none⟩,
 ⟨some 24, .bin .add, [.t 19, .t 23], none⟩,
 ⟨some 8, .mv, [.t 24], none⟩] [1, 2, 3, 4, 9, 10, 11, 12, 13, 14, 15, 16, 17, 18, 19, 20, 21, 22, 23, 24])
 .ret)) }
/-- slices.Insert[[]int,int] -/
def F_slices_Insert_int_int : LF :=
 { nparams := 3, results := [], body := .skip, prim := some insP }
/-- impl.partsTaken -/
def F_impl_partsTaken : LF :=
 { nparams := 1, results := [.t 2], body :=
 (.seq
 (.region false [⟨some 2, .mv, [.c (.i 0)], none⟩] [2])
 (.seq
 (.seq
 (.region false [⟨some 3, .mv, [.t 0], none⟩] [0])
 (.block 0
 (.seq
 (.region false [⟨some 5, .bin .eql, [.t 3, .c (.i 0)], none⟩,
 ⟨some 4, .mv, [.t 5], none⟩] [5])
 (.cond (.t 4) [4]
 (.seq
 (.region false [⟨some 2, .mv, [.c (.i 0)], none⟩] [3])
 .ret)
 (.seq
 (.region false [⟨some 7, .bin .eql, [.t 3, .c (.i 1)], none⟩,
 ⟨some 6, .mv, [.t 7], none⟩] [3, 7])
 (.cond (.t 6) [6]
 (.seq
 (.region false [⟨some 2, .mv, [.c (.i 1)], none⟩] [])
 .ret)
 .skip))))))
 (.seq
 (.region false [⟨some 2, .mv, [.c (.i 2)], none⟩] [])
 .ret))) }
/-- impl.markOk -/
def F_impl_markOk : LF :=
 { nparams := 2, results := [.t 4], body :=
 (.seq
 (.region false [⟨some 3, .box 1552, [.t 1], none⟩,
 ⟨some 4, .mv, [.c (.b false)], none⟩] [1, 4])
 (.seq
 (.seq
 (.region false [⟨some 5, .fld 0 1 false, [.t 3], none⟩,
 ⟨some 6, .load 1 false, [.t 5], none⟩,
 ⟨some 7, .bin .eql, [.t 6, .c (.i 0)], none⟩] [5, 6])
 (.cond (.t 7) [7]
 (.seq
 (.region false [⟨some 8, .fld 1 1 false, [.t 3], none⟩,
 ⟨some 9, .load 1 false, [.t 8], none⟩,
 ⟨some 10, .mv, [.t 0], none⟩,
 ⟨some 11, .bin .sub, [.t 10, .c (.i 1)], none⟩,
 ⟨some 12, .call n_impl_isWithin 6144, [.t 9, .c (.i 0), .t 11], none⟩,
 ⟨some 4, .mv, [.t 12], none⟩] [0, 3, 8, 9, 10, 11, 12])
 .ret)
 .skip))
 (.seq
 (.region false [⟨some 13, .fld 0 1 false, [.t 3], none⟩,
 ⟨some 14, .load 1 false, [.t 13], none⟩,
 ⟨some 15, .call n_impl_isWithin 7680, [.t 14, .c (.i 1), .c (.i 3)], none⟩,
 ⟨some 16, .mv, [.t 15], none⟩,
 ⟨some 17, .fld 1 1 false, [.t 3], some (16, true)⟩,
 ⟨some 18, .load 1 false, [.t 17], some (16, true)⟩,
 ⟨some 19, .bin .eql, [.t 18, .c (.i 0)], some (16, true)⟩,
 ⟨some 20, .pick, [.t 16, .t 19, .c (.b false)], none⟩,
 ⟨some 4, .mv, [.t 20], none⟩] [0, 3, 13, 14, 15, 16, 17, 18, 19, 20])
 .ret))) }
/-- impl.point).isForced -/
def F_impl_point_isForced : LF :=
 { nparams := 1, results := [.t 2], body :=
 (.seq
 (.region false [⟨some 1, .box 544, [.t 0], none⟩,
 ⟨some 2, .mv, [.c (.b false)], none⟩] [0, 2])
 (.seq
 (.region false [⟨some 3, .fld 3 1 false, [.t 1], none⟩,
 ⟨some 4, .load 1 false, [.t 3], none⟩,
 ⟨some 5, .fld 2 1 false, [.t 1], none⟩,
 ⟨some 6, .load 1 false, [.t 5], none⟩,
 ⟨some 7, .call n_impl_valueAmong 3584, [.t 4, .t 6], none⟩,
 ⟨some 8, .bin .neq, [.t 7, .c (.i (-1))], none⟩,
 ⟨some 2, .mv, [.t 8], none⟩] [1, 3, 4, 5, 6, 7, 8])
 .ret)) }
/-- impl.point).canAsk -/
def F_impl_point_canAsk : LF :=
 { nparams := 2, results := [.t 4], body :=
 (.seq
 (.region false [⟨some 2, .box 1056, [.t 0], none⟩,
 ⟨some 4, .mv, [.c (.b false)], none⟩] [0, 4])
 (.seq
 (.region false [⟨some 5, .mv, [.t 1], none⟩,
 ⟨some 6, .fld 0 1 false, [.t 2], none⟩,
 ⟨some 7, .load 1 false, [.t 6], none⟩,
 ⟨some 8, .bin .sub, [.t 7, .c (.i 1)], none⟩,
 ⟨some 9, .call n_impl_isWithin 4608, [.t 5, .c (.i 0), .t 8], none⟩,
 ⟨some 10, .mv, [.t 9], none⟩,
 ⟨some 11, .fld 1 1 false, [.t 2], some (10, true)⟩,
 ⟨some 12, .load 1 false, [.t 11], some (10, true)⟩,
 ⟨some 13, .mv, [.t 1], some (10, true)⟩,
 ⟨some 14, .call n_impl_hasTest 7168, [.t 12, .t 13], some (10, true)⟩,
 ⟨some 15, .un .not, [.t 14], some (10, true)⟩,
 ⟨some 16, .pick, [.t 10, .t 15, .c (.b false)], none⟩,
 ⟨some 4, .mv, [.t 16], none⟩] [1, 2, 5, 6, 7, 8, 9, 10, 11, 12, 13, 14, 15, 16])
 .ret)) }
/-- impl.point).answered -/
def F_impl_point_answered : LF :=
 { nparams := 3, results := [.c 6 4 true], body :=
 (.seq
 (.region false [⟨some 3, .box 1568, [.t 0], none⟩,
 ⟨some 6, .alloc 3104 (.st [.i 0, .i 0, .w (0#32), .w (0#32)]), [], none⟩] [0])
 (.seq
 (.region true [⟨some 7, .fld 1 1 false, [.t 3], none⟩,
 ⟨some 8, .load 1 false, [.t 7], none⟩,
 ⟨some 9, .mv, [.t 1], none⟩,
 ⟨some 10, .bin .shl, [.c (.i 1), .t 9], none⟩,
 ⟨some 11, .bin .or, [.t 8, .t 10], none⟩,
 ⟨some 12, .fld 1 1 false, [.t 3], none⟩,
 ⟨none, .store 1, [.t 12, .t 11], none⟩] [7, 8, 9, 10, 11, 12])
 (.seq
 (.region true [⟨some 13, .fld 2 1 false, [.t 3], none⟩,
 ⟨some 14, .load 1 false, [.t 13], none⟩,
 ⟨some 15, .mv, [.t 1], none⟩,
 ⟨some 16, .mv, [.t 2], none⟩,
 ⟨some 17, .call n_impl_statesSaying 8704, [.t 15, .t 16], none⟩,
 ⟨some 18, .bin .and, [.t 14, .t 17], none⟩,
 ⟨some 19, .fld 2 1 false, [.t 3], none⟩,
 ⟨none, .store 1, [.t 19, .t 18], none⟩] [1, 2, 13, 14, 15, 16, 17, 18, 19])
 (.seq
 (.region false [⟨some 20, .load 4 true, [.t 3], none⟩,
 ⟨none, .store 4, [.t 6, .t 20], none⟩] [3, 20])
 .ret)))) }
/-- impl.averagesOf$1 -/
def F_impl_averagesOf_1 : LF :=
 { nparams := 5, results := [.t 9], body :=
 (.seq
 (.region false [⟨some 5, .box 2592, [.t 0], none⟩,
 ⟨some 9, .mv, [.c (.i 0)], none⟩] [0, 9])
 (.seq
 (.region true [⟨some 10, .load 1 false, [.t 4], none⟩,
 ⟨some 11, .mv, [.t 1], none⟩,
 ⟨some 12, .idxa 2, [.t 10, .t 11], none⟩,
 ⟨some 13, .load 2 true, [.t 12], none⟩,
 ⟨some 14, .fld 0 1 false, [.t 5], none⟩,
 ⟨some 15, .load 1 false, [.t 14], none⟩,
 ⟨some 16, .load 4 true, [.t 5], none⟩,
 ⟨some 17, .call n_impl_point_howManyAsked 8704, [.t 16], none⟩,
 ⟨some 18, .bin .sub, [.t 15, .t 17], none⟩,
 ⟨some 19, .mv, [.t 2], none⟩,
 ⟨some 20, .mv, [.t 3], none⟩,
 ⟨some 21, .call n_impl_averageAsking 10752, [.t 13, .t 18, .t 19, .t 20], none⟩,
 ⟨some 9, .mv, [.t 21], none⟩] [1, 2, 3, 4, 5, 10, 11, 12, 13, 14, 15, 16, 17, 18, 19, 20, 21])
 .ret)) }
/-- impl.point).howManyAsked -/
def F_impl_point_howManyAsked : LF :=
 { nparams := 1, results := [.t 2], body :=
 (.seq
 (.region false [⟨some 1, .box 544, [.t 0], none⟩,
 ⟨some 2, .mv, [.c (.i 0)], none⟩] [0, 2])
 (.seq
 (.region false [⟨some 3, .fld 1 1 false, [.t 1], none⟩,
 ⟨some 4, .load 1 false, [.t 3], none⟩,
 ⟨some 5, .call n_impl_sizeOf 2560, [.t 4], none⟩,
 ⟨some 2, .mv, [.t 5], none⟩] [1, 3, 4, 5])
 .ret)) }
/-- impl.hasState -/
def F_impl_hasState : LF :=
 { nparams := 2, results := [.t 4], body :=
 (.seq
 (.region false [⟨some 4, .mv, [.c (.b false)], none⟩] [4])
 (.seq
 (.region false [⟨some 5, .mv, [.t 0], none⟩,
 ⟨some 6, .mv, [.t 1], none⟩,
 ⟨some 7, .bin .shr, [.t 5, .t 6], none⟩,
 ⟨some 8, .bin .and, [.t 7, .c (.w (1#32))], none⟩,
 ⟨some 9, .bin .eql, [.t 8, .c (.w (1#32))], none⟩,
 ⟨some 4, .mv, [.t 9], none⟩] [0, 1, 5, 6, 7, 8, 9])
 .ret)) }
/-- impl.foldTerm[uint32] -/
def F_impl_foldTerm_uint32_L0 : LC :=
 (.seq
 (.region false [⟨some 13, .bin .lss, [.t 12, .t 11], none⟩] [])
 (.seq
 (.cond (.t 13) [13]
 .skip
 (.exit 0))
 (.seq
 (.block 1
 (.seq
 (.region false [⟨some 14, .idxa 2, [.t 10, .t 12], none⟩,
 ⟨some 15, .load 2 true, [.t 14], none⟩,
 ⟨some 7, .alloc 3600 (.st [.i 0, .i 0]), [], none⟩,
 ⟨none, .store 2, [.t 7, .t 15], none⟩] [14, 15])
 (.seq
 (.region false [⟨some 16, .mv, [.t 5], none⟩,
 ⟨some 17, .len, [.t 16], none⟩,
 ⟨some 18, .fld 0 1 false, [.t 7], none⟩,
 ⟨some 19, .load 1 false, [.t 18], none⟩,
 ⟨some 20, .call n_impl_partsTaken 10240, [.t 19], none⟩,
 ⟨some 21, .bin .sub, [.t 17, .t 20], none⟩,
 ⟨some 8, .mv, [.t 21], none⟩] [16, 17, 18, 19, 20, 21])
 (.seq
 (.region true [⟨some 22, .mv, [.t 1], none⟩,
 ⟨some 23, .load 2 true, [.t 7], none⟩,
 ⟨some 24, .mv, [.t 5], none⟩,
 ⟨some 25, .mv, [.t 8], none⟩,
 ⟨some 26, .slice true false 1, [.t 24, .t 25], none⟩,
 ⟨some 27, .calld 13824, [.t 22, .t 23, .t 26], none⟩,
 ⟨some 9, .mv, [.t 27], none⟩] [7, 22, 23, 24, 25, 26, 27])
 (.region false [⟨some 28, .mv, [.t 5], none⟩,
 ⟨some 29, .mv, [.t 8], none⟩,
 ⟨some 30, .slice false true 1, [.t 28, .t 29], none⟩,
 ⟨some 31, .mv, [.t 9], none⟩,
 ⟨some 32, .bslice 16392 1 1 (.w (0#32)) [0], [.t 31], none⟩,
 ⟨some 33, .app 16904 1, [.t 30, .t 32], none⟩,
 ⟨some 5, .mv, [.t 33], none⟩] [8, 9, 28, 29, 30, 31, 32, 33])))))
 (.region false [⟨some 34, .bin .add, [.t 12, .c (.i 1)], none⟩,
 ⟨some 12, .mv, [.t 34], none⟩] [34]))))
def F_impl_foldTerm_uint32_W0 : LC := .loop F_impl_foldTerm_uint32_L0
def F_impl_foldTerm_uint32 : LF :=
 { nparams := 2, results := [.t 4], body :=
 (.seq
 (.region false [⟨some 4, .mv, [.c (.w (0#32))], none⟩] [4])
 (.seq
 (.region false [⟨some 5, .newnil 2568, [], none⟩] [])
 (.seq
 (.seq
 (.region false [⟨some 10, .mv, [.t 0], none⟩,
 ⟨some 11, .len, [.t 10], none⟩,
 ⟨some 12, .mv, [.c (.i 0)], none⟩] [0])
 (.block 0
 F_impl_foldTerm_uint32_W0))
 (.seq
 (.region false [⟨some 35, .mv, [.t 5], none⟩,
 ⟨some 36, .idxa 1, [.t 35, .c (.i 0)], none⟩,
 ⟨some 37, .load 1 false, [.t 36], none⟩,
 ⟨some 4, .mv, [.t 37], none⟩] [1, 5, 10, 11, 12, 35, 36, 37])
 .ret)))) }
/-- impl.statesOfPart -/
def F_impl_statesOfPart : LF :=
 { gl := [2], nparams := 2, results := [.t 4], body :=
 (.seq
 (.region false [⟨some 2, .box 1040, [.t 0], none⟩,
 ⟨some 4, .mv, [.c (.w (0#32))], none⟩] [0, 4])
 (.seq
 (.seq
 (.region false [⟨some 5, .fld 0 1 false, [.t 2], none⟩,
 ⟨some 6, .load 1 false, [.t 5], none⟩] [5])
 (.block 0
 (.seq
 (.region false [⟨some 8, .bin .eql, [.t 6, .c (.i 0)], none⟩,
 ⟨some 7, .mv, [.t 8], none⟩] [8])
 (.cond (.t 7) [7]
 (.seq
 (.region false [⟨some 9, .fld 1 1 false, [.t 2], none⟩,
 ⟨some 10, .load 1 false, [.t 9], none⟩,
 ⟨some 11, .idxp 5 1, [.t 1048578, .t 10], none⟩,
 ⟨some 12, .load 1 false, [.t 11], none⟩,
 ⟨some 4, .mv, [.t 12], none⟩] [1, 2, 6, 9, 10, 11, 12])
 .ret)
 (.seq
 (.region false [⟨some 14, .bin .eql, [.t 6, .c (.i 1)], none⟩,
 ⟨some 13, .mv, [.t 14], none⟩] [2, 14])
 (.cond (.t 13) [13]
 (.seq
 (.region false [⟨some 15, .mv, [.t 1], none⟩,
 ⟨some 16, .idxa 1, [.t 15, .c (.i 0)], none⟩,
 ⟨some 17, .load 1 false, [.t 16], none⟩,
 ⟨some 18, .un .xor, [.t 17], none⟩,
 ⟨some 4, .mv, [.t 18], none⟩] [1, 6, 15, 16, 17, 18])
 .ret)
 (.seq
 (.region false [⟨some 20, .bin .eql, [.t 6, .c (.i 2)], none⟩,
 ⟨some 19, .mv, [.t 20], none⟩] [6, 20])
 (.cond (.t 19) [19]
 (.seq
 (.region true [⟨some 21, .mv, [.t 1], none⟩,
 ⟨some 22, .idxa 1, [.t 21, .c (.i 0)], none⟩,
 ⟨some 23, .load 1 false, [.t 22], none⟩,
 ⟨some 24, .mv, [.t 1], none⟩,
 ⟨some 25, .idxa 1, [.t 24, .c (.i 1)], none⟩,
 ⟨some 26, .load 1 false, [.t 25], none⟩,
 ⟨some 27, .bin .and, [.t 23, .t 26], none⟩,
 ⟨some 4, .mv, [.t 27], none⟩] [1, 21, 22, 23, 24, 25, 26, 27])
 .ret)
 .skip))))))))
 (.seq
 (.region true [⟨some 28, .mv, [.t 1], none⟩,
 ⟨some 29, .idxa 1, [.t 28, .c (.i 0)], none⟩,
 ⟨some 30, .load 1 false, [.t 29], none⟩,
 ⟨some 31, .mv, [.t 1], none⟩,
 ⟨some 32, .idxa 1, [.t 31, .c (.i 1)], none⟩,
 ⟨some 33, .load 1 false, [.t 32], none⟩,
 ⟨some 34, .bin .or, [.t 30, .t 33], none⟩,
 ⟨some 4, .mv, [.t 34], none⟩] [1, 28, 29, 30, 31, 32, 33, 34])
 .ret))) }
/-- impl.outcomeIn -/
def F_impl_outcomeIn : LF :=
 { nparams := 2, results := [.t 4], body :=
 (.seq
 (.region false [⟨some 4, .mv, [.c (.i 0)], none⟩] [4])
 (.seq
 (.region false [⟨some 5, .mv, [.t 0], none⟩,
 ⟨some 6, .mv, [.t 1], none⟩,
 ⟨some 7, .bin .shr, [.t 5, .t 6], none⟩,
 ⟨some 8, .bin .and, [.t 7, .c (.i 1)], none⟩,
 ⟨some 4, .mv, [.t 8], none⟩] [0, 1, 5, 6, 7, 8])
 .ret)) }
/-- impl.valueAmong -/
def F_impl_valueAmong : LF :=
 { nparams := 2, results := [.t 4], body :=
 (.seq
 (.region false [⟨some 4, .mv, [.c (.i 0)], none⟩] [4])
 (.seq
 (.seq
 (.region false [⟨some 5, .mv, [.t 0], none⟩,
 ⟨some 6, .mv, [.t 1], none⟩,
 ⟨some 7, .bin .and, [.t 5, .t 6], none⟩] [0, 5, 6])
 (.block 0
 (.seq
 (.region false [⟨some 9, .mv, [.t 1], none⟩,
 ⟨some 10, .bin .eql, [.t 7, .t 9], none⟩,
 ⟨some 8, .mv, [.t 10], none⟩] [1, 9, 10])
 (.cond (.t 8) [8]
 (.seq
 (.region false [⟨some 4, .mv, [.c (.i 1)], none⟩] [7])
 .ret)
 (.seq
 (.region false [⟨some 12, .bin .eql, [.t 7, .c (.w (0#32))], none⟩,
 ⟨some 11, .mv, [.t 12], none⟩] [7, 12])
 (.cond (.t 11) [11]
 (.seq
 (.region false [⟨some 4, .mv, [.c (.i 0)], none⟩] [])
 .ret)
 .skip))))))
 (.seq
 (.region false [⟨some 4, .mv, [.c (.i (-1))], none⟩] [])
 .ret))) }
/-- spec.l20Term -/
def F_spec_l20Term_L0 : LC :=
 (.seq
 (.seq
 (.region false [⟨some 23, .mv, [.t 9], none⟩,
 ⟨some 24, .mv, [.t 1], none⟩,
 ⟨some 25, .bin .lss, [.t 23, .t 24], none⟩,
 ⟨some 26, .mv, [.t 25], none⟩,
 ⟨some 27, .mv, [.t 8], some (26, true)⟩,
 ⟨some 28, .pick, [.t 26, .t 27, .c (.b false)], none⟩] [23, 24, 25, 26, 27])
 (.cond (.t 28) [28]
 .skip
 (.exit 0)))
 (.seq
 (.block 1
 (.seq
 (.region false [⟨some 31, .mv, [.t 0], none⟩,
 ⟨some 32, .call n_spec_l20Rd_pick 16384, [.t 31, .c (.i 4)], none⟩,
 ⟨some 33, .bin .gtr, [.t 32, .c (.i 0)], none⟩,
 ⟨some 34, .mv, [.t 33], none⟩,
 ⟨some 35, .mv, [.t 9], some (34, false)⟩,
 ⟨some 36, .bin .eql, [.t 35, .c (.i 0)], some (34, false)⟩,
 ⟨some 37, .pick, [.t 34, .c (.b true), .t 36], none⟩] [31, 32, 33, 34, 35, 36])
 (.cond (.t 37) [37]
 (.region false [⟨some 38, .mv, [.t 7], none⟩,
 ⟨some 39, .mv, [.t 9], none⟩,
 ⟨some 40, .build [.i 0, .i 0] [(0, 1), (1, 1)], [.c (.i 0), .t 39], none⟩,
 ⟨some 41, .bslice 21008 1 2 (.st [.i 0, .i 0]) [0], [.t 40], none⟩,
 ⟨some 42, .bslice 21512 1 1 (.sl 1 []) [0], [.t 41], none⟩,
 ⟨some 43, .app 22024 1, [.t 38, .t 42], none⟩,
 ⟨some 7, .mv, [.t 43], none⟩] [38, 39, 40, 41, 42, 43])
 .skip)))
 (.region false [⟨some 29, .mv, [.t 9], none⟩,
 ⟨some 30, .bin .add, [.t 29, .c (.i 1)], none⟩,
 ⟨some 9, .mv, [.t 30], none⟩] [29, 30])))
def F_spec_l20Term_W0 : LC := .loop F_spec_l20Term_L0
def F_spec_l20Term_L1 : LC :=
 (.seq
 (.seq
 (.region false [⟨some 47, .mv, [.t 10], none⟩,
 ⟨some 48, .bin .gtr, [.t 47, .c (.i 0)], none⟩,
 ⟨some 49, .mv, [.t 48], none⟩,
 ⟨some 50, .mv, [.t 8], some (49, true)⟩,
 ⟨some 51, .un .not, [.t 50], some (49, true)⟩,
 ⟨some 52, .pick, [.t 49, .t 51, .c (.b false)], none⟩] [47, 48, 49, 50, 51])
 (.cond (.t 52) [52]
 .skip
 (.exit 2)))
 (.seq
 (.block 3
 (.region false [⟨some 55, .mv, [.t 7], none⟩,
 ⟨some 56, .mv, [.t 0], none⟩,
 ⟨some 57, .mv, [.t 1], none⟩,
 ⟨some 58, .call n_spec_l20Rd_pick 29696, [.t 56, .t 57], none⟩,
 ⟨some 59, .build [.i 0, .i 0] [(0, 1), (1, 1)], [.c (.i 0), .t 58], none⟩,
 ⟨some 60, .bslice 30736 1 2 (.st [.i 0, .i 0]) [0], [.t 59], none⟩,
 ⟨some 61, .bslice 31240 1 1 (.sl 1 []) [0], [.t 60], none⟩,
 ⟨some 62, .app 31752 1, [.t 55, .t 61], none⟩,
 ⟨some 7, .mv, [.t 62], none⟩] [55, 56, 57, 58, 59, 60, 61, 62]))
 (.region false [⟨some 53, .mv, [.t 10], none⟩,
 ⟨some 54, .bin .sub, [.t 53, .c (.i 1)], none⟩,
 ⟨some 10, .mv, [.t 54], none⟩] [53, 54])))
def F_spec_l20Term_W1 : LC := .loop F_spec_l20Term_L1
def F_spec_l20Term_L2 : LC :=
 (.ghost (.rename 7 9736)
 (.seq
 (.seq
 (.region false [⟨some 63, .mv, [.t 7], none⟩,
 ⟨some 64, .len, [.t 63], none⟩,
 ⟨some 65, .bin .gtr, [.t 64, .c (.i 1)], none⟩] [63, 64])
 (.cond (.t 65) [65]
 .skip
 (.exit 4)))
 (.block 5
 (.seq
 (.region false [⟨some 66, .mv, [.t 0], none⟩,
 ⟨some 67, .mv, [.t 7], none⟩,
 ⟨some 68, .len, [.t 67], none⟩,
 ⟨some 69, .bin .sub, [.t 68, .c (.i 1)], none⟩,
 ⟨some 70, .call n_spec_l20Rd_pick 35840, [.t 66, .t 69], none⟩,
 ⟨some 12, .mv, [.t 70], none⟩] [66, 67, 68, 69, 70])
 (.seq
 (.seq
 (.region false [⟨some 71, .mv, [.t 11], none⟩,
 ⟨some 72, .bin .gtr, [.t 71, .c (.i 0)], none⟩,
 ⟨some 73, .mv, [.t 72], none⟩,
 ⟨some 74, .mv, [.t 0], some (73, true)⟩,
 ⟨some 75, .call n_spec_l20Rd_pick 38400, [.t 74, .c (.i 4)], some (73, true)⟩,
 ⟨some 76, .bin .eql, [.t 75, .c (.i 0)], some (73, true)⟩,
 ⟨some 77, .pick, [.t 73, .t 76, .c (.b false)], none⟩] [71, 72, 73, 74, 75, 76])
 (.cond (.t 77) [77]
 (.seq
 (.region false [⟨some 78, .mv, [.t 11], none⟩,
 ⟨some 79, .bin .sub, [.t 78, .c (.i 1)], none⟩,
 ⟨some 11, .mv, [.t 79], none⟩] [78, 79])
 (.seq
 (.region false [⟨some 80, .mv, [.t 7], none⟩,
 ⟨some 81, .mv, [.t 12], none⟩,
 ⟨some 82, .bslice 42000 0 2 (.st [.i 0, .i 0]) [], [], none⟩,
 ⟨some 83, .mv, [.t 7], none⟩,
 ⟨some 84, .mv, [.t 12], none⟩,
 ⟨some 85, .idxa 1, [.t 83, .t 84], none⟩,
 ⟨some 86, .load 1 false, [.t 85], none⟩,
 ⟨some 87, .app 44560 2, [.t 82, .t 86], none⟩,
 ⟨some 88, .build [.i 0, .i 0] [(0, 1)], [.c (.i 1)], none⟩,
 ⟨some 89, .bslice 45584 1 2 (.st [.i 0, .i 0]) [0], [.t 88], none⟩,
 ⟨some 90, .app 46096 2, [.t 87, .t 89], none⟩,
 ⟨some 91, .idxa 1, [.t 80, .t 81], none⟩,
 ⟨none, .store 1, [.t 91, .t 90], none⟩] [12, 80, 81, 82, 83, 84, 85, 86, 87, 88, 89, 90, 91])
 (.exit 5)))
 .skip))
 (.seq
 (.region true [⟨some 92, .bslice 47120 0 2 (.st [.i 0, .i 0]) [], [], none⟩,
 ⟨some 93, .mv, [.t 7], none⟩,
 ⟨some 94, .mv, [.t 12], none⟩,
 ⟨some 95, .idxa 1, [.t 93, .t 94], none⟩,
 ⟨some 96, .load 1 false, [.t 95], none⟩,
 ⟨some 97, .app 49680 2, [.t 92, .t 96], none⟩,
 ⟨some 98, .mv, [.t 7], none⟩,
 ⟨some 99, .mv, [.t 12], none⟩,
 ⟨some 100, .bin .add, [.t 99, .c (.i 1)], none⟩,
 ⟨some 101, .idxa 1, [.t 98, .t 100], none⟩,
 ⟨some 102, .load 1 false, [.t 101], none⟩,
 ⟨some 103, .app 52752 2, [.t 97, .t 102], none⟩,
 ⟨some 104, .mv, [.t 0], none⟩,
 ⟨some 105, .call n_spec_l20Rd_pick 53760, [.t 104, .c (.i 2)], none⟩,
 ⟨some 106, .bin .add, [.c (.i 2), .t 105], none⟩,
 ⟨some 107, .build [.i 0, .i 0] [(0, 1)], [.t 106], none⟩,
 ⟨some 108, .bslice 55312 1 2 (.st [.i 0, .i 0]) [0], [.t 107], none⟩,
 ⟨some 109, .app 55824 2, [.t 103, .t 108], none⟩,
 ⟨some 13, .mv, [.t 109], none⟩] [92, 93, 94, 95, 96, 97, 98, 99, 100, 101, 102, 103, 104, 105, 106, 107, 108, 109])
 (.seq
 (.region false [⟨some 110, .bslice 56328 0 1 (.sl 1 []) [], [], none⟩,
 ⟨some 111, .mv, [.t 7], none⟩,
 ⟨some 112, .mv, [.t 12], none⟩,
 ⟨some 113, .slice false true 1, [.t 111, .t 112], none⟩,
 ⟨some 114, .app 58376 1, [.t 110, .t 113], none⟩,
 ⟨some 14, .mv, [.t 114], none⟩] [110, 111, 112, 113, 114])
 (.seq
 (.region false [⟨some 115, .mv, [.t 14], none⟩,
 ⟨some 116, .mv, [.t 13], none⟩,
 ⟨some 117, .bslice 59912 1 1 (.sl 1 []) [0], [.t 116], none⟩,
 ⟨some 118, .app 60424 1, [.t 115, .t 117], none⟩,
 ⟨some 14, .mv, [.t 118], none⟩] [13, 115, 116, 117, 118])
 (.region false [⟨some 119, .mv, [.t 14], none⟩,
 ⟨some 120, .mv, [.t 7], none⟩,
 ⟨some 121, .mv, [.t 12], none⟩,
 ⟨some 122, .bin .add, [.t 121, .c (.i 2)], none⟩,
 ⟨some 123, .slice true false 1, [.t 120, .t 122], none⟩,
 ⟨some 124, .app 63496 1, [.t 119, .t 123], none⟩,
 ⟨some 7, .mv, [.t 124], none⟩] [12, 14, 119, 120, 121, 122, 123, 124])))))))))
def F_spec_l20Term_W2 : LC := .loop F_spec_l20Term_L2
def F_spec_l20Term : LF :=
 { nparams := 3, results := [.t 6], body :=
 (.seq
 (.region false [⟨some 6, .newnil 3088, [], none⟩] [6])
 (.seq
 (.region false [⟨some 16, .mv, [.t 1], none⟩,
 ⟨some 17, .mm true, [.t 16, .c (.i 1)], none⟩,
 ⟨some 18, .mm false, [.t 17, .c (.i 5)], none⟩,
 ⟨some 1, .mv, [.t 18], none⟩] [16, 17, 18])
 (.seq
 (.region false [⟨some 19, .bslice 9736 0 1 (.sl 1 []) [], [], none⟩,
 ⟨some 7, .mv, [.t 19], none⟩] [19])
 (.seq
 (.region false [⟨some 20, .mv, [.t 0], none⟩,
 ⟨some 21, .call n_spec_l20Rd_pick 10752, [.t 20, .c (.i 2)], none⟩,
 ⟨some 22, .bin .eql, [.t 21, .c (.i 0)], none⟩,
 ⟨some 8, .mv, [.t 22], none⟩] [20, 21, 22])
 (.seq
 (.seq
 (.region false [⟨some 9, .mv, [.c (.i 0)], none⟩] [])
 (.block 0
 F_spec_l20Term_W0))
 (.seq
 (.seq
 (.region false [⟨some 44, .mv, [.t 0], none⟩,
 ⟨some 45, .call n_spec_l20Rd_pick 23040, [.t 44, .c (.i 5)], none⟩,
 ⟨some 46, .bin .add, [.c (.i 1), .t 45], none⟩,
 ⟨some 10, .mv, [.t 46], none⟩] [9, 44, 45, 46])
 (.block 2
 F_spec_l20Term_W1))
 (.seq
 (.region false [⟨some 11, .mv, [.c (.i 2)], none⟩] [1, 8, 10])
 (.seq
 (.block 4
 F_spec_l20Term_W2)
 (.seq
 (.region false [⟨some 125, .mv, [.t 7], none⟩,
 ⟨some 126, .idxa 1, [.t 125, .c (.i 0)], none⟩,
 ⟨some 127, .load 1 false, [.t 126], none⟩,
 ⟨some 15, .mv, [.t 127], none⟩] [7, 11, 125, 126, 127])
 (.ghost (.promote 15 7696)
 (.seq
 (.seq
 (.region false [⟨some 128, .mv, [.t 0], none⟩,
 ⟨some 129, .mv, [.t 2], none⟩,
 ⟨some 130, .call n_spec_l20Rd_odd 66560, [.t 128, .t 129], none⟩] [2, 128, 129])
 (.cond (.t 130) [130]
 (.seq
 (.region false [⟨some 131, .mv, [.t 0], none⟩,
 ⟨some 132, .call n_spec_l20Rd_pick 67584, [.t 131, .c (.i 3)], none⟩] [131])
 (.block 6
 (.seq
 (.region false [⟨some 137, .bin .eql, [.t 132, .c (.i 0)], none⟩,
 ⟨some 136, .mv, [.t 137], none⟩] [137])
 (.cond (.t 136) [136]
 (.seq
 (.region false [⟨some 138, .bslice 70672 0 2 (.st [.i 0, .i 0]) [], [], none⟩,
 ⟨some 6, .mv, [.t 138], none⟩] [15, 132, 138])
 .ret)
 (.seq
 (.region false [⟨some 140, .bin .eql, [.t 132, .c (.i 1)], none⟩,
 ⟨some 139, .mv, [.t 140], none⟩] [132, 140])
 (.cond (.t 139) [139]
 (.seq
 (.region false [⟨some 141, .mv, [.t 15], none⟩,
 ⟨some 142, .build [.i 0, .i 0] [(0, 1)], [.c (.i 2)], none⟩,
 ⟨some 143, .bslice 73232 1 2 (.st [.i 0, .i 0]) [0], [.t 142], none⟩,
 ⟨some 144, .app 73744 2, [.t 141, .t 143], none⟩,
 ⟨some 6, .mv, [.t 144], none⟩] [15, 141, 142, 143, 144])
 .ret)
 (.region false [⟨some 133, .mv, [.t 15], none⟩,
 ⟨some 134, .build [.i 0, .i 0] [(0, 1), (1, 1)], [.c (.i 0), .c (.i 5)], none⟩,
 ⟨some 135, .idxa 2, [.t 133, .c (.i 0)], none⟩,
 ⟨none, .store 2, [.t 135, .t 134], none⟩] [133, 134, 135])))))))
 .skip))
 (.seq
 (.region false [⟨some 145, .mv, [.t 15], none⟩,
 ⟨some 6, .mv, [.t 145], none⟩] [15, 145])
 .ret)))))))))))) }
/-- spec.l3Forced -/
def F_spec_l3Forced_L0 : LC :=
 (.seq
 (.seq
 (.region false [⟨some 11, .mv, [.t 9], none⟩,
 ⟨some 12, .mv, [.t 0], none⟩,
 ⟨some 13, .bin .shl, [.c (.i 1), .t 12], none⟩,
 ⟨some 14, .bin .lss, [.t 11, .t 13], none⟩] [11, 12, 13])
 (.cond (.t 14) [14]
 .skip
 (.exit 0)))
 (.seq
 (.block 1
 (.seq
 (.seq
 (.region false [⟨some 17, .mv, [.t 2], none⟩,
 ⟨some 18, .mv, [.t 9], none⟩,
 ⟨some 19, .call n_spec_l1Agrees 9728, [.t 17, .t 18], none⟩,
 ⟨some 20, .un .not, [.t 19], none⟩] [17, 18, 19])
 (.cond (.t 20) [20]
 (.exit 1)
 .skip))
 (.seq
 (.region false [⟨some 21, .mv, [.t 1], none⟩,
 ⟨some 22, .mv, [.t 9], none⟩,
 ⟨some 23, .bin .shr, [.t 21, .t 22], none⟩,
 ⟨some 24, .bin .rem, [.t 23, .c (.i 2)], none⟩,
 ⟨some 10, .mv, [.t 24], none⟩] [21, 22, 23, 24])
 (.seq
 (.seq
 (.region false [⟨some 25, .mv, [.t 8], none⟩,
 ⟨some 26, .un .not, [.t 25], none⟩,
 ⟨some 27, .mv, [.t 26], none⟩,
 ⟨some 28, .mv, [.t 10], some (27, true)⟩,
 ⟨some 29, .mv, [.t 7], some (27, true)⟩,
 ⟨some 30, .bin .neq, [.t 28, .t 29], some (27, true)⟩,
 ⟨some 31, .pick, [.t 27, .t 30, .c (.b false)], none⟩] [7, 8, 25, 26, 27, 28, 29, 30])
 (.cond (.t 31) [31]
 (.seq
 (.region false [⟨some 6, .mv, [.c (.i (-1))], none⟩] [0, 1, 2, 9, 10])
 .ret)
 .skip))
 (.seq
 (.region false [⟨some 32, .mv, [.t 10], none⟩,
 ⟨some 7, .mv, [.t 32], none⟩] [10, 32])
 (.region false [⟨some 8, .mv, [.c (.b false)], none⟩] []))))))
 (.region false [⟨some 15, .mv, [.t 9], none⟩,
 ⟨some 16, .bin .add, [.t 15, .c (.i 1)], none⟩,
 ⟨some 9, .mv, [.t 16], none⟩] [15, 16])))
def F_spec_l3Forced_W0 : LC := .loop F_spec_l3Forced_L0
def F_spec_l3Forced : LF :=
 { nparams := 3, results := [.t 6], body :=
 (.seq
 (.region false [⟨some 6, .mv, [.c (.i 0)], none⟩] [6])
 (.seq
 (.region false [⟨some 7, .mv, [.c (.i (-1))], none⟩] [])
 (.seq
 (.region false [⟨some 8, .mv, [.c (.b true)], none⟩] [])
 (.seq
 (.seq
 (.region false [⟨some 9, .mv, [.c (.i 0)], none⟩] [])
 (.block 0
 F_spec_l3Forced_W0))
 (.seq
 (.region false [⟨some 33, .mv, [.t 7], none⟩,
 ⟨some 6, .mv, [.t 33], none⟩] [0, 1, 2, 7, 8, 9, 33])
 .ret))))) }
/-- spec.l3Value -/
def F_spec_l3Value : LF :=
 { nparams := 2, results := [.t 4], body :=
 (.seq
 (.region false [⟨some 4, .mv, [.c (.i 0)], none⟩] [4])
 (.seq
 (.region false [⟨some 9, .mv, [.t 0], none⟩,
 ⟨some 10, .len, [.t 9], none⟩,
 ⟨some 11, .bin .sub, [.t 10, .c (.i 1)], none⟩,
 ⟨some 5, .mv, [.t 11], none⟩] [9, 10, 11])
 (.seq
 (.seq
 (.region false [⟨some 12, .mv, [.t 0], none⟩,
 ⟨some 13, .mv, [.t 5], none⟩,
 ⟨some 14, .idxa 2, [.t 12, .t 13], none⟩,
 ⟨some 15, .fld 0 1 false, [.t 14], none⟩,
 ⟨some 16, .load 1 false, [.t 15], none⟩] [12, 13, 14, 15])
 (.block 0
 (.seq
 (.region false [⟨some 18, .bin .eql, [.t 16, .c (.i 0)], none⟩,
 ⟨some 17, .mv, [.t 18], none⟩] [18])
 (.cond (.t 17) [17]
 (.seq
 (.region false [⟨some 19, .mv, [.t 1], none⟩,
 ⟨some 20, .mv, [.t 0], none⟩,
 ⟨some 21, .mv, [.t 5], none⟩,
 ⟨some 22, .idxa 2, [.t 20, .t 21], none⟩,
 ⟨some 23, .fld 1 1 false, [.t 22], none⟩,
 ⟨some 24, .load 1 false, [.t 23], none⟩,
 ⟨some 25, .bin .shr, [.t 19, .t 24], none⟩,
 ⟨some 26, .bin .rem, [.t 25, .c (.i 2)], none⟩,
 ⟨some 4, .mv, [.t 26], none⟩] [0, 1, 5, 16, 19, 20, 21, 22, 23, 24, 25, 26])
 .ret)
 (.seq
 (.region false [⟨some 28, .bin .eql, [.t 16, .c (.i 1)], none⟩,
 ⟨some 27, .mv, [.t 28], none⟩] [16, 28])
 (.cond (.t 27) [27]
 (.seq
 (.region false [⟨some 29, .mv, [.t 0], none⟩,
 ⟨some 30, .mv, [.t 5], none⟩,
 ⟨some 31, .slice false true 2, [.t 29, .t 30], none⟩,
 ⟨some 32, .mv, [.t 1], none⟩,
 ⟨some 33, .call n_spec_l3Value 16896, [.t 31, .t 32], none⟩,
 ⟨some 34, .bin .sub, [.c (.i 1), .t 33], none⟩,
 ⟨some 4, .mv, [.t 34], none⟩] [0, 1, 5, 29, 30, 31, 32, 33, 34])
 .ret)
 .skip))))))
 (.seq
 (.region false [⟨some 35, .mv, [.t 0], none⟩,
 ⟨some 36, .mv, [.t 5], none⟩,
 ⟨some 37, .bin .sub, [.t 36, .c (.i 1)], none⟩,
 ⟨some 38, .call n_spec_l2Starts 19456, [.t 35, .t 37], none⟩,
 ⟨some 6, .mv, [.t 38], none⟩] [35, 36, 37, 38])
 (.seq
 (.region false [⟨some 39, .mv, [.t 0], none⟩,
 ⟨some 40, .mv, [.t 6], none⟩,
 ⟨some 41, .slice false true 2, [.t 39, .t 40], none⟩,
 ⟨some 42, .mv, [.t 1], none⟩,
 ⟨some 43, .call n_spec_l3Value 22016, [.t 41, .t 42], none⟩,
 ⟨some 7, .mv, [.t 43], none⟩] [39, 40, 41, 42, 43])
 (.seq
 (.region false [⟨some 44, .mv, [.t 0], none⟩,
 ⟨some 45, .mv, [.t 6], none⟩,
 ⟨some 46, .mv, [.t 5], none⟩,
 ⟨some 47, .slice true true 2, [.t 44, .t 45, .t 46], none⟩,
 ⟨some 48, .mv, [.t 1], none⟩,
 ⟨some 49, .call n_spec_l3Value 25088, [.t 47, .t 48], none⟩,
 ⟨some 8, .mv, [.t 49], none⟩] [1, 6, 44, 45, 46, 47, 48, 49])
 (.seq
 (.seq
 (.region false [⟨some 50, .mv, [.t 0], none⟩,
 ⟨some 51, .mv, [.t 5], none⟩,
 ⟨some 52, .idxa 2, [.t 50, .t 51], none⟩,
 ⟨some 53, .fld 0 1 false, [.t 52], none⟩,
 ⟨some 54, .load 1 false, [.t 53], none⟩,
 ⟨some 55, .bin .eql, [.t 54, .c (.i 3)], none⟩] [0, 5, 50, 51, 52, 53, 54])
 (.cond (.t 55) [55]
 (.seq
 (.region false [⟨some 56, .mv, [.t 7], none⟩,
 ⟨some 57, .mv, [.t 8], none⟩,
 ⟨some 58, .mm true, [.t 56, .t 57], none⟩,
 ⟨some 4, .mv, [.t 58], none⟩] [7, 8, 56, 57, 58])
 .ret)
 .skip))
 (.seq
 (.region false [⟨some 59, .mv, [.t 7], none⟩,
 ⟨some 60, .mv, [.t 8], none⟩,
 ⟨some 61, .mm false, [.t 59, .t 60], none⟩,
 ⟨some 4, .mv, [.t 61], none⟩] [7, 8, 59, 60, 61])
 .ret)))))))) }
/-- impl.openStates -/
def F_impl_openStates_L0 : LC :=
 (.seq
 (.region false [⟨some 15, .bin .lss, [.t 14, .t 13], none⟩] [])
 (.seq
 (.cond (.t 15) [15]
 .skip
 (.exit 0))
 (.seq
 (.block 1
 (.seq
 (.region false [⟨some 16, .mv, [.t 14], none⟩,
 ⟨some 9, .mv, [.t 16], none⟩] [16])
 (.seq
 (.region false [⟨some 17, .mv, [.t 2], none⟩,
 ⟨some 18, .mv, [.t 9], none⟩,
 ⟨some 19, .call n_impl_hasTest 9728, [.t 17, .t 18], none⟩,
 ⟨some 20, .un .not, [.t 19], none⟩] [17, 18, 19])
 (.cond (.t 20) [20]
 (.seq
 (.region false [⟨some 21, .mv, [.t 7], none⟩,
 ⟨some 22, .mv, [.t 7], none⟩,
 ⟨some 23, .mv, [.t 9], none⟩,
 ⟨some 24, .call n_impl_turnedStates 12288, [.t 22, .t 23], none⟩,
 ⟨some 25, .bin .or, [.t 21, .t 24], none⟩,
 ⟨some 7, .mv, [.t 25], none⟩] [21, 22, 23, 24, 25])
 (.region false [⟨some 26, .mv, [.t 8], none⟩,
 ⟨some 27, .mv, [.t 8], none⟩,
 ⟨some 28, .mv, [.t 9], none⟩,
 ⟨some 29, .call n_impl_turnedStates 14848, [.t 27, .t 28], none⟩,
 ⟨some 30, .bin .or, [.t 26, .t 29], none⟩,
 ⟨some 8, .mv, [.t 30], none⟩] [9, 26, 27, 28, 29, 30]))
 .skip))))
 (.region false [⟨some 31, .bin .add, [.t 14, .c (.i 1)], none⟩,
 ⟨some 14, .mv, [.t 31], none⟩] [9, 31]))))
def F_impl_openStates_W0 : LC := .loop F_impl_openStates_L0
def F_impl_openStates : LF :=
 { nparams := 3, results := [.t 6], body :=
 (.seq
 (.region false [⟨some 6, .mv, [.c (.w (0#32))], none⟩] [6])
 (.seq
 (.region false [⟨some 10, .mv, [.t 1], none⟩,
 ⟨some 11, .mv, [.t 1], none⟩,
 ⟨some 12, .un .xor, [.t 11], none⟩,
 ⟨some 7, .mv, [.t 10], none⟩,
 ⟨some 8, .mv, [.t 12], none⟩] [1, 10, 11, 12])
 (.seq
 (.seq
 (.region false [⟨some 13, .mv, [.t 0], none⟩,
 ⟨some 14, .mv, [.c (.i 0)], none⟩] [0])
 (.block 0
 F_impl_openStates_W0))
 (.seq
 (.region false [⟨some 32, .mv, [.t 7], none⟩,
 ⟨some 33, .mv, [.t 8], none⟩,
 ⟨some 34, .bin .and, [.t 32, .t 33], none⟩,
 ⟨some 6, .mv, [.t 34], none⟩] [2, 7, 8, 13, 14, 32, 33, 34])
 .ret)))) }
/-- bits.OnesCount64 -/
def F_math_bits_OnesCount64 : LF :=
 { nparams := 1, results := [.t 2], body :=
 (.seq
 (.region false [⟨some 2, .mv, [.c (.i 0)], none⟩] [2])
 (.seq
 (.region false [⟨some 3, .mv, [.t 0], none⟩,
 ⟨some 4, .bin .shr, [.t 3, .c (.q 1)], none⟩,
 ⟨some 5, .bin .and, [.t 4, .c (.q 6148914691236517205)], none⟩,
 ⟨some 6, .mv, [.t 0], none⟩,
 ⟨some 7, .bin .and, [.t 6, .c (.q 6148914691236517205)], none⟩,
 ⟨some 8, .bin .add, [.t 5, .t 7], none⟩,
 ⟨some 0, .mv, [.t 8], none⟩] [3, 4, 5, 6, 7, 8])
 (.seq
 (.region false [⟨some 9, .mv, [.t 0], none⟩,
 ⟨some 10, .bin .shr, [.t 9, .c (.q 2)], none⟩,
 ⟨some 11, .bin .and, [.t 10, .c (.q 3689348814741910323)], none⟩,
 ⟨some 12, .mv, [.t 0], none⟩,
 ⟨some 13, .bin .and, [.t 12, .c (.q 3689348814741910323)], none⟩,
 ⟨some 14, .bin .add, [.t 11, .t 13], none⟩,
 ⟨some 0, .mv, [.t 14], none⟩] [9, 10, 11, 12, 13, 14])
 (.seq
 (.region false [⟨some 15, .mv, [.t 0], none⟩,
 ⟨some 16, .bin .shr, [.t 15, .c (.q 4)], none⟩,
 ⟨some 17, .mv, [.t 0], none⟩,
 ⟨some 18, .bin .add, [.t 16, .t 17], none⟩,
 ⟨some 19, .bin .and, [.t 18, .c (.q 1085102592571150095)], none⟩,
 ⟨some 0, .mv, [.t 19], none⟩] [15, 16, 17, 18, 19])
 (.seq
 (.region false [⟨some 20, .mv, [.t 0], none⟩,
 ⟨some 21, .mv, [.t 0], none⟩,
 ⟨some 22, .bin .shr, [.t 21, .c (.q 8)], none⟩,
 ⟨some 23, .bin .add, [.t 20, .t 22], none⟩,
 ⟨some 0, .mv, [.t 23], none⟩] [20, 21, 22, 23])
 (.seq
 (.region false [⟨some 24, .mv, [.t 0], none⟩,
 ⟨some 25, .mv, [.t 0], none⟩,
 ⟨some 26, .bin .shr, [.t 25, .c (.q 16)], none⟩,
 ⟨some 27, .bin .add, [.t 24, .t 26], none⟩,
 ⟨some 0, .mv, [.t 27], none⟩] [24, 25, 26, 27])
 (.seq
 (.region false [⟨some 28, .mv, [.t 0], none⟩,
 ⟨some 29, .mv, [.t 0], none⟩,
 ⟨some 30, .bin .shr, [.t 29, .c (.q 32)], none⟩,
 ⟨some 31, .bin .add, [.t 28, .t 30], none⟩,
 ⟨some 0, .mv, [.t 31], none⟩] [28, 29, 30, 31])
 (.seq
 (.region false [⟨some 32, .mv, [.t 0], none⟩,
 ⟨some 33, .conv .q2i 16896, [.t 32], none⟩,
 ⟨some 34, .bin .and, [.t 33, .c (.i 127)], none⟩,
 ⟨some 2, .mv, [.t 34], none⟩] [0, 32, 33, 34])
 .ret)))))))) }
/-- slices.rotateRight[int] -/
def F_slices_rotateRight_int : LF :=
 { nparams := 2, results := [], body :=
 (.region false [⟨some 4, .mv, [.t 0], none⟩,
 ⟨some 5, .mv, [.t 0], none⟩,
 ⟨some 6, .len, [.t 5], none⟩,
 ⟨some 7, .mv, [.t 1], none⟩,
 ⟨some 8, .bin .sub, [.t 6, .t 7], none⟩,
 ⟨some 9, .call n_slices_rotateLeft_int 4608, [.t 4, .t 8], none⟩] [0, 1, 4, 5, 6, 7, 8, 9]) }
/-- impl.statesSaying -/
def F_impl_statesSaying : LF :=
 { gl := [2], nparams := 2, results := [.t 4], body :=
 (.seq
 (.region false [⟨some 4, .mv, [.c (.w (0#32))], none⟩] [4])
 (.seq
 (.seq
 (.region false [⟨some 5, .mv, [.t 1], none⟩,
 ⟨some 6, .bin .eql, [.t 5, .c (.i 1)], none⟩] [1, 5])
 (.cond (.t 6) [6]
 (.seq
 (.region false [⟨some 7, .mv, [.t 0], none⟩,
 ⟨some 8, .idxp 5 1, [.t 1048578, .t 7], none⟩,
 ⟨some 9, .load 1 false, [.t 8], none⟩,
 ⟨some 4, .mv, [.t 9], none⟩] [0, 7, 8, 9])
 .ret)
 .skip))
 (.seq
 (.region false [⟨some 10, .mv, [.t 0], none⟩,
 ⟨some 11, .idxp 5 1, [.t 1048578, .t 10], none⟩,
 ⟨some 12, .load 1 false, [.t 11], none⟩,
 ⟨some 13, .un .xor, [.t 12], none⟩,
 ⟨some 4, .mv, [.t 13], none⟩] [0, 10, 11, 12, 13])
 .ret))) }
/-- spec.l1Agrees -/
def F_spec_l1Agrees_L0 : LC :=
 (.seq
 (.seq
 (.region false [⟨some 6, .mv, [.t 5], none⟩,
 ⟨some 7, .mv, [.t 0], none⟩,
 ⟨some 8, .len, [.t 7], none⟩,
 ⟨some 9, .bin .lss, [.t 6, .t 8], none⟩] [6, 7, 8])
 (.cond (.t 9) [9]
 .skip
 (.exit 0)))
 (.seq
 (.block 1
 (.seq
 (.region true [⟨some 12, .mv, [.t 0], none⟩,
 ⟨some 13, .mv, [.t 5], none⟩,
 ⟨some 14, .idxa 1, [.t 12, .t 13], none⟩,
 ⟨some 15, .load 1 false, [.t 14], none⟩,
 ⟨some 16, .bin .neq, [.t 15, .c (.i (-1))], none⟩,
 ⟨some 17, .mv, [.t 16], none⟩,
 ⟨some 18, .mv, [.t 0], some (17, true)⟩,
 ⟨some 19, .mv, [.t 5], some (17, true)⟩,
 ⟨some 20, .idxa 1, [.t 18, .t 19], some (17, true)⟩,
 ⟨some 21, .load 1 false, [.t 20], some (17, true)⟩,
 ⟨some 22, .mv, [.t 1], some (17, true)⟩,
 ⟨some 23, .mv, [.t 5], some (17, true)⟩,
 ⟨some 24, .bin .shr, [.t 22, .t 23], some (17, true)⟩,
 ⟨some 25, .bin .rem, [.t 24, .c (.i 2)], some (17, true)⟩,
 ⟨some 26, .bin .neq, [.t 21, .t 25], some (17, true)⟩,
 ⟨some 27, .pick, [.t 17, .t 26, .c (.b false)], none⟩] [12, 13, 14, 15, 16, 17, 18, 19, 20, 21, 22, 23, 24, 25, 26])
 (.cond (.t 27) [27]
 (.seq
 (.region false [⟨some 4, .mv, [.c (.b false)], none⟩] [0, 1, 5])
 .ret)
 .skip)))
 (.region false [⟨some 10, .mv, [.t 5], none⟩,
 ⟨some 11, .bin .add, [.t 10, .c (.i 1)], none⟩,
 ⟨some 5, .mv, [.t 11], none⟩] [10, 11])))
def F_spec_l1Agrees_W0 : LC := .loop F_spec_l1Agrees_L0
def F_spec_l1Agrees : LF :=
 { nparams := 2, results := [.t 4], body :=
 (.seq
 (.region false [⟨some 4, .mv, [.c (.b false)], none⟩] [4])
 (.seq
 (.seq
 (.region false [⟨some 5, .mv, [.c (.i 0)], none⟩] [])
 (.block 0
 F_spec_l1Agrees_W0))
 (.seq
 (.region false [⟨some 4, .mv, [.c (.b true)], none⟩] [0, 1, 5])
 .ret))) }
/-- spec.l2Starts -/
def F_spec_l2Starts_L0 : LC :=
 (.seq
 (.seq
 (.region false [⟨some 8, .mv, [.t 5], none⟩,
 ⟨some 9, .bin .gtr, [.t 8, .c (.i 0)], none⟩] [8])
 (.cond (.t 9) [9]
 .skip
 (.exit 0)))
 (.block 1
 (.seq
 (.seq
 (.region false [⟨some 10, .mv, [.t 0], none⟩,
 ⟨some 11, .mv, [.t 6], none⟩,
 ⟨some 12, .idxa 2, [.t 10, .t 11], none⟩,
 ⟨some 13, .fld 0 1 false, [.t 12], none⟩,
 ⟨some 14, .load 1 false, [.t 13], none⟩] [10, 11, 12, 13])
 (.block 2
 (.seq
 (.region false [⟨some 18, .bin .eql, [.t 14, .c (.i 0)], none⟩,
 ⟨some 17, .mv, [.t 18], none⟩] [18])
 (.cond (.t 17) [17]
 (.region false [⟨some 19, .mv, [.t 5], none⟩,
 ⟨some 20, .bin .sub, [.t 19, .c (.i 1)], none⟩,
 ⟨some 5, .mv, [.t 20], none⟩] [14, 19, 20])
 (.seq
 (.region false [⟨some 22, .bin .eql, [.t 14, .c (.i 1)], none⟩,
 ⟨some 21, .mv, [.t 22], none⟩] [14, 22])
 (.cond (.t 21) [21]
 .skip
 (.region false [⟨some 15, .mv, [.t 5], none⟩,
 ⟨some 16, .bin .add, [.t 15, .c (.i 1)], none⟩,
 ⟨some 5, .mv, [.t 16], none⟩] [15, 16])))))))
 (.region false [⟨some 23, .mv, [.t 6], none⟩,
 ⟨some 24, .bin .sub, [.t 23, .c (.i 1)], none⟩,
 ⟨some 6, .mv, [.t 24], none⟩] [23, 24]))))
def F_spec_l2Starts_W0 : LC := .loop F_spec_l2Starts_L0
def F_spec_l2Starts : LF :=
 { nparams := 2, results := [.t 4], body :=
 (.seq
 (.region false [⟨some 4, .mv, [.c (.i 0)], none⟩] [4])
 (.seq
 (.region false [⟨some 5, .mv, [.c (.i 1)], none⟩] [])
 (.seq
 (.region false [⟨some 7, .mv, [.t 1], none⟩,
 ⟨some 6, .mv, [.t 7], none⟩] [1, 7])
 (.seq
 (.block 0
 F_spec_l2Starts_W0)
 (.seq
 (.region false [⟨some 25, .mv, [.t 6], none⟩,
 ⟨some 26, .bin .add, [.t 25, .c (.i 1)], none⟩,
 ⟨some 4, .mv, [.t 26], none⟩] [0, 5, 6, 25, 26])
 .ret))))) }
/-- impl.turnedStates -/
def F_impl_turnedStates : LF :=
 { gl := [2], nparams := 2, results := [.t 4], body :=
 (.seq
 (.region false [⟨some 4, .mv, [.c (.w (0#32))], none⟩] [4])
 (.seq
 (.region true [⟨some 7, .mv, [.t 0], none⟩,
 ⟨some 8, .mv, [.t 1], none⟩,
 ⟨some 9, .idxp 5 1, [.t 1048578, .t 8], none⟩,
 ⟨some 10, .load 1 false, [.t 9], none⟩,
 ⟨some 11, .bin .and, [.t 7, .t 10], none⟩,
 ⟨some 12, .mv, [.t 0], none⟩,
 ⟨some 13, .mv, [.t 1], none⟩,
 ⟨some 14, .idxp 5 1, [.t 1048578, .t 13], none⟩,
 ⟨some 15, .load 1 false, [.t 14], none⟩,
 ⟨some 16, .bin .andNot, [.t 12, .t 15], none⟩,
 ⟨some 5, .mv, [.t 11], none⟩,
 ⟨some 6, .mv, [.t 16], none⟩] [0, 7, 8, 9, 10, 11, 12, 13, 14, 15, 16])
 (.seq
 (.region true [⟨some 17, .mv, [.t 5], none⟩,
 ⟨some 18, .mv, [.t 1], none⟩,
 ⟨some 19, .bin .shl, [.c (.q 1), .t 18], none⟩,
 ⟨some 20, .bin .shr, [.t 17, .t 19], none⟩,
 ⟨some 21, .mv, [.t 6], none⟩,
 ⟨some 22, .mv, [.t 1], none⟩,
 ⟨some 23, .bin .shl, [.c (.q 1), .t 22], none⟩,
 ⟨some 24, .bin .shl, [.t 21, .t 23], none⟩,
 ⟨some 25, .bin .or, [.t 20, .t 24], none⟩,
 ⟨some 4, .mv, [.t 25], none⟩] [1, 5, 6, 17, 18, 19, 20, 21, 22, 23, 24, 25])
 .ret))) }
/-- slices.rotateLeft[int] -/
def F_slices_rotateLeft_int : LF :=
 { nparams := 2, results := [], body :=
 (.seq
 (.region false [⟨some 4, .mv, [.t 0], none⟩,
 ⟨some 5, .mv, [.t 1], none⟩,
 ⟨some 6, .slice false true 1, [.t 4, .t 5], none⟩,
 ⟨some 7, .call n_slices_Reverse_int_int 3584, [.t 6], none⟩] [4, 5, 6, 7])
 (.seq
 (.region false [⟨some 8, .mv, [.t 0], none⟩,
 ⟨some 9, .mv, [.t 1], none⟩,
 ⟨some 10, .slice true false 1, [.t 8, .t 9], none⟩,
 ⟨some 11, .call n_slices_Reverse_int_int 5632, [.t 10], none⟩] [1, 8, 9, 10, 11])
 (.region false [⟨some 12, .mv, [.t 0], none⟩,
 ⟨some 13, .call n_slices_Reverse_int_int 6656, [.t 12], none⟩] [0, 12, 13]))) }
/-- slices.Reverse[[]int,int] -/
def F_slices_Reverse_int_int_L0 : LC :=
 (.seq
 (.seq
 (.region false [⟨some 7, .mv, [.t 2], none⟩,
 ⟨some 8, .mv, [.t 3], none⟩,
 ⟨some 9, .bin .lss, [.t 7, .t 8], none⟩] [7, 8])
 (.cond (.t 9) [9]
 .skip
 (.exit 0)))
 (.seq
 (.block 1
 (.region true [⟨some 14, .mv, [.t 0], none⟩,
 ⟨some 15, .mv, [.t 2], none⟩,
 ⟨some 16, .mv, [.t 0], none⟩,
 ⟨some 17, .mv, [.t 3], none⟩,
 ⟨some 18, .mv, [.t 0], none⟩,
 ⟨some 19, .mv, [.t 3], none⟩,
 ⟨some 20, .idxa 1, [.t 18, .t 19], none⟩,
 ⟨some 21, .load 1 false, [.t 20], none⟩,
 ⟨some 22, .mv, [.t 0], none⟩,
 ⟨some 23, .mv, [.t 2], none⟩,
 ⟨some 24, .idxa 1, [.t 22, .t 23], none⟩,
 ⟨some 25, .load 1 false, [.t 24], none⟩,
 ⟨some 26, .idxa 1, [.t 14, .t 15], none⟩,
 ⟨none, .store 1, [.t 26, .t 21], none⟩,
 ⟨some 27, .idxa 1, [.t 16, .t 17], none⟩,
 ⟨none, .store 1, [.t 27, .t 25], none⟩] [14, 15, 16, 17, 18, 19, 20, 21, 22, 23, 24, 25, 26, 27]))
 (.region false [⟨some 10, .mv, [.t 2], none⟩,
 ⟨some 11, .bin .add, [.t 10, .c (.i 1)], none⟩,
 ⟨some 12, .mv, [.t 3], none⟩,
 ⟨some 13, .bin .sub, [.t 12, .c (.i 1)], none⟩,
 ⟨some 2, .mv, [.t 11], none⟩,
 ⟨some 3, .mv, [.t 13], none⟩] [10, 11, 12, 13])))
def F_slices_Reverse_int_int_W0 : LC := .loop F_slices_Reverse_int_int_L0
def F_slices_Reverse_int_int : LF :=
 { nparams := 1, results := [], body :=
 (.seq
 (.region false [⟨some 4, .mv, [.t 0], none⟩,
 ⟨some 5, .len, [.t 4], none⟩,
 ⟨some 6, .bin .sub, [.t 5, .c (.i 1)], none⟩,
 ⟨some 2, .mv, [.c (.i 0)], none⟩,
 ⟨some 3, .mv, [.t 6], none⟩] [4, 5, 6])
 (.block 0
 F_slices_Reverse_int_int_W0)) }
def lf : Nat → Option LF
 | 8 => some F_laws_FnBestAverage
 | 11 => some F_laws_FnDearer
 | 15 => some F_laws_alive
 | 16 => some F_impl_OtherTests
 | 20 => some F_impl_RowAverage
 | 21 => some F_impl_RatioOrder
 | 25 => some F_impl_BestAverage
 | 26 => some F_impl_RowTerm
 | 27 => some F_laws_power
 | 29 => some F_spec_TestsOk
 | 41 => some F_spec_DrawBestAverage
 | 42 => some F_spec_BestAverage
 | 43 => some F_impl_BestOrder
 | 44 => some F_impl_DualTerm
 | 47 => some F_spec_l20Open
 | 48 => some F_spec_l20Tests
 | 49 => some F_spec_l20Rd_pick
 | 51 => some F_impl_TestsOk
 | 52 => some F_impl_StateOk
 | 53 => some F_impl_isWithin
 | 54 => some F_impl_sizeOf
 | 58 => some F_spec_l1In
 | 67 => some F_spec_l1Power
 | 68 => some F_impl_OrderOk
 | 69 => some F_impl_rowOk
 | 70 => some F_impl_wholeOf
 | 71 => some F_impl_endChance
 | 72 => some F_impl_RatioOrder_1
 | 73 => some F_impl_ratioOf
 | 74 => some F_impl_ratio_isLess
 | 75 => some F_impl_inserted_int
 | 78 => some F_impl_TermOk
 | 79 => some F_impl_leastFrom
 | 80 => some F_impl_startOf
 | 81 => some F_impl_averagesOf
 | 82 => some F_impl_manyOk
 | 85 => some F_impl_weightOfStates
 | 86 => some F_impl_trueStates
 | 87 => some F_impl_statesOf
 | 88 => some F_impl_WeightOf
 | 99 => some F_spec_l20Case
 | 100 => some F_spec_TermOk
 | 101 => some F_spec_l6Best
 | 102 => some F_spec_l3Table
 | 103 => some F_spec_l4None
 | 104 => some F_impl_bestBehind
 | 105 => some F_impl_openWeights
 | 107 => some F_spec_l20Rd_odd
 | 108 => some F_math_bits_OnesCount
 | 109 => some F_impl_hasTest
 | 113 => some F_impl_averageAsking
 | 114 => some F_slices_Insert_int_int
 | 115 => some F_impl_partsTaken
 | 116 => some F_impl_markOk
 | 117 => some F_impl_point_isForced
 | 118 => some F_impl_point_canAsk
 | 119 => some F_impl_point_answered
 | 120 => some F_impl_averagesOf_1
 | 121 => some F_impl_point_howManyAsked
 | 126 => some F_impl_hasState
 | 127 => some F_impl_foldTerm_uint32
 | 128 => some F_impl_statesOfPart
 | 129 => some F_impl_outcomeIn
 | 137 => some F_impl_valueAmong
 | 145 => some F_spec_l20Term
 | 146 => some F_spec_l3Forced
 | 147 => some F_spec_l3Value
 | 148 => some F_impl_openStates
 | 150 => some F_math_bits_OnesCount64
 | 153 => some F_slices_rotateRight_int
 | 154 => some F_impl_statesSaying
 | 162 => some F_spec_l1Agrees
 | 163 => some F_spec_l2Starts
 | 164 => some F_impl_turnedStates
 | 165 => some F_slices_rotateLeft_int
 | 170 => some F_slices_Reverse_int_int
 | _ => none
theorem w_laws_FnBestAverage_0 (S : LS) : ex lf F_laws_FnBestAverage_W0 S = match ex lf F_laws_FnBestAverage_L0 S with | some (.normal, S1) => ex lf F_laws_FnBestAverage_W0 S1 | r => r := ex_loop lf F_laws_FnBestAverage_L0 S
theorem w_impl_OtherTests_0 (S : LS) : ex lf F_impl_OtherTests_W0 S = match ex lf F_impl_OtherTests_L0 S with | some (.normal, S1) => ex lf F_impl_OtherTests_W0 S1 | r => r := ex_loop lf F_impl_OtherTests_L0 S
theorem w_impl_RowAverage_0 (S : LS) : ex lf F_impl_RowAverage_W0 S = match ex lf F_impl_RowAverage_L0 S with | some (.normal, S1) => ex lf F_impl_RowAverage_W0 S1 | r => r := ex_loop lf F_impl_RowAverage_L0 S
theorem w_impl_RatioOrder_0 (S : LS) : ex lf F_impl_RatioOrder_W0 S = match ex lf F_impl_RatioOrder_L0 S with | some (.normal, S1) => ex lf F_impl_RatioOrder_W0 S1 | r => r := ex_loop lf F_impl_RatioOrder_L0 S
theorem w_impl_RowTerm_0 (S : LS) : ex lf F_impl_RowTerm_W0 S = match ex lf F_impl_RowTerm_L0 S with | some (.normal, S1) => ex lf F_impl_RowTerm_W0 S1 | r => r := ex_loop lf F_impl_RowTerm_L0 S
theorem w_laws_power_0 (S : LS) : ex lf F_laws_power_W0 S = match ex lf F_laws_power_L0 S with | some (.normal, S1) => ex lf F_laws_power_W0 S1 | r => r := ex_loop lf F_laws_power_L0 S
theorem w_spec_TestsOk_0 (S : LS) : ex lf F_spec_TestsOk_W0 S = match ex lf F_spec_TestsOk_L0 S with | some (.normal, S1) => ex lf F_spec_TestsOk_W0 S1 | r => r := ex_loop lf F_spec_TestsOk_L0 S
theorem w_impl_DualTerm_0 (S : LS) : ex lf F_impl_DualTerm_W0 S = match ex lf F_impl_DualTerm_L0 S with | some (.normal, S1) => ex lf F_impl_DualTerm_W0 S1 | r => r := ex_loop lf F_impl_DualTerm_L0 S
theorem w_spec_l20Tests_0 (S : LS) : ex lf F_spec_l20Tests_W0 S = match ex lf F_spec_l20Tests_L0 S with | some (.normal, S1) => ex lf F_spec_l20Tests_W0 S1 | r => r := ex_loop lf F_spec_l20Tests_L0 S
theorem w_impl_TestsOk_0 (S : LS) : ex lf F_impl_TestsOk_W0 S = match ex lf F_impl_TestsOk_L0 S with | some (.normal, S1) => ex lf F_impl_TestsOk_W0 S1 | r => r := ex_loop lf F_impl_TestsOk_L0 S
theorem w_spec_l1Power_0 (S : LS) : ex lf F_spec_l1Power_W0 S = match ex lf F_spec_l1Power_L0 S with | some (.normal, S1) => ex lf F_spec_l1Power_W0 S1 | r => r := ex_loop lf F_spec_l1Power_L0 S
theorem w_impl_OrderOk_0 (S : LS) : ex lf F_impl_OrderOk_W0 S = match ex lf F_impl_OrderOk_L0 S with | some (.normal, S1) => ex lf F_impl_OrderOk_W0 S1 | r => r := ex_loop lf F_impl_OrderOk_L0 S
theorem w_impl_wholeOf_0 (S : LS) : ex lf F_impl_wholeOf_W0 S = match ex lf F_impl_wholeOf_L0 S with | some (.normal, S1) => ex lf F_impl_wholeOf_W0 S1 | r => r := ex_loop lf F_impl_wholeOf_L0 S
theorem w_impl_inserted_int_0 (S : LS) : ex lf F_impl_inserted_int_W0 S = match ex lf F_impl_inserted_int_L0 S with | some (.normal, S1) => ex lf F_impl_inserted_int_W0 S1 | r => r := ex_loop lf F_impl_inserted_int_L0 S
theorem w_impl_TermOk_0 (S : LS) : ex lf F_impl_TermOk_W0 S = match ex lf F_impl_TermOk_L0 S with | some (.normal, S1) => ex lf F_impl_TermOk_W0 S1 | r => r := ex_loop lf F_impl_TermOk_L0 S
theorem w_impl_leastFrom_0 (S : LS) : ex lf F_impl_leastFrom_W0 S = match ex lf F_impl_leastFrom_L0 S with | some (.normal, S1) => ex lf F_impl_leastFrom_W0 S1 | r => r := ex_loop lf F_impl_leastFrom_L0 S
theorem w_impl_weightOfStates_0 (S : LS) : ex lf F_impl_weightOfStates_W0 S = match ex lf F_impl_weightOfStates_L0 S with | some (.normal, S1) => ex lf F_impl_weightOfStates_W0 S1 | r => r := ex_loop lf F_impl_weightOfStates_L0 S
theorem w_impl_WeightOf_0 (S : LS) : ex lf F_impl_WeightOf_W0 S = match ex lf F_impl_WeightOf_L0 S with | some (.normal, S1) => ex lf F_impl_WeightOf_W0 S1 | r => r := ex_loop lf F_impl_WeightOf_L0 S
theorem w_spec_TermOk_0 (S : LS) : ex lf F_spec_TermOk_W0 S = match ex lf F_spec_TermOk_L0 S with | some (.normal, S1) => ex lf F_spec_TermOk_W0 S1 | r => r := ex_loop lf F_spec_TermOk_L0 S
theorem w_spec_l6Best_1 (S : LS) : ex lf F_spec_l6Best_W1 S = match ex lf F_spec_l6Best_L1 S with | some (.normal, S1) => ex lf F_spec_l6Best_W1 S1 | r => r := ex_loop lf F_spec_l6Best_L1 S
theorem w_spec_l6Best_0 (S : LS) : ex lf F_spec_l6Best_W0 S = match ex lf F_spec_l6Best_L0 S with | some (.normal, S1) => ex lf F_spec_l6Best_W0 S1 | r => r := ex_loop lf F_spec_l6Best_L0 S
theorem w_spec_l3Table_0 (S : LS) : ex lf F_spec_l3Table_W0 S = match ex lf F_spec_l3Table_L0 S with | some (.normal, S1) => ex lf F_spec_l3Table_W0 S1 | r => r := ex_loop lf F_spec_l3Table_L0 S
theorem w_spec_l4None_0 (S : LS) : ex lf F_spec_l4None_W0 S = match ex lf F_spec_l4None_L0 S with | some (.normal, S1) => ex lf F_spec_l4None_W0 S1 | r => r := ex_loop lf F_spec_l4None_L0 S
theorem w_impl_bestBehind_0 (S : LS) : ex lf F_impl_bestBehind_W0 S = match ex lf F_impl_bestBehind_L0 S with | some (.normal, S1) => ex lf F_impl_bestBehind_W0 S1 | r => r := ex_loop lf F_impl_bestBehind_L0 S
theorem w_impl_openWeights_0 (S : LS) : ex lf F_impl_openWeights_W0 S = match ex lf F_impl_openWeights_L0 S with | some (.normal, S1) => ex lf F_impl_openWeights_W0 S1 | r => r := ex_loop lf F_impl_openWeights_L0 S
theorem w_impl_foldTerm_uint32_0 (S : LS) : ex lf F_impl_foldTerm_uint32_W0 S = match ex lf F_impl_foldTerm_uint32_L0 S with | some (.normal, S1) => ex lf F_impl_foldTerm_uint32_W0 S1 | r => r := ex_loop lf F_impl_foldTerm_uint32_L0 S
theorem w_spec_l20Term_0 (S : LS) : ex lf F_spec_l20Term_W0 S = match ex lf F_spec_l20Term_L0 S with | some (.normal, S1) => ex lf F_spec_l20Term_W0 S1 | r => r := ex_loop lf F_spec_l20Term_L0 S
theorem w_spec_l20Term_1 (S : LS) : ex lf F_spec_l20Term_W1 S = match ex lf F_spec_l20Term_L1 S with | some (.normal, S1) => ex lf F_spec_l20Term_W1 S1 | r => r := ex_loop lf F_spec_l20Term_L1 S
theorem w_spec_l20Term_2 (S : LS) : ex lf F_spec_l20Term_W2 S = match ex lf F_spec_l20Term_L2 S with | some (.normal, S1) => ex lf F_spec_l20Term_W2 S1 | r => r := ex_loop lf F_spec_l20Term_L2 S
theorem w_spec_l3Forced_0 (S : LS) : ex lf F_spec_l3Forced_W0 S = match ex lf F_spec_l3Forced_L0 S with | some (.normal, S1) => ex lf F_spec_l3Forced_W0 S1 | r => r := ex_loop lf F_spec_l3Forced_L0 S
theorem w_impl_openStates_0 (S : LS) : ex lf F_impl_openStates_W0 S = match ex lf F_impl_openStates_L0 S with | some (.normal, S1) => ex lf F_impl_openStates_W0 S1 | r => r := ex_loop lf F_impl_openStates_L0 S
theorem w_spec_l1Agrees_0 (S : LS) : ex lf F_spec_l1Agrees_W0 S = match ex lf F_spec_l1Agrees_L0 S with | some (.normal, S1) => ex lf F_spec_l1Agrees_W0 S1 | r => r := ex_loop lf F_spec_l1Agrees_L0 S
theorem w_spec_l2Starts_0 (S : LS) : ex lf F_spec_l2Starts_W0 S = match ex lf F_spec_l2Starts_L0 S with | some (.normal, S1) => ex lf F_spec_l2Starts_W0 S1 | r => r := ex_loop lf F_spec_l2Starts_L0 S
theorem w_slices_Reverse_int_int_0 (S : LS) : ex lf F_slices_Reverse_int_int_W0 S = match ex lf F_slices_Reverse_int_int_L0 S with | some (.normal, S1) => ex lf F_slices_Reverse_int_int_W0 S1 | r => r := ex_loop lf F_slices_Reverse_int_int_L0 S
end Zz
