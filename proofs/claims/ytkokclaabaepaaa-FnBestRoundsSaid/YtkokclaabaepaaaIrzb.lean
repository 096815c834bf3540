/- The functions of the program, read as data. No conditions. -/
import Derived.Test.YtkokclaabaepaaaLgEzb
set_option linter.unusedSectionVars false
set_option linter.unusedVariables false
set_option linter.unusedSimpArgs false
namespace Zz
open Go.Lg
def n_laws_FnBestRounds : Nat := 4
def n_laws_FnRoundsFee : Nat := 6
def n_impl_RoundAverage : Nat := 15
def n_laws_alive : Nat := 17
def n_laws_power : Nat := 18
def n_impl_RowAverage : Nat := 19
def n_spec_DrawBestRounds : Nat := 20
def n_impl_BestRounds : Nat := 21
def n_spec_BestRounds : Nat := 22
def n_laws_sameRows : Nat := 23
def n_spec_DrawGroupsOk : Nat := 24
def n_impl_GroupsOk : Nat := 25
def n_impl_RatioOrder : Nat := 26
def n_spec_l20Open : Nat := 51
def n_spec_l20Rd_pick : Nat := 53
def n_impl_TestsOk : Nat := 54
def n_impl_feeOk : Nat := 55
def n_slices_Backward_int_int : Nat := 56
def n_impl_averageOfRound : Nat := 57
def n_impl_setOf : Nat := 58
def n_spec_TestsOk : Nat := 59
def n_spec_l1In : Nat := 61
def n_spec_l1Power : Nat := 62
def n_impl_OrderOk : Nat := 63
def n_impl_rowOk : Nat := 64
def n_impl_wholeOf : Nat := 65
def n_impl_endChance : Nat := 66
def n_spec_l20Tests : Nat := 67
def n_impl_bestRoundsOf : Nat := 68
def n_impl_allOf : Nat := 69
def n_impl_rowOf : Nat := 70
def n_spec_l10Best : Nat := 71
def n_laws_sameInts : Nat := 72
def n_spec_l20Groups : Nat := 73
def n_impl_manyOk : Nat := 74
def n_impl_isWithin : Nat := 75
def n_impl_RatioOrder_1 : Nat := 76
def n_impl_ratioOf : Nat := 77
def n_impl_ratio_isLess : Nat := 78
def n_impl_inserted_int : Nat := 79
def n_slices_Backward_int_int_1 : Nat := 92
def n_impl_hasTest : Nat := 93
def n_spec_l20Rd_odd : Nat := 94
def n_impl_sizeOf : Nat := 95
def n_impl_statesOf : Nat := 96
def n_spec_l20Order : Nat := 97
def n_slices_Insert_int_int : Nat := 98
def n_math_bits_OnesCount : Nat := 104
def n_slices_rotateRight_int : Nat := 106
def n_math_bits_OnesCount32 : Nat := 110
def n_math_bits_OnesCount64 : Nat := 111
def n_slices_rotateLeft_int : Nat := 112
def n_slices_Reverse_int_int : Nat := 118
def bkFs : List Nat := [n_slices_Backward_int_int_1]
instance : GL := ⟨[], [36, 37, 42, 49], ["l4_orders.go:82", "l10_rounds.go:90"], [], [(79, [0]), (98, [0, 2]), (100, [0]), (107, [0, 2])], [(28, 98, 6)], ["l20_draw.go:447"], bkFs⟩
/-- laws.FnBestRounds -/
def F_laws_FnBestRounds : LF :=
 { nparams := 2, results := [.t 4], body :=
 (.seq
 (.region false [⟨some 4, .mv, [.c (.b false)], none⟩] [4])
 (.seq
 (.seq
 (.region false [⟨some 16, .mv, [.t 0], none⟩,
 ⟨some 17, .len, [.t 16], none⟩,
 ⟨some 18, .bin .gtr, [.t 17, .c (.i 1048576)], none⟩,
 ⟨some 19, .mv, [.t 18], none⟩,
 ⟨some 20, .mv, [.t 1], some (19, false)⟩,
 ⟨some 21, .len, [.t 20], some (19, false)⟩,
 ⟨some 22, .bin .gtr, [.t 21, .c (.i 1048576)], some (19, false)⟩,
 ⟨some 23, .pick, [.t 19, .c (.b true), .t 22], none⟩] [16, 17, 18, 19, 20, 21, 22])
 (.cond (.t 23) [23]
 (.seq
 (.region false [⟨some 4, .mv, [.c (.b true)], none⟩] [0, 1])
 .ret)
 .skip))
 (.seq
 (.region false [⟨some 25, .mv, [.t 0], none⟩,
 ⟨some 26, .call n_spec_DrawBestRounds 13312, [.t 25], none⟩,
 ⟨some 24, .mv, [.t 26], none⟩,
 ⟨some 27, .ext 0, [.t 24], none⟩,
 ⟨some 28, .ext 1, [.t 24], none⟩,
 ⟨some 5, .mv, [.t 27], none⟩,
 ⟨some 6, .mv, [.t 28], none⟩] [0, 24, 25, 26, 27, 28])
 (.seq
 (.region false [⟨some 30, .mv, [.t 5], none⟩,
 ⟨some 31, .mv, [.t 6], none⟩,
 ⟨some 32, .call n_impl_BestRounds 16384, [.t 30, .t 31], none⟩,
 ⟨some 29, .mv, [.t 32], none⟩,
 ⟨some 33, .ext 0, [.t 29], none⟩,
 ⟨some 34, .ext 1, [.t 29], none⟩,
 ⟨some 7, .mv, [.t 33], none⟩,
 ⟨some 8, .mv, [.t 34], none⟩] [29, 30, 31, 32, 33, 34])
 (.seq
 (.region false [⟨some 36, .mv, [.t 5], none⟩,
 ⟨some 37, .mv, [.t 6], none⟩,
 ⟨some 38, .call n_spec_BestRounds 19456, [.t 36, .t 37], none⟩,
 ⟨some 35, .mv, [.t 38], none⟩,
 ⟨some 39, .ext 0, [.t 35], none⟩,
 ⟨some 40, .ext 1, [.t 35], none⟩,
 ⟨some 9, .mv, [.t 39], none⟩,
 ⟨some 10, .mv, [.t 40], none⟩] [35, 36, 37, 38, 39, 40])
 (.seq
 (.seq
 (.region false [⟨some 41, .mv, [.t 7], none⟩,
 ⟨some 42, .mv, [.t 9], none⟩,
 ⟨some 43, .call n_laws_sameRows 22016, [.t 41, .t 42], none⟩,
 ⟨some 44, .un .not, [.t 43], none⟩,
 ⟨some 45, .mv, [.t 44], none⟩,
 ⟨some 46, .mv, [.t 8], some (45, false)⟩,
 ⟨some 47, .mv, [.t 10], some (45, false)⟩,
 ⟨some 48, .bin .neq, [.t 46, .t 47], some (45, false)⟩,
 ⟨some 49, .pick, [.t 45, .c (.b true), .t 48], none⟩] [9, 10, 41, 42, 43, 44, 45, 46, 47, 48])
 (.cond (.t 49) [49]
 (.seq
 (.region false [⟨some 4, .mv, [.c (.b false)], none⟩] [1, 5, 6, 7, 8])
 .ret)
 .skip))
 (.seq
 (.seq
 (.region false [⟨some 50, .mv, [.t 8], none⟩,
 ⟨some 51, .bin .lss, [.t 50, .c (.i 0)], none⟩] [50])
 (.cond (.t 51) [51]
 (.seq
 (.region false [⟨some 52, .mv, [.t 8], none⟩,
 ⟨some 53, .bin .eql, [.t 52, .c (.i (-1))], none⟩,
 ⟨some 54, .mv, [.t 53], none⟩,
 ⟨some 55, .mv, [.t 7], some (54, true)⟩,
 ⟨some 56, .len, [.t 55], some (54, true)⟩,
 ⟨some 57, .bin .eql, [.t 56, .c (.i 0)], some (54, true)⟩,
 ⟨some 58, .pick, [.t 54, .t 57, .c (.b false)], none⟩,
 ⟨some 59, .mv, [.t 58], none⟩,
 ⟨some 60, .call n_laws_alive 30720, [], some (59, true)⟩,
 ⟨some 61, .pick, [.t 59, .t 60, .c (.b false)], none⟩,
 ⟨some 4, .mv, [.t 61], none⟩] [1, 5, 6, 7, 8, 52, 53, 54, 55, 56, 57, 58, 59, 60, 61])
 .ret)
 .skip))
 (.seq
 (.region false [⟨some 63, .mv, [.t 1], none⟩,
 ⟨some 64, .call n_spec_DrawGroupsOk 32768, [.t 63], none⟩,
 ⟨some 62, .mv, [.t 64], none⟩,
 ⟨some 65, .ext 0, [.t 62], none⟩,
 ⟨some 66, .ext 1, [.t 62], none⟩,
 ⟨some 11, .mv, [.t 65], none⟩,
 ⟨some 12, .mv, [.t 66], none⟩] [1, 11, 62, 63, 64, 65, 66])
 (.seq
 (.region false [⟨some 67, .mv, [.t 5], none⟩,
 ⟨some 68, .mv, [.t 12], none⟩,
 ⟨some 69, .mv, [.t 6], none⟩,
 ⟨some 70, .call n_impl_RoundAverage 35840, [.t 67, .t 68, .t 69], none⟩,
 ⟨some 13, .mv, [.t 70], none⟩] [12, 67, 68, 69, 70])
 (.seq
 (.region false [⟨some 72, .mv, [.t 5], none⟩,
 ⟨some 73, .call n_impl_BestRounds 37376, [.t 72, .c (.i 0)], none⟩,
 ⟨some 71, .mv, [.t 73], none⟩,
 ⟨some 74, .ext 0, [.t 71], none⟩,
 ⟨some 75, .ext 1, [.t 71], none⟩,
 ⟨some 14, .mv, [.t 74], none⟩,
 ⟨some 15, .mv, [.t 75], none⟩] [14, 71, 72, 73, 74, 75])
 (.seq
 (.region false [⟨some 76, .mv, [.t 5], none⟩,
 ⟨some 77, .len, [.t 76], none⟩,
 ⟨some 78, .mv, [.t 7], none⟩,
 ⟨some 79, .call n_impl_GroupsOk 40448, [.t 77, .t 78], none⟩,
 ⟨some 80, .mv, [.t 79], none⟩,
 ⟨some 81, .mv, [.t 5], some (80, true)⟩,
 ⟨some 82, .mv, [.t 7], some (80, true)⟩,
 ⟨some 83, .mv, [.t 6], some (80, true)⟩,
 ⟨some 84, .call n_impl_RoundAverage 43008, [.t 81, .t 82, .t 83], some (80, true)⟩,
 ⟨some 85, .mv, [.t 8], some (80, true)⟩,
 ⟨some 86, .bin .eql, [.t 84, .t 85], some (80, true)⟩,
 ⟨some 87, .pick, [.t 80, .t 86, .c (.b false)], none⟩,
 ⟨some 88, .mv, [.t 87], none⟩,
 ⟨some 89, .mv, [.t 13], some (88, true)⟩,
 ⟨some 90, .bin .lss, [.t 89, .c (.i 0)], some (88, true)⟩,
 ⟨some 91, .mv, [.t 90], some (88, true)⟩,
 ⟨some 92, .mv, [.t 13], some (91, false)⟩,
 ⟨some 93, .mv, [.t 8], some (91, false)⟩,
 ⟨some 94, .bin .geq, [.t 92, .t 93], some (91, false)⟩,
 ⟨some 95, .pick, [.t 91, .c (.b true), .t 94], some (88, true)⟩,
 ⟨some 96, .pick, [.t 88, .t 95, .c (.b false)], none⟩,
 ⟨some 97, .mv, [.t 96], none⟩,
 ⟨some 98, .mv, [.t 15], some (97, true)⟩,
 ⟨some 99, .mv, [.t 5], some (97, true)⟩,
 ⟨some 100, .mv, [.t 5], some (97, true)⟩,
 ⟨some 101, .call n_impl_RatioOrder 51712, [.t 100, .c (.i 0)], some (97, true)⟩,
 ⟨some 102, .call n_impl_RowAverage 52224, [.t 99, .t 101, .c (.i 0)], some (97, true)⟩,
 ⟨some 103, .bin .eql, [.t 98, .t 102], some (97, true)⟩,
 ⟨some 104, .pick, [.t 97, .t 103, .c (.b false)], none⟩,
 ⟨some 4, .mv, [.t 104], none⟩] [5, 6, 7, 8, 13, 15, 76, 77, 78, 79, 80, 81, 82, 83, 84, 85, 86, 87, 88, 89, 90, 91, 92, 93, 94, 95, 96, 97, 98, 99, 100, 101, 102, 103, 104])
 .ret))))))))))) }
/-- laws.FnRoundsFee -/
def F_laws_FnRoundsFee : LF :=
 { nparams := 1, results := [.t 2], body :=
 (.seq
 (.region false [⟨some 2, .mv, [.c (.b false)], none⟩] [2])
 (.seq
 (.seq
 (.region false [⟨some 11, .mv, [.t 0], none⟩,
 ⟨some 12, .len, [.t 11], none⟩,
 ⟨some 13, .bin .gtr, [.t 12, .c (.i 1048576)], none⟩] [11, 12])
 (.cond (.t 13) [13]
 (.seq
 (.region false [⟨some 2, .mv, [.c (.b true)], none⟩] [0])
 .ret)
 .skip))
 (.seq
 (.region false [⟨some 15, .mv, [.t 0], none⟩,
 ⟨some 16, .call n_spec_DrawBestRounds 8192, [.t 15], none⟩,
 ⟨some 14, .mv, [.t 16], none⟩,
 ⟨some 17, .ext 0, [.t 14], none⟩,
 ⟨some 18, .ext 1, [.t 14], none⟩,
 ⟨some 3, .mv, [.t 17], none⟩,
 ⟨some 4, .mv, [.t 18], none⟩] [0, 14, 15, 16, 17, 18])
 (.seq
 (.region false [⟨some 20, .mv, [.t 3], none⟩,
 ⟨some 21, .mv, [.t 4], none⟩,
 ⟨some 22, .call n_impl_BestRounds 11264, [.t 20, .t 21], none⟩,
 ⟨some 19, .mv, [.t 22], none⟩,
 ⟨some 23, .ext 0, [.t 19], none⟩,
 ⟨some 24, .ext 1, [.t 19], none⟩,
 ⟨some 5, .mv, [.t 23], none⟩,
 ⟨some 6, .mv, [.t 24], none⟩] [5, 19, 20, 21, 22, 23, 24])
 (.seq
 (.seq
 (.region false [⟨some 25, .mv, [.t 6], none⟩,
 ⟨some 26, .bin .lss, [.t 25, .c (.i 0)], none⟩] [25])
 (.cond (.t 26) [26]
 (.seq
 (.region false [⟨some 27, .call n_laws_alive 13824, [], none⟩,
 ⟨some 2, .mv, [.t 27], none⟩] [3, 4, 6, 27])
 .ret)
 .skip))
 (.seq
 (.region false [⟨some 29, .mv, [.t 3], none⟩,
 ⟨some 30, .mv, [.t 4], none⟩,
 ⟨some 31, .bin .add, [.t 30, .c (.i 1)], none⟩,
 ⟨some 32, .call n_impl_BestRounds 16384, [.t 29, .t 31], none⟩,
 ⟨some 28, .mv, [.t 32], none⟩,
 ⟨some 33, .ext 0, [.t 28], none⟩,
 ⟨some 34, .ext 1, [.t 28], none⟩,
 ⟨some 7, .mv, [.t 33], none⟩,
 ⟨some 8, .mv, [.t 34], none⟩] [7, 28, 29, 30, 31, 32, 33, 34])
 (.seq
 (.region false [⟨some 36, .mv, [.t 3], none⟩,
 ⟨some 37, .mv, [.t 4], none⟩,
 ⟨some 38, .bin .add, [.t 37, .c (.i 2)], none⟩,
 ⟨some 39, .call n_impl_BestRounds 19968, [.t 36, .t 38], none⟩,
 ⟨some 35, .mv, [.t 39], none⟩,
 ⟨some 40, .ext 0, [.t 35], none⟩,
 ⟨some 41, .ext 1, [.t 35], none⟩,
 ⟨some 9, .mv, [.t 40], none⟩,
 ⟨some 10, .mv, [.t 41], none⟩] [4, 9, 35, 36, 37, 38, 39, 40, 41])
 (.seq
 (.region false [⟨some 42, .call n_laws_alive 21504, [], none⟩,
 ⟨some 43, .mv, [.t 42], none⟩,
 ⟨some 44, .mv, [.t 8], some (43, true)⟩,
 ⟨some 45, .bin .lss, [.t 44, .c (.i 0)], some (43, true)⟩,
 ⟨some 46, .mv, [.t 45], some (43, true)⟩,
 ⟨some 47, .mv, [.t 8], some (46, false)⟩,
 ⟨some 48, .mv, [.t 6], some (46, false)⟩,
 ⟨some 49, .mv, [.t 3], some (46, false)⟩,
 ⟨some 50, .len, [.t 49], some (46, false)⟩,
 ⟨some 51, .call n_laws_power 26112, [.t 50], some (46, false)⟩,
 ⟨some 52, .bin .add, [.t 48, .t 51], some (46, false)⟩,
 ⟨some 53, .bin .geq, [.t 47, .t 52], some (46, false)⟩,
 ⟨some 54, .pick, [.t 46, .c (.b true), .t 53], some (43, true)⟩,
 ⟨some 55, .mv, [.t 54], some (43, true)⟩,
 ⟨some 56, .mv, [.t 8], some (55, true)⟩,
 ⟨some 57, .bin .lss, [.t 56, .c (.i 0)], some (55, true)⟩,
 ⟨some 58, .mv, [.t 57], some (55, true)⟩,
 ⟨some 59, .mv, [.t 10], some (58, false)⟩,
 ⟨some 60, .bin .lss, [.t 59, .c (.i 0)], some (58, false)⟩,
 ⟨some 61, .pick, [.t 58, .c (.b true), .t 60], some (55, true)⟩,
 ⟨some 62, .mv, [.t 61], some (55, true)⟩,
 ⟨some 63, .mv, [.t 10], some (62, false)⟩,
 ⟨some 64, .mv, [.t 8], some (62, false)⟩,
 ⟨some 65, .bin .sub, [.t 63, .t 64], some (62, false)⟩,
 ⟨some 66, .mv, [.t 8], some (62, false)⟩,
 ⟨some 67, .mv, [.t 6], some (62, false)⟩,
 ⟨some 68, .bin .sub, [.t 66, .t 67], some (62, false)⟩,
 ⟨some 69, .bin .leq, [.t 65, .t 68], some (62, false)⟩,
 ⟨some 70, .pick, [.t 62, .c (.b true), .t 69], some (55, true)⟩,
 ⟨some 71, .pick, [.t 55, .t 70, .c (.b false)], some (43, true)⟩,
 ⟨some 72, .pick, [.t 43, .t 71, .c (.b false)], none⟩,
 ⟨some 2, .mv, [.t 72], none⟩] [3, 6, 8, 10, 42, 43, 44, 45, 46, 47, 48, 49, 50, 51, 52, 53, 54, 55, 56, 57, 58, 59, 60, 61, 62, 63, 64, 65, 66, 67, 68, 69, 70, 71, 72])
 .ret)))))))) }
/-- impl.RoundAverage -/
def F_impl_RoundAverage_R0 : LC :=
 (.block 1
 (.seq
 (.region false [⟨some 30, .load 1 false, [.t 8], none⟩,
 ⟨some 31, .mv, [.t 10], none⟩,
 ⟨some 32, .len, [.t 31], none⟩,
 ⟨some 33, .bin .add, [.t 30, .t 32], none⟩,
 ⟨none, .store 1, [.t 8, .t 33], none⟩] [30, 31, 32, 33])
 (.region true [⟨some 34, .load 1 false, [.t 3], none⟩,
 ⟨some 35, .mv, [.t 10], none⟩,
 ⟨some 36, .call n_impl_setOf 18432, [.t 35], none⟩,
 ⟨some 37, .load 1 false, [.t 5], none⟩,
 ⟨some 38, .load 1 false, [.t 8], none⟩,
 ⟨some 39, .load 1 false, [.t 7], none⟩,
 ⟨some 40, .call n_impl_averageOfRound 20480, [.t 34, .t 36, .t 37, .t 38, .t 39], none⟩,
 ⟨none, .store 1, [.t 7, .t 40], none⟩] [34, 35, 36, 37, 38, 39, 40])))
def F_impl_RoundAverage_B0 : LC := .back bkFs 27 28 29 [3, 5, 7, 8, 10] [⟨some 10, .mv, [.t 29], none⟩] F_impl_RoundAverage_R0
def F_impl_RoundAverage : LF :=
 { nparams := 3, results := [.t 6], body :=
 (.seq
 (.region false [⟨some 3, .box 1544, [.t 0], none⟩,
 ⟨some 5, .box 2568, [.t 2], none⟩,
 ⟨some 6, .mv, [.c (.i 0)], none⟩] [0, 2, 6])
 (.ghost (.close_ 3)
(.ghost (.close_ 5)
 (.seq
 (.seq
 (.region false [⟨some 11, .load 1 false, [.t 3], none⟩,
 ⟨some 12, .call n_impl_TestsOk 6144, [.t 11], none⟩,
 ⟨some 13, .un .not, [.t 12], none⟩,
 ⟨some 14, .mv, [.t 13], none⟩,
 ⟨some 15, .load 1 false, [.t 3], some (14, false)⟩,
 ⟨some 16, .len, [.t 15], some (14, false)⟩,
 ⟨some 17, .mv, [.t 1], some (14, false)⟩,
 ⟨some 18, .call n_impl_GroupsOk 9216, [.t 16, .t 17], some (14, false)⟩,
 ⟨some 19, .un .not, [.t 18], some (14, false)⟩,
 ⟨some 20, .pick, [.t 14, .c (.b true), .t 19], none⟩,
 ⟨some 21, .mv, [.t 20], none⟩,
 ⟨some 22, .load 1 false, [.t 5], some (21, false)⟩,
 ⟨some 23, .call n_impl_feeOk 11776, [.t 22], some (21, false)⟩,
 ⟨some 24, .un .not, [.t 23], some (21, false)⟩,
 ⟨some 25, .pick, [.t 21, .c (.b true), .t 24], none⟩] [11, 12, 13, 14, 15, 16, 17, 18, 19, 20, 21, 22, 23, 24])
 (.cond (.t 25) [25]
 (.seq
 (.region false [⟨some 6, .mv, [.c (.i (-1))], none⟩] [1, 3, 5])
 .ret)
 .skip))
 (.seq
 (.region false [⟨some 7, .alloc 3592 (.i 0), [], none⟩,
 ⟨some 8, .alloc 4104 (.i 0), [], none⟩,
 ⟨none, .store 1, [.t 7, .c (.i 0)], none⟩,
 ⟨none, .store 1, [.t 8, .c (.i 0)], none⟩] [])
 (.seq
 (.seq
 (.region false [⟨some 26, .mv, [.t 1], none⟩,
 ⟨some 27, .call n_slices_Backward_int_int 13824, [.t 26], none⟩] [1, 26])
 (.block 0
 F_impl_RoundAverage_B0))
 (.seq
 (.region false [⟨some 41, .load 1 false, [.t 7], none⟩,
 ⟨some 6, .mv, [.t 41], none⟩] [3, 5, 7, 8, 27, 41])
 .ret))))))) }
/-- laws.alive -/
def F_laws_alive : LF :=
 { nparams := 0, results := [.t 0], body :=
 (.seq
 (.region false [⟨some 0, .mv, [.c (.b false)], none⟩] [0])
 (.seq
 (.region false [⟨some 1, .build [.i 0, .i 0] [(0, 1), (1, 1)], [.c (.i 1), .c (.i 1)], none⟩,
 ⟨some 2, .bslice 1040 1 2 (.st [.i 0, .i 0]) [0], [.t 1], none⟩,
 ⟨some 3, .call n_impl_TestsOk 1536, [.t 2], none⟩,
 ⟨some 4, .mv, [.t 3], none⟩,
 ⟨some 5, .build [.i 0, .i 0] [], [], some (4, true)⟩,
 ⟨some 6, .bslice 3088 1 2 (.st [.i 0, .i 0]) [0], [.t 5], some (4, true)⟩,
 ⟨some 7, .call n_impl_TestsOk 3584, [.t 6], some (4, true)⟩,
 ⟨some 8, .un .not, [.t 7], some (4, true)⟩,
 ⟨some 9, .pick, [.t 4, .t 8, .c (.b false)], none⟩,
 ⟨some 0, .mv, [.t 9], none⟩] [1, 2, 3, 4, 5, 6, 7, 8, 9])
 .ret)) }
/-- laws.power -/
def F_laws_power_L0 : LC :=
 (.seq
 (.seq
 (.region false [⟨some 5, .mv, [.t 4], none⟩,
 ⟨some 6, .mv, [.t 0], none⟩,
 ⟨some 7, .bin .lss, [.t 5, .t 6], none⟩] [5, 6])
 (.cond (.t 7) [7]
 .skip
 (.exit 0)))
 (.seq
 (.block 1
 (.region false [⟨some 10, .mv, [.t 3], none⟩,
 ⟨some 11, .bin .mul, [.t 10, .c (.i 6)], none⟩,
 ⟨some 3, .mv, [.t 11], none⟩] [10, 11]))
 (.region false [⟨some 8, .mv, [.t 4], none⟩,
 ⟨some 9, .bin .add, [.t 8, .c (.i 1)], none⟩,
 ⟨some 4, .mv, [.t 9], none⟩] [8, 9])))
def F_laws_power_W0 : LC := .loop F_laws_power_L0
def F_laws_power : LF :=
 { nparams := 1, results := [.t 2], body :=
 (.seq
 (.region false [⟨some 2, .mv, [.c (.i 0)], none⟩] [2])
 (.seq
 (.region false [⟨some 3, .mv, [.c (.i 1)], none⟩] [])
 (.seq
 (.seq
 (.region false [⟨some 4, .mv, [.c (.i 0)], none⟩] [])
 (.block 0
 F_laws_power_W0))
 (.seq
 (.region false [⟨some 12, .mv, [.t 3], none⟩,
 ⟨some 2, .mv, [.t 12], none⟩] [0, 3, 4, 12])
 .ret)))) }
/-- impl.RowAverage -/
def F_impl_RowAverage_L0 : LC :=
 (.seq
 (.region false [⟨some 33, .bin .lss, [.t 32, .t 31], none⟩] [])
 (.seq
 (.cond (.t 33) [33]
 .skip
 (.exit 0))
 (.seq
 (.block 1
 (.seq
 (.region false [⟨some 34, .idxa 1, [.t 30, .t 32], none⟩,
 ⟨some 35, .load 1 false, [.t 34], none⟩,
 ⟨some 11, .mv, [.t 35], none⟩] [34, 35])
 (.seq
 (.region false [⟨some 36, .mv, [.t 8], none⟩,
 ⟨some 37, .mv, [.t 0], none⟩,
 ⟨some 38, .mv, [.t 11], none⟩,
 ⟨some 39, .idxa 2, [.t 37, .t 38], none⟩,
 ⟨some 40, .fld 0 1 false, [.t 39], none⟩,
 ⟨some 41, .load 1 false, [.t 40], none⟩,
 ⟨some 42, .mv, [.t 9], none⟩,
 ⟨some 43, .bin .mul, [.t 41, .t 42], none⟩,
 ⟨some 44, .bin .add, [.t 36, .t 43], none⟩,
 ⟨some 8, .mv, [.t 44], none⟩] [36, 37, 38, 39, 40, 41, 42, 43, 44])
 (.region false [⟨some 45, .mv, [.t 9], none⟩,
 ⟨some 46, .bin .quo, [.t 45, .c (.i 6)], none⟩,
 ⟨some 47, .mv, [.t 0], none⟩,
 ⟨some 48, .mv, [.t 11], none⟩,
 ⟨some 49, .idxa 2, [.t 47, .t 48], none⟩,
 ⟨some 50, .load 2 true, [.t 49], none⟩,
 ⟨some 51, .mv, [.t 2], none⟩,
 ⟨some 52, .call n_impl_endChance 26624, [.t 50, .t 51], none⟩,
 ⟨some 53, .bin .sub, [.c (.i 6), .t 52], none⟩,
 ⟨some 54, .bin .mul, [.t 46, .t 53], none⟩,
 ⟨some 9, .mv, [.t 54], none⟩] [11, 45, 46, 47, 48, 49, 50, 51, 52, 53, 54]))))
 (.region false [⟨some 55, .bin .add, [.t 32, .c (.i 1)], none⟩,
 ⟨some 32, .mv, [.t 55], none⟩] [55]))))
def F_impl_RowAverage_W0 : LC := .loop F_impl_RowAverage_L0
def F_impl_RowAverage : LF :=
 { nparams := 3, results := [.t 6], body :=
 (.seq
 (.region false [⟨some 6, .mv, [.c (.i 0)], none⟩] [6])
 (.seq
 (.region false [⟨some 12, .mv, [.t 0], none⟩,
 ⟨some 13, .len, [.t 12], none⟩,
 ⟨some 7, .mv, [.t 13], none⟩] [12, 13])
 (.seq
 (.seq
 (.region false [⟨some 14, .mv, [.t 0], none⟩,
 ⟨some 15, .call n_impl_TestsOk 7680, [.t 14], none⟩,
 ⟨some 16, .un .not, [.t 15], none⟩,
 ⟨some 17, .mv, [.t 16], none⟩,
 ⟨some 18, .mv, [.t 7], some (17, false)⟩,
 ⟨some 19, .mv, [.t 1], some (17, false)⟩,
 ⟨some 20, .call n_impl_OrderOk 10240, [.t 18, .t 19], some (17, false)⟩,
 ⟨some 21, .un .not, [.t 20], some (17, false)⟩,
 ⟨some 22, .pick, [.t 17, .c (.b true), .t 21], none⟩,
 ⟨some 23, .mv, [.t 22], none⟩,
 ⟨some 24, .mv, [.t 2], some (23, false)⟩,
 ⟨some 25, .call n_impl_rowOk 12800, [.t 24], some (23, false)⟩,
 ⟨some 26, .un .not, [.t 25], some (23, false)⟩,
 ⟨some 27, .pick, [.t 23, .c (.b true), .t 26], none⟩] [14, 15, 16, 17, 18, 19, 20, 21, 22, 23, 24, 25, 26])
 (.cond (.t 27) [27]
 (.seq
 (.region false [⟨some 6, .mv, [.c (.i (-1))], none⟩] [0, 1, 2, 7])
 .ret)
 .skip))
 (.seq
 (.region false [⟨some 28, .mv, [.t 7], none⟩,
 ⟨some 29, .call n_impl_wholeOf 14848, [.t 28], none⟩,
 ⟨some 8, .mv, [.c (.i 0)], none⟩,
 ⟨some 9, .mv, [.t 29], none⟩] [7, 28, 29])
 (.seq
 (.seq
 (.region false [⟨some 30, .mv, [.t 1], none⟩,
 ⟨some 31, .len, [.t 30], none⟩,
 ⟨some 32, .mv, [.c (.i 0)], none⟩] [1])
 (.block 0
 F_impl_RowAverage_W0))
 (.seq
 (.region false [⟨some 56, .mv, [.t 8], none⟩,
 ⟨some 6, .mv, [.t 56], none⟩] [0, 2, 8, 9, 30, 31, 32, 56])
 .ret)))))) }
/-- spec.DrawBestRounds -/
def F_spec_DrawBestRounds : LF :=
 { nparams := 1, results := [.t 2, .t 3], body :=
 (.seq
 (.region false [⟨some 2, .newnil 1040, [], none⟩,
 ⟨some 3, .mv, [.c (.i 0)], none⟩] [2, 3])
 (.seq
 (.region false [⟨some 5, .mv, [.t 0], none⟩,
 ⟨some 6, .call n_spec_l20Open 3072, [.t 5], none⟩,
 ⟨some 4, .mv, [.t 6], none⟩] [0, 5, 6])
 (.seq
 (.region false [⟨some 7, .mv, [.t 4], none⟩,
 ⟨some 8, .call n_spec_l20Tests 4096, [.t 7, .c (.i 12)], none⟩,
 ⟨some 9, .mv, [.t 4], none⟩,
 ⟨some 10, .call n_spec_l20Rd_pick 5120, [.t 9, .c (.i 6)], none⟩,
 ⟨some 11, .mv, [.t 4], none⟩,
 ⟨some 12, .call n_spec_l20Rd_pick 6144, [.t 11, .c (.i 9)], none⟩,
 ⟨some 13, .bin .quo, [.t 12, .c (.i 8)], none⟩,
 ⟨some 14, .bin .mul, [.t 13, .c (.i 14)], none⟩,
 ⟨some 15, .bin .add, [.t 10, .t 14], none⟩,
 ⟨some 16, .mv, [.t 4], none⟩,
 ⟨some 17, .call n_spec_l20Rd_pick 8704, [.t 16, .c (.i 60)], none⟩,
 ⟨some 18, .bin .quo, [.t 17, .c (.i 59)], none⟩,
 ⟨some 19, .bin .mul, [.t 18, .c (.i 20)], none⟩,
 ⟨some 20, .bin .add, [.t 15, .t 19], none⟩,
 ⟨some 2, .mv, [.t 8], none⟩,
 ⟨some 3, .mv, [.t 20], none⟩] [4, 7, 8, 9, 10, 11, 12, 13, 14, 15, 16, 17, 18, 19, 20])
 .ret))) }
/-- impl.BestRounds -/
def F_impl_BestRounds_L0 : LC :=
 (.seq
 (.region false [⟨some 30, .bin .lss, [.t 29, .t 28], none⟩] [])
 (.seq
 (.cond (.t 30) [30]
 .skip
 (.exit 0))
 (.seq
 (.block 1
 (.seq
 (.region false [⟨some 31, .idxa 1, [.t 27, .t 29], none⟩,
 ⟨some 32, .load 1 false, [.t 31], none⟩,
 ⟨some 10, .mv, [.t 32], none⟩] [31, 32])
 (.region false [⟨some 33, .mv, [.t 8], none⟩,
 ⟨some 34, .mv, [.t 10], none⟩,
 ⟨some 35, .call n_impl_rowOf 17920, [.t 34], none⟩,
 ⟨some 36, .bslice 18440 1 1 (.sl 1 []) [0], [.t 35], none⟩,
 ⟨some 37, .app 18952 1, [.t 33, .t 36], none⟩,
 ⟨some 8, .mv, [.t 37], none⟩] [10, 33, 34, 35, 36, 37])))
 (.region false [⟨some 38, .bin .add, [.t 29, .c (.i 1)], none⟩,
 ⟨some 29, .mv, [.t 38], none⟩] [38]))))
def F_impl_BestRounds_W0 : LC := .loop F_impl_BestRounds_L0
def F_impl_BestRounds : LF :=
 { nparams := 2, results := [.t 4, .t 5], body :=
 (.seq
 (.region false [⟨some 4, .newnil 2056, [], none⟩,
 ⟨some 5, .mv, [.c (.i 0)], none⟩] [4, 5])
 (.seq
 (.seq
 (.region false [⟨some 11, .mv, [.t 0], none⟩,
 ⟨some 12, .call n_impl_TestsOk 6144, [.t 11], none⟩,
 ⟨some 13, .un .not, [.t 12], none⟩,
 ⟨some 14, .mv, [.t 13], none⟩,
 ⟨some 15, .mv, [.t 1], some (14, false)⟩,
 ⟨some 16, .call n_impl_feeOk 8192, [.t 15], some (14, false)⟩,
 ⟨some 17, .un .not, [.t 16], some (14, false)⟩,
 ⟨some 18, .pick, [.t 14, .c (.b true), .t 17], none⟩] [11, 12, 13, 14, 15, 16, 17])
 (.cond (.t 18) [18]
 (.seq
 (.region false [⟨some 4, .newnil 2056, [], none⟩,
 ⟨some 5, .mv, [.c (.i (-1))], none⟩] [0, 1])
 .ret)
 .skip))
 (.seq
 (.region false [⟨some 20, .mv, [.t 0], none⟩,
 ⟨some 21, .mv, [.t 0], none⟩,
 ⟨some 22, .call n_impl_allOf 11264, [.t 21], none⟩,
 ⟨some 23, .mv, [.t 1], none⟩,
 ⟨some 24, .call n_impl_bestRoundsOf 12288, [.t 20, .t 22, .t 23], none⟩,
 ⟨some 19, .mv, [.t 24], none⟩,
 ⟨some 25, .ext 0, [.t 19], none⟩,
 ⟨some 26, .ext 1, [.t 19], none⟩,
 ⟨some 6, .mv, [.t 25], none⟩,
 ⟨some 7, .mv, [.t 26], none⟩] [0, 1, 19, 20, 21, 22, 23, 24, 25, 26])
 (.seq
 (.region false [⟨some 8, .newnil 4104, [], none⟩] [])
 (.seq
 (.seq
 (.region false [⟨some 27, .mv, [.t 6], none⟩,
 ⟨some 28, .len, [.t 27], none⟩,
 ⟨some 29, .mv, [.c (.i 0)], none⟩] [6])
 (.block 0
 F_impl_BestRounds_W0))
 (.seq
 (.region false [⟨some 39, .mv, [.t 8], none⟩,
 ⟨some 40, .mv, [.t 7], none⟩,
 ⟨some 4, .mv, [.t 39], none⟩,
 ⟨some 5, .mv, [.t 40], none⟩] [7, 8, 27, 28, 29, 39, 40])
 .ret)))))) }
/-- spec.BestRounds -/
def F_spec_BestRounds_L1 : LC :=
 (.seq
 (.seq
 (.region false [⟨some 51, .mv, [.t 14], none⟩,
 ⟨some 52, .mv, [.t 0], none⟩,
 ⟨some 53, .len, [.t 52], none⟩,
 ⟨some 54, .bin .lss, [.t 51, .t 53], none⟩] [51, 52, 53])
 (.cond (.t 54) [54]
 .skip
 (.exit 2)))
 (.seq
 (.block 3
 (.seq
 (.region false [⟨some 57, .mv, [.t 12], none⟩,
 ⟨some 58, .mv, [.t 14], none⟩,
 ⟨some 59, .bin .shr, [.t 57, .t 58], none⟩,
 ⟨some 60, .bin .rem, [.t 59, .c (.i 2)], none⟩,
 ⟨some 61, .bin .eql, [.t 60, .c (.i 1)], none⟩] [57, 58, 59, 60])
 (.cond (.t 61) [61]
 (.seq
 (.region false [⟨some 62, .mv, [.t 13], none⟩,
 ⟨some 63, .mv, [.t 14], none⟩,
 ⟨some 64, .bslice 32776 1 1 (.i 0) [0], [.t 63], none⟩,
 ⟨some 65, .app 33288 1, [.t 62, .t 64], none⟩,
 ⟨some 13, .mv, [.t 65], none⟩] [62, 63, 64, 65])
 (.region false [⟨some 66, .mv, [.t 8], none⟩,
 ⟨some 67, .bin .quo, [.t 66, .c (.i 6)], none⟩,
 ⟨some 68, .mv, [.t 0], none⟩,
 ⟨some 69, .mv, [.t 14], none⟩,
 ⟨some 70, .idxa 2, [.t 68, .t 69], none⟩,
 ⟨some 71, .fld 1 1 false, [.t 70], none⟩,
 ⟨some 72, .load 1 false, [.t 71], none⟩,
 ⟨some 73, .bin .mul, [.t 67, .t 72], none⟩,
 ⟨some 8, .mv, [.t 73], none⟩] [66, 67, 68, 69, 70, 71, 72, 73]))
 .skip)))
 (.region false [⟨some 55, .mv, [.t 14], none⟩,
 ⟨some 56, .bin .add, [.t 55, .c (.i 1)], none⟩,
 ⟨some 14, .mv, [.t 56], none⟩] [55, 56])))
def F_spec_BestRounds_W1 : LC := .loop F_spec_BestRounds_L1
def F_spec_BestRounds_L0 : LC :=
 (.seq
 (.seq
 (.region false [⟨some 40, .mv, [.t 7], none⟩,
 ⟨some 41, .bin .gtr, [.t 40, .c (.i 0)], none⟩] [40])
 (.cond (.t 41) [41]
 .skip
 (.exit 0)))
 (.block 1
 (.seq
 (.region false [⟨some 43, .mv, [.t 0], none⟩,
 ⟨some 44, .mv, [.t 7], none⟩,
 ⟨some 45, .mv, [.t 1], none⟩,
 ⟨some 46, .mv, [.t 8], none⟩,
 ⟨some 47, .call n_spec_l10Best 24064, [.t 43, .t 44, .t 45, .t 46], none⟩,
 ⟨some 42, .mv, [.t 47], none⟩,
 ⟨some 48, .ext 0, [.t 42], none⟩,
 ⟨some 49, .ext 1, [.t 42], none⟩,
 ⟨some 11, .mv, [.t 48], none⟩,
 ⟨some 12, .mv, [.t 49], none⟩] [11, 42, 43, 44, 45, 46, 47, 48, 49])
 (.seq
 (.region false [⟨some 50, .bslice 25608 0 1 (.i 0) [], [], none⟩,
 ⟨some 13, .mv, [.t 50], none⟩] [50])
 (.seq
 (.seq
 (.region false [⟨some 14, .mv, [.c (.i 0)], none⟩] [])
 (.block 2
 F_spec_BestRounds_W1))
 (.seq
 (.region false [⟨some 74, .mv, [.t 6], none⟩,
 ⟨some 75, .mv, [.t 13], none⟩,
 ⟨some 76, .bslice 38920 1 1 (.sl 1 []) [0], [.t 75], none⟩,
 ⟨some 77, .app 39432 1, [.t 74, .t 76], none⟩,
 ⟨some 6, .mv, [.t 77], none⟩] [13, 14, 74, 75, 76, 77])
 (.region false [⟨some 78, .mv, [.t 7], none⟩,
 ⟨some 79, .mv, [.t 12], none⟩,
 ⟨some 80, .bin .sub, [.t 78, .t 79], none⟩,
 ⟨some 7, .mv, [.t 80], none⟩] [12, 78, 79, 80])))))))
def F_spec_BestRounds_W0 : LC := .loop F_spec_BestRounds_L0
def F_spec_BestRounds : LF :=
 { nparams := 2, results := [.t 4, .t 5], body :=
 (.seq
 (.region false [⟨some 4, .newnil 2056, [], none⟩,
 ⟨some 5, .mv, [.c (.i 0)], none⟩] [4, 5])
 (.seq
 (.seq
 (.region false [⟨some 15, .mv, [.t 0], none⟩,
 ⟨some 16, .call n_spec_TestsOk 8192, [.t 15], none⟩,
 ⟨some 17, .un .not, [.t 16], none⟩,
 ⟨some 18, .mv, [.t 17], none⟩,
 ⟨some 19, .mv, [.t 1], some (18, false)⟩,
 ⟨some 20, .call n_spec_l1In 10240, [.t 19, .c (.i 0), .c (.i 20)], some (18, false)⟩,
 ⟨some 21, .un .not, [.t 20], some (18, false)⟩,
 ⟨some 22, .pick, [.t 18, .c (.b true), .t 21], none⟩] [15, 16, 17, 18, 19, 20, 21])
 (.cond (.t 22) [22]
 (.seq
 (.region false [⟨some 23, .bslice 11784 0 1 (.sl 1 []) [], [], none⟩,
 ⟨some 4, .mv, [.t 23], none⟩,
 ⟨some 5, .mv, [.c (.i (-1))], none⟩] [0, 1, 23])
 .ret)
 .skip))
 (.seq
 (.region false [⟨some 24, .bslice 12296 0 1 (.sl 1 []) [], [], none⟩,
 ⟨some 6, .mv, [.t 24], none⟩] [24])
 (.seq
 (.region false [⟨some 25, .mv, [.t 0], none⟩,
 ⟨some 26, .len, [.t 25], none⟩,
 ⟨some 27, .bin .shl, [.c (.i 1), .t 26], none⟩,
 ⟨some 28, .bin .sub, [.t 27, .c (.i 1)], none⟩,
 ⟨some 7, .mv, [.t 28], none⟩] [25, 26, 27, 28])
 (.seq
 (.region false [⟨some 29, .mv, [.t 0], none⟩,
 ⟨some 30, .len, [.t 29], none⟩,
 ⟨some 31, .call n_spec_l1Power 15872, [.t 30], none⟩,
 ⟨some 8, .mv, [.t 31], none⟩] [29, 30, 31])
 (.seq
 (.region false [⟨some 33, .mv, [.t 0], none⟩,
 ⟨some 34, .mv, [.t 7], none⟩,
 ⟨some 35, .mv, [.t 1], none⟩,
 ⟨some 36, .mv, [.t 8], none⟩,
 ⟨some 37, .call n_spec_l10Best 18944, [.t 33, .t 34, .t 35, .t 36], none⟩,
 ⟨some 32, .mv, [.t 37], none⟩,
 ⟨some 38, .ext 0, [.t 32], none⟩,
 ⟨some 39, .ext 1, [.t 32], none⟩,
 ⟨some 9, .mv, [.t 38], none⟩,
 ⟨some 10, .mv, [.t 39], none⟩] [10, 32, 33, 34, 35, 36, 37, 38, 39])
 (.seq
 (.block 0
 F_spec_BestRounds_W0)
 (.seq
 (.region false [⟨some 81, .mv, [.t 6], none⟩,
 ⟨some 82, .mv, [.t 9], none⟩,
 ⟨some 4, .mv, [.t 81], none⟩,
 ⟨some 5, .mv, [.t 82], none⟩] [0, 1, 6, 7, 8, 9, 81, 82])
 .ret)))))))) }
/-- laws.sameRows -/
def F_laws_sameRows_L0 : LC :=
 (.seq
 (.seq
 (.region false [⟨some 11, .mv, [.t 5], none⟩,
 ⟨some 12, .mv, [.t 0], none⟩,
 ⟨some 13, .len, [.t 12], none⟩,
 ⟨some 14, .bin .lss, [.t 11, .t 13], none⟩] [11, 12, 13])
 (.cond (.t 14) [14]
 .skip
 (.exit 0)))
 (.seq
 (.block 1
 (.seq
 (.region true [⟨some 17, .mv, [.t 0], none⟩,
 ⟨some 18, .mv, [.t 5], none⟩,
 ⟨some 19, .idxa 1, [.t 17, .t 18], none⟩,
 ⟨some 20, .load 1 false, [.t 19], none⟩,
 ⟨some 21, .mv, [.t 1], none⟩,
 ⟨some 22, .mv, [.t 5], none⟩,
 ⟨some 23, .idxa 1, [.t 21, .t 22], none⟩,
 ⟨some 24, .load 1 false, [.t 23], none⟩,
 ⟨some 25, .call n_laws_sameInts 12800, [.t 20, .t 24], none⟩,
 ⟨some 26, .un .not, [.t 25], none⟩] [17, 18, 19, 20, 21, 22, 23, 24, 25])
 (.cond (.t 26) [26]
 (.seq
 (.region false [⟨some 4, .mv, [.c (.b false)], none⟩] [0, 1, 5])
 .ret)
 .skip)))
 (.region false [⟨some 15, .mv, [.t 5], none⟩,
 ⟨some 16, .bin .add, [.t 15, .c (.i 1)], none⟩,
 ⟨some 5, .mv, [.t 16], none⟩] [15, 16])))
def F_laws_sameRows_W0 : LC := .loop F_laws_sameRows_L0
def F_laws_sameRows : LF :=
 { nparams := 2, results := [.t 4], body :=
 (.seq
 (.region false [⟨some 4, .mv, [.c (.b false)], none⟩] [4])
 (.seq
 (.seq
 (.region false [⟨some 6, .mv, [.t 0], none⟩,
 ⟨some 7, .len, [.t 6], none⟩,
 ⟨some 8, .mv, [.t 1], none⟩,
 ⟨some 9, .len, [.t 8], none⟩,
 ⟨some 10, .bin .neq, [.t 7, .t 9], none⟩] [6, 7, 8, 9])
 (.cond (.t 10) [10]
 (.seq
 (.region false [⟨some 4, .mv, [.c (.b false)], none⟩] [0, 1])
 .ret)
 .skip))
 (.seq
 (.seq
 (.region false [⟨some 5, .mv, [.c (.i 0)], none⟩] [])
 (.block 0
 F_laws_sameRows_W0))
 (.seq
 (.region false [⟨some 4, .mv, [.c (.b true)], none⟩] [0, 1, 5])
 .ret)))) }
/-- spec.DrawGroupsOk -/
def F_spec_DrawGroupsOk : LF :=
 { nparams := 1, results := [.t 2, .t 3], body :=
 (.seq
 (.region false [⟨some 2, .mv, [.c (.i 0)], none⟩,
 ⟨some 3, .newnil 1544, [], none⟩] [2, 3])
 (.seq
 (.region false [⟨some 6, .mv, [.t 0], none⟩,
 ⟨some 7, .call n_spec_l20Open 3584, [.t 6], none⟩,
 ⟨some 4, .mv, [.t 7], none⟩] [0, 6, 7])
 (.seq
 (.region false [⟨some 8, .mv, [.t 4], none⟩,
 ⟨some 9, .call n_spec_l20Rd_pick 4608, [.t 8, .c (.i 5)], none⟩,
 ⟨some 10, .bin .add, [.c (.i 1), .t 9], none⟩,
 ⟨some 5, .mv, [.t 10], none⟩] [8, 9, 10])
 (.seq
 (.region false [⟨some 11, .mv, [.t 5], none⟩,
 ⟨some 12, .mv, [.t 4], none⟩,
 ⟨some 13, .mv, [.t 5], none⟩,
 ⟨some 14, .call n_spec_l20Groups 7168, [.t 12, .t 13, .c (.i 3)], none⟩,
 ⟨some 2, .mv, [.t 11], none⟩,
 ⟨some 3, .mv, [.t 14], none⟩] [4, 5, 11, 12, 13, 14])
 .ret)))) }
/-- impl.GroupsOk -/
def F_impl_GroupsOk_L0 : LC :=
 (.seq
 (.region false [⟨some 14, .bin .lss, [.t 13, .t 12], none⟩] [])
 (.seq
 (.cond (.t 14) [14]
 .skip
 (.exit 0))
 (.seq
 (.block 1
 (.seq
 (.region false [⟨some 15, .idxa 1, [.t 11, .t 13], none⟩,
 ⟨some 16, .load 1 false, [.t 15], none⟩,
 ⟨some 7, .mv, [.t 16], none⟩] [15, 16])
 (.seq
 (.seq
 (.region false [⟨some 17, .mv, [.t 7], none⟩,
 ⟨some 18, .len, [.t 17], none⟩,
 ⟨some 19, .mv, [.t 0], none⟩,
 ⟨some 20, .mv, [.t 5], none⟩,
 ⟨some 21, .len, [.t 20], none⟩,
 ⟨some 22, .bin .sub, [.t 19, .t 21], none⟩,
 ⟨some 23, .call n_impl_isWithin 11776, [.t 18, .c (.i 1), .t 22], none⟩,
 ⟨some 24, .un .not, [.t 23], none⟩] [17, 18, 19, 20, 21, 22, 23])
 (.cond (.t 24) [24]
 (.seq
 (.region false [⟨some 4, .mv, [.c (.b false)], none⟩] [0, 5, 7, 11, 12, 13])
 .ret)
 .skip))
 (.region false [⟨some 25, .mv, [.t 5], none⟩,
 ⟨some 26, .mv, [.t 7], none⟩,
 ⟨some 27, .app 13832 1, [.t 25, .t 26], none⟩,
 ⟨some 5, .mv, [.t 27], none⟩] [7, 25, 26, 27]))))
 (.region false [⟨some 28, .bin .add, [.t 13, .c (.i 1)], none⟩,
 ⟨some 13, .mv, [.t 28], none⟩] [28]))))
def F_impl_GroupsOk_W0 : LC := .loop F_impl_GroupsOk_L0
def F_impl_GroupsOk : LF :=
 { nparams := 2, results := [.t 4], body :=
 (.seq
 (.region false [⟨some 4, .mv, [.c (.b false)], none⟩] [4])
 (.seq
 (.seq
 (.region false [⟨some 8, .mv, [.t 0], none⟩,
 ⟨some 9, .call n_impl_manyOk 4608, [.t 8], none⟩,
 ⟨some 10, .un .not, [.t 9], none⟩] [8, 9])
 (.cond (.t 10) [10]
 (.seq
 (.region false [⟨some 4, .mv, [.c (.b false)], none⟩] [0, 1])
 .ret)
 .skip))
 (.seq
 (.region false [⟨some 5, .newnil 2568, [], none⟩] [])
 (.seq
 (.seq
 (.region false [⟨some 11, .mv, [.t 1], none⟩,
 ⟨some 12, .len, [.t 11], none⟩,
 ⟨some 13, .mv, [.c (.i 0)], none⟩] [1])
 (.block 0
 F_impl_GroupsOk_W0))
 (.seq
 (.region false [⟨some 29, .mv, [.t 0], none⟩,
 ⟨some 30, .mv, [.t 5], none⟩,
 ⟨some 31, .call n_impl_OrderOk 15872, [.t 29, .t 30], none⟩,
 ⟨some 4, .mv, [.t 31], none⟩] [0, 5, 11, 12, 13, 29, 30, 31])
 .ret))))) }
/-- impl.RatioOrder -/
def F_impl_RatioOrder_L0 : LC :=
 (.ghost (.rename 6 3080)
 (.seq
 (.region false [⟨some 20, .bin .lss, [.t 19, .t 18], none⟩] [])
 (.seq
 (.cond (.t 20) [20]
 .skip
 (.exit 0))
 (.seq
 (.block 1
 (.seq
 (.region false [⟨some 21, .mv, [.t 19], none⟩,
 ⟨some 7, .mv, [.t 21], none⟩] [21])
 (.region false [⟨some 22, .mv, [.t 6], none⟩,
 ⟨some 23, .mv, [.t 7], none⟩,
 ⟨some 24, .mv, [.t 5], none⟩,
 ⟨some 25, .callm n_impl_inserted_int [0] 12800, [.t 22, .t 23, .t 24], none⟩,
 ⟨some 6, .mv, [.t 25], none⟩] [7, 22, 23, 24, 25])))
 (.region false [⟨some 26, .bin .add, [.t 19, .c (.i 1)], none⟩,
 ⟨some 19, .mv, [.t 26], none⟩] [26])))))
def F_impl_RatioOrder_W0 : LC := .loop F_impl_RatioOrder_L0
def F_impl_RatioOrder : LF :=
 { nparams := 2, results := [.t 4], body :=
 (.seq
 (.region false [⟨some 2, .box 1032, [.t 0], none⟩,
 ⟨some 3, .box 1544, [.t 1], none⟩,
 ⟨some 4, .newnil 2056, [], none⟩] [0, 1, 4])
 (.ghost (.close_ 2)
(.ghost (.close_ 3)
 (.seq
 (.seq
 (.region false [⟨some 8, .load 1 false, [.t 2], none⟩,
 ⟨some 9, .call n_impl_TestsOk 4608, [.t 8], none⟩,
 ⟨some 10, .un .not, [.t 9], none⟩,
 ⟨some 11, .mv, [.t 10], none⟩,
 ⟨some 12, .load 1 false, [.t 3], some (11, false)⟩,
 ⟨some 13, .call n_impl_rowOk 6656, [.t 12], some (11, false)⟩,
 ⟨some 14, .un .not, [.t 13], some (11, false)⟩,
 ⟨some 15, .pick, [.t 11, .c (.b true), .t 14], none⟩] [8, 9, 10, 11, 12, 13, 14])
 (.cond (.t 15) [15]
 (.seq
 (.region false [⟨some 4, .newnil 2056, [], none⟩] [2, 3])
 .ret)
 .skip))
 (.seq
 (.region false [⟨some 16, .mkfn (mkNo n_impl_RatioOrder_1 0), [.t 2, .t 3], none⟩,
 ⟨some 5, .mv, [.t 16], none⟩] [3, 16])
 (.seq
 (.region false [⟨some 6, .newnil 3080, [], none⟩] [])
 (.seq
 (.seq
 (.region false [⟨some 17, .load 1 false, [.t 2], none⟩,
 ⟨some 18, .len, [.t 17], none⟩,
 ⟨some 19, .mv, [.c (.i 0)], none⟩] [2, 17])
 (.block 0
 F_impl_RatioOrder_W0))
 (.seq
 (.region false [⟨some 27, .mv, [.t 6], none⟩,
 ⟨some 4, .mv, [.t 27], none⟩] [5, 6, 18, 19, 27])
 .ret)))))))) }
/-- spec.l20Open -/
def F_spec_l20Open : LF :=
 { nparams := 1, results := [.t 2], body :=
 (.seq
 (.region false [⟨some 2, .mv, [.c (.np)], none⟩] [2])
 (.seq
 (.seq
 (.region false [⟨some 3, .mv, [.t 0], none⟩,
 ⟨some 4, .len, [.t 3], none⟩,
 ⟨some 5, .bin .gtr, [.t 4, .c (.i 2000)], none⟩] [3, 4])
 (.cond (.t 5) [5]
 (.region false [⟨some 6, .mv, [.t 0], none⟩,
 ⟨some 7, .slice false true 1, [.t 6, .c (.i 2000)], none⟩,
 ⟨some 0, .mv, [.t 7], none⟩] [6, 7])
 .skip))
 (.seq
 (.region false [⟨some 8, .mv, [.t 0], none⟩,
 ⟨some 9, .build [.sl 1 [], .i 0] [(0, 1)], [.t 8], none⟩,
 ⟨some 10, .box 5136, [.t 9], none⟩,
 ⟨some 2, .mv, [.t 10], none⟩] [0, 8, 9, 10])
 .ret))) }
/-- spec.l20Rd).pick -/
def F_spec_l20Rd_pick : LF :=
 { nparams := 2, results := [.t 4], body :=
 (.seq
 (.region false [⟨some 4, .mv, [.c (.i 0)], none⟩] [4])
 (.seq
 (.region false [⟨some 7, .mv, [.t 0], none⟩,
 ⟨some 8, .mv, [.t 0], none⟩,
 ⟨some 9, .chk, [.t 8], none⟩,
 ⟨some 10, .fld 1 1 false, [.t 9], none⟩,
 ⟨some 11, .load 1 false, [.t 10], none⟩,
 ⟨some 12, .bin .add, [.t 11, .c (.i 1)], none⟩,
 ⟨some 13, .chk, [.t 7], none⟩,
 ⟨some 14, .fld 1 1 false, [.t 13], none⟩,
 ⟨none, .store 1, [.t 14, .t 12], none⟩] [7, 8, 9, 10, 11, 12, 13, 14])
 (.seq
 (.seq
 (.region false [⟨some 15, .mv, [.t 1], none⟩,
 ⟨some 16, .bin .lss, [.t 15, .c (.i 1)], none⟩,
 ⟨some 17, .mv, [.t 16], none⟩,
 ⟨some 18, .mv, [.t 0], some (17, false)⟩,
 ⟨some 19, .chk, [.t 18], some (17, false)⟩,
 ⟨some 20, .fld 0 1 false, [.t 19], some (17, false)⟩,
 ⟨some 21, .load 1 false, [.t 20], some (17, false)⟩,
 ⟨some 22, .len, [.t 21], some (17, false)⟩,
 ⟨some 23, .bin .eql, [.t 22, .c (.i 0)], some (17, false)⟩,
 ⟨some 24, .pick, [.t 17, .c (.b true), .t 23], none⟩] [15, 16, 17, 18, 19, 20, 21, 22, 23])
 (.cond (.t 24) [24]
 (.seq
 (.region false [⟨some 4, .mv, [.c (.i 0)], none⟩] [1])
 .ret)
 .skip))
 (.seq
 (.region false [⟨some 25, .mv, [.t 0], none⟩,
 ⟨some 26, .chk, [.t 25], none⟩,
 ⟨some 27, .fld 1 1 false, [.t 26], none⟩,
 ⟨some 28, .load 1 false, [.t 27], none⟩,
 ⟨some 29, .bin .sub, [.t 28, .c (.i 1)], none⟩,
 ⟨some 5, .mv, [.t 29], none⟩] [25, 26, 27, 28, 29])
 (.seq
 (.seq
 (.region false [⟨some 30, .mv, [.t 5], none⟩,
 ⟨some 31, .mv, [.t 0], none⟩,
 ⟨some 32, .chk, [.t 31], none⟩,
 ⟨some 33, .fld 0 1 false, [.t 32], none⟩,
 ⟨some 34, .load 1 false, [.t 33], none⟩,
 ⟨some 35, .len, [.t 34], none⟩,
 ⟨some 36, .bin .lss, [.t 30, .t 35], none⟩] [30, 31, 32, 33, 34, 35])
 (.cond (.t 36) [36]
 (.seq
 (.region false [⟨some 37, .mv, [.t 0], none⟩,
 ⟨some 38, .chk, [.t 37], none⟩,
 ⟨some 39, .fld 0 1 false, [.t 38], none⟩,
 ⟨some 40, .load 1 false, [.t 39], none⟩,
 ⟨some 41, .mv, [.t 5], none⟩,
 ⟨some 42, .idxa 1, [.t 40, .t 41], none⟩,
 ⟨some 43, .load 1 false, [.t 42], none⟩,
 ⟨some 44, .conv .b2i 22528, [.t 43], none⟩,
 ⟨some 45, .mv, [.t 1], none⟩,
 ⟨some 46, .bin .rem, [.t 44, .t 45], none⟩,
 ⟨some 4, .mv, [.t 46], none⟩] [1, 5, 37, 38, 39, 40, 41, 42, 43, 44, 45, 46])
 .ret)
 .skip))
 (.seq
 (.region true [⟨some 47, .mv, [.t 0], none⟩,
 ⟨some 48, .chk, [.t 47], none⟩,
 ⟨some 49, .fld 0 1 false, [.t 48], none⟩,
 ⟨some 50, .load 1 false, [.t 49], none⟩,
 ⟨some 51, .mv, [.t 5], none⟩,
 ⟨some 52, .mv, [.t 0], none⟩,
 ⟨some 53, .chk, [.t 52], none⟩,
 ⟨some 54, .fld 0 1 false, [.t 53], none⟩,
 ⟨some 55, .load 1 false, [.t 54], none⟩,
 ⟨some 56, .len, [.t 55], none⟩,
 ⟨some 57, .bin .rem, [.t 51, .t 56], none⟩,
 ⟨some 58, .idxa 1, [.t 50, .t 57], none⟩,
 ⟨some 59, .load 1 false, [.t 58], none⟩,
 ⟨some 60, .conv .b2i 30720, [.t 59], none⟩,
 ⟨some 61, .bin .mul, [.t 60, .c (.i 131)], none⟩,
 ⟨some 62, .mv, [.t 0], none⟩,
 ⟨some 63, .chk, [.t 62], none⟩,
 ⟨some 64, .fld 0 1 false, [.t 63], none⟩,
 ⟨some 65, .load 1 false, [.t 64], none⟩,
 ⟨some 66, .mv, [.t 5], none⟩,
 ⟨some 67, .bin .mul, [.t 66, .c (.i 7)], none⟩,
 ⟨some 68, .bin .add, [.t 67, .c (.i 3)], none⟩,
 ⟨some 69, .mv, [.t 0], none⟩,
 ⟨some 70, .chk, [.t 69], none⟩,
 ⟨some 71, .fld 0 1 false, [.t 70], none⟩,
 ⟨some 72, .load 1 false, [.t 71], none⟩,
 ⟨some 73, .len, [.t 72], none⟩,
 ⟨some 74, .bin .rem, [.t 68, .t 73], none⟩,
 ⟨some 75, .idxa 1, [.t 65, .t 74], none⟩,
 ⟨some 76, .load 1 false, [.t 75], none⟩,
 ⟨some 77, .conv .b2i 39424, [.t 76], none⟩,
 ⟨some 78, .bin .mul, [.t 77, .c (.i 1117)], none⟩,
 ⟨some 79, .bin .add, [.t 61, .t 78], none⟩,
 ⟨some 80, .mv, [.t 5], none⟩,
 ⟨some 81, .bin .mul, [.t 80, .c (.i 29)], none⟩,
 ⟨some 82, .bin .add, [.t 79, .t 81], none⟩,
 ⟨some 83, .mv, [.t 5], none⟩,
 ⟨some 84, .mv, [.t 0], none⟩,
 ⟨some 85, .chk, [.t 84], none⟩,
 ⟨some 86, .fld 0 1 false, [.t 85], none⟩,
 ⟨some 87, .load 1 false, [.t 86], none⟩,
 ⟨some 88, .len, [.t 87], none⟩,
 ⟨some 89, .bin .quo, [.t 83, .t 88], none⟩,
 ⟨some 90, .bin .mul, [.t 89, .c (.i 53)], none⟩,
 ⟨some 91, .bin .add, [.t 82, .t 90], none⟩,
 ⟨some 6, .mv, [.t 91], none⟩] [5, 47, 48, 49, 50, 51, 52, 53, 54, 55, 56, 57, 58, 59, 60, 61, 62, 63, 64, 65, 66, 67, 68, 69, 70, 71, 72, 73, 74, 75, 76, 77, 78, 79, 80, 81, 82, 83, 84, 85, 86, 87, 88, 89, 90, 91])
 (.seq
 (.region false [⟨some 92, .mv, [.t 6], none⟩,
 ⟨some 93, .mv, [.t 6], none⟩,
 ⟨some 94, .bin .quo, [.t 93, .c (.i 64)], none⟩,
 ⟨some 95, .bin .xor, [.t 92, .t 94], none⟩,
 ⟨some 6, .mv, [.t 95], none⟩] [92, 93, 94, 95])
 (.seq
 (.region false [⟨some 96, .mv, [.t 6], none⟩,
 ⟨some 97, .mv, [.t 1], none⟩,
 ⟨some 98, .bin .rem, [.t 96, .t 97], none⟩,
 ⟨some 4, .mv, [.t 98], none⟩] [1, 6, 96, 97, 98])
 .ret)))))))) }
/-- impl.TestsOk -/
def F_impl_TestsOk_L0 : LC :=
 (.seq
 (.region false [⟨some 12, .bin .lss, [.t 11, .t 10], none⟩] [])
 (.seq
 (.cond (.t 12) [12]
 .skip
 (.exit 0))
 (.seq
 (.block 1
 (.seq
 (.region false [⟨some 13, .idxa 2, [.t 9, .t 11], none⟩,
 ⟨some 14, .load 2 true, [.t 13], none⟩,
 ⟨some 4, .alloc 2064 (.st [.i 0, .i 0]), [], none⟩,
 ⟨none, .store 2, [.t 4, .t 14], none⟩] [13, 14])
 (.seq
 (.region false [⟨some 15, .fld 0 1 false, [.t 4], none⟩,
 ⟨some 16, .load 1 false, [.t 15], none⟩,
 ⟨some 17, .call n_impl_isWithin 8704, [.t 16, .c (.i 1), .c (.i 9)], none⟩,
 ⟨some 18, .un .not, [.t 17], none⟩,
 ⟨some 19, .mv, [.t 18], none⟩,
 ⟨some 20, .fld 1 1 false, [.t 4], some (19, false)⟩,
 ⟨some 21, .load 1 false, [.t 20], some (19, false)⟩,
 ⟨some 22, .call n_impl_isWithin 11264, [.t 21, .c (.i 1), .c (.i 5)], some (19, false)⟩,
 ⟨some 23, .un .not, [.t 22], some (19, false)⟩,
 ⟨some 24, .pick, [.t 19, .c (.b true), .t 23], none⟩] [4, 15, 16, 17, 18, 19, 20, 21, 22, 23])
 (.cond (.t 24) [24]
 (.seq
 (.region false [⟨some 2, .mv, [.c (.b false)], none⟩] [9, 10, 11])
 .ret)
 .skip))))
 (.region false [⟨some 25, .bin .add, [.t 11, .c (.i 1)], none⟩,
 ⟨some 11, .mv, [.t 25], none⟩] [25]))))
def F_impl_TestsOk_W0 : LC := .loop F_impl_TestsOk_L0
def F_impl_TestsOk : LF :=
 { nparams := 1, results := [.t 2], body :=
 (.seq
 (.region false [⟨some 2, .mv, [.c (.b false)], none⟩] [2])
 (.seq
 (.seq
 (.region false [⟨some 5, .mv, [.t 0], none⟩,
 ⟨some 6, .len, [.t 5], none⟩,
 ⟨some 7, .call n_impl_manyOk 3584, [.t 6], none⟩,
 ⟨some 8, .un .not, [.t 7], none⟩] [5, 6, 7])
 (.cond (.t 8) [8]
 (.seq
 (.region false [⟨some 2, .mv, [.c (.b false)], none⟩] [0])
 .ret)
 .skip))
 (.seq
 (.seq
 (.region false [⟨some 9, .mv, [.t 0], none⟩,
 ⟨some 10, .len, [.t 9], none⟩,
 ⟨some 11, .mv, [.c (.i 0)], none⟩] [0])
 (.block 0
 F_impl_TestsOk_W0))
 (.seq
 (.region false [⟨some 2, .mv, [.c (.b true)], none⟩] [9, 10, 11])
 .ret)))) }
/-- impl.feeOk -/
def F_impl_feeOk : LF :=
 { nparams := 1, results := [.t 2], body :=
 (.seq
 (.region false [⟨some 2, .mv, [.c (.b false)], none⟩] [2])
 (.seq
 (.region false [⟨some 3, .mv, [.t 0], none⟩,
 ⟨some 4, .call n_impl_isWithin 2048, [.t 3, .c (.i 0), .c (.i 20)], none⟩,
 ⟨some 2, .mv, [.t 4], none⟩] [0, 3, 4])
 .ret)) }
/-- slices.Backward[[][]int,[]int] -/
def F_slices_Backward_int_int : LF :=
 { nparams := 1, results := [.t 2], body :=
 (.seq
 (.region false [⟨some 1, .box 520, [.t 0], none⟩,
 ⟨some 2, .mv, [.c (.dead)], none⟩] [0, 2])
 (.seq
 (.region false [⟨some 3, .mkfn (mkNo n_slices_Backward_int_int_1 0), [.t 1], none⟩,
 ⟨some 2, .mv, [.t 3], none⟩] [1, 3])
 .ret)) }
/-- impl.averageOfRound -/
def F_impl_averageOfRound_L0 : LC :=
 (.seq
 (.region false [⟨some 19, .bin .lss, [.t 18, .t 17], none⟩] [])
 (.seq
 (.cond (.t 19) [19]
 .skip
 (.exit 0))
 (.seq
 (.block 1
 (.seq
 (.region false [⟨some 20, .mv, [.t 18], none⟩,
 ⟨some 21, .idxa 2, [.t 16, .t 18], none⟩,
 ⟨some 22, .load 2 true, [.t 21], none⟩,
 ⟨some 14, .alloc 7184 (.st [.i 0, .i 0]), [], none⟩,
 ⟨some 13, .mv, [.t 20], none⟩,
 ⟨none, .store 2, [.t 14, .t 22], none⟩] [20, 21, 22])
 (.seq
 (.region false [⟨some 23, .mv, [.t 1], none⟩,
 ⟨some 24, .mv, [.t 13], none⟩,
 ⟨some 25, .call n_impl_hasTest 12800, [.t 23, .t 24], none⟩] [13, 23, 24])
 (.cond (.t 25) [25]
 (.seq
 (.region false [⟨some 26, .mv, [.t 11], none⟩,
 ⟨some 27, .fld 0 1 false, [.t 14], none⟩,
 ⟨some 28, .load 1 false, [.t 27], none⟩,
 ⟨some 29, .bin .add, [.t 26, .t 28], none⟩,
 ⟨some 11, .mv, [.t 29], none⟩] [26, 27, 28, 29])
 (.region false [⟨some 30, .mv, [.t 12], none⟩,
 ⟨some 31, .fld 1 1 false, [.t 14], none⟩,
 ⟨some 32, .load 1 false, [.t 31], none⟩,
 ⟨some 33, .bin .mul, [.t 30, .t 32], none⟩,
 ⟨some 12, .mv, [.t 33], none⟩] [14, 30, 31, 32, 33]))
 .skip))))
 (.region false [⟨some 34, .bin .add, [.t 18, .c (.i 1)], none⟩,
 ⟨some 18, .mv, [.t 34], none⟩] [14, 34]))))
def F_impl_averageOfRound_W0 : LC := .loop F_impl_averageOfRound_L0
def F_impl_averageOfRound : LF :=
 { nparams := 5, results := [.t 10], body :=
 (.seq
 (.region false [⟨some 10, .mv, [.c (.i 0)], none⟩] [10])
 (.seq
 (.region false [⟨some 15, .mv, [.t 2], none⟩,
 ⟨some 11, .mv, [.t 15], none⟩,
 ⟨some 12, .mv, [.c (.i 1)], none⟩] [2, 15])
 (.seq
 (.seq
 (.region false [⟨some 16, .mv, [.t 0], none⟩,
 ⟨some 17, .len, [.t 16], none⟩,
 ⟨some 18, .mv, [.c (.i 0)], none⟩] [0])
 (.block 0
 F_impl_averageOfRound_W0))
 (.seq
 (.region false [⟨some 35, .mv, [.t 11], none⟩,
 ⟨some 36, .mv, [.t 3], none⟩,
 ⟨some 37, .call n_impl_wholeOf 18944, [.t 36], none⟩,
 ⟨some 38, .bin .mul, [.t 35, .t 37], none⟩,
 ⟨some 39, .mv, [.t 12], none⟩,
 ⟨some 40, .mv, [.t 4], none⟩,
 ⟨some 41, .bin .mul, [.t 39, .t 40], none⟩,
 ⟨some 42, .bin .add, [.t 38, .t 41], none⟩,
 ⟨some 10, .mv, [.t 42], none⟩] [1, 3, 4, 11, 12, 16, 17, 18, 35, 36, 37, 38, 39, 40, 41, 42])
 .ret)))) }
/-- impl.setOf -/
def F_impl_setOf_L0 : LC :=
 (.seq
 (.region false [⟨some 9, .bin .lss, [.t 8, .t 7], none⟩] [])
 (.seq
 (.cond (.t 9) [9]
 .skip
 (.exit 0))
 (.seq
 (.block 1
 (.seq
 (.region false [⟨some 10, .idxa 1, [.t 6, .t 8], none⟩,
 ⟨some 11, .load 1 false, [.t 10], none⟩,
 ⟨some 5, .mv, [.t 11], none⟩] [10, 11])
 (.region false [⟨some 12, .mv, [.t 3], none⟩,
 ⟨some 13, .mv, [.t 5], none⟩,
 ⟨some 14, .bin .shl, [.c (.i 1), .t 13], none⟩,
 ⟨some 15, .bin .or, [.t 12, .t 14], none⟩,
 ⟨some 3, .mv, [.t 15], none⟩] [5, 12, 13, 14, 15])))
 (.region false [⟨some 16, .bin .add, [.t 8, .c (.i 1)], none⟩,
 ⟨some 8, .mv, [.t 16], none⟩] [16]))))
def F_impl_setOf_W0 : LC := .loop F_impl_setOf_L0
def F_impl_setOf : LF :=
 { nparams := 1, results := [.t 2], body :=
 (.seq
 (.region false [⟨some 2, .mv, [.c (.i 0)], none⟩] [2])
 (.seq
 (.region false [⟨some 3, .mv, [.c (.i 0)], none⟩] [])
 (.seq
 (.seq
 (.region false [⟨some 6, .mv, [.t 0], none⟩,
 ⟨some 7, .len, [.t 6], none⟩,
 ⟨some 8, .mv, [.c (.i 0)], none⟩] [0])
 (.block 0
 F_impl_setOf_W0))
 (.seq
 (.region false [⟨some 17, .mv, [.t 3], none⟩,
 ⟨some 2, .mv, [.t 17], none⟩] [3, 6, 7, 8, 17])
 .ret)))) }
/-- spec.TestsOk -/
def F_spec_TestsOk_L0 : LC :=
 (.seq
 (.seq
 (.region false [⟨some 4, .mv, [.t 3], none⟩,
 ⟨some 5, .mv, [.t 0], none⟩,
 ⟨some 6, .len, [.t 5], none⟩,
 ⟨some 7, .bin .lss, [.t 4, .t 6], none⟩] [4, 5, 6])
 (.cond (.t 7) [7]
 .skip
 (.exit 0)))
 (.seq
 (.block 1
 (.seq
 (.region false [⟨some 10, .mv, [.t 0], none⟩,
 ⟨some 11, .mv, [.t 3], none⟩,
 ⟨some 12, .idxa 2, [.t 10, .t 11], none⟩,
 ⟨some 13, .fld 0 1 false, [.t 12], none⟩,
 ⟨some 14, .load 1 false, [.t 13], none⟩,
 ⟨some 15, .call n_spec_l1In 7680, [.t 14, .c (.i 1), .c (.i 9)], none⟩,
 ⟨some 16, .un .not, [.t 15], none⟩,
 ⟨some 17, .mv, [.t 16], none⟩,
 ⟨some 18, .mv, [.t 0], some (17, false)⟩,
 ⟨some 19, .mv, [.t 3], some (17, false)⟩,
 ⟨some 20, .idxa 2, [.t 18, .t 19], some (17, false)⟩,
 ⟨some 21, .fld 1 1 false, [.t 20], some (17, false)⟩,
 ⟨some 22, .load 1 false, [.t 21], some (17, false)⟩,
 ⟨some 23, .call n_spec_l1In 11776, [.t 22, .c (.i 1), .c (.i 5)], some (17, false)⟩,
 ⟨some 24, .un .not, [.t 23], some (17, false)⟩,
 ⟨some 25, .pick, [.t 17, .c (.b true), .t 24], none⟩] [10, 11, 12, 13, 14, 15, 16, 17, 18, 19, 20, 21, 22, 23, 24])
 (.cond (.t 25) [25]
 (.seq
 (.region false [⟨some 2, .mv, [.c (.b false)], none⟩] [0, 3])
 .ret)
 .skip)))
 (.region false [⟨some 8, .mv, [.t 3], none⟩,
 ⟨some 9, .bin .add, [.t 8, .c (.i 1)], none⟩,
 ⟨some 3, .mv, [.t 9], none⟩] [8, 9])))
def F_spec_TestsOk_W0 : LC := .loop F_spec_TestsOk_L0
def F_spec_TestsOk : LF :=
 { nparams := 1, results := [.t 2], body :=
 (.seq
 (.region false [⟨some 2, .mv, [.c (.b false)], none⟩] [2])
 (.seq
 (.seq
 (.region false [⟨some 3, .mv, [.c (.i 0)], none⟩] [])
 (.block 0
 F_spec_TestsOk_W0))
 (.seq
 (.region false [⟨some 26, .mv, [.t 0], none⟩,
 ⟨some 27, .len, [.t 26], none⟩,
 ⟨some 28, .call n_spec_l1In 14336, [.t 27, .c (.i 1), .c (.i 5)], none⟩,
 ⟨some 2, .mv, [.t 28], none⟩] [0, 3, 26, 27, 28])
 .ret))) }
/-- spec.l1In -/
def F_spec_l1In : LF :=
 { nparams := 3, results := [.t 6], body :=
 (.seq
 (.region false [⟨some 6, .mv, [.c (.b false)], none⟩] [6])
 (.seq
 (.region false [⟨some 7, .mv, [.t 0], none⟩,
 ⟨some 8, .mv, [.t 1], none⟩,
 ⟨some 9, .bin .geq, [.t 7, .t 8], none⟩,
 ⟨some 10, .mv, [.t 9], none⟩,
 ⟨some 11, .mv, [.t 0], some (10, true)⟩,
 ⟨some 12, .mv, [.t 2], some (10, true)⟩,
 ⟨some 13, .bin .leq, [.t 11, .t 12], some (10, true)⟩,
 ⟨some 14, .pick, [.t 10, .t 13, .c (.b false)], none⟩,
 ⟨some 6, .mv, [.t 14], none⟩] [0, 1, 2, 7, 8, 9, 10, 11, 12, 13, 14])
 .ret)) }
/-- spec.l1Power -/
def F_spec_l1Power_L0 : LC :=
 (.seq
 (.seq
 (.region false [⟨some 5, .mv, [.t 4], none⟩,
 ⟨some 6, .mv, [.t 0], none⟩,
 ⟨some 7, .bin .lss, [.t 5, .t 6], none⟩] [5, 6])
 (.cond (.t 7) [7]
 .skip
 (.exit 0)))
 (.seq
 (.block 1
 (.region false [⟨some 10, .mv, [.t 3], none⟩,
 ⟨some 11, .bin .mul, [.t 10, .c (.i 6)], none⟩,
 ⟨some 3, .mv, [.t 11], none⟩] [10, 11]))
 (.region false [⟨some 8, .mv, [.t 4], none⟩,
 ⟨some 9, .bin .add, [.t 8, .c (.i 1)], none⟩,
 ⟨some 4, .mv, [.t 9], none⟩] [8, 9])))
def F_spec_l1Power_W0 : LC := .loop F_spec_l1Power_L0
def F_spec_l1Power : LF :=
 { nparams := 1, results := [.t 2], body :=
 (.seq
 (.region false [⟨some 2, .mv, [.c (.i 0)], none⟩] [2])
 (.seq
 (.region false [⟨some 3, .mv, [.c (.i 1)], none⟩] [])
 (.seq
 (.seq
 (.region false [⟨some 4, .mv, [.c (.i 0)], none⟩] [])
 (.block 0
 F_spec_l1Power_W0))
 (.seq
 (.region false [⟨some 12, .mv, [.t 3], none⟩,
 ⟨some 2, .mv, [.t 12], none⟩] [0, 3, 4, 12])
 .ret)))) }
/-- impl.OrderOk -/
def F_impl_OrderOk_L0 : LC :=
 (.seq
 (.region false [⟨some 20, .bin .lss, [.t 19, .t 18], none⟩] [])
 (.seq
 (.cond (.t 20) [20]
 .skip
 (.exit 0))
 (.seq
 (.block 1
 (.seq
 (.region false [⟨some 21, .idxa 1, [.t 17, .t 19], none⟩,
 ⟨some 22, .load 1 false, [.t 21], none⟩,
 ⟨some 7, .mv, [.t 22], none⟩] [21, 22])
 (.seq
 (.seq
 (.region false [⟨some 23, .mv, [.t 7], none⟩,
 ⟨some 24, .mv, [.t 0], none⟩,
 ⟨some 25, .bin .sub, [.t 24, .c (.i 1)], none⟩,
 ⟨some 26, .call n_impl_isWithin 13312, [.t 23, .c (.i 0), .t 25], none⟩,
 ⟨some 27, .un .not, [.t 26], none⟩,
 ⟨some 28, .mv, [.t 27], none⟩,
 ⟨some 29, .mv, [.t 5], some (28, false)⟩,
 ⟨some 30, .mv, [.t 7], some (28, false)⟩,
 ⟨some 31, .call n_impl_hasTest 15872, [.t 29, .t 30], some (28, false)⟩,
 ⟨some 32, .pick, [.t 28, .c (.b true), .t 31], none⟩] [23, 24, 25, 26, 27, 28, 29, 30, 31])
 (.cond (.t 32) [32]
 (.seq
 (.region false [⟨some 4, .mv, [.c (.b false)], none⟩] [0, 5, 7, 17, 18, 19])
 .ret)
 .skip))
 (.region false [⟨some 33, .mv, [.t 5], none⟩,
 ⟨some 34, .mv, [.t 7], none⟩,
 ⟨some 35, .bin .shl, [.c (.i 1), .t 34], none⟩,
 ⟨some 36, .bin .or, [.t 33, .t 35], none⟩,
 ⟨some 5, .mv, [.t 36], none⟩] [7, 33, 34, 35, 36]))))
 (.region false [⟨some 37, .bin .add, [.t 19, .c (.i 1)], none⟩,
 ⟨some 19, .mv, [.t 37], none⟩] [37]))))
def F_impl_OrderOk_W0 : LC := .loop F_impl_OrderOk_L0
def F_impl_OrderOk : LF :=
 { nparams := 2, results := [.t 4], body :=
 (.seq
 (.region false [⟨some 4, .mv, [.c (.b false)], none⟩] [4])
 (.seq
 (.seq
 (.region false [⟨some 8, .mv, [.t 0], none⟩,
 ⟨some 9, .call n_impl_manyOk 4608, [.t 8], none⟩,
 ⟨some 10, .un .not, [.t 9], none⟩,
 ⟨some 11, .mv, [.t 10], none⟩,
 ⟨some 12, .mv, [.t 1], some (11, false)⟩,
 ⟨some 13, .len, [.t 12], some (11, false)⟩,
 ⟨some 14, .mv, [.t 0], some (11, false)⟩,
 ⟨some 15, .bin .neq, [.t 13, .t 14], some (11, false)⟩,
 ⟨some 16, .pick, [.t 11, .c (.b true), .t 15], none⟩] [8, 9, 10, 11, 12, 13, 14, 15])
 (.cond (.t 16) [16]
 (.seq
 (.region false [⟨some 4, .mv, [.c (.b false)], none⟩] [0, 1])
 .ret)
 .skip))
 (.seq
 (.region false [⟨some 5, .mv, [.c (.i 0)], none⟩] [])
 (.seq
 (.seq
 (.region false [⟨some 17, .mv, [.t 1], none⟩,
 ⟨some 18, .len, [.t 17], none⟩,
 ⟨some 19, .mv, [.c (.i 0)], none⟩] [1])
 (.block 0
 F_impl_OrderOk_W0))
 (.seq
 (.region false [⟨some 4, .mv, [.c (.b true)], none⟩] [0, 5, 17, 18, 19])
 .ret))))) }
/-- impl.rowOk -/
def F_impl_rowOk : LF :=
 { nparams := 1, results := [.t 2], body :=
 (.seq
 (.region false [⟨some 2, .mv, [.c (.b false)], none⟩] [2])
 (.seq
 (.region false [⟨some 3, .mv, [.t 0], none⟩,
 ⟨some 4, .bin .eql, [.t 3, .c (.i 0)], none⟩,
 ⟨some 5, .mv, [.t 4], none⟩,
 ⟨some 6, .mv, [.t 0], some (5, false)⟩,
 ⟨some 7, .bin .eql, [.t 6, .c (.i 1)], some (5, false)⟩,
 ⟨some 8, .pick, [.t 5, .c (.b true), .t 7], none⟩,
 ⟨some 2, .mv, [.t 8], none⟩] [0, 3, 4, 5, 6, 7, 8])
 .ret)) }
/-- impl.wholeOf -/
def F_impl_wholeOf_L0 : LC :=
 (.seq
 (.region false [⟨some 6, .bin .lss, [.t 5, .t 4], none⟩] [])
 (.seq
 (.cond (.t 6) [6]
 .skip
 (.exit 0))
 (.seq
 (.block 1
 (.region false [⟨some 7, .mv, [.t 3], none⟩,
 ⟨some 8, .bin .mul, [.t 7, .c (.i 6)], none⟩,
 ⟨some 3, .mv, [.t 8], none⟩] [7, 8]))
 (.region false [⟨some 9, .bin .add, [.t 5, .c (.i 1)], none⟩,
 ⟨some 5, .mv, [.t 9], none⟩] [9]))))
def F_impl_wholeOf_W0 : LC := .loop F_impl_wholeOf_L0
def F_impl_wholeOf : LF :=
 { nparams := 1, results := [.t 2], body :=
 (.seq
 (.region false [⟨some 2, .mv, [.c (.i 0)], none⟩] [2])
 (.seq
 (.region false [⟨some 3, .mv, [.c (.i 1)], none⟩] [])
 (.seq
 (.seq
 (.region false [⟨some 4, .mv, [.t 0], none⟩,
 ⟨some 5, .mv, [.c (.i 0)], none⟩] [0])
 (.block 0
 F_impl_wholeOf_W0))
 (.seq
 (.region false [⟨some 10, .mv, [.t 3], none⟩,
 ⟨some 2, .mv, [.t 10], none⟩] [3, 4, 5, 10])
 .ret)))) }
/-- impl.endChance -/
def F_impl_endChance : LF :=
 { nparams := 2, results := [.t 4], body :=
 (.seq
 (.region false [⟨some 2, .box 1040, [.t 0], none⟩,
 ⟨some 4, .mv, [.c (.i 0)], none⟩] [0, 4])
 (.seq
 (.seq
 (.region false [⟨some 5, .mv, [.t 1], none⟩,
 ⟨some 6, .bin .eql, [.t 5, .c (.i 0)], none⟩] [1, 5])
 (.cond (.t 6) [6]
 (.seq
 (.region false [⟨some 7, .fld 1 1 false, [.t 2], none⟩,
 ⟨some 8, .load 1 false, [.t 7], none⟩,
 ⟨some 9, .bin .sub, [.c (.i 6), .t 8], none⟩,
 ⟨some 4, .mv, [.t 9], none⟩] [2, 7, 8, 9])
 .ret)
 .skip))
 (.seq
 (.region false [⟨some 10, .fld 1 1 false, [.t 2], none⟩,
 ⟨some 11, .load 1 false, [.t 10], none⟩,
 ⟨some 4, .mv, [.t 11], none⟩] [2, 10, 11])
 .ret))) }
/-- spec.l20Tests -/
def F_spec_l20Tests_L0 : LC :=
 (.seq
 (.seq
 (.region false [⟨some 11, .mv, [.t 6], none⟩,
 ⟨some 12, .bin .gtr, [.t 11, .c (.i 0)], none⟩] [11])
 (.cond (.t 12) [12]
 .skip
 (.exit 0)))
 (.seq
 (.block 1
 (.region false [⟨some 15, .mv, [.t 5], none⟩,
 ⟨some 16, .mv, [.t 0], none⟩,
 ⟨some 17, .call n_spec_l20Rd_pick 8704, [.t 16, .c (.i 9)], none⟩,
 ⟨some 18, .bin .add, [.c (.i 1), .t 17], none⟩,
 ⟨some 19, .mv, [.t 0], none⟩,
 ⟨some 20, .call n_spec_l20Rd_pick 10240, [.t 19, .c (.i 5)], none⟩,
 ⟨some 21, .bin .add, [.c (.i 1), .t 20], none⟩,
 ⟨some 22, .build [.i 0, .i 0] [(0, 1), (1, 1)], [.t 18, .t 21], none⟩,
 ⟨some 23, .bslice 11792 1 2 (.st [.i 0, .i 0]) [0], [.t 22], none⟩,
 ⟨some 24, .app 12304 2, [.t 15, .t 23], none⟩,
 ⟨some 5, .mv, [.t 24], none⟩] [15, 16, 17, 18, 19, 20, 21, 22, 23, 24]))
 (.region false [⟨some 13, .mv, [.t 6], none⟩,
 ⟨some 14, .bin .sub, [.t 13, .c (.i 1)], none⟩,
 ⟨some 6, .mv, [.t 14], none⟩] [13, 14])))
def F_spec_l20Tests_W0 : LC := .loop F_spec_l20Tests_L0
def F_spec_l20Tests : LF :=
 { nparams := 2, results := [.t 4], body :=
 (.seq
 (.region false [⟨some 4, .newnil 2064, [], none⟩] [4])
 (.seq
 (.region false [⟨some 7, .bslice 3600 0 2 (.st [.i 0, .i 0]) [], [], none⟩,
 ⟨some 5, .mv, [.t 7], none⟩] [7])
 (.seq
 (.seq
 (.region false [⟨some 8, .mv, [.t 0], none⟩,
 ⟨some 9, .call n_spec_l20Rd_pick 4608, [.t 8, .c (.i 5)], none⟩,
 ⟨some 10, .bin .add, [.c (.i 1), .t 9], none⟩,
 ⟨some 6, .mv, [.t 10], none⟩] [8, 9, 10])
 (.block 0
 F_spec_l20Tests_W0))
 (.seq
 (.seq
 (.region false [⟨some 25, .mv, [.t 0], none⟩,
 ⟨some 26, .mv, [.t 1], none⟩,
 ⟨some 27, .call n_spec_l20Rd_odd 13824, [.t 25, .t 26], none⟩] [1, 6, 25, 26])
 (.cond (.t 27) [27]
 (.seq
 (.region false [⟨some 28, .mv, [.t 0], none⟩,
 ⟨some 29, .call n_spec_l20Rd_pick 14848, [.t 28, .c (.i 3)], none⟩] [28])
 (.block 2
 (.seq
 (.region false [⟨some 39, .bin .eql, [.t 29, .c (.i 0)], none⟩,
 ⟨some 38, .mv, [.t 39], none⟩] [39])
 (.cond (.t 38) [38]
 (.seq
 (.region false [⟨some 40, .bslice 20496 0 2 (.st [.i 0, .i 0]) [], [], none⟩,
 ⟨some 4, .mv, [.t 40], none⟩] [5, 29, 40])
 .ret)
 (.seq
 (.region false [⟨some 42, .bin .eql, [.t 29, .c (.i 1)], none⟩,
 ⟨some 41, .mv, [.t 42], none⟩] [29, 42])
 (.cond (.t 41) [41]
 (.region false [⟨some 43, .mv, [.t 5], none⟩,
 ⟨some 44, .bslice 22536 2 1 (.i 0) [0, 1], [.c (.i 0), .c (.i 10)], none⟩,
 ⟨some 45, .mv, [.t 0], none⟩,
 ⟨some 46, .call n_spec_l20Rd_pick 23552, [.t 45, .c (.i 2)], none⟩,
 ⟨some 47, .idxa 1, [.t 44, .t 46], none⟩,
 ⟨some 48, .load 1 false, [.t 47], none⟩,
 ⟨some 49, .idxa 2, [.t 43, .c (.i 0)], none⟩,
 ⟨some 50, .fld 0 1 false, [.t 49], none⟩,
 ⟨none, .store 1, [.t 50, .t 48], none⟩] [43, 44, 45, 46, 47, 48, 49, 50])
 (.region false [⟨some 30, .mv, [.t 5], none⟩,
 ⟨some 31, .bslice 15880 2 1 (.i 0) [0, 1], [.c (.i 0), .c (.i 6)], none⟩,
 ⟨some 32, .mv, [.t 0], none⟩,
 ⟨some 33, .call n_spec_l20Rd_pick 16896, [.t 32, .c (.i 2)], none⟩,
 ⟨some 34, .idxa 1, [.t 31, .t 33], none⟩,
 ⟨some 35, .load 1 false, [.t 34], none⟩,
 ⟨some 36, .idxa 2, [.t 30, .c (.i 0)], none⟩,
 ⟨some 37, .fld 1 1 false, [.t 36], none⟩,
 ⟨none, .store 1, [.t 37, .t 35], none⟩] [30, 31, 32, 33, 34, 35, 36, 37])))))))
 .skip))
 (.seq
 (.region false [⟨some 51, .mv, [.t 5], none⟩,
 ⟨some 4, .mv, [.t 51], none⟩] [5, 51])
 .ret))))) }
/-- impl.bestRoundsOf -/
def F_impl_bestRoundsOf_L0 : LC :=
 (.ghost (.rename 8 4104)
 (.seq
 (.seq
 (.region false [⟨some 14, .mv, [.t 10], none⟩,
 ⟨some 15, .mv, [.t 1], none⟩,
 ⟨some 16, .bin .leq, [.t 14, .t 15], none⟩] [14, 15])
 (.cond (.t 16) [16]
 .skip
 (.exit 0)))
 (.seq
 (.block 1
 (.seq
 (.seq
 (.region false [⟨some 19, .mv, [.t 10], none⟩,
 ⟨some 20, .mv, [.t 1], none⟩,
 ⟨some 21, .bin .andNot, [.t 19, .t 20], none⟩,
 ⟨some 22, .bin .neq, [.t 21, .c (.i 0)], none⟩] [19, 20, 21])
 (.cond (.t 22) [22]
 (.exit 1)
 .skip))
 (.seq
 (.region false [⟨some 24, .mv, [.t 0], none⟩,
 ⟨some 25, .mv, [.t 1], none⟩,
 ⟨some 26, .mv, [.t 10], none⟩,
 ⟨some 27, .bin .andNot, [.t 25, .t 26], none⟩,
 ⟨some 28, .mv, [.t 2], none⟩,
 ⟨some 29, .call n_impl_bestRoundsOf 14848, [.t 24, .t 27, .t 28], none⟩,
 ⟨some 23, .mv, [.t 29], none⟩,
 ⟨some 30, .ext 0, [.t 23], none⟩,
 ⟨some 31, .ext 1, [.t 23], none⟩,
 ⟨some 11, .mv, [.t 30], none⟩,
 ⟨some 12, .mv, [.t 31], none⟩] [23, 24, 25, 26, 27, 28, 29, 30, 31])
 (.seq
 (.region false [⟨some 32, .mv, [.t 0], none⟩,
 ⟨some 33, .mv, [.t 10], none⟩,
 ⟨some 34, .mv, [.t 2], none⟩,
 ⟨some 35, .mv, [.t 1], none⟩,
 ⟨some 36, .call n_impl_sizeOf 18432, [.t 35], none⟩,
 ⟨some 37, .mv, [.t 12], none⟩,
 ⟨some 38, .call n_impl_averageOfRound 19456, [.t 32, .t 33, .t 34, .t 36, .t 37], none⟩,
 ⟨some 13, .mv, [.t 38], none⟩] [12, 32, 33, 34, 35, 36, 37, 38])
 (.seq
 (.region false [⟨some 39, .mv, [.t 8], none⟩,
 ⟨some 40, .eqn false, [.t 39], none⟩,
 ⟨some 41, .mv, [.t 40], none⟩,
 ⟨some 42, .mv, [.t 13], some (41, false)⟩,
 ⟨some 43, .mv, [.t 9], some (41, false)⟩,
 ⟨some 44, .bin .lss, [.t 42, .t 43], some (41, false)⟩,
 ⟨some 45, .pick, [.t 41, .c (.b true), .t 44], none⟩] [39, 40, 41, 42, 43, 44])
 (.cond (.t 45) [45]
 (.region false [⟨some 46, .mv, [.t 10], none⟩,
 ⟨some 47, .bslice 24072 1 1 (.i 0) [0], [.t 46], none⟩,
 ⟨some 48, .mv, [.t 11], none⟩,
 ⟨some 49, .app 25096 1, [.t 47, .t 48], none⟩,
 ⟨some 50, .mv, [.t 13], none⟩,
 ⟨some 8, .mv, [.t 49], none⟩,
 ⟨some 9, .mv, [.t 50], none⟩] [11, 13, 46, 47, 48, 49, 50])
 .skip))))))
 (.region false [⟨some 17, .mv, [.t 10], none⟩,
 ⟨some 18, .bin .add, [.t 17, .c (.i 1)], none⟩,
 ⟨some 10, .mv, [.t 18], none⟩] [11, 13, 17, 18]))))
def F_impl_bestRoundsOf_W0 : LC := .loop F_impl_bestRoundsOf_L0
def F_impl_bestRoundsOf : LF :=
 { nparams := 3, results := [.t 6, .t 7], body :=
 (.seq
 (.region false [⟨some 6, .newnil 3080, [], none⟩,
 ⟨some 7, .mv, [.c (.i 0)], none⟩] [6, 7])
 (.seq
 (.region false [⟨some 8, .mv, [.c (.nil)], none⟩] [])
 (.seq
 (.region false [⟨some 9, .mv, [.c (.i 0)], none⟩] [])
 (.seq
 (.seq
 (.region false [⟨some 10, .mv, [.c (.i 1)], none⟩] [])
 (.block 0
 F_impl_bestRoundsOf_W0))
 (.seq
 (.region false [⟨some 51, .mv, [.t 8], none⟩,
 ⟨some 52, .mv, [.t 9], none⟩,
 ⟨some 6, .mv, [.t 51], none⟩,
 ⟨some 7, .mv, [.t 52], none⟩] [0, 1, 2, 8, 9, 10, 51, 52])
 .ret))))) }
/-- impl.allOf -/
def F_impl_allOf : LF :=
 { nparams := 1, results := [.t 2], body :=
 (.seq
 (.region false [⟨some 2, .mv, [.c (.i 0)], none⟩] [2])
 (.seq
 (.region false [⟨some 3, .mv, [.t 0], none⟩,
 ⟨some 4, .len, [.t 3], none⟩,
 ⟨some 5, .call n_impl_statesOf 2560, [.t 4], none⟩,
 ⟨some 6, .bin .sub, [.t 5, .c (.i 1)], none⟩,
 ⟨some 2, .mv, [.t 6], none⟩] [0, 3, 4, 5, 6])
 .ret)) }
/-- impl.rowOf -/
def F_impl_rowOf_L0 : LC :=
 (.seq
 (.region false [⟨some 6, .bin .lss, [.t 5, .c (.i 5)], none⟩] [])
 (.seq
 (.cond (.t 6) [6]
 .skip
 (.exit 0))
 (.seq
 (.block 1
 (.seq
 (.region false [⟨some 7, .mv, [.t 5], none⟩,
 ⟨some 4, .mv, [.t 7], none⟩] [7])
 (.seq
 (.region false [⟨some 8, .mv, [.t 0], none⟩,
 ⟨some 9, .mv, [.t 4], none⟩,
 ⟨some 10, .call n_impl_hasTest 5120, [.t 8, .t 9], none⟩] [8, 9])
 (.cond (.t 10) [10]
 (.region false [⟨some 11, .mv, [.t 3], none⟩,
 ⟨some 12, .mv, [.t 4], none⟩,
 ⟨some 13, .bslice 6664 1 1 (.i 0) [0], [.t 12], none⟩,
 ⟨some 14, .app 7176 1, [.t 11, .t 13], none⟩,
 ⟨some 3, .mv, [.t 14], none⟩] [4, 11, 12, 13, 14])
 .skip))))
 (.region false [⟨some 15, .bin .add, [.t 5, .c (.i 1)], none⟩,
 ⟨some 5, .mv, [.t 15], none⟩] [4, 15]))))
def F_impl_rowOf_W0 : LC := .loop F_impl_rowOf_L0
def F_impl_rowOf : LF :=
 { nparams := 1, results := [.t 2], body :=
 (.seq
 (.region false [⟨some 2, .newnil 1032, [], none⟩] [2])
 (.seq
 (.region false [⟨some 3, .newnil 1544, [], none⟩] [])
 (.seq
 (.seq
 (.region false [⟨some 5, .mv, [.c (.i 0)], none⟩] [])
 (.block 0
 F_impl_rowOf_W0))
 (.seq
 (.region false [⟨some 16, .mv, [.t 3], none⟩,
 ⟨some 2, .mv, [.t 16], none⟩] [0, 3, 5, 16])
 .ret)))) }
/-- spec.l10Best -/
def F_spec_l10Best_L1 : LC :=
 (.seq
 (.seq
 (.region false [⟨some 32, .mv, [.t 15], none⟩,
 ⟨some 33, .mv, [.t 0], none⟩,
 ⟨some 34, .len, [.t 33], none⟩,
 ⟨some 35, .bin .lss, [.t 32, .t 34], none⟩] [32, 33, 34])
 (.cond (.t 35) [35]
 .skip
 (.exit 2)))
 (.seq
 (.block 3
 (.seq
 (.region false [⟨some 38, .mv, [.t 12], none⟩,
 ⟨some 39, .mv, [.t 15], none⟩,
 ⟨some 40, .bin .shr, [.t 38, .t 39], none⟩,
 ⟨some 41, .bin .rem, [.t 40, .c (.i 2)], none⟩,
 ⟨some 42, .bin .eql, [.t 41, .c (.i 1)], none⟩] [38, 39, 40, 41])
 (.cond (.t 42) [42]
 (.seq
 (.region false [⟨some 43, .mv, [.t 13], none⟩,
 ⟨some 44, .mv, [.t 0], none⟩,
 ⟨some 45, .mv, [.t 15], none⟩,
 ⟨some 46, .idxa 2, [.t 44, .t 45], none⟩,
 ⟨some 47, .fld 0 1 false, [.t 46], none⟩,
 ⟨some 48, .load 1 false, [.t 47], none⟩,
 ⟨some 49, .bin .add, [.t 43, .t 48], none⟩,
 ⟨some 13, .mv, [.t 49], none⟩] [43, 44, 45, 46, 47, 48, 49])
 (.region false [⟨some 50, .mv, [.t 14], none⟩,
 ⟨some 51, .bin .quo, [.t 50, .c (.i 6)], none⟩,
 ⟨some 52, .mv, [.t 0], none⟩,
 ⟨some 53, .mv, [.t 15], none⟩,
 ⟨some 54, .idxa 2, [.t 52, .t 53], none⟩,
 ⟨some 55, .fld 1 1 false, [.t 54], none⟩,
 ⟨some 56, .load 1 false, [.t 55], none⟩,
 ⟨some 57, .bin .mul, [.t 51, .t 56], none⟩,
 ⟨some 14, .mv, [.t 57], none⟩] [50, 51, 52, 53, 54, 55, 56, 57]))
 .skip)))
 (.region false [⟨some 36, .mv, [.t 15], none⟩,
 ⟨some 37, .bin .add, [.t 36, .c (.i 1)], none⟩,
 ⟨some 15, .mv, [.t 37], none⟩] [36, 37])))
def F_spec_l10Best_W1 : LC := .loop F_spec_l10Best_L1
def F_spec_l10Best_L0 : LC :=
 (.seq
 (.seq
 (.region false [⟨some 20, .mv, [.t 12], none⟩,
 ⟨some 21, .mv, [.t 1], none⟩,
 ⟨some 22, .bin .leq, [.t 20, .t 21], none⟩] [20, 21])
 (.cond (.t 22) [22]
 .skip
 (.exit 0)))
 (.seq
 (.block 1
 (.seq
 (.seq
 (.region false [⟨some 25, .mv, [.t 12], none⟩,
 ⟨some 26, .mv, [.t 1], none⟩,
 ⟨some 27, .bin .and, [.t 25, .t 26], none⟩,
 ⟨some 28, .mv, [.t 12], none⟩,
 ⟨some 29, .bin .neq, [.t 27, .t 28], none⟩] [25, 26, 27, 28])
 (.cond (.t 29) [29]
 (.exit 1)
 .skip))
 (.seq
 (.region false [⟨some 30, .mv, [.t 2], none⟩,
 ⟨some 13, .mv, [.t 30], none⟩] [30])
 (.seq
 (.region false [⟨some 31, .mv, [.t 3], none⟩,
 ⟨some 14, .mv, [.t 31], none⟩] [31])
 (.seq
 (.seq
 (.region false [⟨some 15, .mv, [.c (.i 0)], none⟩] [])
 (.block 2
 F_spec_l10Best_W1))
 (.seq
 (.region false [⟨some 59, .mv, [.t 0], none⟩,
 ⟨some 60, .mv, [.t 1], none⟩,
 ⟨some 61, .mv, [.t 12], none⟩,
 ⟨some 62, .bin .sub, [.t 60, .t 61], none⟩,
 ⟨some 63, .mv, [.t 2], none⟩,
 ⟨some 64, .mv, [.t 14], none⟩,
 ⟨some 65, .call n_spec_l10Best 33280, [.t 59, .t 62, .t 63, .t 64], none⟩,
 ⟨some 58, .mv, [.t 65], none⟩,
 ⟨some 66, .ext 0, [.t 58], none⟩,
 ⟨some 67, .ext 1, [.t 58], none⟩,
 ⟨some 16, .mv, [.t 66], none⟩,
 ⟨some 17, .mv, [.t 67], none⟩] [14, 15, 17, 58, 59, 60, 61, 62, 63, 64, 65, 66, 67])
 (.seq
 (.region false [⟨some 68, .mv, [.t 10], none⟩,
 ⟨some 69, .bin .lss, [.t 68, .c (.i 0)], none⟩,
 ⟨some 70, .mv, [.t 69], none⟩,
 ⟨some 71, .mv, [.t 13], some (70, false)⟩,
 ⟨some 72, .mv, [.t 3], some (70, false)⟩,
 ⟨some 73, .bin .mul, [.t 71, .t 72], some (70, false)⟩,
 ⟨some 74, .mv, [.t 16], some (70, false)⟩,
 ⟨some 75, .bin .add, [.t 73, .t 74], some (70, false)⟩,
 ⟨some 76, .mv, [.t 10], some (70, false)⟩,
 ⟨some 77, .bin .lss, [.t 75, .t 76], some (70, false)⟩,
 ⟨some 78, .pick, [.t 70, .c (.b true), .t 77], none⟩] [68, 69, 70, 71, 72, 73, 74, 75, 76, 77])
 (.cond (.t 78) [78]
 (.seq
 (.region false [⟨some 79, .mv, [.t 13], none⟩,
 ⟨some 80, .mv, [.t 3], none⟩,
 ⟨some 81, .bin .mul, [.t 79, .t 80], none⟩,
 ⟨some 82, .mv, [.t 16], none⟩,
 ⟨some 83, .bin .add, [.t 81, .t 82], none⟩,
 ⟨some 10, .mv, [.t 83], none⟩] [11, 13, 16, 79, 80, 81, 82, 83])
 (.region false [⟨some 84, .mv, [.t 12], none⟩,
 ⟨some 11, .mv, [.t 84], none⟩] [84]))
 .skip))))))))
 (.region false [⟨some 23, .mv, [.t 12], none⟩,
 ⟨some 24, .bin .add, [.t 23, .c (.i 1)], none⟩,
 ⟨some 12, .mv, [.t 24], none⟩] [13, 16, 23, 24])))
def F_spec_l10Best_W0 : LC := .loop F_spec_l10Best_L0
def F_spec_l10Best : LF :=
 { nparams := 4, results := [.t 8, .t 9], body :=
 (.seq
 (.region false [⟨some 8, .mv, [.c (.i 0)], none⟩,
 ⟨some 9, .mv, [.c (.i 0)], none⟩] [8, 9])
 (.seq
 (.seq
 (.region false [⟨some 18, .mv, [.t 1], none⟩,
 ⟨some 19, .bin .eql, [.t 18, .c (.i 0)], none⟩] [18])
 (.cond (.t 19) [19]
 (.seq
 (.region false [⟨some 8, .mv, [.c (.i 0)], none⟩,
 ⟨some 9, .mv, [.c (.i 0)], none⟩] [0, 1, 2, 3])
 .ret)
 .skip))
 (.seq
 (.region false [⟨some 10, .mv, [.c (.i (-1))], none⟩] [])
 (.seq
 (.region false [⟨some 11, .mv, [.c (.i 0)], none⟩] [])
 (.seq
 (.seq
 (.region false [⟨some 12, .mv, [.c (.i 1)], none⟩] [])
 (.block 0
 F_spec_l10Best_W0))
 (.seq
 (.region false [⟨some 85, .mv, [.t 10], none⟩,
 ⟨some 86, .mv, [.t 11], none⟩,
 ⟨some 8, .mv, [.t 85], none⟩,
 ⟨some 9, .mv, [.t 86], none⟩] [0, 1, 2, 3, 10, 11, 12, 85, 86])
 .ret)))))) }
/-- laws.sameInts -/
def F_laws_sameInts_L0 : LC :=
 (.seq
 (.seq
 (.region false [⟨some 11, .mv, [.t 5], none⟩,
 ⟨some 12, .mv, [.t 0], none⟩,
 ⟨some 13, .len, [.t 12], none⟩,
 ⟨some 14, .bin .lss, [.t 11, .t 13], none⟩] [11, 12, 13])
 (.cond (.t 14) [14]
 .skip
 (.exit 0)))
 (.seq
 (.block 1
 (.seq
 (.region true [⟨some 17, .mv, [.t 0], none⟩,
 ⟨some 18, .mv, [.t 5], none⟩,
 ⟨some 19, .idxa 1, [.t 17, .t 18], none⟩,
 ⟨some 20, .load 1 false, [.t 19], none⟩,
 ⟨some 21, .mv, [.t 1], none⟩,
 ⟨some 22, .mv, [.t 5], none⟩,
 ⟨some 23, .idxa 1, [.t 21, .t 22], none⟩,
 ⟨some 24, .load 1 false, [.t 23], none⟩,
 ⟨some 25, .bin .neq, [.t 20, .t 24], none⟩] [17, 18, 19, 20, 21, 22, 23, 24])
 (.cond (.t 25) [25]
 (.seq
 (.region false [⟨some 4, .mv, [.c (.b false)], none⟩] [0, 1, 5])
 .ret)
 .skip)))
 (.region false [⟨some 15, .mv, [.t 5], none⟩,
 ⟨some 16, .bin .add, [.t 15, .c (.i 1)], none⟩,
 ⟨some 5, .mv, [.t 16], none⟩] [15, 16])))
def F_laws_sameInts_W0 : LC := .loop F_laws_sameInts_L0
def F_laws_sameInts : LF :=
 { nparams := 2, results := [.t 4], body :=
 (.seq
 (.region false [⟨some 4, .mv, [.c (.b false)], none⟩] [4])
 (.seq
 (.seq
 (.region false [⟨some 6, .mv, [.t 0], none⟩,
 ⟨some 7, .len, [.t 6], none⟩,
 ⟨some 8, .mv, [.t 1], none⟩,
 ⟨some 9, .len, [.t 8], none⟩,
 ⟨some 10, .bin .neq, [.t 7, .t 9], none⟩] [6, 7, 8, 9])
 (.cond (.t 10) [10]
 (.seq
 (.region false [⟨some 4, .mv, [.c (.b false)], none⟩] [0, 1])
 .ret)
 .skip))
 (.seq
 (.seq
 (.region false [⟨some 5, .mv, [.c (.i 0)], none⟩] [])
 (.block 0
 F_laws_sameInts_W0))
 (.seq
 (.region false [⟨some 4, .mv, [.c (.b true)], none⟩] [0, 1, 5])
 .ret)))) }
/-- spec.l20Groups -/
def F_spec_l20Groups_L0 : LC :=
 (.seq
 (.seq
 (.region false [⟨some 15, .mv, [.t 9], none⟩,
 ⟨some 16, .mv, [.t 7], none⟩,
 ⟨some 17, .len, [.t 16], none⟩,
 ⟨some 18, .bin .lss, [.t 15, .t 17], none⟩] [15, 16, 17])
 (.cond (.t 18) [18]
 .skip
 (.exit 0)))
 (.seq
 (.block 1
 (.seq
 (.seq
 (.region false [⟨some 21, .mv, [.t 8], none⟩,
 ⟨some 22, .len, [.t 21], none⟩,
 ⟨some 23, .bin .eql, [.t 22, .c (.i 0)], none⟩,
 ⟨some 24, .mv, [.t 23], none⟩,
 ⟨some 25, .mv, [.t 0], some (24, false)⟩,
 ⟨some 26, .call n_spec_l20Rd_pick 13312, [.t 25, .c (.i 2)], some (24, false)⟩,
 ⟨some 27, .bin .eql, [.t 26, .c (.i 0)], some (24, false)⟩,
 ⟨some 28, .pick, [.t 24, .c (.b true), .t 27], none⟩] [21, 22, 23, 24, 25, 26, 27])
 (.cond (.t 28) [28]
 (.ghost (.shut 8)
 (.region false [⟨some 29, .mv, [.t 8], none⟩,
 ⟨some 30, .bslice 15373 0 1 (.i 0) [], [], none⟩,
 ⟨some 31, .bslice 15880 1 1 (.sl 1 []) [0], [.t 30], none⟩,
 ⟨some 32, .app 16392 1, [.t 29, .t 31], none⟩,
 ⟨some 8, .mv, [.t 32], none⟩] [29, 30, 31, 32]))
 .skip))
 (.seq
 (.region false [⟨some 33, .mv, [.t 8], none⟩,
 ⟨some 34, .len, [.t 33], none⟩,
 ⟨some 35, .bin .sub, [.t 34, .c (.i 1)], none⟩,
 ⟨some 10, .mv, [.t 35], none⟩] [33, 34, 35])
 (.region true [⟨some 36, .mv, [.t 8], none⟩,
 ⟨some 37, .mv, [.t 10], none⟩,
 ⟨some 38, .mv, [.t 8], none⟩,
 ⟨some 39, .mv, [.t 10], none⟩,
 ⟨some 40, .idxa 1, [.t 38, .t 39], none⟩,
 ⟨some 41, .load 1 false, [.t 40], none⟩,
 ⟨some 42, .mv, [.t 7], none⟩,
 ⟨some 43, .mv, [.t 9], none⟩,
 ⟨some 44, .idxa 1, [.t 42, .t 43], none⟩,
 ⟨some 45, .load 1 false, [.t 44], none⟩,
 ⟨some 46, .bslice 23560 1 1 (.i 0) [0], [.t 45], none⟩,
 ⟨some 47, .app 24072 1, [.t 41, .t 46], none⟩,
 ⟨some 48, .idxa 1, [.t 36, .t 37], none⟩,
 ⟨none, .store 1, [.t 48, .t 47], none⟩] [10, 36, 37, 38, 39, 40, 41, 42, 43, 44, 45, 46, 47, 48]))))
 (.region false [⟨some 19, .mv, [.t 9], none⟩,
 ⟨some 20, .bin .add, [.t 19, .c (.i 1)], none⟩,
 ⟨some 9, .mv, [.t 20], none⟩] [19, 20])))
def F_spec_l20Groups_W0 : LC := .loop F_spec_l20Groups_L0
def F_spec_l20Groups : LF :=
 { nparams := 3, results := [.t 6], body :=
 (.seq
 (.region false [⟨some 6, .newnil 3080, [], none⟩] [6])
 (.seq
 (.region false [⟨some 11, .mv, [.t 0], none⟩,
 ⟨some 12, .mv, [.t 1], none⟩,
 ⟨some 13, .call n_spec_l20Order 6656, [.t 11, .t 12, .c (.i 0)], none⟩,
 ⟨some 7, .mv, [.t 13], none⟩] [1, 11, 12, 13])
 (.seq
 (.region false [⟨some 14, .bslice 7176 0 1 (.sl 1 []) [], [], none⟩,
 ⟨some 8, .mv, [.t 14], none⟩] [14])
 (.seq
 (.seq
 (.region false [⟨some 9, .mv, [.c (.i 0)], none⟩] [])
 (.block 0
 F_spec_l20Groups_W0))
 (.seq
 (.seq
 (.ghost (.shut 8)
 (.region false [⟨some 49, .mv, [.t 0], none⟩,
 ⟨some 50, .mv, [.t 2], none⟩,
 ⟨some 51, .call n_spec_l20Rd_odd 26112, [.t 49, .t 50], none⟩] [2, 7, 9, 49, 50]))
 (.cond (.t 51) [51]
 (.seq
 (.region false [⟨some 52, .mv, [.t 0], none⟩,
 ⟨some 53, .call n_spec_l20Rd_pick 27136, [.t 52, .c (.i 2)], none⟩] [52])
 (.block 2
 (.seq
 (.region false [⟨some 59, .bin .eql, [.t 53, .c (.i 0)], none⟩,
 ⟨some 58, .mv, [.t 59], none⟩] [53, 59])
 (.cond (.t 58) [58]
 (.seq
 (.region false [⟨some 60, .mv, [.t 8], none⟩,
 ⟨some 61, .bslice 31240 0 1 (.i 0) [], [], none⟩,
 ⟨some 62, .bslice 31752 1 1 (.sl 1 []) [0], [.t 61], none⟩,
 ⟨some 63, .app 32264 1, [.t 60, .t 62], none⟩,
 ⟨some 6, .mv, [.t 63], none⟩] [8, 60, 61, 62, 63])
 .ret)
 (.seq
 (.region false [⟨some 54, .mv, [.t 8], none⟩,
 ⟨some 55, .bslice 28168 1 1 (.i 0) [0], [.c (.i 0)], none⟩,
 ⟨some 56, .bslice 28680 1 1 (.sl 1 []) [0], [.t 55], none⟩,
 ⟨some 57, .app 29192 1, [.t 54, .t 56], none⟩,
 ⟨some 6, .mv, [.t 57], none⟩] [8, 54, 55, 56, 57])
 .ret)))))
 .skip))
 (.seq
 (.region false [⟨some 64, .mv, [.t 8], none⟩,
 ⟨some 6, .mv, [.t 64], none⟩] [8, 64])
 .ret)))))) }
/-- impl.manyOk -/
def F_impl_manyOk : LF :=
 { nparams := 1, results := [.t 2], body :=
 (.seq
 (.region false [⟨some 2, .mv, [.c (.b false)], none⟩] [2])
 (.seq
 (.region false [⟨some 3, .mv, [.t 0], none⟩,
 ⟨some 4, .call n_impl_isWithin 2048, [.t 3, .c (.i 1), .c (.i 5)], none⟩,
 ⟨some 2, .mv, [.t 4], none⟩] [0, 3, 4])
 .ret)) }
/-- impl.isWithin -/
def F_impl_isWithin : LF :=
 { nparams := 3, results := [.t 6], body :=
 (.seq
 (.region false [⟨some 6, .mv, [.c (.b false)], none⟩] [6])
 (.seq
 (.region false [⟨some 7, .mv, [.t 1], none⟩,
 ⟨some 8, .mv, [.t 0], none⟩,
 ⟨some 9, .bin .leq, [.t 7, .t 8], none⟩,
 ⟨some 10, .mv, [.t 9], none⟩,
 ⟨some 11, .mv, [.t 0], some (10, true)⟩,
 ⟨some 12, .mv, [.t 2], some (10, true)⟩,
 ⟨some 13, .bin .leq, [.t 11, .t 12], some (10, true)⟩,
 ⟨some 14, .pick, [.t 10, .t 13, .c (.b false)], none⟩,
 ⟨some 6, .mv, [.t 14], none⟩] [0, 1, 2, 7, 8, 9, 10, 11, 12, 13, 14])
 .ret)) }
/-- impl.RatioOrder$1 -/
def F_impl_RatioOrder_1 : LF :=
 { nparams := 4, results := [.t 6], body :=
 (.seq
 (.region false [⟨some 6, .mv, [.c (.b false)], none⟩] [6])
 (.seq
 (.region true [⟨some 7, .load 1 false, [.t 2], none⟩,
 ⟨some 8, .mv, [.t 0], none⟩,
 ⟨some 9, .idxa 2, [.t 7, .t 8], none⟩,
 ⟨some 10, .load 2 true, [.t 9], none⟩,
 ⟨some 11, .load 1 false, [.t 3], none⟩,
 ⟨some 12, .call n_impl_ratioOf 6144, [.t 10, .t 11], none⟩,
 ⟨some 13, .load 1 false, [.t 2], none⟩,
 ⟨some 14, .mv, [.t 1], none⟩,
 ⟨some 15, .idxa 2, [.t 13, .t 14], none⟩,
 ⟨some 16, .load 2 true, [.t 15], none⟩,
 ⟨some 17, .load 1 false, [.t 3], none⟩,
 ⟨some 18, .call n_impl_ratioOf 9216, [.t 16, .t 17], none⟩,
 ⟨some 19, .call n_impl_ratio_isLess 9728, [.t 12, .t 18], none⟩,
 ⟨some 6, .mv, [.t 19], none⟩] [0, 1, 2, 3, 7, 8, 9, 10, 11, 12, 13, 14, 15, 16, 17, 18, 19])
 .ret)) }
/-- impl.ratioOf -/
def F_impl_ratioOf : LF :=
 { nparams := 2, results := [.c 4 2 true], body :=
 (.seq
 (.region false [⟨some 2, .box 1040, [.t 0], none⟩,
 ⟨some 4, .alloc 2064 (.st [.i 0, .i 0]), [], none⟩] [0])
 (.seq
 (.region true [⟨some 5, .fld 0 1 false, [.t 2], none⟩,
 ⟨some 6, .load 1 false, [.t 5], none⟩,
 ⟨some 7, .load 2 true, [.t 2], none⟩,
 ⟨some 8, .mv, [.t 1], none⟩,
 ⟨some 9, .call n_impl_endChance 4608, [.t 7, .t 8], none⟩,
 ⟨some 10, .build [.i 0, .i 0] [(0, 1), (1, 1)], [.t 6, .t 9], none⟩,
 ⟨none, .store 2, [.t 4, .t 10], none⟩] [1, 2, 5, 6, 7, 8, 9, 10])
 .ret)) }
/-- impl.ratio).isLess -/
def F_impl_ratio_isLess : LF :=
 { nparams := 2, results := [.t 4], body :=
 (.seq
 (.region false [⟨some 2, .box 1040, [.t 0], none⟩,
 ⟨some 3, .box 1552, [.t 1], none⟩,
 ⟨some 4, .mv, [.c (.b false)], none⟩] [0, 1, 4])
 (.seq
 (.region false [⟨some 5, .fld 0 1 false, [.t 2], none⟩,
 ⟨some 6, .load 1 false, [.t 5], none⟩,
 ⟨some 7, .fld 1 1 false, [.t 3], none⟩,
 ⟨some 8, .load 1 false, [.t 7], none⟩,
 ⟨some 9, .bin .mul, [.t 6, .t 8], none⟩,
 ⟨some 10, .fld 0 1 false, [.t 3], none⟩,
 ⟨some 11, .load 1 false, [.t 10], none⟩,
 ⟨some 12, .fld 1 1 false, [.t 2], none⟩,
 ⟨some 13, .load 1 false, [.t 12], none⟩,
 ⟨some 14, .bin .mul, [.t 11, .t 13], none⟩,
 ⟨some 15, .bin .lss, [.t 9, .t 14], none⟩,
 ⟨some 4, .mv, [.t 15], none⟩] [2, 3, 5, 6, 7, 8, 9, 10, 11, 12, 13, 14, 15])
 .ret)) }
/-- impl.inserted[int] -/
def F_impl_inserted_int_L0 : LC :=
 (.seq
 (.seq
 (.region false [⟨some 10, .mv, [.t 7], none⟩,
 ⟨some 11, .bin .gtr, [.t 10, .c (.i 0)], none⟩,
 ⟨some 12, .mv, [.t 11], none⟩,
 ⟨some 13, .mv, [.t 2], some (12, true)⟩,
 ⟨some 14, .mv, [.t 1], some (12, true)⟩,
 ⟨some 15, .mv, [.t 0], some (12, true)⟩,
 ⟨some 16, .mv, [.t 7], some (12, true)⟩,
 ⟨some 17, .bin .sub, [.t 16, .c (.i 1)], some (12, true)⟩,
 ⟨some 18, .idxa 1, [.t 15, .t 17], some (12, true)⟩,
 ⟨some 19, .load 1 false, [.t 18], some (12, true)⟩,
 ⟨some 20, .calld 10240, [.t 13, .t 14, .t 19], some (12, true)⟩,
 ⟨some 21, .pick, [.t 12, .t 20, .c (.b false)], none⟩] [10, 11, 12, 13, 14, 15, 16, 17, 18, 19, 20])
 (.cond (.t 21) [21]
 .skip
 (.exit 0)))
 (.block 1
 (.region false [⟨some 22, .mv, [.t 7], none⟩,
 ⟨some 23, .bin .sub, [.t 22, .c (.i 1)], none⟩,
 ⟨some 7, .mv, [.t 23], none⟩] [22, 23])))
def F_impl_inserted_int_W0 : LC := .loop F_impl_inserted_int_L0
def F_impl_inserted_int : LF :=
 { nparams := 3, results := [.t 6], body :=
 (.seq
 (.region false [⟨some 6, .newnil 3080, [], none⟩] [6])
 (.seq
 (.region false [⟨some 8, .mv, [.t 0], none⟩,
 ⟨some 9, .len, [.t 8], none⟩,
 ⟨some 7, .mv, [.t 9], none⟩] [8, 9])
 (.seq
 (.block 0
 F_impl_inserted_int_W0)
 (.seq
 (.region false [⟨some 24, .mv, [.t 0], none⟩,
 ⟨some 25, .mv, [.t 7], none⟩,
 ⟨some 26, .mv, [.t 1], none⟩,
 ⟨some 27, .bslice 13832 1 1 (.i 0) [0], [.t 26], none⟩,
 ⟨some 28, .callm n_slices_Insert_int_int [0, 2] 14342, [.t 24, .t 25, .t 27], none⟩,
 ⟨some 6, .mv, [.t 28], none⟩] [0, 1, 2, 7, 24, 25, 26, 27, 28])
 .ret)))) }
/-- slices.Backward[[][]int,[]int]$1 -/
def F_slices_Backward_int_int_1_L0 : LC :=
 (.seq
 (.seq
 (.region false [⟨some 7, .mv, [.t 3], none⟩,
 ⟨some 8, .bin .geq, [.t 7, .c (.i 0)], none⟩] [7])
 (.cond (.t 8) [8]
 .skip
 (.exit 0)))
 (.seq
 (.block 1
 (.seq
 (.region false [⟨some 11, .mv, [.t 0], none⟩,
 ⟨some 12, .mv, [.t 3], none⟩,
 ⟨some 13, .load 1 false, [.t 1], none⟩,
 ⟨some 14, .mv, [.t 3], none⟩,
 ⟨some 15, .idxa 1, [.t 13, .t 14], none⟩,
 ⟨some 16, .load 1 false, [.t 15], none⟩,
 ⟨some 17, .calld 8704, [.t 11, .t 12, .t 16], none⟩,
 ⟨some 18, .un .not, [.t 17], none⟩] [11, 12, 13, 14, 15, 16, 17])
 (.cond (.t 18) [18]
 .ret
 .skip)))
 (.region false [⟨some 9, .mv, [.t 3], none⟩,
 ⟨some 10, .bin .sub, [.t 9, .c (.i 1)], none⟩,
 ⟨some 3, .mv, [.t 10], none⟩] [9, 10])))
def F_slices_Backward_int_int_1_W0 : LC := .loop F_slices_Backward_int_int_1_L0
def F_slices_Backward_int_int_1 : LF :=
 { nparams := 2, results := [], body :=
 (.seq
 (.region false [⟨some 4, .load 1 false, [.t 1], none⟩,
 ⟨some 5, .len, [.t 4], none⟩,
 ⟨some 6, .bin .sub, [.t 5, .c (.i 1)], none⟩,
 ⟨some 3, .mv, [.t 6], none⟩] [4, 5, 6])
 (.block 0
 F_slices_Backward_int_int_1_W0)) }
/-- impl.hasTest -/
def F_impl_hasTest : LF :=
 { nparams := 2, results := [.t 4], body :=
 (.seq
 (.region false [⟨some 4, .mv, [.c (.b false)], none⟩] [4])
 (.seq
 (.region false [⟨some 5, .mv, [.t 0], none⟩,
 ⟨some 6, .mv, [.t 1], none⟩,
 ⟨some 7, .bin .shr, [.t 5, .t 6], none⟩,
 ⟨some 8, .bin .and, [.t 7, .c (.i 1)], none⟩,
 ⟨some 9, .bin .eql, [.t 8, .c (.i 1)], none⟩,
 ⟨some 4, .mv, [.t 9], none⟩] [0, 1, 5, 6, 7, 8, 9])
 .ret)) }
/-- spec.l20Rd).odd -/
def F_spec_l20Rd_odd : LF :=
 { nparams := 2, results := [.t 4], body :=
 (.seq
 (.region false [⟨some 4, .mv, [.c (.b false)], none⟩] [4])
 (.seq
 (.region false [⟨some 5, .mv, [.t 1], none⟩,
 ⟨some 6, .bin .gtr, [.t 5, .c (.i 0)], none⟩,
 ⟨some 7, .mv, [.t 6], none⟩,
 ⟨some 8, .mv, [.t 0], some (7, true)⟩,
 ⟨some 9, .mv, [.t 1], some (7, true)⟩,
 ⟨some 10, .call n_spec_l20Rd_pick 5120, [.t 8, .t 9], some (7, true)⟩,
 ⟨some 11, .mv, [.t 1], some (7, true)⟩,
 ⟨some 12, .bin .sub, [.t 11, .c (.i 1)], some (7, true)⟩,
 ⟨some 13, .bin .eql, [.t 10, .t 12], some (7, true)⟩,
 ⟨some 14, .pick, [.t 7, .t 13, .c (.b false)], none⟩,
 ⟨some 4, .mv, [.t 14], none⟩] [1, 5, 6, 7, 8, 9, 10, 11, 12, 13, 14])
 .ret)) }
/-- impl.sizeOf -/
def F_impl_sizeOf : LF :=
 { nparams := 1, results := [.t 2], body :=
 (.seq
 (.region false [⟨some 2, .mv, [.c (.i 0)], none⟩] [2])
 (.seq
 (.region false [⟨some 3, .mv, [.t 0], none⟩,
 ⟨some 4, .conv .i2q 2048, [.t 3], none⟩,
 ⟨some 5, .call n_math_bits_OnesCount 2560, [.t 4], none⟩,
 ⟨some 2, .mv, [.t 5], none⟩] [0, 3, 4, 5])
 .ret)) }
/-- impl.statesOf -/
def F_impl_statesOf : LF :=
 { nparams := 1, results := [.t 2], body :=
 (.seq
 (.region false [⟨some 2, .mv, [.c (.i 0)], none⟩] [2])
 (.seq
 (.region false [⟨some 3, .mv, [.t 0], none⟩,
 ⟨some 4, .bin .shl, [.c (.i 1), .t 3], none⟩,
 ⟨some 2, .mv, [.t 4], none⟩] [0, 3, 4])
 .ret)) }
/-- spec.l20Order -/
def F_spec_l20Order_L0 : LC :=
 (.ghost (.rename 7 5640)
 (.seq
 (.seq
 (.region false [⟨some 12, .mv, [.t 8], none⟩,
 ⟨some 13, .mv, [.t 1], none⟩,
 ⟨some 14, .bin .lss, [.t 12, .t 13], none⟩] [12, 13])
 (.cond (.t 14) [14]
 .skip
 (.exit 0)))
 (.seq
 (.block 1
 (.seq
 (.region false [⟨some 17, .mv, [.t 0], none⟩,
 ⟨some 18, .mv, [.t 7], none⟩,
 ⟨some 19, .len, [.t 18], none⟩,
 ⟨some 20, .bin .add, [.t 19, .c (.i 1)], none⟩,
 ⟨some 21, .call n_spec_l20Rd_pick 10752, [.t 17, .t 20], none⟩,
 ⟨some 9, .mv, [.t 21], none⟩] [17, 18, 19, 20, 21])
 (.seq
 (.region false [⟨some 22, .bslice 11272 0 1 (.i 0) [], [], none⟩,
 ⟨some 23, .mv, [.t 7], none⟩,
 ⟨some 24, .mv, [.t 9], none⟩,
 ⟨some 25, .slice false true 1, [.t 23, .t 24], none⟩,
 ⟨some 26, .app 13320 1, [.t 22, .t 25], none⟩,
 ⟨some 10, .mv, [.t 26], none⟩] [22, 23, 24, 25, 26])
 (.seq
 (.region false [⟨some 27, .mv, [.t 10], none⟩,
 ⟨some 28, .mv, [.t 8], none⟩,
 ⟨some 29, .bslice 14856 1 1 (.i 0) [0], [.t 28], none⟩,
 ⟨some 30, .app 15368 1, [.t 27, .t 29], none⟩,
 ⟨some 10, .mv, [.t 30], none⟩] [27, 28, 29, 30])
 (.region false [⟨some 31, .mv, [.t 10], none⟩,
 ⟨some 32, .mv, [.t 7], none⟩,
 ⟨some 33, .mv, [.t 9], none⟩,
 ⟨some 34, .slice true false 1, [.t 32, .t 33], none⟩,
 ⟨some 35, .app 17928 1, [.t 31, .t 34], none⟩,
 ⟨some 7, .mv, [.t 35], none⟩] [9, 10, 31, 32, 33, 34, 35])))))
 (.region false [⟨some 15, .mv, [.t 8], none⟩,
 ⟨some 16, .bin .add, [.t 15, .c (.i 1)], none⟩,
 ⟨some 8, .mv, [.t 16], none⟩] [15, 16]))))
def F_spec_l20Order_W0 : LC := .loop F_spec_l20Order_L0
def F_spec_l20Order : LF :=
 { nparams := 3, results := [.t 6], body :=
 (.seq
 (.region false [⟨some 6, .newnil 3080, [], none⟩] [6])
 (.seq
 (.region false [⟨some 11, .bslice 5640 0 1 (.i 0) [], [], none⟩,
 ⟨some 7, .mv, [.t 11], none⟩] [11])
 (.seq
 (.seq
 (.region false [⟨some 8, .mv, [.c (.i 0)], none⟩] [])
 (.block 0
 F_spec_l20Order_W0))
 (.seq
 (.seq
 (.region false [⟨some 36, .mv, [.t 0], none⟩,
 ⟨some 37, .mv, [.t 2], none⟩,
 ⟨some 38, .call n_spec_l20Rd_odd 19456, [.t 36, .t 37], none⟩] [1, 2, 8, 36, 37])
 (.cond (.t 38) [38]
 (.seq
 (.region false [⟨some 39, .mv, [.t 0], none⟩,
 ⟨some 40, .call n_spec_l20Rd_pick 20480, [.t 39, .c (.i 2)], none⟩] [39])
 (.block 2
 (.seq
 (.region false [⟨some 52, .bin .eql, [.t 40, .c (.i 0)], none⟩,
 ⟨some 51, .mv, [.t 52], none⟩] [40, 52])
 (.cond (.t 51) [51]
 (.seq
 (.region false [⟨some 53, .mv, [.t 7], none⟩,
 ⟨some 54, .bslice 27656 1 1 (.i 0) [0], [.c (.i 0)], none⟩,
 ⟨some 55, .app 28168 1, [.t 53, .t 54], none⟩,
 ⟨some 6, .mv, [.t 55], none⟩] [7, 53, 54, 55])
 .ret)
 (.seq
 (.region false [⟨some 41, .mv, [.t 7], none⟩,
 ⟨some 42, .len, [.t 41], none⟩,
 ⟨some 43, .bin .gtr, [.t 42, .c (.i 0)], none⟩] [41, 42])
 (.cond (.t 43) [43]
 (.region false [⟨some 44, .mv, [.t 7], none⟩,
 ⟨some 45, .bslice 23048 2 1 (.i 0) [0, 1], [.c (.i 5), .c (.i (-1))], none⟩,
 ⟨some 46, .mv, [.t 0], none⟩,
 ⟨some 47, .call n_spec_l20Rd_pick 24064, [.t 46, .c (.i 2)], none⟩,
 ⟨some 48, .idxa 1, [.t 45, .t 47], none⟩,
 ⟨some 49, .load 1 false, [.t 48], none⟩,
 ⟨some 50, .idxa 1, [.t 44, .c (.i 0)], none⟩,
 ⟨none, .store 1, [.t 50, .t 49], none⟩] [44, 45, 46, 47, 48, 49, 50])
 .skip))))))
 .skip))
 (.seq
 (.region false [⟨some 56, .mv, [.t 7], none⟩,
 ⟨some 6, .mv, [.t 56], none⟩] [7, 56])
 .ret))))) }
/-- slices.Insert[[]int,int] -/
def F_slices_Insert_int_int : LF :=
 { nparams := 3, results := [], body := .skip, prim := some insP }
/-- bits.OnesCount -/
def F_math_bits_OnesCount : LF :=
 { nparams := 1, results := [.t 2], body :=
 (.seq
 (.region false [⟨some 2, .mv, [.c (.i 0)], none⟩] [2])
 (.seq
 (.cond (.c (.b false)) []
 (.seq
 .void
 .ret)
 .skip)
 (.seq
 (.region false [⟨some 6, .mv, [.t 0], none⟩,
 ⟨some 7, .call n_math_bits_OnesCount64 3584, [.t 6], none⟩,
 ⟨some 2, .mv, [.t 7], none⟩] [0, 6, 7])
 .ret))) }
/-- slices.rotateRight[int] -/
def F_slices_rotateRight_int : LF :=
 { nparams := 2, results := [], body :=
 (.region false [⟨some 4, .mv, [.t 0], none⟩,
 ⟨some 5, .mv, [.t 0], none⟩,
 ⟨some 6, .len, [.t 5], none⟩,
 ⟨some 7, .mv, [.t 1], none⟩,
 ⟨some 8, .bin .sub, [.t 6, .t 7], none⟩,
 ⟨some 9, .call n_slices_rotateLeft_int 4608, [.t 4, .t 8], none⟩] [0, 1, 4, 5, 6, 7, 8, 9]) }
/-- bits.OnesCount64 -/
def F_math_bits_OnesCount64 : LF :=
 { nparams := 1, results := [.t 2], body :=
 (.seq
 (.region false [⟨some 2, .mv, [.c (.i 0)], none⟩] [2])
 (.seq
 (.region false [⟨some 3, .mv, [.t 0], none⟩,
 ⟨some 4, .bin .shr, [.t 3, .c (.q 1)], none⟩,
 ⟨some 5, .bin .and, [.t 4, .c (.q 6148914691236517205)], none⟩,
 ⟨some 6, .mv, [.t 0], none⟩,
 ⟨some 7, .bin .and, [.t 6, .c (.q 6148914691236517205)], none⟩,
 ⟨some 8, .bin .add, [.t 5, .t 7], none⟩,
 ⟨some 0, .mv, [.t 8], none⟩] [3, 4, 5, 6, 7, 8])
 (.seq
 (.region false [⟨some 9, .mv, [.t 0], none⟩,
 ⟨some 10, .bin .shr, [.t 9, .c (.q 2)], none⟩,
 ⟨some 11, .bin .and, [.t 10, .c (.q 3689348814741910323)], none⟩,
 ⟨some 12, .mv, [.t 0], none⟩,
 ⟨some 13, .bin .and, [.t 12, .c (.q 3689348814741910323)], none⟩,
 ⟨some 14, .bin .add, [.t 11, .t 13], none⟩,
 ⟨some 0, .mv, [.t 14], none⟩] [9, 10, 11, 12, 13, 14])
 (.seq
 (.region false [⟨some 15, .mv, [.t 0], none⟩,
 ⟨some 16, .bin .shr, [.t 15, .c (.q 4)], none⟩,
 ⟨some 17, .mv, [.t 0], none⟩,
 ⟨some 18, .bin .add, [.t 16, .t 17], none⟩,
 ⟨some 19, .bin .and, [.t 18, .c (.q 1085102592571150095)], none⟩,
 ⟨some 0, .mv, [.t 19], none⟩] [15, 16, 17, 18, 19])
 (.seq
 (.region false [⟨some 20, .mv, [.t 0], none⟩,
 ⟨some 21, .mv, [.t 0], none⟩,
 ⟨some 22, .bin .shr, [.t 21, .c (.q 8)], none⟩,
 ⟨some 23, .bin .add, [.t 20, .t 22], none⟩,
 ⟨some 0, .mv, [.t 23], none⟩] [20, 21, 22, 23])
 (.seq
 (.region false [⟨some 24, .mv, [.t 0], none⟩,
 ⟨some 25, .mv, [.t 0], none⟩,
 ⟨some 26, .bin .shr, [.t 25, .c (.q 16)], none⟩,
 ⟨some 27, .bin .add, [.t 24, .t 26], none⟩,
 ⟨some 0, .mv, [.t 27], none⟩] [24, 25, 26, 27])
 (.seq
 (.region false [⟨some 28, .mv, [.t 0], none⟩,
 ⟨some 29, .mv, [.t 0], none⟩,
 ⟨some 30, .bin .shr, [.t 29, .c (.q 32)], none⟩,
 ⟨some 31, .bin .add, [.t 28, .t 30], none⟩,
 ⟨some 0, .mv, [.t 31], none⟩] [28, 29, 30, 31])
 (.seq
 (.region false [⟨some 32, .mv, [.t 0], none⟩,
 ⟨some 33, .conv .q2i 16896, [.t 32], none⟩,
 ⟨some 34, .bin .and, [.t 33, .c (.i 127)], none⟩,
 ⟨some 2, .mv, [.t 34], none⟩] [0, 32, 33, 34])
 .ret)))))))) }
/-- slices.rotateLeft[int] -/
def F_slices_rotateLeft_int : LF :=
 { nparams := 2, results := [], body :=
 (.seq
 (.region false [⟨some 4, .mv, [.t 0], none⟩,
 ⟨some 5, .mv, [.t 1], none⟩,
 ⟨some 6, .slice false true 1, [.t 4, .t 5], none⟩,
 ⟨some 7, .call n_slices_Reverse_int_int 3584, [.t 6], none⟩] [4, 5, 6, 7])
 (.seq
 (.region false [⟨some 8, .mv, [.t 0], none⟩,
 ⟨some 9, .mv, [.t 1], none⟩,
 ⟨some 10, .slice true false 1, [.t 8, .t 9], none⟩,
 ⟨some 11, .call n_slices_Reverse_int_int 5632, [.t 10], none⟩] [1, 8, 9, 10, 11])
 (.region false [⟨some 12, .mv, [.t 0], none⟩,
 ⟨some 13, .call n_slices_Reverse_int_int 6656, [.t 12], none⟩] [0, 12, 13]))) }
/-- slices.Reverse[[]int,int] -/
def F_slices_Reverse_int_int_L0 : LC :=
 (.seq
 (.seq
 (.region false [⟨some 7, .mv, [.t 2], none⟩,
 ⟨some 8, .mv, [.t 3], none⟩,
 ⟨some 9, .bin .lss, [.t 7, .t 8], none⟩] [7, 8])
 (.cond (.t 9) [9]
 .skip
 (.exit 0)))
 (.seq
 (.block 1
 (.region true [⟨some 14, .mv, [.t 0], none⟩,
 ⟨some 15, .mv, [.t 2], none⟩,
 ⟨some 16, .mv, [.t 0], none⟩,
 ⟨some 17, .mv, [.t 3], none⟩,
 ⟨some 18, .mv, [.t 0], none⟩,
 ⟨some 19, .mv, [.t 3], none⟩,
 ⟨some 20, .idxa 1, [.t 18, .t 19], none⟩,
 ⟨some 21, .load 1 false, [.t 20], none⟩,
 ⟨some 22, .mv, [.t 0], none⟩,
 ⟨some 23, .mv, [.t 2], none⟩,
 ⟨some 24, .idxa 1, [.t 22, .t 23], none⟩,
 ⟨some 25, .load 1 false, [.t 24], none⟩,
 ⟨some 26, .idxa 1, [.t 14, .t 15], none⟩,
 ⟨none, .store 1, [.t 26, .t 21], none⟩,
 ⟨some 27, .idxa 1, [.t 16, .t 17], none⟩,
 ⟨none, .store 1, [.t 27, .t 25], none⟩] [14, 15, 16, 17, 18, 19, 20, 21, 22, 23, 24, 25, 26, 27]))
 (.region false [⟨some 10, .mv, [.t 2], none⟩,
 ⟨some 11, .bin .add, [.t 10, .c (.i 1)], none⟩,
 ⟨some 12, .mv, [.t 3], none⟩,
 ⟨some 13, .bin .sub, [.t 12, .c (.i 1)], none⟩,
 ⟨some 2, .mv, [.t 11], none⟩,
 ⟨some 3, .mv, [.t 13], none⟩] [10, 11, 12, 13])))
def F_slices_Reverse_int_int_W0 : LC := .loop F_slices_Reverse_int_int_L0
def F_slices_Reverse_int_int : LF :=
 { nparams := 1, results := [], body :=
 (.seq
 (.region false [⟨some 4, .mv, [.t 0], none⟩,
 ⟨some 5, .len, [.t 4], none⟩,
 ⟨some 6, .bin .sub, [.t 5, .c (.i 1)], none⟩,
 ⟨some 2, .mv, [.c (.i 0)], none⟩,
 ⟨some 3, .mv, [.t 6], none⟩] [4, 5, 6])
 (.block 0
 F_slices_Reverse_int_int_W0)) }
def lf : Nat → Option LF
 | 4 => some F_laws_FnBestRounds
 | 6 => some F_laws_FnRoundsFee
 | 15 => some F_impl_RoundAverage
 | 17 => some F_laws_alive
 | 18 => some F_laws_power
 | 19 => some F_impl_RowAverage
 | 20 => some F_spec_DrawBestRounds
 | 21 => some F_impl_BestRounds
 | 22 => some F_spec_BestRounds
 | 23 => some F_laws_sameRows
 | 24 => some F_spec_DrawGroupsOk
 | 25 => some F_impl_GroupsOk
 | 26 => some F_impl_RatioOrder
 | 51 => some F_spec_l20Open
 | 53 => some F_spec_l20Rd_pick
 | 54 => some F_impl_TestsOk
 | 55 => some F_impl_feeOk
 | 56 => some F_slices_Backward_int_int
 | 57 => some F_impl_averageOfRound
 | 58 => some F_impl_setOf
 | 59 => some F_spec_TestsOk
 | 61 => some F_spec_l1In
 | 62 => some F_spec_l1Power
 | 63 => some F_impl_OrderOk
 | 64 => some F_impl_rowOk
 | 65 => some F_impl_wholeOf
 | 66 => some F_impl_endChance
 | 67 => some F_spec_l20Tests
 | 68 => some F_impl_bestRoundsOf
 | 69 => some F_impl_allOf
 | 70 => some F_impl_rowOf
 | 71 => some F_spec_l10Best
 | 72 => some F_laws_sameInts
 | 73 => some F_spec_l20Groups
 | 74 => some F_impl_manyOk
 | 75 => some F_impl_isWithin
 | 76 => some F_impl_RatioOrder_1
 | 77 => some F_impl_ratioOf
 | 78 => some F_impl_ratio_isLess
 | 79 => some F_impl_inserted_int
 | 92 => some F_slices_Backward_int_int_1
 | 93 => some F_impl_hasTest
 | 94 => some F_spec_l20Rd_odd
 | 95 => some F_impl_sizeOf
 | 96 => some F_impl_statesOf
 | 97 => some F_spec_l20Order
 | 98 => some F_slices_Insert_int_int
 | 104 => some F_math_bits_OnesCount
 | 106 => some F_slices_rotateRight_int
 | 111 => some F_math_bits_OnesCount64
 | 112 => some F_slices_rotateLeft_int
 | 118 => some F_slices_Reverse_int_int
 | _ => none
theorem w_laws_power_0 (S : LS) : ex lf F_laws_power_W0 S = match ex lf F_laws_power_L0 S with | some (.normal, S1) => ex lf F_laws_power_W0 S1 | r => r := ex_loop lf F_laws_power_L0 S
theorem w_impl_RowAverage_0 (S : LS) : ex lf F_impl_RowAverage_W0 S = match ex lf F_impl_RowAverage_L0 S with | some (.normal, S1) => ex lf F_impl_RowAverage_W0 S1 | r => r := ex_loop lf F_impl_RowAverage_L0 S
theorem w_impl_BestRounds_0 (S : LS) : ex lf F_impl_BestRounds_W0 S = match ex lf F_impl_BestRounds_L0 S with | some (.normal, S1) => ex lf F_impl_BestRounds_W0 S1 | r => r := ex_loop lf F_impl_BestRounds_L0 S
theorem w_spec_BestRounds_1 (S : LS) : ex lf F_spec_BestRounds_W1 S = match ex lf F_spec_BestRounds_L1 S with | some (.normal, S1) => ex lf F_spec_BestRounds_W1 S1 | r => r := ex_loop lf F_spec_BestRounds_L1 S
theorem w_spec_BestRounds_0 (S : LS) : ex lf F_spec_BestRounds_W0 S = match ex lf F_spec_BestRounds_L0 S with | some (.normal, S1) => ex lf F_spec_BestRounds_W0 S1 | r => r := ex_loop lf F_spec_BestRounds_L0 S
theorem w_laws_sameRows_0 (S : LS) : ex lf F_laws_sameRows_W0 S = match ex lf F_laws_sameRows_L0 S with | some (.normal, S1) => ex lf F_laws_sameRows_W0 S1 | r => r := ex_loop lf F_laws_sameRows_L0 S
theorem w_impl_GroupsOk_0 (S : LS) : ex lf F_impl_GroupsOk_W0 S = match ex lf F_impl_GroupsOk_L0 S with | some (.normal, S1) => ex lf F_impl_GroupsOk_W0 S1 | r => r := ex_loop lf F_impl_GroupsOk_L0 S
theorem w_impl_RatioOrder_0 (S : LS) : ex lf F_impl_RatioOrder_W0 S = match ex lf F_impl_RatioOrder_L0 S with | some (.normal, S1) => ex lf F_impl_RatioOrder_W0 S1 | r => r := ex_loop lf F_impl_RatioOrder_L0 S
theorem w_impl_TestsOk_0 (S : LS) : ex lf F_impl_TestsOk_W0 S = match ex lf F_impl_TestsOk_L0 S with | some (.normal, S1) => ex lf F_impl_TestsOk_W0 S1 | r => r := ex_loop lf F_impl_TestsOk_L0 S
theorem w_impl_averageOfRound_0 (S : LS) : ex lf F_impl_averageOfRound_W0 S = match ex lf F_impl_averageOfRound_L0 S with | some (.normal, S1) => ex lf F_impl_averageOfRound_W0 S1 | r => r := ex_loop lf F_impl_averageOfRound_L0 S
theorem w_impl_setOf_0 (S : LS) : ex lf F_impl_setOf_W0 S = match ex lf F_impl_setOf_L0 S with | some (.normal, S1) => ex lf F_impl_setOf_W0 S1 | r => r := ex_loop lf F_impl_setOf_L0 S
theorem w_spec_TestsOk_0 (S : LS) : ex lf F_spec_TestsOk_W0 S = match ex lf F_spec_TestsOk_L0 S with | some (.normal, S1) => ex lf F_spec_TestsOk_W0 S1 | r => r := ex_loop lf F_spec_TestsOk_L0 S
theorem w_spec_l1Power_0 (S : LS) : ex lf F_spec_l1Power_W0 S = match ex lf F_spec_l1Power_L0 S with | some (.normal, S1) => ex lf F_spec_l1Power_W0 S1 | r => r := ex_loop lf F_spec_l1Power_L0 S
theorem w_impl_OrderOk_0 (S : LS) : ex lf F_impl_OrderOk_W0 S = match ex lf F_impl_OrderOk_L0 S with | some (.normal, S1) => ex lf F_impl_OrderOk_W0 S1 | r => r := ex_loop lf F_impl_OrderOk_L0 S
theorem w_impl_wholeOf_0 (S : LS) : ex lf F_impl_wholeOf_W0 S = match ex lf F_impl_wholeOf_L0 S with | some (.normal, S1) => ex lf F_impl_wholeOf_W0 S1 | r => r := ex_loop lf F_impl_wholeOf_L0 S
theorem w_spec_l20Tests_0 (S : LS) : ex lf F_spec_l20Tests_W0 S = match ex lf F_spec_l20Tests_L0 S with | some (.normal, S1) => ex lf F_spec_l20Tests_W0 S1 | r => r := ex_loop lf F_spec_l20Tests_L0 S
theorem w_impl_bestRoundsOf_0 (S : LS) : ex lf F_impl_bestRoundsOf_W0 S = match ex lf F_impl_bestRoundsOf_L0 S with | some (.normal, S1) => ex lf F_impl_bestRoundsOf_W0 S1 | r => r := ex_loop lf F_impl_bestRoundsOf_L0 S
theorem w_impl_rowOf_0 (S : LS) : ex lf F_impl_rowOf_W0 S = match ex lf F_impl_rowOf_L0 S with | some (.normal, S1) => ex lf F_impl_rowOf_W0 S1 | r => r := ex_loop lf F_impl_rowOf_L0 S
theorem w_spec_l10Best_1 (S : LS) : ex lf F_spec_l10Best_W1 S = match ex lf F_spec_l10Best_L1 S with | some (.normal, S1) => ex lf F_spec_l10Best_W1 S1 | r => r := ex_loop lf F_spec_l10Best_L1 S
theorem w_spec_l10Best_0 (S : LS) : ex lf F_spec_l10Best_W0 S = match ex lf F_spec_l10Best_L0 S with | some (.normal, S1) => ex lf F_spec_l10Best_W0 S1 | r => r := ex_loop lf F_spec_l10Best_L0 S
theorem w_laws_sameInts_0 (S : LS) : ex lf F_laws_sameInts_W0 S = match ex lf F_laws_sameInts_L0 S with | some (.normal, S1) => ex lf F_laws_sameInts_W0 S1 | r => r := ex_loop lf F_laws_sameInts_L0 S
theorem w_spec_l20Groups_0 (S : LS) : ex lf F_spec_l20Groups_W0 S = match ex lf F_spec_l20Groups_L0 S with | some (.normal, S1) => ex lf F_spec_l20Groups_W0 S1 | r => r := ex_loop lf F_spec_l20Groups_L0 S
theorem w_impl_inserted_int_0 (S : LS) : ex lf F_impl_inserted_int_W0 S = match ex lf F_impl_inserted_int_L0 S with | some (.normal, S1) => ex lf F_impl_inserted_int_W0 S1 | r => r := ex_loop lf F_impl_inserted_int_L0 S
theorem w_slices_Backward_int_int_1_0 (S : LS) : ex lf F_slices_Backward_int_int_1_W0 S = match ex lf F_slices_Backward_int_int_1_L0 S with | some (.normal, S1) => ex lf F_slices_Backward_int_int_1_W0 S1 | r => r := ex_loop lf F_slices_Backward_int_int_1_L0 S
theorem w_spec_l20Order_0 (S : LS) : ex lf F_spec_l20Order_W0 S = match ex lf F_spec_l20Order_L0 S with | some (.normal, S1) => ex lf F_spec_l20Order_W0 S1 | r => r := ex_loop lf F_spec_l20Order_L0 S
theorem w_slices_Reverse_int_int_0 (S : LS) : ex lf F_slices_Reverse_int_int_W0 S = match ex lf F_slices_Reverse_int_int_L0 S with | some (.normal, S1) => ex lf F_slices_Reverse_int_int_W0 S1 | r => r := ex_loop lf F_slices_Reverse_int_int_L0 S
end Zz
