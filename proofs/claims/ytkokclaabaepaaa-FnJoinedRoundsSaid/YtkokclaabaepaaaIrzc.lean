/- The functions of the program, read as data. No conditions. -/
import Derived.Test.YtkokclaabaepaaaLgC
set_option linter.unusedSectionVars false
set_option linter.unusedVariables false
set_option linter.unusedSimpArgs false
namespace Zz
open Go.Lg
def n_laws_FnJoinedRounds : Nat := 5
def n_impl_RoundAverage : Nat := 15
def n_laws_alive : Nat := 17
def n_spec_DrawBestRounds : Nat := 20
def n_laws_sameRows : Nat := 23
def n_impl_GroupsOk : Nat := 25
def n_spec_DrawJoinedRounds : Nat := 27
def n_impl_JoinedRounds : Nat := 28
def n_spec_JoinedRounds : Nat := 29
def n_spec_l20Open : Nat := 51
def n_spec_l20Rd_pick : Nat := 53
def n_impl_TestsOk : Nat := 54
def n_impl_feeOk : Nat := 55
def n_slices_Backward_int_int : Nat := 56
def n_impl_averageOfRound : Nat := 57
def n_impl_setOf : Nat := 58
def n_spec_GroupsOk : Nat := 60
def n_spec_l1In : Nat := 61
def n_impl_OrderOk : Nat := 63
def n_impl_wholeOf : Nat := 65
def n_spec_l20Tests : Nat := 67
def n_laws_sameInts : Nat := 72
def n_spec_l20Groups : Nat := 73
def n_impl_manyOk : Nat := 74
def n_impl_isWithin : Nat := 75
def n_slices_Clone_int_int : Nat := 80
def n_slices_Backward_int_int_1 : Nat := 92
def n_impl_hasTest : Nat := 93
def n_spec_l20Rd_odd : Nat := 94
def n_spec_l20Order : Nat := 97
def bkFs : List Nat := [n_slices_Backward_int_int_1]
instance : GL := ⟨[], [36, 37, 42, 49], ["l4_orders.go:82", "l10_rounds.go:90"], [], [(79, [0]), (98, [0, 2]), (100, [0]), (107, [0, 2])], [], ["l20_draw.go:447"], bkFs⟩
/-- laws.FnJoinedRounds -/
def F_laws_FnJoinedRounds : LF :=
 { nparams := 2, results := [.t 4], body :=
 (.seq
 (.region false [⟨some 4, .mv, [.c (.b false)], none⟩] [4])
 (.seq
 (.seq
 (.region false [⟨some 16, .mv, [.t 0], none⟩,
 ⟨some 17, .len, [.t 16], none⟩,
 ⟨some 18, .bin .gtr, [.t 17, .c (.i 1048576)], none⟩,
 ⟨some 19, .mv, [.t 18], none⟩,
 ⟨some 20, .mv, [.t 1], some (19, false)⟩,
 ⟨some 21, .len, [.t 20], some (19, false)⟩,
 ⟨some 22, .bin .gtr, [.t 21, .c (.i 1048576)], some (19, false)⟩,
 ⟨some 23, .pick, [.t 19, .c (.b true), .t 22], none⟩] [16, 17, 18, 19, 20, 21, 22])
 (.cond (.t 23) [23]
 (.seq
 (.region false [⟨some 4, .mv, [.c (.b true)], none⟩] [0, 1])
 .ret)
 .skip))
 (.seq
 (.region false [⟨some 25, .mv, [.t 0], none⟩,
 ⟨some 26, .call n_spec_DrawJoinedRounds 13312, [.t 25], none⟩,
 ⟨some 24, .mv, [.t 26], none⟩,
 ⟨some 27, .ext 0, [.t 24], none⟩,
 ⟨some 28, .ext 1, [.t 24], none⟩,
 ⟨some 29, .ext 2, [.t 24], none⟩,
 ⟨some 5, .mv, [.t 27], none⟩,
 ⟨some 6, .mv, [.t 28], none⟩,
 ⟨some 7, .mv, [.t 29], none⟩] [0, 24, 25, 26, 27, 28, 29])
 (.seq
 (.region false [⟨some 31, .mv, [.t 5], none⟩,
 ⟨some 32, .mv, [.t 6], none⟩,
 ⟨some 33, .mv, [.t 7], none⟩,
 ⟨some 34, .call n_impl_JoinedRounds 17408, [.t 31, .t 32, .t 33], none⟩,
 ⟨some 30, .mv, [.t 34], none⟩,
 ⟨some 35, .ext 0, [.t 30], none⟩,
 ⟨some 36, .ext 1, [.t 30], none⟩,
 ⟨some 8, .mv, [.t 35], none⟩,
 ⟨some 9, .mv, [.t 36], none⟩] [30, 31, 32, 33, 34, 35, 36])
 (.seq
 (.region false [⟨some 38, .mv, [.t 5], none⟩,
 ⟨some 39, .mv, [.t 6], none⟩,
 ⟨some 40, .mv, [.t 7], none⟩,
 ⟨some 41, .call n_spec_JoinedRounds 20992, [.t 38, .t 39, .t 40], none⟩,
 ⟨some 37, .mv, [.t 41], none⟩,
 ⟨some 42, .ext 0, [.t 37], none⟩,
 ⟨some 43, .ext 1, [.t 37], none⟩,
 ⟨some 10, .mv, [.t 42], none⟩,
 ⟨some 11, .mv, [.t 43], none⟩] [7, 37, 38, 39, 40, 41, 42, 43])
 (.seq
 (.seq
 (.region false [⟨some 44, .mv, [.t 8], none⟩,
 ⟨some 45, .mv, [.t 10], none⟩,
 ⟨some 46, .call n_laws_sameRows 23552, [.t 44, .t 45], none⟩,
 ⟨some 47, .un .not, [.t 46], none⟩,
 ⟨some 48, .mv, [.t 47], none⟩,
 ⟨some 49, .mv, [.t 9], some (48, false)⟩,
 ⟨some 50, .mv, [.t 11], some (48, false)⟩,
 ⟨some 51, .eqb true, [.t 49, .t 50], some (48, false)⟩,
 ⟨some 52, .pick, [.t 48, .c (.b true), .t 51], none⟩] [10, 11, 44, 45, 46, 47, 48, 49, 50, 51])
 (.cond (.t 52) [52]
 (.seq
 (.region false [⟨some 4, .mv, [.c (.b false)], none⟩] [1, 5, 6, 8, 9])
 .ret)
 .skip))
 (.seq
 (.seq
 (.region false [⟨some 53, .mv, [.t 9], none⟩,
 ⟨some 54, .un .not, [.t 53], none⟩] [9, 53])
 (.cond (.t 54) [54]
 (.seq
 (.region false [⟨some 55, .mv, [.t 8], none⟩,
 ⟨some 56, .len, [.t 55], none⟩,
 ⟨some 57, .bin .eql, [.t 56, .c (.i 0)], none⟩,
 ⟨some 58, .mv, [.t 57], none⟩,
 ⟨some 59, .call n_laws_alive 30208, [], some (58, true)⟩,
 ⟨some 60, .pick, [.t 58, .t 59, .c (.b false)], none⟩,
 ⟨some 4, .mv, [.t 60], none⟩] [1, 5, 6, 8, 55, 56, 57, 58, 59, 60])
 .ret)
 .skip))
 (.seq
 (.region false [⟨some 62, .mv, [.t 1], none⟩,
 ⟨some 63, .call n_spec_DrawBestRounds 32256, [.t 62], none⟩,
 ⟨some 61, .mv, [.t 63], none⟩,
 ⟨some 64, .ext 0, [.t 61], none⟩,
 ⟨some 65, .ext 1, [.t 61], none⟩,
 ⟨some 12, .mv, [.t 64], none⟩,
 ⟨some 13, .mv, [.t 65], none⟩] [1, 13, 61, 62, 63, 64, 65])
 (.seq
 (.region false [⟨some 66, .mv, [.t 12], none⟩,
 ⟨some 67, .mv, [.t 6], none⟩,
 ⟨some 68, .call n_impl_RoundAverage 34816, [.t 66, .t 67, .c (.i 0)], none⟩,
 ⟨some 14, .mv, [.t 68], none⟩] [66, 67, 68])
 (.seq
 (.region false [⟨some 69, .mv, [.t 12], none⟩,
 ⟨some 70, .mv, [.t 8], none⟩,
 ⟨some 71, .call n_impl_RoundAverage 36352, [.t 69, .t 70, .c (.i 0)], none⟩,
 ⟨some 15, .mv, [.t 71], none⟩] [12, 69, 70, 71])
 (.seq
 (.region false [⟨some 72, .mv, [.t 5], none⟩,
 ⟨some 73, .mv, [.t 8], none⟩,
 ⟨some 74, .call n_impl_GroupsOk 37888, [.t 72, .t 73], none⟩,
 ⟨some 75, .mv, [.t 74], none⟩,
 ⟨some 76, .mv, [.t 8], some (75, true)⟩,
 ⟨some 77, .len, [.t 76], some (75, true)⟩,
 ⟨some 78, .mv, [.t 6], some (75, true)⟩,
 ⟨some 79, .len, [.t 78], some (75, true)⟩,
 ⟨some 80, .bin .sub, [.t 79, .c (.i 1)], some (75, true)⟩,
 ⟨some 81, .bin .eql, [.t 77, .t 80], some (75, true)⟩,
 ⟨some 82, .pick, [.t 75, .t 81, .c (.b false)], none⟩,
 ⟨some 83, .mv, [.t 82], none⟩,
 ⟨some 84, .mv, [.t 14], some (83, true)⟩,
 ⟨some 85, .bin .lss, [.t 84, .c (.i 0)], some (83, true)⟩,
 ⟨some 86, .mv, [.t 85], some (83, true)⟩,
 ⟨some 87, .mv, [.t 15], some (86, false)⟩,
 ⟨some 88, .mv, [.t 14], some (86, false)⟩,
 ⟨some 89, .bin .geq, [.t 87, .t 88], some (86, false)⟩,
 ⟨some 90, .pick, [.t 86, .c (.b true), .t 89], some (83, true)⟩,
 ⟨some 91, .pick, [.t 83, .t 90, .c (.b false)], none⟩,
 ⟨some 4, .mv, [.t 91], none⟩] [5, 6, 8, 14, 15, 72, 73, 74, 75, 76, 77, 78, 79, 80, 81, 82, 83, 84, 85, 86, 87, 88, 89, 90, 91])
 .ret))))))))))) }
/-- impl.RoundAverage -/
def F_impl_RoundAverage_R0 : LC :=
 (.block 1
 (.seq
 (.region false [⟨some 30, .load 1 false, [.t 8], none⟩,
 ⟨some 31, .mv, [.t 10], none⟩,
 ⟨some 32, .len, [.t 31], none⟩,
 ⟨some 33, .bin .add, [.t 30, .t 32], none⟩,
 ⟨none, .store 1, [.t 8, .t 33], none⟩] [30, 31, 32, 33])
 (.region true [⟨some 34, .load 1 false, [.t 3], none⟩,
 ⟨some 35, .mv, [.t 10], none⟩,
 ⟨some 36, .call n_impl_setOf 18432, [.t 35], none⟩,
 ⟨some 37, .load 1 false, [.t 5], none⟩,
 ⟨some 38, .load 1 false, [.t 8], none⟩,
 ⟨some 39, .load 1 false, [.t 7], none⟩,
 ⟨some 40, .call n_impl_averageOfRound 20480, [.t 34, .t 36, .t 37, .t 38, .t 39], none⟩,
 ⟨none, .store 1, [.t 7, .t 40], none⟩] [34, 35, 36, 37, 38, 39, 40])))
def F_impl_RoundAverage_B0 : LC := .back bkFs 27 28 29 [3, 5, 7, 8, 10] [⟨some 10, .mv, [.t 29], none⟩] F_impl_RoundAverage_R0
def F_impl_RoundAverage : LF :=
 { nparams := 3, results := [.t 6], body :=
 (.seq
 (.region false [⟨some 3, .box 1544, [.t 0], none⟩,
 ⟨some 5, .box 2568, [.t 2], none⟩,
 ⟨some 6, .mv, [.c (.i 0)], none⟩] [0, 2, 6])
 (.ghost (.close_ 3)
(.ghost (.close_ 5)
 (.seq
 (.seq
 (.region false [⟨some 11, .load 1 false, [.t 3], none⟩,
 ⟨some 12, .call n_impl_TestsOk 6144, [.t 11], none⟩,
 ⟨some 13, .un .not, [.t 12], none⟩,
 ⟨some 14, .mv, [.t 13], none⟩,
 ⟨some 15, .load 1 false, [.t 3], some (14, false)⟩,
 ⟨some 16, .len, [.t 15], some (14, false)⟩,
 ⟨some 17, .mv, [.t 1], some (14, false)⟩,
 ⟨some 18, .call n_impl_GroupsOk 9216, [.t 16, .t 17], some (14, false)⟩,
 ⟨some 19, .un .not, [.t 18], some (14, false)⟩,
 ⟨some 20, .pick, [.t 14, .c (.b true), .t 19], none⟩,
 ⟨some 21, .mv, [.t 20], none⟩,
 ⟨some 22, .load 1 false, [.t 5], some (21, false)⟩,
 ⟨some 23, .call n_impl_feeOk 11776, [.t 22], some (21, false)⟩,
 ⟨some 24, .un .not, [.t 23], some (21, false)⟩,
 ⟨some 25, .pick, [.t 21, .c (.b true), .t 24], none⟩] [11, 12, 13, 14, 15, 16, 17, 18, 19, 20, 21, 22, 23, 24])
 (.cond (.t 25) [25]
 (.seq
 (.region false [⟨some 6, .mv, [.c (.i (-1))], none⟩] [1, 3, 5])
 .ret)
 .skip))
 (.seq
 (.region false [⟨some 7, .alloc 3592 (.i 0), [], none⟩,
 ⟨some 8, .alloc 4104 (.i 0), [], none⟩,
 ⟨none, .store 1, [.t 7, .c (.i 0)], none⟩,
 ⟨none, .store 1, [.t 8, .c (.i 0)], none⟩] [])
 (.seq
 (.seq
 (.region false [⟨some 26, .mv, [.t 1], none⟩,
 ⟨some 27, .call n_slices_Backward_int_int 13824, [.t 26], none⟩] [1, 26])
 (.block 0
 F_impl_RoundAverage_B0))
 (.seq
 (.region false [⟨some 41, .load 1 false, [.t 7], none⟩,
 ⟨some 6, .mv, [.t 41], none⟩] [3, 5, 7, 8, 27, 41])
 .ret))))))) }
/-- laws.alive -/
def F_laws_alive : LF :=
 { nparams := 0, results := [.t 0], body :=
 (.seq
 (.region false [⟨some 0, .mv, [.c (.b false)], none⟩] [0])
 (.seq
 (.region false [⟨some 1, .build [.i 0, .i 0] [(0, 1), (1, 1)], [.c (.i 1), .c (.i 1)], none⟩,
 ⟨some 2, .bslice 1040 1 2 (.st [.i 0, .i 0]) [0], [.t 1], none⟩,
 ⟨some 3, .call n_impl_TestsOk 1536, [.t 2], none⟩,
 ⟨some 4, .mv, [.t 3], none⟩,
 ⟨some 5, .build [.i 0, .i 0] [], [], some (4, true)⟩,
 ⟨some 6, .bslice 3088 1 2 (.st [.i 0, .i 0]) [0], [.t 5], some (4, true)⟩,
 ⟨some 7, .call n_impl_TestsOk 3584, [.t 6], some (4, true)⟩,
 ⟨some 8, .un .not, [.t 7], some (4, true)⟩,
 ⟨some 9, .pick, [.t 4, .t 8, .c (.b false)], none⟩,
 ⟨some 0, .mv, [.t 9], none⟩] [1, 2, 3, 4, 5, 6, 7, 8, 9])
 .ret)) }
/-- spec.DrawBestRounds -/
def F_spec_DrawBestRounds : LF :=
 { nparams := 1, results := [.t 2, .t 3], body :=
 (.seq
 (.region false [⟨some 2, .newnil 1040, [], none⟩,
 ⟨some 3, .mv, [.c (.i 0)], none⟩] [2, 3])
 (.seq
 (.region false [⟨some 5, .mv, [.t 0], none⟩,
 ⟨some 6, .call n_spec_l20Open 3072, [.t 5], none⟩,
 ⟨some 4, .mv, [.t 6], none⟩] [0, 5, 6])
 (.seq
 (.region false [⟨some 7, .mv, [.t 4], none⟩,
 ⟨some 8, .call n_spec_l20Tests 4096, [.t 7, .c (.i 12)], none⟩,
 ⟨some 9, .mv, [.t 4], none⟩,
 ⟨some 10, .call n_spec_l20Rd_pick 5120, [.t 9, .c (.i 6)], none⟩,
 ⟨some 11, .mv, [.t 4], none⟩,
 ⟨some 12, .call n_spec_l20Rd_pick 6144, [.t 11, .c (.i 9)], none⟩,
 ⟨some 13, .bin .quo, [.t 12, .c (.i 8)], none⟩,
 ⟨some 14, .bin .mul, [.t 13, .c (.i 14)], none⟩,
 ⟨some 15, .bin .add, [.t 10, .t 14], none⟩,
 ⟨some 16, .mv, [.t 4], none⟩,
 ⟨some 17, .call n_spec_l20Rd_pick 8704, [.t 16, .c (.i 60)], none⟩,
 ⟨some 18, .bin .quo, [.t 17, .c (.i 59)], none⟩,
 ⟨some 19, .bin .mul, [.t 18, .c (.i 20)], none⟩,
 ⟨some 20, .bin .add, [.t 15, .t 19], none⟩,
 ⟨some 2, .mv, [.t 8], none⟩,
 ⟨some 3, .mv, [.t 20], none⟩] [4, 7, 8, 9, 10, 11, 12, 13, 14, 15, 16, 17, 18, 19, 20])
 .ret))) }
/-- laws.sameRows -/
def F_laws_sameRows_L0 : LC :=
 (.seq
 (.seq
 (.region false [⟨some 11, .mv, [.t 5], none⟩,
 ⟨some 12, .mv, [.t 0], none⟩,
 ⟨some 13, .len, [.t 12], none⟩,
 ⟨some 14, .bin .lss, [.t 11, .t 13], none⟩] [11, 12, 13])
 (.cond (.t 14) [14]
 .skip
 (.exit 0)))
 (.seq
 (.block 1
 (.seq
 (.region true [⟨some 17, .mv, [.t 0], none⟩,
 ⟨some 18, .mv, [.t 5], none⟩,
 ⟨some 19, .idxa 1, [.t 17, .t 18], none⟩,
 ⟨some 20, .load 1 false, [.t 19], none⟩,
 ⟨some 21, .mv, [.t 1], none⟩,
 ⟨some 22, .mv, [.t 5], none⟩,
 ⟨some 23, .idxa 1, [.t 21, .t 22], none⟩,
 ⟨some 24, .load 1 false, [.t 23], none⟩,
 ⟨some 25, .call n_laws_sameInts 12800, [.t 20, .t 24], none⟩,
 ⟨some 26, .un .not, [.t 25], none⟩] [17, 18, 19, 20, 21, 22, 23, 24, 25])
 (.cond (.t 26) [26]
 (.seq
 (.region false [⟨some 4, .mv, [.c (.b false)], none⟩] [0, 1, 5])
 .ret)
 .skip)))
 (.region false [⟨some 15, .mv, [.t 5], none⟩,
 ⟨some 16, .bin .add, [.t 15, .c (.i 1)], none⟩,
 ⟨some 5, .mv, [.t 16], none⟩] [15, 16])))
def F_laws_sameRows_W0 : LC := .loop F_laws_sameRows_L0
def F_laws_sameRows : LF :=
 { nparams := 2, results := [.t 4], body :=
 (.seq
 (.region false [⟨some 4, .mv, [.c (.b false)], none⟩] [4])
 (.seq
 (.seq
 (.region false [⟨some 6, .mv, [.t 0], none⟩,
 ⟨some 7, .len, [.t 6], none⟩,
 ⟨some 8, .mv, [.t 1], none⟩,
 ⟨some 9, .len, [.t 8], none⟩,
 ⟨some 10, .bin .neq, [.t 7, .t 9], none⟩] [6, 7, 8, 9])
 (.cond (.t 10) [10]
 (.seq
 (.region false [⟨some 4, .mv, [.c (.b false)], none⟩] [0, 1])
 .ret)
 .skip))
 (.seq
 (.seq
 (.region false [⟨some 5, .mv, [.c (.i 0)], none⟩] [])
 (.block 0
 F_laws_sameRows_W0))
 (.seq
 (.region false [⟨some 4, .mv, [.c (.b true)], none⟩] [0, 1, 5])
 .ret)))) }
/-- impl.GroupsOk -/
def F_impl_GroupsOk_L0 : LC :=
 (.seq
 (.region false [⟨some 14, .bin .lss, [.t 13, .t 12], none⟩] [])
 (.seq
 (.cond (.t 14) [14]
 .skip
 (.exit 0))
 (.seq
 (.block 1
 (.seq
 (.region false [⟨some 15, .idxa 1, [.t 11, .t 13], none⟩,
 ⟨some 16, .load 1 false, [.t 15], none⟩,
 ⟨some 7, .mv, [.t 16], none⟩] [15, 16])
 (.seq
 (.seq
 (.region false [⟨some 17, .mv, [.t 7], none⟩,
 ⟨some 18, .len, [.t 17], none⟩,
 ⟨some 19, .mv, [.t 0], none⟩,
 ⟨some 20, .mv, [.t 5], none⟩,
 ⟨some 21, .len, [.t 20], none⟩,
 ⟨some 22, .bin .sub, [.t 19, .t 21], none⟩,
 ⟨some 23, .call n_impl_isWithin 11776, [.t 18, .c (.i 1), .t 22], none⟩,
 ⟨some 24, .un .not, [.t 23], none⟩] [17, 18, 19, 20, 21, 22, 23])
 (.cond (.t 24) [24]
 (.seq
 (.region false [⟨some 4, .mv, [.c (.b false)], none⟩] [0, 5, 7, 11, 12, 13])
 .ret)
 .skip))
 (.region false [⟨some 25, .mv, [.t 5], none⟩,
 ⟨some 26, .mv, [.t 7], none⟩,
 ⟨some 27, .app 13832 1, [.t 25, .t 26], none⟩,
 ⟨some 5, .mv, [.t 27], none⟩] [7, 25, 26, 27]))))
 (.region false [⟨some 28, .bin .add, [.t 13, .c (.i 1)], none⟩,
 ⟨some 13, .mv, [.t 28], none⟩] [28]))))
def F_impl_GroupsOk_W0 : LC := .loop F_impl_GroupsOk_L0
def F_impl_GroupsOk : LF :=
 { nparams := 2, results := [.t 4], body :=
 (.seq
 (.region false [⟨some 4, .mv, [.c (.b false)], none⟩] [4])
 (.seq
 (.seq
 (.region false [⟨some 8, .mv, [.t 0], none⟩,
 ⟨some 9, .call n_impl_manyOk 4608, [.t 8], none⟩,
 ⟨some 10, .un .not, [.t 9], none⟩] [8, 9])
 (.cond (.t 10) [10]
 (.seq
 (.region false [⟨some 4, .mv, [.c (.b false)], none⟩] [0, 1])
 .ret)
 .skip))
 (.seq
 (.region false [⟨some 5, .newnil 2568, [], none⟩] [])
 (.seq
 (.seq
 (.region false [⟨some 11, .mv, [.t 1], none⟩,
 ⟨some 12, .len, [.t 11], none⟩,
 ⟨some 13, .mv, [.c (.i 0)], none⟩] [1])
 (.block 0
 F_impl_GroupsOk_W0))
 (.seq
 (.region false [⟨some 29, .mv, [.t 0], none⟩,
 ⟨some 30, .mv, [.t 5], none⟩,
 ⟨some 31, .call n_impl_OrderOk 15872, [.t 29, .t 30], none⟩,
 ⟨some 4, .mv, [.t 31], none⟩] [0, 5, 11, 12, 13, 29, 30, 31])
 .ret))))) }
/-- spec.DrawJoinedRounds -/
def F_spec_DrawJoinedRounds : LF :=
 { nparams := 1, results := [.t 2, .t 3, .t 4], body :=
 (.seq
 (.region false [⟨some 2, .mv, [.c (.i 0)], none⟩,
 ⟨some 3, .newnil 1544, [], none⟩,
 ⟨some 4, .mv, [.c (.i 0)], none⟩] [2, 3, 4])
 (.seq
 (.region false [⟨some 8, .mv, [.t 0], none⟩,
 ⟨some 9, .call n_spec_l20Open 4608, [.t 8], none⟩,
 ⟨some 5, .mv, [.t 9], none⟩] [0, 8, 9])
 (.seq
 (.region false [⟨some 10, .mv, [.t 5], none⟩,
 ⟨some 11, .call n_spec_l20Rd_pick 5632, [.t 10, .c (.i 5)], none⟩,
 ⟨some 12, .bin .add, [.c (.i 1), .t 11], none⟩,
 ⟨some 6, .mv, [.t 12], none⟩] [10, 11, 12])
 (.seq
 (.region false [⟨some 13, .mv, [.t 5], none⟩,
 ⟨some 14, .mv, [.t 6], none⟩,
 ⟨some 15, .call n_spec_l20Groups 7680, [.t 13, .t 14, .c (.i 12)], none⟩,
 ⟨some 7, .mv, [.t 15], none⟩] [13, 14, 15])
 (.seq
 (.region false [⟨some 16, .mv, [.t 6], none⟩,
 ⟨some 17, .mv, [.t 7], none⟩,
 ⟨some 18, .mv, [.t 5], none⟩,
 ⟨some 19, .mv, [.t 7], none⟩,
 ⟨some 20, .len, [.t 19], none⟩,
 ⟨some 21, .mm true, [.t 20, .c (.i 1)], none⟩,
 ⟨some 22, .call n_spec_l20Rd_pick 11264, [.t 18, .t 21], none⟩,
 ⟨some 23, .mv, [.t 5], none⟩,
 ⟨some 24, .call n_spec_l20Rd_pick 12288, [.t 23, .c (.i 40)], none⟩,
 ⟨some 25, .bin .quo, [.t 24, .c (.i 39)], none⟩,
 ⟨some 26, .bin .sub, [.t 22, .t 25], none⟩,
 ⟨some 2, .mv, [.t 16], none⟩,
 ⟨some 3, .mv, [.t 17], none⟩,
 ⟨some 4, .mv, [.t 26], none⟩] [5, 6, 7, 16, 17, 18, 19, 20, 21, 22, 23, 24, 25, 26])
 .ret))))) }
/-- impl.JoinedRounds -/
def F_impl_JoinedRounds_L0 : LC :=
 (.seq
 (.region false [⟨some 26, .bin .lss, [.t 25, .t 24], none⟩] [])
 (.seq
 (.cond (.t 26) [26]
 .skip
 (.exit 0))
 (.seq
 (.block 1
 (.seq
 (.region false [⟨some 27, .mv, [.t 25], none⟩,
 ⟨some 28, .idxa 1, [.t 23, .t 25], none⟩,
 ⟨some 29, .load 1 false, [.t 28], none⟩,
 ⟨some 9, .mv, [.t 27], none⟩,
 ⟨some 10, .mv, [.t 29], none⟩] [27, 28, 29])
 (.seq
 (.region false [⟨some 30, .mv, [.t 9], none⟩,
 ⟨some 31, .mv, [.t 2], none⟩,
 ⟨some 32, .bin .add, [.t 31, .c (.i 1)], none⟩,
 ⟨some 33, .bin .eql, [.t 30, .t 32], none⟩] [9, 30, 31, 32])
 (.cond (.t 33) [33]
 (.region false [⟨some 34, .mv, [.t 8], none⟩,
 ⟨some 35, .mv, [.t 2], none⟩,
 ⟨some 36, .mv, [.t 8], none⟩,
 ⟨some 37, .mv, [.t 2], none⟩,
 ⟨some 38, .idxa 1, [.t 36, .t 37], none⟩,
 ⟨some 39, .load 1 false, [.t 38], none⟩,
 ⟨some 40, .mv, [.t 10], none⟩,
 ⟨some 41, .app 21000 1, [.t 39, .t 40], none⟩,
 ⟨some 42, .idxa 1, [.t 34, .t 35], none⟩,
 ⟨none, .store 1, [.t 42, .t 41], none⟩] [10, 34, 35, 36, 37, 38, 39, 40, 41, 42])
 (.ghost (.shut 8)
 (.cut [⟨some 43, .mv, [.t 8], none⟩,
 ⟨some 44, .mv, [.t 10], none⟩,
 ⟨some 45, .call n_slices_Clone_int_int 23040, [.t 44], none⟩]
 (.cell_ 45 23565)
 [⟨some 46, .bslice 23560 1 1 (.sl 1 []) [0], [.t 45], none⟩,
 ⟨some 47, .app 24072 1, [.t 43, .t 46], none⟩,
 ⟨some 8, .mv, [.t 47], none⟩] [10, 43, 44, 45, 46, 47]))))))
 (.region false [⟨some 48, .bin .add, [.t 25, .c (.i 1)], none⟩,
 ⟨some 25, .mv, [.t 48], none⟩] [48]))))
def F_impl_JoinedRounds_W0 : LC := .loop F_impl_JoinedRounds_L0
def F_impl_JoinedRounds : LF :=
 { nparams := 3, results := [.t 6, .t 7], body :=
 (.seq
 (.region false [⟨some 6, .newnil 3080, [], none⟩,
 ⟨some 7, .mv, [.c (.b false)], none⟩] [6, 7])
 (.seq
 (.seq
 (.region false [⟨some 11, .mv, [.t 0], none⟩,
 ⟨some 12, .mv, [.t 1], none⟩,
 ⟨some 13, .call n_impl_GroupsOk 6656, [.t 11, .t 12], none⟩,
 ⟨some 14, .un .not, [.t 13], none⟩,
 ⟨some 15, .mv, [.t 14], none⟩,
 ⟨some 16, .mv, [.t 2], some (15, false)⟩,
 ⟨some 17, .mv, [.t 1], some (15, false)⟩,
 ⟨some 18, .len, [.t 17], some (15, false)⟩,
 ⟨some 19, .bin .sub, [.t 18, .c (.i 2)], some (15, false)⟩,
 ⟨some 20, .call n_impl_isWithin 10240, [.t 16, .c (.i 0), .t 19], some (15, false)⟩,
 ⟨some 21, .un .not, [.t 20], some (15, false)⟩,
 ⟨some 22, .pick, [.t 15, .c (.b true), .t 21], none⟩] [0, 11, 12, 13, 14, 15, 16, 17, 18, 19, 20, 21])
 (.cond (.t 22) [22]
 (.seq
 (.region false [⟨some 6, .newnil 3080, [], none⟩,
 ⟨some 7, .mv, [.c (.b false)], none⟩] [1, 2])
 .ret)
 .skip))
 (.seq
 (.region false [⟨some 8, .newnil 4104, [], none⟩] [])
 (.seq
 (.seq
 (.region false [⟨some 23, .mv, [.t 1], none⟩,
 ⟨some 24, .len, [.t 23], none⟩,
 ⟨some 25, .mv, [.c (.i 0)], none⟩] [1])
 (.block 0
 F_impl_JoinedRounds_W0))
 (.seq
 (.ghost (.shut 8)
 (.region false [⟨some 49, .mv, [.t 8], none⟩,
 ⟨some 6, .mv, [.t 49], none⟩,
 ⟨some 7, .mv, [.c (.b true)], none⟩] [2, 8, 23, 24, 25, 49]))
 .ret))))) }
/-- spec.JoinedRounds -/
def F_spec_JoinedRounds_L0 : LC :=
 (.seq
 (.seq
 (.region false [⟨some 26, .mv, [.t 9], none⟩,
 ⟨some 27, .mv, [.t 1], none⟩,
 ⟨some 28, .len, [.t 27], none⟩,
 ⟨some 29, .bin .lss, [.t 26, .t 28], none⟩] [26, 27, 28])
 (.cond (.t 29) [29]
 .skip
 (.exit 0)))
 (.seq
 (.block 1
 (.seq
 (.region false [⟨some 32, .bslice 16392 0 1 (.i 0) [], [], none⟩,
 ⟨some 33, .mv, [.t 1], none⟩,
 ⟨some 34, .mv, [.t 9], none⟩,
 ⟨some 35, .idxa 1, [.t 33, .t 34], none⟩,
 ⟨some 36, .load 1 false, [.t 35], none⟩,
 ⟨some 37, .app 18952 1, [.t 32, .t 36], none⟩,
 ⟨some 10, .mv, [.t 37], none⟩] [32, 33, 34, 35, 36, 37])
 (.seq
 (.seq
 (.region false [⟨some 38, .mv, [.t 9], none⟩,
 ⟨some 39, .mv, [.t 2], none⟩,
 ⟨some 40, .bin .add, [.t 39, .c (.i 1)], none⟩,
 ⟨some 41, .bin .eql, [.t 38, .t 40], none⟩] [38, 39, 40])
 (.cond (.t 41) [41]
 (.seq
 (.region false [⟨some 42, .mv, [.t 8], none⟩,
 ⟨some 43, .len, [.t 42], none⟩,
 ⟨some 44, .bin .sub, [.t 43, .c (.i 1)], none⟩,
 ⟨some 11, .mv, [.t 44], none⟩] [42, 43, 44])
 (.seq
 (.region false [⟨some 45, .mv, [.t 8], none⟩,
 ⟨some 46, .mv, [.t 11], none⟩,
 ⟨some 47, .mv, [.t 8], none⟩,
 ⟨some 48, .mv, [.t 11], none⟩,
 ⟨some 49, .idxa 1, [.t 47, .t 48], none⟩,
 ⟨some 50, .load 1 false, [.t 49], none⟩,
 ⟨some 51, .mv, [.t 10], none⟩,
 ⟨some 52, .app 26632 1, [.t 50, .t 51], none⟩,
 ⟨some 53, .idxa 1, [.t 45, .t 46], none⟩,
 ⟨none, .store 1, [.t 53, .t 52], none⟩] [10, 11, 45, 46, 47, 48, 49, 50, 51, 52, 53])
 (.exit 1)))
 .skip))
 (.ghost (.shut 8)
 (.ghost (.cell_ 10 16397)
 (.region false [⟨some 54, .mv, [.t 8], none⟩,
 ⟨some 55, .mv, [.t 10], none⟩,
 ⟨some 56, .bslice 28680 1 1 (.sl 1 []) [0], [.t 55], none⟩,
 ⟨some 57, .app 29192 1, [.t 54, .t 56], none⟩,
 ⟨some 8, .mv, [.t 57], none⟩] [10, 54, 55, 56, 57]))))))
 (.region false [⟨some 30, .mv, [.t 9], none⟩,
 ⟨some 31, .bin .add, [.t 30, .c (.i 1)], none⟩,
 ⟨some 9, .mv, [.t 31], none⟩] [30, 31])))
def F_spec_JoinedRounds_W0 : LC := .loop F_spec_JoinedRounds_L0
def F_spec_JoinedRounds : LF :=
 { nparams := 3, results := [.t 6, .t 7], body :=
 (.seq
 (.region false [⟨some 6, .newnil 3080, [], none⟩,
 ⟨some 7, .mv, [.c (.b false)], none⟩] [6, 7])
 (.seq
 (.seq
 (.region false [⟨some 12, .mv, [.t 0], none⟩,
 ⟨some 13, .mv, [.t 1], none⟩,
 ⟨some 14, .call n_spec_GroupsOk 7168, [.t 12, .t 13], none⟩,
 ⟨some 15, .un .not, [.t 14], none⟩,
 ⟨some 16, .mv, [.t 15], none⟩,
 ⟨some 17, .mv, [.t 2], some (16, false)⟩,
 ⟨some 18, .mv, [.t 1], some (16, false)⟩,
 ⟨some 19, .len, [.t 18], some (16, false)⟩,
 ⟨some 20, .bin .sub, [.t 19, .c (.i 2)], some (16, false)⟩,
 ⟨some 21, .call n_spec_l1In 10752, [.t 17, .c (.i 0), .t 20], some (16, false)⟩,
 ⟨some 22, .un .not, [.t 21], some (16, false)⟩,
 ⟨some 23, .pick, [.t 16, .c (.b true), .t 22], none⟩] [0, 12, 13, 14, 15, 16, 17, 18, 19, 20, 21, 22])
 (.cond (.t 23) [23]
 (.seq
 (.region false [⟨some 24, .bslice 12296 0 1 (.sl 1 []) [], [], none⟩,
 ⟨some 6, .mv, [.t 24], none⟩,
 ⟨some 7, .mv, [.c (.b false)], none⟩] [1, 2, 24])
 .ret)
 .skip))
 (.seq
 (.region false [⟨some 25, .bslice 12808 0 1 (.sl 1 []) [], [], none⟩,
 ⟨some 8, .mv, [.t 25], none⟩] [25])
 (.seq
 (.seq
 (.region false [⟨some 9, .mv, [.c (.i 0)], none⟩] [])
 (.block 0
 F_spec_JoinedRounds_W0))
 (.seq
 (.ghost (.shut 8)
 (.region false [⟨some 58, .mv, [.t 8], none⟩,
 ⟨some 6, .mv, [.t 58], none⟩,
 ⟨some 7, .mv, [.c (.b true)], none⟩] [1, 2, 8, 9, 58]))
 .ret))))) }
/-- spec.l20Open -/
def F_spec_l20Open : LF :=
 { nparams := 1, results := [.t 2], body :=
 (.seq
 (.region false [⟨some 2, .mv, [.c (.np)], none⟩] [2])
 (.seq
 (.seq
 (.region false [⟨some 3, .mv, [.t 0], none⟩,
 ⟨some 4, .len, [.t 3], none⟩,
 ⟨some 5, .bin .gtr, [.t 4, .c (.i 2000)], none⟩] [3, 4])
 (.cond (.t 5) [5]
 (.region false [⟨some 6, .mv, [.t 0], none⟩,
 ⟨some 7, .slice false true 1, [.t 6, .c (.i 2000)], none⟩,
 ⟨some 0, .mv, [.t 7], none⟩] [6, 7])
 .skip))
 (.seq
 (.region false [⟨some 8, .mv, [.t 0], none⟩,
 ⟨some 9, .build [.sl 1 [], .i 0] [(0, 1)], [.t 8], none⟩,
 ⟨some 10, .box 5136, [.t 9], none⟩,
 ⟨some 2, .mv, [.t 10], none⟩] [0, 8, 9, 10])
 .ret))) }
/-- spec.l20Rd).pick -/
def F_spec_l20Rd_pick : LF :=
 { nparams := 2, results := [.t 4], body :=
 (.seq
 (.region false [⟨some 4, .mv, [.c (.i 0)], none⟩] [4])
 (.seq
 (.region false [⟨some 7, .mv, [.t 0], none⟩,
 ⟨some 8, .mv, [.t 0], none⟩,
 ⟨some 9, .chk, [.t 8], none⟩,
 ⟨some 10, .fld 1 1 false, [.t 9], none⟩,
 ⟨some 11, .load 1 false, [.t 10], none⟩,
 ⟨some 12, .bin .add, [.t 11, .c (.i 1)], none⟩,
 ⟨some 13, .chk, [.t 7], none⟩,
 ⟨some 14, .fld 1 1 false, [.t 13], none⟩,
 ⟨none, .store 1, [.t 14, .t 12], none⟩] [7, 8, 9, 10, 11, 12, 13, 14])
 (.seq
 (.seq
 (.region false [⟨some 15, .mv, [.t 1], none⟩,
 ⟨some 16, .bin .lss, [.t 15, .c (.i 1)], none⟩,
 ⟨some 17, .mv, [.t 16], none⟩,
 ⟨some 18, .mv, [.t 0], some (17, false)⟩,
 ⟨some 19, .chk, [.t 18], some (17, false)⟩,
 ⟨some 20, .fld 0 1 false, [.t 19], some (17, false)⟩,
 ⟨some 21, .load 1 false, [.t 20], some (17, false)⟩,
 ⟨some 22, .len, [.t 21], some (17, false)⟩,
 ⟨some 23, .bin .eql, [.t 22, .c (.i 0)], some (17, false)⟩,
 ⟨some 24, .pick, [.t 17, .c (.b true), .t 23], none⟩] [15, 16, 17, 18, 19, 20, 21, 22, 23])
 (.cond (.t 24) [24]
 (.seq
 (.region false [⟨some 4, .mv, [.c (.i 0)], none⟩] [1])
 .ret)
 .skip))
 (.seq
 (.region false [⟨some 25, .mv, [.t 0], none⟩,
 ⟨some 26, .chk, [.t 25], none⟩,
 ⟨some 27, .fld 1 1 false, [.t 26], none⟩,
 ⟨some 28, .load 1 false, [.t 27], none⟩,
 ⟨some 29, .bin .sub, [.t 28, .c (.i 1)], none⟩,
 ⟨some 5, .mv, [.t 29], none⟩] [25, 26, 27, 28, 29])
 (.seq
 (.seq
 (.region false [⟨some 30, .mv, [.t 5], none⟩,
 ⟨some 31, .mv, [.t 0], none⟩,
 ⟨some 32, .chk, [.t 31], none⟩,
 ⟨some 33, .fld 0 1 false, [.t 32], none⟩,
 ⟨some 34, .load 1 false, [.t 33], none⟩,
 ⟨some 35, .len, [.t 34], none⟩,
 ⟨some 36, .bin .lss, [.t 30, .t 35], none⟩] [30, 31, 32, 33, 34, 35])
 (.cond (.t 36) [36]
 (.seq
 (.region false [⟨some 37, .mv, [.t 0], none⟩,
 ⟨some 38, .chk, [.t 37], none⟩,
 ⟨some 39, .fld 0 1 false, [.t 38], none⟩,
 ⟨some 40, .load 1 false, [.t 39], none⟩,
 ⟨some 41, .mv, [.t 5], none⟩,
 ⟨some 42, .idxa 1, [.t 40, .t 41], none⟩,
 ⟨some 43, .load 1 false, [.t 42], none⟩,
 ⟨some 44, .conv .b2i 22528, [.t 43], none⟩,
 ⟨some 45, .mv, [.t 1], none⟩,
 ⟨some 46, .bin .rem, [.t 44, .t 45], none⟩,
 ⟨some 4, .mv, [.t 46], none⟩] [1, 5, 37, 38, 39, 40, 41, 42, 43, 44, 45, 46])
 .ret)
 .skip))
 (.seq
 (.region true [⟨some 47, .mv, [.t 0], none⟩,
 ⟨some 48, .chk, [.t 47], none⟩,
 ⟨some 49, .fld 0 1 false, [.t 48], none⟩,
 ⟨some 50, .load 1 false, [.t 49], none⟩,
 ⟨some 51, .mv, [.t 5], none⟩,
 ⟨some 52, .mv, [.t 0], none⟩,
 ⟨some 53, .chk, [.t 52], none⟩,
 ⟨some 54, .fld 0 1 false, [.t 53], none⟩,
 ⟨some 55, .load 1 false, [.t 54], none⟩,
 ⟨some 56, .len, [.t 55], none⟩,
 ⟨some 57, .bin .rem, [.t 51, .t 56], none⟩,
 ⟨some 58, .idxa 1, [.t 50, .t 57], none⟩,
 ⟨some 59, .load 1 false, [.t 58], none⟩,
 ⟨some 60, .conv .b2i 30720, [.t 59], none⟩,
 ⟨some 61, .bin .mul, [.t 60, .c (.i 131)], none⟩,
 ⟨some 62, .mv, [.t 0], none⟩,
 ⟨some 63, .chk, [.t 62], none⟩,
 ⟨some 64, .fld 0 1 false, [.t 63], none⟩,
 ⟨some 65, .load 1 false, [.t 64], none⟩,
 ⟨some 66, .mv, [.t 5], none⟩,
 ⟨some 67, .bin .mul, [.t 66, .c (.i 7)], none⟩,
 ⟨some 68, .bin .add, [.t 67, .c (.i 3)], none⟩,
 ⟨some 69, .mv, [.t 0], none⟩,
 ⟨some 70, .chk, [.t 69], none⟩,
 ⟨some 71, .fld 0 1 false, [.t 70], none⟩,
 ⟨some 72, .load 1 false, [.t 71], none⟩,
 ⟨some 73, .len, [.t 72], none⟩,
 ⟨some 74, .bin .rem, [.t 68, .t 73], none⟩,
 ⟨some 75, .idxa 1, [.t 65, .t 74], none⟩,
 ⟨some 76, .load 1 false, [.t 75], none⟩,
 ⟨some 77, .conv .b2i 39424, [.t 76], none⟩,
 ⟨some 78, .bin .mul, [.t 77, .c (.i 1117)], none⟩,
 ⟨some 79, .bin .add, [.t 61, .t 78], none⟩,
 ⟨some 80, .mv, [.t 5], none⟩,
 ⟨some 81, .bin .mul, [.t 80, .c (.i 29)], none⟩,
 ⟨some 82, .bin .add, [.t 79, .t 81], none⟩,
 ⟨some 83, .mv, [.t 5], none⟩,
 ⟨some 84, .mv, [.t 0], none⟩,
 ⟨some 85, .chk, [.t 84], none⟩,
 ⟨some 86, .fld 0 1 false, [.t 85], none⟩,
 ⟨some 87, .load 1 false, [.t 86], none⟩,
 ⟨some 88, .len, [.t 87], none⟩,
 ⟨some 89, .bin .quo, [.t 83, .t 88], none⟩,
 ⟨some 90, .bin .mul, [.t 89, .c (.i 53)], none⟩,
 ⟨some 91, .bin .add, [.t 82, .t 90], none⟩,
 ⟨some 6, .mv, [.t 91], none⟩] [5, 47, 48, 49, 50, 51, 52, 53, 54, 55, 56, 57, 58, 59, 60, 61, 62, 63, 64, 65, 66, 67, 68, 69, 70, 71, 72, 73, 74, 75, 76, 77, 78, 79, 80, 81, 82, 83, 84, 85, 86, 87, 88, 89, 90, 91])
 (.seq
 (.region false [⟨some 92, .mv, [.t 6], none⟩,
 ⟨some 93, .mv, [.t 6], none⟩,
 ⟨some 94, .bin .quo, [.t 93, .c (.i 64)], none⟩,
 ⟨some 95, .bin .xor, [.t 92, .t 94], none⟩,
 ⟨some 6, .mv, [.t 95], none⟩] [92, 93, 94, 95])
 (.seq
 (.region false [⟨some 96, .mv, [.t 6], none⟩,
 ⟨some 97, .mv, [.t 1], none⟩,
 ⟨some 98, .bin .rem, [.t 96, .t 97], none⟩,
 ⟨some 4, .mv, [.t 98], none⟩] [1, 6, 96, 97, 98])
 .ret)))))))) }
/-- impl.TestsOk -/
def F_impl_TestsOk_L0 : LC :=
 (.seq
 (.region false [⟨some 12, .bin .lss, [.t 11, .t 10], none⟩] [])
 (.seq
 (.cond (.t 12) [12]
 .skip
 (.exit 0))
 (.seq
 (.block 1
 (.seq
 (.region false [⟨some 13, .idxa 2, [.t 9, .t 11], none⟩,
 ⟨some 14, .load 2 true, [.t 13], none⟩,
 ⟨some 4, .alloc 2064 (.st [.i 0, .i 0]), [], none⟩,
 ⟨none, .store 2, [.t 4, .t 14], none⟩] [13, 14])
 (.seq
 (.region false [⟨some 15, .fld 0 1 false, [.t 4], none⟩,
 ⟨some 16, .load 1 false, [.t 15], none⟩,
 ⟨some 17, .call n_impl_isWithin 8704, [.t 16, .c (.i 1), .c (.i 9)], none⟩,
 ⟨some 18, .un .not, [.t 17], none⟩,
 ⟨some 19, .mv, [.t 18], none⟩,
 ⟨some 20, .fld 1 1 false, [.t 4], some (19, false)⟩,
 ⟨some 21, .load 1 false, [.t 20], some (19, false)⟩,
 ⟨some 22, .call n_impl_isWithin 11264, [.t 21, .c (.i 1), .c (.i 5)], some (19, false)⟩,
 ⟨some 23, .un .not, [.t 22], some (19, false)⟩,
 ⟨some 24, .pick, [.t 19, .c (.b true), .t 23], none⟩] [4, 15, 16, 17, 18, 19, 20, 21, 22, 23])
 (.cond (.t 24) [24]
 (.seq
 (.region false [⟨some 2, .mv, [.c (.b false)], none⟩] [9, 10, 11])
 .ret)
 .skip))))
 (.region false [⟨some 25, .bin .add, [.t 11, .c (.i 1)], none⟩,
 ⟨some 11, .mv, [.t 25], none⟩] [25]))))
def F_impl_TestsOk_W0 : LC := .loop F_impl_TestsOk_L0
def F_impl_TestsOk : LF :=
 { nparams := 1, results := [.t 2], body :=
 (.seq
 (.region false [⟨some 2, .mv, [.c (.b false)], none⟩] [2])
 (.seq
 (.seq
 (.region false [⟨some 5, .mv, [.t 0], none⟩,
 ⟨some 6, .len, [.t 5], none⟩,
 ⟨some 7, .call n_impl_manyOk 3584, [.t 6], none⟩,
 ⟨some 8, .un .not, [.t 7], none⟩] [5, 6, 7])
 (.cond (.t 8) [8]
 (.seq
 (.region false [⟨some 2, .mv, [.c (.b false)], none⟩] [0])
 .ret)
 .skip))
 (.seq
 (.seq
 (.region false [⟨some 9, .mv, [.t 0], none⟩,
 ⟨some 10, .len, [.t 9], none⟩,
 ⟨some 11, .mv, [.c (.i 0)], none⟩] [0])
 (.block 0
 F_impl_TestsOk_W0))
 (.seq
 (.region false [⟨some 2, .mv, [.c (.b true)], none⟩] [9, 10, 11])
 .ret)))) }
/-- impl.feeOk -/
def F_impl_feeOk : LF :=
 { nparams := 1, results := [.t 2], body :=
 (.seq
 (.region false [⟨some 2, .mv, [.c (.b false)], none⟩] [2])
 (.seq
 (.region false [⟨some 3, .mv, [.t 0], none⟩,
 ⟨some 4, .call n_impl_isWithin 2048, [.t 3, .c (.i 0), .c (.i 20)], none⟩,
 ⟨some 2, .mv, [.t 4], none⟩] [0, 3, 4])
 .ret)) }
/-- slices.Backward[[][]int,[]int] -/
def F_slices_Backward_int_int : LF :=
 { nparams := 1, results := [.t 2], body :=
 (.seq
 (.region false [⟨some 1, .box 520, [.t 0], none⟩,
 ⟨some 2, .mv, [.c (.dead)], none⟩] [0, 2])
 (.seq
 (.region false [⟨some 3, .mkfn (mkNo n_slices_Backward_int_int_1 0), [.t 1], none⟩,
 ⟨some 2, .mv, [.t 3], none⟩] [1, 3])
 .ret)) }
/-- impl.averageOfRound -/
def F_impl_averageOfRound_L0 : LC :=
 (.seq
 (.region false [⟨some 19, .bin .lss, [.t 18, .t 17], none⟩] [])
 (.seq
 (.cond (.t 19) [19]
 .skip
 (.exit 0))
 (.seq
 (.block 1
 (.seq
 (.region false [⟨some 20, .mv, [.t 18], none⟩,
 ⟨some 21, .idxa 2, [.t 16, .t 18], none⟩,
 ⟨some 22, .load 2 true, [.t 21], none⟩,
 ⟨some 14, .alloc 7184 (.st [.i 0, .i 0]), [], none⟩,
 ⟨some 13, .mv, [.t 20], none⟩,
 ⟨none, .store 2, [.t 14, .t 22], none⟩] [20, 21, 22])
 (.seq
 (.region false [⟨some 23, .mv, [.t 1], none⟩,
 ⟨some 24, .mv, [.t 13], none⟩,
 ⟨some 25, .call n_impl_hasTest 12800, [.t 23, .t 24], none⟩] [13, 23, 24])
 (.cond (.t 25) [25]
 (.seq
 (.region false [⟨some 26, .mv, [.t 11], none⟩,
 ⟨some 27, .fld 0 1 false, [.t 14], none⟩,
 ⟨some 28, .load 1 false, [.t 27], none⟩,
 ⟨some 29, .bin .add, [.t 26, .t 28], none⟩,
 ⟨some 11, .mv, [.t 29], none⟩] [26, 27, 28, 29])
 (.region false [⟨some 30, .mv, [.t 12], none⟩,
 ⟨some 31, .fld 1 1 false, [.t 14], none⟩,
 ⟨some 32, .load 1 false, [.t 31], none⟩,
 ⟨some 33, .bin .mul, [.t 30, .t 32], none⟩,
 ⟨some 12, .mv, [.t 33], none⟩] [14, 30, 31, 32, 33]))
 .skip))))
 (.region false [⟨some 34, .bin .add, [.t 18, .c (.i 1)], none⟩,
 ⟨some 18, .mv, [.t 34], none⟩] [14, 34]))))
def F_impl_averageOfRound_W0 : LC := .loop F_impl_averageOfRound_L0
def F_impl_averageOfRound : LF :=
 { nparams := 5, results := [.t 10], body :=
 (.seq
 (.region false [⟨some 10, .mv, [.c (.i 0)], none⟩] [10])
 (.seq
 (.region false [⟨some 15, .mv, [.t 2], none⟩,
 ⟨some 11, .mv, [.t 15], none⟩,
 ⟨some 12, .mv, [.c (.i 1)], none⟩] [2, 15])
 (.seq
 (.seq
 (.region false [⟨some 16, .mv, [.t 0], none⟩,
 ⟨some 17, .len, [.t 16], none⟩,
 ⟨some 18, .mv, [.c (.i 0)], none⟩] [0])
 (.block 0
 F_impl_averageOfRound_W0))
 (.seq
 (.region false [⟨some 35, .mv, [.t 11], none⟩,
 ⟨some 36, .mv, [.t 3], none⟩,
 ⟨some 37, .call n_impl_wholeOf 18944, [.t 36], none⟩,
 ⟨some 38, .bin .mul, [.t 35, .t 37], none⟩,
 ⟨some 39, .mv, [.t 12], none⟩,
 ⟨some 40, .mv, [.t 4], none⟩,
 ⟨some 41, .bin .mul, [.t 39, .t 40], none⟩,
 ⟨some 42, .bin .add, [.t 38, .t 41], none⟩,
 ⟨some 10, .mv, [.t 42], none⟩] [1, 3, 4, 11, 12, 16, 17, 18, 35, 36, 37, 38, 39, 40, 41, 42])
 .ret)))) }
/-- impl.setOf -/
def F_impl_setOf_L0 : LC :=
 (.seq
 (.region false [⟨some 9, .bin .lss, [.t 8, .t 7], none⟩] [])
 (.seq
 (.cond (.t 9) [9]
 .skip
 (.exit 0))
 (.seq
 (.block 1
 (.seq
 (.region false [⟨some 10, .idxa 1, [.t 6, .t 8], none⟩,
 ⟨some 11, .load 1 false, [.t 10], none⟩,
 ⟨some 5, .mv, [.t 11], none⟩] [10, 11])
 (.region false [⟨some 12, .mv, [.t 3], none⟩,
 ⟨some 13, .mv, [.t 5], none⟩,
 ⟨some 14, .bin .shl, [.c (.i 1), .t 13], none⟩,
 ⟨some 15, .bin .or, [.t 12, .t 14], none⟩,
 ⟨some 3, .mv, [.t 15], none⟩] [5, 12, 13, 14, 15])))
 (.region false [⟨some 16, .bin .add, [.t 8, .c (.i 1)], none⟩,
 ⟨some 8, .mv, [.t 16], none⟩] [16]))))
def F_impl_setOf_W0 : LC := .loop F_impl_setOf_L0
def F_impl_setOf : LF :=
 { nparams := 1, results := [.t 2], body :=
 (.seq
 (.region false [⟨some 2, .mv, [.c (.i 0)], none⟩] [2])
 (.seq
 (.region false [⟨some 3, .mv, [.c (.i 0)], none⟩] [])
 (.seq
 (.seq
 (.region false [⟨some 6, .mv, [.t 0], none⟩,
 ⟨some 7, .len, [.t 6], none⟩,
 ⟨some 8, .mv, [.c (.i 0)], none⟩] [0])
 (.block 0
 F_impl_setOf_W0))
 (.seq
 (.region false [⟨some 17, .mv, [.t 3], none⟩,
 ⟨some 2, .mv, [.t 17], none⟩] [3, 6, 7, 8, 17])
 .ret)))) }
/-- spec.GroupsOk -/
def F_spec_GroupsOk_L1 : LC :=
 (.seq
 (.seq
 (.region false [⟨some 22, .mv, [.t 8], none⟩,
 ⟨some 23, .mv, [.t 1], none⟩,
 ⟨some 24, .mv, [.t 7], none⟩,
 ⟨some 25, .idxa 1, [.t 23, .t 24], none⟩,
 ⟨some 26, .load 1 false, [.t 25], none⟩,
 ⟨some 27, .len, [.t 26], none⟩,
 ⟨some 28, .bin .lss, [.t 22, .t 27], none⟩] [22, 23, 24, 25, 26, 27])
 (.cond (.t 28) [28]
 .skip
 (.exit 2)))
 (.seq
 (.block 3
 (.seq
 (.region false [⟨some 31, .mv, [.t 1], none⟩,
 ⟨some 32, .mv, [.t 7], none⟩,
 ⟨some 33, .idxa 1, [.t 31, .t 32], none⟩,
 ⟨some 34, .load 1 false, [.t 33], none⟩,
 ⟨some 35, .mv, [.t 8], none⟩,
 ⟨some 36, .idxa 1, [.t 34, .t 35], none⟩,
 ⟨some 37, .load 1 false, [.t 36], none⟩,
 ⟨some 9, .mv, [.t 37], none⟩] [31, 32, 33, 34, 35, 36, 37])
 (.seq
 (.seq
 (.region false [⟨some 38, .mv, [.t 9], none⟩,
 ⟨some 39, .bin .lss, [.t 38, .c (.i 0)], none⟩,
 ⟨some 40, .mv, [.t 39], none⟩,
 ⟨some 41, .mv, [.t 9], some (40, false)⟩,
 ⟨some 42, .mv, [.t 0], some (40, false)⟩,
 ⟨some 43, .bin .geq, [.t 41, .t 42], some (40, false)⟩,
 ⟨some 44, .pick, [.t 40, .c (.b true), .t 43], none⟩,
 ⟨some 45, .mv, [.t 44], none⟩,
 ⟨some 46, .mv, [.t 9], some (45, false)⟩,
 ⟨some 47, .bin .geq, [.t 46, .c (.i 5)], some (45, false)⟩,
 ⟨some 48, .pick, [.t 45, .c (.b true), .t 47], none⟩,
 ⟨some 49, .mv, [.t 48], none⟩,
 ⟨some 50, .mv, [.t 5], some (49, false)⟩,
 ⟨some 51, .mv, [.t 9], some (49, false)⟩,
 ⟨some 52, .bin .shr, [.t 50, .t 51], some (49, false)⟩,
 ⟨some 53, .bin .rem, [.t 52, .c (.i 2)], some (49, false)⟩,
 ⟨some 54, .bin .eql, [.t 53, .c (.i 1)], some (49, false)⟩,
 ⟨some 55, .pick, [.t 49, .c (.b true), .t 54], none⟩] [38, 39, 40, 41, 42, 43, 44, 45, 46, 47, 48, 49, 50, 51, 52, 53, 54])
 (.cond (.t 55) [55]
 (.seq
 (.region false [⟨some 4, .mv, [.c (.b false)], none⟩] [0, 1, 5, 6, 7, 8, 9])
 .ret)
 .skip))
 (.seq
 (.region false [⟨some 56, .mv, [.t 5], none⟩,
 ⟨some 57, .mv, [.t 9], none⟩,
 ⟨some 58, .bin .shl, [.c (.i 1), .t 57], none⟩,
 ⟨some 59, .bin .or, [.t 56, .t 58], none⟩,
 ⟨some 5, .mv, [.t 59], none⟩] [9, 56, 57, 58, 59])
 (.region false [⟨some 60, .mv, [.t 6], none⟩,
 ⟨some 61, .bin .add, [.t 60, .c (.i 1)], none⟩,
 ⟨some 6, .mv, [.t 61], none⟩] [60, 61])))))
 (.region false [⟨some 29, .mv, [.t 8], none⟩,
 ⟨some 30, .bin .add, [.t 29, .c (.i 1)], none⟩,
 ⟨some 8, .mv, [.t 30], none⟩] [29, 30])))
def F_spec_GroupsOk_W1 : LC := .loop F_spec_GroupsOk_L1
def F_spec_GroupsOk_L0 : LC :=
 (.seq
 (.seq
 (.region false [⟨some 10, .mv, [.t 7], none⟩,
 ⟨some 11, .mv, [.t 1], none⟩,
 ⟨some 12, .len, [.t 11], none⟩,
 ⟨some 13, .bin .lss, [.t 10, .t 12], none⟩] [10, 11, 12])
 (.cond (.t 13) [13]
 .skip
 (.exit 0)))
 (.seq
 (.block 1
 (.seq
 (.seq
 (.region false [⟨some 16, .mv, [.t 1], none⟩,
 ⟨some 17, .mv, [.t 7], none⟩,
 ⟨some 18, .idxa 1, [.t 16, .t 17], none⟩,
 ⟨some 19, .load 1 false, [.t 18], none⟩,
 ⟨some 20, .len, [.t 19], none⟩,
 ⟨some 21, .bin .eql, [.t 20, .c (.i 0)], none⟩] [16, 17, 18, 19, 20])
 (.cond (.t 21) [21]
 (.seq
 (.region false [⟨some 4, .mv, [.c (.b false)], none⟩] [0, 1, 5, 6, 7])
 .ret)
 .skip))
 (.seq
 (.region false [⟨some 8, .mv, [.c (.i 0)], none⟩] [])
 (.block 2
 F_spec_GroupsOk_W1))))
 (.region false [⟨some 14, .mv, [.t 7], none⟩,
 ⟨some 15, .bin .add, [.t 14, .c (.i 1)], none⟩,
 ⟨some 7, .mv, [.t 15], none⟩] [8, 14, 15])))
def F_spec_GroupsOk_W0 : LC := .loop F_spec_GroupsOk_L0
def F_spec_GroupsOk : LF :=
 { nparams := 2, results := [.t 4], body :=
 (.seq
 (.region false [⟨some 4, .mv, [.c (.b false)], none⟩] [4])
 (.seq
 (.region false [⟨some 5, .mv, [.c (.i 0)], none⟩] [])
 (.seq
 (.region false [⟨some 6, .mv, [.c (.i 0)], none⟩] [])
 (.seq
 (.seq
 (.region false [⟨some 7, .mv, [.c (.i 0)], none⟩] [])
 (.block 0
 F_spec_GroupsOk_W0))
 (.seq
 (.region false [⟨some 62, .mv, [.t 0], none⟩,
 ⟨some 63, .call n_spec_l1In 32256, [.t 62, .c (.i 1), .c (.i 5)], none⟩,
 ⟨some 64, .mv, [.t 63], none⟩,
 ⟨some 65, .mv, [.t 6], some (64, true)⟩,
 ⟨some 66, .mv, [.t 0], some (64, true)⟩,
 ⟨some 67, .bin .eql, [.t 65, .t 66], some (64, true)⟩,
 ⟨some 68, .pick, [.t 64, .t 67, .c (.b false)], none⟩,
 ⟨some 4, .mv, [.t 68], none⟩] [0, 1, 5, 6, 7, 62, 63, 64, 65, 66, 67, 68])
 .ret))))) }
/-- spec.l1In -/
def F_spec_l1In : LF :=
 { nparams := 3, results := [.t 6], body :=
 (.seq
 (.region false [⟨some 6, .mv, [.c (.b false)], none⟩] [6])
 (.seq
 (.region false [⟨some 7, .mv, [.t 0], none⟩,
 ⟨some 8, .mv, [.t 1], none⟩,
 ⟨some 9, .bin .geq, [.t 7, .t 8], none⟩,
 ⟨some 10, .mv, [.t 9], none⟩,
 ⟨some 11, .mv, [.t 0], some (10, true)⟩,
 ⟨some 12, .mv, [.t 2], some (10, true)⟩,
 ⟨some 13, .bin .leq, [.t 11, .t 12], some (10, true)⟩,
 ⟨some 14, .pick, [.t 10, .t 13, .c (.b false)], none⟩,
 ⟨some 6, .mv, [.t 14], none⟩] [0, 1, 2, 7, 8, 9, 10, 11, 12, 13, 14])
 .ret)) }
/-- impl.OrderOk -/
def F_impl_OrderOk_L0 : LC :=
 (.seq
 (.region false [⟨some 20, .bin .lss, [.t 19, .t 18], none⟩] [])
 (.seq
 (.cond (.t 20) [20]
 .skip
 (.exit 0))
 (.seq
 (.block 1
 (.seq
 (.region false [⟨some 21, .idxa 1, [.t 17, .t 19], none⟩,
 ⟨some 22, .load 1 false, [.t 21], none⟩,
 ⟨some 7, .mv, [.t 22], none⟩] [21, 22])
 (.seq
 (.seq
 (.region false [⟨some 23, .mv, [.t 7], none⟩,
 ⟨some 24, .mv, [.t 0], none⟩,
 ⟨some 25, .bin .sub, [.t 24, .c (.i 1)], none⟩,
 ⟨some 26, .call n_impl_isWithin 13312, [.t 23, .c (.i 0), .t 25], none⟩,
 ⟨some 27, .un .not, [.t 26], none⟩,
 ⟨some 28, .mv, [.t 27], none⟩,
 ⟨some 29, .mv, [.t 5], some (28, false)⟩,
 ⟨some 30, .mv, [.t 7], some (28, false)⟩,
 ⟨some 31, .call n_impl_hasTest 15872, [.t 29, .t 30], some (28, false)⟩,
 ⟨some 32, .pick, [.t 28, .c (.b true), .t 31], none⟩] [23, 24, 25, 26, 27, 28, 29, 30, 31])
 (.cond (.t 32) [32]
 (.seq
 (.region false [⟨some 4, .mv, [.c (.b false)], none⟩] [0, 5, 7, 17, 18, 19])
 .ret)
 .skip))
 (.region false [⟨some 33, .mv, [.t 5], none⟩,
 ⟨some 34, .mv, [.t 7], none⟩,
 ⟨some 35, .bin .shl, [.c (.i 1), .t 34], none⟩,
 ⟨some 36, .bin .or, [.t 33, .t 35], none⟩,
 ⟨some 5, .mv, [.t 36], none⟩] [7, 33, 34, 35, 36]))))
 (.region false [⟨some 37, .bin .add, [.t 19, .c (.i 1)], none⟩,
 ⟨some 19, .mv, [.t 37], none⟩] [37]))))
def F_impl_OrderOk_W0 : LC := .loop F_impl_OrderOk_L0
def F_impl_OrderOk : LF :=
 { nparams := 2, results := [.t 4], body :=
 (.seq
 (.region false [⟨some 4, .mv, [.c (.b false)], none⟩] [4])
 (.seq
 (.seq
 (.region false [⟨some 8, .mv, [.t 0], none⟩,
 ⟨some 9, .call n_impl_manyOk 4608, [.t 8], none⟩,
 ⟨some 10, .un .not, [.t 9], none⟩,
 ⟨some 11, .mv, [.t 10], none⟩,
 ⟨some 12, .mv, [.t 1], some (11, false)⟩,
 ⟨some 13, .len, [.t 12], some (11, false)⟩,
 ⟨some 14, .mv, [.t 0], some (11, false)⟩,
 ⟨some 15, .bin .neq, [.t 13, .t 14], some (11, false)⟩,
 ⟨some 16, .pick, [.t 11, .c (.b true), .t 15], none⟩] [8, 9, 10, 11, 12, 13, 14, 15])
 (.cond (.t 16) [16]
 (.seq
 (.region false [⟨some 4, .mv, [.c (.b false)], none⟩] [0, 1])
 .ret)
 .skip))
 (.seq
 (.region false [⟨some 5, .mv, [.c (.i 0)], none⟩] [])
 (.seq
 (.seq
 (.region false [⟨some 17, .mv, [.t 1], none⟩,
 ⟨some 18, .len, [.t 17], none⟩,
 ⟨some 19, .mv, [.c (.i 0)], none⟩] [1])
 (.block 0
 F_impl_OrderOk_W0))
 (.seq
 (.region false [⟨some 4, .mv, [.c (.b true)], none⟩] [0, 5, 17, 18, 19])
 .ret))))) }
/-- impl.wholeOf -/
def F_impl_wholeOf_L0 : LC :=
 (.seq
 (.region false [⟨some 6, .bin .lss, [.t 5, .t 4], none⟩] [])
 (.seq
 (.cond (.t 6) [6]
 .skip
 (.exit 0))
 (.seq
 (.block 1
 (.region false [⟨some 7, .mv, [.t 3], none⟩,
 ⟨some 8, .bin .mul, [.t 7, .c (.i 6)], none⟩,
 ⟨some 3, .mv, [.t 8], none⟩] [7, 8]))
 (.region false [⟨some 9, .bin .add, [.t 5, .c (.i 1)], none⟩,
 ⟨some 5, .mv, [.t 9], none⟩] [9]))))
def F_impl_wholeOf_W0 : LC := .loop F_impl_wholeOf_L0
def F_impl_wholeOf : LF :=
 { nparams := 1, results := [.t 2], body :=
 (.seq
 (.region false [⟨some 2, .mv, [.c (.i 0)], none⟩] [2])
 (.seq
 (.region false [⟨some 3, .mv, [.c (.i 1)], none⟩] [])
 (.seq
 (.seq
 (.region false [⟨some 4, .mv, [.t 0], none⟩,
 ⟨some 5, .mv, [.c (.i 0)], none⟩] [0])
 (.block 0
 F_impl_wholeOf_W0))
 (.seq
 (.region false [⟨some 10, .mv, [.t 3], none⟩,
 ⟨some 2, .mv, [.t 10], none⟩] [3, 4, 5, 10])
 .ret)))) }
/-- spec.l20Tests -/
def F_spec_l20Tests_L0 : LC :=
 (.seq
 (.seq
 (.region false [⟨some 11, .mv, [.t 6], none⟩,
 ⟨some 12, .bin .gtr, [.t 11, .c (.i 0)], none⟩] [11])
 (.cond (.t 12) [12]
 .skip
 (.exit 0)))
 (.seq
 (.block 1
 (.region false [⟨some 15, .mv, [.t 5], none⟩,
 ⟨some 16, .mv, [.t 0], none⟩,
 ⟨some 17, .call n_spec_l20Rd_pick 8704, [.t 16, .c (.i 9)], none⟩,
 ⟨some 18, .bin .add, [.c (.i 1), .t 17], none⟩,
 ⟨some 19, .mv, [.t 0], none⟩,
 ⟨some 20, .call n_spec_l20Rd_pick 10240, [.t 19, .c (.i 5)], none⟩,
 ⟨some 21, .bin .add, [.c (.i 1), .t 20], none⟩,
 ⟨some 22, .build [.i 0, .i 0] [(0, 1), (1, 1)], [.t 18, .t 21], none⟩,
 ⟨some 23, .bslice 11792 1 2 (.st [.i 0, .i 0]) [0], [.t 22], none⟩,
 ⟨some 24, .app 12304 2, [.t 15, .t 23], none⟩,
 ⟨some 5, .mv, [.t 24], none⟩] [15, 16, 17, 18, 19, 20, 21, 22, 23, 24]))
 (.region false [⟨some 13, .mv, [.t 6], none⟩,
 ⟨some 14, .bin .sub, [.t 13, .c (.i 1)], none⟩,
 ⟨some 6, .mv, [.t 14], none⟩] [13, 14])))
def F_spec_l20Tests_W0 : LC := .loop F_spec_l20Tests_L0
def F_spec_l20Tests : LF :=
 { nparams := 2, results := [.t 4], body :=
 (.seq
 (.region false [⟨some 4, .newnil 2064, [], none⟩] [4])
 (.seq
 (.region false [⟨some 7, .bslice 3600 0 2 (.st [.i 0, .i 0]) [], [], none⟩,
 ⟨some 5, .mv, [.t 7], none⟩] [7])
 (.seq
 (.seq
 (.region false [⟨some 8, .mv, [.t 0], none⟩,
 ⟨some 9, .call n_spec_l20Rd_pick 4608, [.t 8, .c (.i 5)], none⟩,
 ⟨some 10, .bin .add, [.c (.i 1), .t 9], none⟩,
 ⟨some 6, .mv, [.t 10], none⟩] [8, 9, 10])
 (.block 0
 F_spec_l20Tests_W0))
 (.seq
 (.seq
 (.region false [⟨some 25, .mv, [.t 0], none⟩,
 ⟨some 26, .mv, [.t 1], none⟩,
 ⟨some 27, .call n_spec_l20Rd_odd 13824, [.t 25, .t 26], none⟩] [1, 6, 25, 26])
 (.cond (.t 27) [27]
 (.seq
 (.region false [⟨some 28, .mv, [.t 0], none⟩,
 ⟨some 29, .call n_spec_l20Rd_pick 14848, [.t 28, .c (.i 3)], none⟩] [28])
 (.block 2
 (.seq
 (.region false [⟨some 39, .bin .eql, [.t 29, .c (.i 0)], none⟩,
 ⟨some 38, .mv, [.t 39], none⟩] [39])
 (.cond (.t 38) [38]
 (.seq
 (.region false [⟨some 40, .bslice 20496 0 2 (.st [.i 0, .i 0]) [], [], none⟩,
 ⟨some 4, .mv, [.t 40], none⟩] [5, 29, 40])
 .ret)
 (.seq
 (.region false [⟨some 42, .bin .eql, [.t 29, .c (.i 1)], none⟩,
 ⟨some 41, .mv, [.t 42], none⟩] [29, 42])
 (.cond (.t 41) [41]
 (.region false [⟨some 43, .mv, [.t 5], none⟩,
 ⟨some 44, .bslice 22536 2 1 (.i 0) [0, 1], [.c (.i 0), .c (.i 10)], none⟩,
 ⟨some 45, .mv, [.t 0], none⟩,
 ⟨some 46, .call n_spec_l20Rd_pick 23552, [.t 45, .c (.i 2)], none⟩,
 ⟨some 47, .idxa 1, [.t 44, .t 46], none⟩,
 ⟨some 48, .load 1 false, [.t 47], none⟩,
 ⟨some 49, .idxa 2, [.t 43, .c (.i 0)], none⟩,
 ⟨some 50, .fld 0 1 false, [.t 49], none⟩,
 ⟨none, .store 1, [.t 50, .t 48], none⟩] [43, 44, 45, 46, 47, 48, 49, 50])
 (.region false [⟨some 30, .mv, [.t 5], none⟩,
 ⟨some 31, .bslice 15880 2 1 (.i 0) [0, 1], [.c (.i 0), .c (.i 6)], none⟩,
 ⟨some 32, .mv, [.t 0], none⟩,
 ⟨some 33, .call n_spec_l20Rd_pick 16896, [.t 32, .c (.i 2)], none⟩,
 ⟨some 34, .idxa 1, [.t 31, .t 33], none⟩,
 ⟨some 35, .load 1 false, [.t 34], none⟩,
 ⟨some 36, .idxa 2, [.t 30, .c (.i 0)], none⟩,
 ⟨some 37, .fld 1 1 false, [.t 36], none⟩,
 ⟨none, .store 1, [.t 37, .t 35], none⟩] [30, 31, 32, 33, 34, 35, 36, 37])))))))
 .skip))
 (.seq
 (.region false [⟨some 51, .mv, [.t 5], none⟩,
 ⟨some 4, .mv, [.t 51], none⟩] [5, 51])
 .ret))))) }
/-- laws.sameInts -/
def F_laws_sameInts_L0 : LC :=
 (.seq
 (.seq
 (.region false [⟨some 11, .mv, [.t 5], none⟩,
 ⟨some 12, .mv, [.t 0], none⟩,
 ⟨some 13, .len, [.t 12], none⟩,
 ⟨some 14, .bin .lss, [.t 11, .t 13], none⟩] [11, 12, 13])
 (.cond (.t 14) [14]
 .skip
 (.exit 0)))
 (.seq
 (.block 1
 (.seq
 (.region true [⟨some 17, .mv, [.t 0], none⟩,
 ⟨some 18, .mv, [.t 5], none⟩,
 ⟨some 19, .idxa 1, [.t 17, .t 18], none⟩,
 ⟨some 20, .load 1 false, [.t 19], none⟩,
 ⟨some 21, .mv, [.t 1], none⟩,
 ⟨some 22, .mv, [.t 5], none⟩,
 ⟨some 23, .idxa 1, [.t 21, .t 22], none⟩,
 ⟨some 24, .load 1 false, [.t 23], none⟩,
 ⟨some 25, .bin .neq, [.t 20, .t 24], none⟩] [17, 18, 19, 20, 21, 22, 23, 24])
 (.cond (.t 25) [25]
 (.seq
 (.region false [⟨some 4, .mv, [.c (.b false)], none⟩] [0, 1, 5])
 .ret)
 .skip)))
 (.region false [⟨some 15, .mv, [.t 5], none⟩,
 ⟨some 16, .bin .add, [.t 15, .c (.i 1)], none⟩,
 ⟨some 5, .mv, [.t 16], none⟩] [15, 16])))
def F_laws_sameInts_W0 : LC := .loop F_laws_sameInts_L0
def F_laws_sameInts : LF :=
 { nparams := 2, results := [.t 4], body :=
 (.seq
 (.region false [⟨some 4, .mv, [.c (.b false)], none⟩] [4])
 (.seq
 (.seq
 (.region false [⟨some 6, .mv, [.t 0], none⟩,
 ⟨some 7, .len, [.t 6], none⟩,
 ⟨some 8, .mv, [.t 1], none⟩,
 ⟨some 9, .len, [.t 8], none⟩,
 ⟨some 10, .bin .neq, [.t 7, .t 9], none⟩] [6, 7, 8, 9])
 (.cond (.t 10) [10]
 (.seq
 (.region false [⟨some 4, .mv, [.c (.b false)], none⟩] [0, 1])
 .ret)
 .skip))
 (.seq
 (.seq
 (.region false [⟨some 5, .mv, [.c (.i 0)], none⟩] [])
 (.block 0
 F_laws_sameInts_W0))
 (.seq
 (.region false [⟨some 4, .mv, [.c (.b true)], none⟩] [0, 1, 5])
 .ret)))) }
/-- spec.l20Groups -/
def F_spec_l20Groups_L0 : LC :=
 (.seq
 (.seq
 (.region false [⟨some 15, .mv, [.t 9], none⟩,
 ⟨some 16, .mv, [.t 7], none⟩,
 ⟨some 17, .len, [.t 16], none⟩,
 ⟨some 18, .bin .lss, [.t 15, .t 17], none⟩] [15, 16, 17])
 (.cond (.t 18) [18]
 .skip
 (.exit 0)))
 (.seq
 (.block 1
 (.seq
 (.seq
 (.region false [⟨some 21, .mv, [.t 8], none⟩,
 ⟨some 22, .len, [.t 21], none⟩,
 ⟨some 23, .bin .eql, [.t 22, .c (.i 0)], none⟩,
 ⟨some 24, .mv, [.t 23], none⟩,
 ⟨some 25, .mv, [.t 0], some (24, false)⟩,
 ⟨some 26, .call n_spec_l20Rd_pick 13312, [.t 25, .c (.i 2)], some (24, false)⟩,
 ⟨some 27, .bin .eql, [.t 26, .c (.i 0)], some (24, false)⟩,
 ⟨some 28, .pick, [.t 24, .c (.b true), .t 27], none⟩] [21, 22, 23, 24, 25, 26, 27])
 (.cond (.t 28) [28]
 (.ghost (.shut 8)
 (.region false [⟨some 29, .mv, [.t 8], none⟩,
 ⟨some 30, .bslice 15373 0 1 (.i 0) [], [], none⟩,
 ⟨some 31, .bslice 15880 1 1 (.sl 1 []) [0], [.t 30], none⟩,
 ⟨some 32, .app 16392 1, [.t 29, .t 31], none⟩,
 ⟨some 8, .mv, [.t 32], none⟩] [29, 30, 31, 32]))
 .skip))
 (.seq
 (.region false [⟨some 33, .mv, [.t 8], none⟩,
 ⟨some 34, .len, [.t 33], none⟩,
 ⟨some 35, .bin .sub, [.t 34, .c (.i 1)], none⟩,
 ⟨some 10, .mv, [.t 35], none⟩] [33, 34, 35])
 (.region true [⟨some 36, .mv, [.t 8], none⟩,
 ⟨some 37, .mv, [.t 10], none⟩,
 ⟨some 38, .mv, [.t 8], none⟩,
 ⟨some 39, .mv, [.t 10], none⟩,
 ⟨some 40, .idxa 1, [.t 38, .t 39], none⟩,
 ⟨some 41, .load 1 false, [.t 40], none⟩,
 ⟨some 42, .mv, [.t 7], none⟩,
 ⟨some 43, .mv, [.t 9], none⟩,
 ⟨some 44, .idxa 1, [.t 42, .t 43], none⟩,
 ⟨some 45, .load 1 false, [.t 44], none⟩,
 ⟨some 46, .bslice 23560 1 1 (.i 0) [0], [.t 45], none⟩,
 ⟨some 47, .app 24072 1, [.t 41, .t 46], none⟩,
 ⟨some 48, .idxa 1, [.t 36, .t 37], none⟩,
 ⟨none, .store 1, [.t 48, .t 47], none⟩] [10, 36, 37, 38, 39, 40, 41, 42, 43, 44, 45, 46, 47, 48]))))
 (.region false [⟨some 19, .mv, [.t 9], none⟩,
 ⟨some 20, .bin .add, [.t 19, .c (.i 1)], none⟩,
 ⟨some 9, .mv, [.t 20], none⟩] [19, 20])))
def F_spec_l20Groups_W0 : LC := .loop F_spec_l20Groups_L0
def F_spec_l20Groups : LF :=
 { nparams := 3, results := [.t 6], body :=
 (.seq
 (.region false [⟨some 6, .newnil 3080, [], none⟩] [6])
 (.seq
 (.region false [⟨some 11, .mv, [.t 0], none⟩,
 ⟨some 12, .mv, [.t 1], none⟩,
 ⟨some 13, .call n_spec_l20Order 6656, [.t 11, .t 12, .c (.i 0)], none⟩,
 ⟨some 7, .mv, [.t 13], none⟩] [1, 11, 12, 13])
 (.seq
 (.region false [⟨some 14, .bslice 7176 0 1 (.sl 1 []) [], [], none⟩,
 ⟨some 8, .mv, [.t 14], none⟩] [14])
 (.seq
 (.seq
 (.region false [⟨some 9, .mv, [.c (.i 0)], none⟩] [])
 (.block 0
 F_spec_l20Groups_W0))
 (.seq
 (.seq
 (.ghost (.shut 8)
 (.region false [⟨some 49, .mv, [.t 0], none⟩,
 ⟨some 50, .mv, [.t 2], none⟩,
 ⟨some 51, .call n_spec_l20Rd_odd 26112, [.t 49, .t 50], none⟩] [2, 7, 9, 49, 50]))
 (.cond (.t 51) [51]
 (.seq
 (.region false [⟨some 52, .mv, [.t 0], none⟩,
 ⟨some 53, .call n_spec_l20Rd_pick 27136, [.t 52, .c (.i 2)], none⟩] [52])
 (.block 2
 (.seq
 (.region false [⟨some 59, .bin .eql, [.t 53, .c (.i 0)], none⟩,
 ⟨some 58, .mv, [.t 59], none⟩] [53, 59])
 (.cond (.t 58) [58]
 (.seq
 (.region false [⟨some 60, .mv, [.t 8], none⟩,
 ⟨some 61, .bslice 31240 0 1 (.i 0) [], [], none⟩,
 ⟨some 62, .bslice 31752 1 1 (.sl 1 []) [0], [.t 61], none⟩,
 ⟨some 63, .app 32264 1, [.t 60, .t 62], none⟩,
 ⟨some 6, .mv, [.t 63], none⟩] [8, 60, 61, 62, 63])
 .ret)
 (.seq
 (.region false [⟨some 54, .mv, [.t 8], none⟩,
 ⟨some 55, .bslice 28168 1 1 (.i 0) [0], [.c (.i 0)], none⟩,
 ⟨some 56, .bslice 28680 1 1 (.sl 1 []) [0], [.t 55], none⟩,
 ⟨some 57, .app 29192 1, [.t 54, .t 56], none⟩,
 ⟨some 6, .mv, [.t 57], none⟩] [8, 54, 55, 56, 57])
 .ret)))))
 .skip))
 (.seq
 (.region false [⟨some 64, .mv, [.t 8], none⟩,
 ⟨some 6, .mv, [.t 64], none⟩] [8, 64])
 .ret)))))) }
/-- impl.manyOk -/
def F_impl_manyOk : LF :=
 { nparams := 1, results := [.t 2], body :=
 (.seq
 (.region false [⟨some 2, .mv, [.c (.b false)], none⟩] [2])
 (.seq
 (.region false [⟨some 3, .mv, [.t 0], none⟩,
 ⟨some 4, .call n_impl_isWithin 2048, [.t 3, .c (.i 1), .c (.i 5)], none⟩,
 ⟨some 2, .mv, [.t 4], none⟩] [0, 3, 4])
 .ret)) }
/-- impl.isWithin -/
def F_impl_isWithin : LF :=
 { nparams := 3, results := [.t 6], body :=
 (.seq
 (.region false [⟨some 6, .mv, [.c (.b false)], none⟩] [6])
 (.seq
 (.region false [⟨some 7, .mv, [.t 1], none⟩,
 ⟨some 8, .mv, [.t 0], none⟩,
 ⟨some 9, .bin .leq, [.t 7, .t 8], none⟩,
 ⟨some 10, .mv, [.t 9], none⟩,
 ⟨some 11, .mv, [.t 0], some (10, true)⟩,
 ⟨some 12, .mv, [.t 2], some (10, true)⟩,
 ⟨some 13, .bin .leq, [.t 11, .t 12], some (10, true)⟩,
 ⟨some 14, .pick, [.t 10, .t 13, .c (.b false)], none⟩,
 ⟨some 6, .mv, [.t 14], none⟩] [0, 1, 2, 7, 8, 9, 10, 11, 12, 13, 14])
 .ret)) }
/-- slices.Clone[[]int,int] -/
def F_slices_Clone_int_int : LF :=
 { nparams := 1, results := [.t 2], body :=
 (.seq
 (.region false [⟨some 2, .newnil 1032, [], none⟩] [2])
 (.seq
 (.seq
 (.region false [⟨some 3, .mv, [.t 0], none⟩,
 ⟨some 4, .eqn false, [.t 3], none⟩] [3])
 (.cond (.t 4) [4]
 (.seq
 (.region false [⟨some 2, .newnil 1032, [], none⟩] [0])
 .ret)
 .skip))
 (.seq
 (.region false [⟨some 5, .bslice 2568 0 1 (.i 0) [], [], none⟩,
 ⟨some 6, .mv, [.t 0], none⟩,
 ⟨some 7, .app 3592 1, [.t 5, .t 6], none⟩,
 ⟨some 2, .mv, [.t 7], none⟩] [0, 5, 6, 7])
 .ret))) }
/-- slices.Backward[[][]int,[]int]$1 -/
def F_slices_Backward_int_int_1_L0 : LC :=
 (.seq
 (.seq
 (.region false [⟨some 7, .mv, [.t 3], none⟩,
 ⟨some 8, .bin .geq, [.t 7, .c (.i 0)], none⟩] [7])
 (.cond (.t 8) [8]
 .skip
 (.exit 0)))
 (.seq
 (.block 1
 (.seq
 (.region false [⟨some 11, .mv, [.t 0], none⟩,
 ⟨some 12, .mv, [.t 3], none⟩,
 ⟨some 13, .load 1 false, [.t 1], none⟩,
 ⟨some 14, .mv, [.t 3], none⟩,
 ⟨some 15, .idxa 1, [.t 13, .t 14], none⟩,
 ⟨some 16, .load 1 false, [.t 15], none⟩,
 ⟨some 17, .calld 8704, [.t 11, .t 12, .t 16], none⟩,
 ⟨some 18, .un .not, [.t 17], none⟩] [11, 12, 13, 14, 15, 16, 17])
 (.cond (.t 18) [18]
 .ret
 .skip)))
 (.region false [⟨some 9, .mv, [.t 3], none⟩,
 ⟨some 10, .bin .sub, [.t 9, .c (.i 1)], none⟩,
 ⟨some 3, .mv, [.t 10], none⟩] [9, 10])))
def F_slices_Backward_int_int_1_W0 : LC := .loop F_slices_Backward_int_int_1_L0
def F_slices_Backward_int_int_1 : LF :=
 { nparams := 2, results := [], body :=
 (.seq
 (.region false [⟨some 4, .load 1 false, [.t 1], none⟩,
 ⟨some 5, .len, [.t 4], none⟩,
 ⟨some 6, .bin .sub, [.t 5, .c (.i 1)], none⟩,
 ⟨some 3, .mv, [.t 6], none⟩] [4, 5, 6])
 (.block 0
 F_slices_Backward_int_int_1_W0)) }
/-- impl.hasTest -/
def F_impl_hasTest : LF :=
 { nparams := 2, results := [.t 4], body :=
 (.seq
 (.region false [⟨some 4, .mv, [.c (.b false)], none⟩] [4])
 (.seq
 (.region false [⟨some 5, .mv, [.t 0], none⟩,
 ⟨some 6, .mv, [.t 1], none⟩,
 ⟨some 7, .bin .shr, [.t 5, .t 6], none⟩,
 ⟨some 8, .bin .and, [.t 7, .c (.i 1)], none⟩,
 ⟨some 9, .bin .eql, [.t 8, .c (.i 1)], none⟩,
 ⟨some 4, .mv, [.t 9], none⟩] [0, 1, 5, 6, 7, 8, 9])
 .ret)) }
/-- spec.l20Rd).odd -/
def F_spec_l20Rd_odd : LF :=
 { nparams := 2, results := [.t 4], body :=
 (.seq
 (.region false [⟨some 4, .mv, [.c (.b false)], none⟩] [4])
 (.seq
 (.region false [⟨some 5, .mv, [.t 1], none⟩,
 ⟨some 6, .bin .gtr, [.t 5, .c (.i 0)], none⟩,
 ⟨some 7, .mv, [.t 6], none⟩,
 ⟨some 8, .mv, [.t 0], some (7, true)⟩,
 ⟨some 9, .mv, [.t 1], some (7, true)⟩,
 ⟨some 10, .call n_spec_l20Rd_pick 5120, [.t 8, .t 9], some (7, true)⟩,
 ⟨some 11, .mv, [.t 1], some (7, true)⟩,
 ⟨some 12, .bin .sub, [.t 11, .c (.i 1)], some (7, true)⟩,
 ⟨some 13, .bin .eql, [.t 10, .t 12], some (7, true)⟩,
 ⟨some 14, .pick, [.t 7, .t 13, .c (.b false)], none⟩,
 ⟨some 4, .mv, [.t 14], none⟩] [1, 5, 6, 7, 8, 9, 10, 11, 12, 13, 14])
 .ret)) }
/-- spec.l20Order -/
def F_spec_l20Order_L0 : LC :=
 (.ghost (.rename 7 5640)
 (.seq
 (.seq
 (.region false [⟨some 12, .mv, [.t 8], none⟩,
 ⟨some 13, .mv, [.t 1], none⟩,
 ⟨some 14, .bin .lss, [.t 12, .t 13], none⟩] [12, 13])
 (.cond (.t 14) [14]
 .skip
 (.exit 0)))
 (.seq
 (.block 1
 (.seq
 (.region false [⟨some 17, .mv, [.t 0], none⟩,
 ⟨some 18, .mv, [.t 7], none⟩,
 ⟨some 19, .len, [.t 18], none⟩,
 ⟨some 20, .bin .add, [.t 19, .c (.i 1)], none⟩,
 ⟨some 21, .call n_spec_l20Rd_pick 10752, [.t 17, .t 20], none⟩,
 ⟨some 9, .mv, [.t 21], none⟩] [17, 18, 19, 20, 21])
 (.seq
 (.region false [⟨some 22, .bslice 11272 0 1 (.i 0) [], [], none⟩,
 ⟨some 23, .mv, [.t 7], none⟩,
 ⟨some 24, .mv, [.t 9], none⟩,
 ⟨some 25, .slice false true 1, [.t 23, .t 24], none⟩,
 ⟨some 26, .app 13320 1, [.t 22, .t 25], none⟩,
 ⟨some 10, .mv, [.t 26], none⟩] [22, 23, 24, 25, 26])
 (.seq
 (.region false [⟨some 27, .mv, [.t 10], none⟩,
 ⟨some 28, .mv, [.t 8], none⟩,
 ⟨some 29, .bslice 14856 1 1 (.i 0) [0], [.t 28], none⟩,
 ⟨some 30, .app 15368 1, [.t 27, .t 29], none⟩,
 ⟨some 10, .mv, [.t 30], none⟩] [27, 28, 29, 30])
 (.region false [⟨some 31, .mv, [.t 10], none⟩,
 ⟨some 32, .mv, [.t 7], none⟩,
 ⟨some 33, .mv, [.t 9], none⟩,
 ⟨some 34, .slice true false 1, [.t 32, .t 33], none⟩,
 ⟨some 35, .app 17928 1, [.t 31, .t 34], none⟩,
 ⟨some 7, .mv, [.t 35], none⟩] [9, 10, 31, 32, 33, 34, 35])))))
 (.region false [⟨some 15, .mv, [.t 8], none⟩,
 ⟨some 16, .bin .add, [.t 15, .c (.i 1)], none⟩,
 ⟨some 8, .mv, [.t 16], none⟩] [15, 16]))))
def F_spec_l20Order_W0 : LC := .loop F_spec_l20Order_L0
def F_spec_l20Order : LF :=
 { nparams := 3, results := [.t 6], body :=
 (.seq
 (.region false [⟨some 6, .newnil 3080, [], none⟩] [6])
 (.seq
 (.region false [⟨some 11, .bslice 5640 0 1 (.i 0) [], [], none⟩,
 ⟨some 7, .mv, [.t 11], none⟩] [11])
 (.seq
 (.seq
 (.region false [⟨some 8, .mv, [.c (.i 0)], none⟩] [])
 (.block 0
 F_spec_l20Order_W0))
 (.seq
 (.seq
 (.region false [⟨some 36, .mv, [.t 0], none⟩,
 ⟨some 37, .mv, [.t 2], none⟩,
 ⟨some 38, .call n_spec_l20Rd_odd 19456, [.t 36, .t 37], none⟩] [1, 2, 8, 36, 37])
 (.cond (.t 38) [38]
 (.seq
 (.region false [⟨some 39, .mv, [.t 0], none⟩,
 ⟨some 40, .call n_spec_l20Rd_pick 20480, [.t 39, .c (.i 2)], none⟩] [39])
 (.block 2
 (.seq
 (.region false [⟨some 52, .bin .eql, [.t 40, .c (.i 0)], none⟩,
 ⟨some 51, .mv, [.t 52], none⟩] [40, 52])
 (.cond (.t 51) [51]
 (.seq
 (.region false [⟨some 53, .mv, [.t 7], none⟩,
 ⟨some 54, .bslice 27656 1 1 (.i 0) [0], [.c (.i 0)], none⟩,
 ⟨some 55, .app 28168 1, [.t 53, .t 54], none⟩,
 ⟨some 6, .mv, [.t 55], none⟩] [7, 53, 54, 55])
 .ret)
 (.seq
 (.region false [⟨some 41, .mv, [.t 7], none⟩,
 ⟨some 42, .len, [.t 41], none⟩,
 ⟨some 43, .bin .gtr, [.t 42, .c (.i 0)], none⟩] [41, 42])
 (.cond (.t 43) [43]
 (.region false [⟨some 44, .mv, [.t 7], none⟩,
 ⟨some 45, .bslice 23048 2 1 (.i 0) [0, 1], [.c (.i 5), .c (.i (-1))], none⟩,
 ⟨some 46, .mv, [.t 0], none⟩,
 ⟨some 47, .call n_spec_l20Rd_pick 24064, [.t 46, .c (.i 2)], none⟩,
 ⟨some 48, .idxa 1, [.t 45, .t 47], none⟩,
 ⟨some 49, .load 1 false, [.t 48], none⟩,
 ⟨some 50, .idxa 1, [.t 44, .c (.i 0)], none⟩,
 ⟨none, .store 1, [.t 50, .t 49], none⟩] [44, 45, 46, 47, 48, 49, 50])
 .skip))))))
 .skip))
 (.seq
 (.region false [⟨some 56, .mv, [.t 7], none⟩,
 ⟨some 6, .mv, [.t 56], none⟩] [7, 56])
 .ret))))) }
def lf : Nat → Option LF
 | 5 => some F_laws_FnJoinedRounds
 | 15 => some F_impl_RoundAverage
 | 17 => some F_laws_alive
 | 20 => some F_spec_DrawBestRounds
 | 23 => some F_laws_sameRows
 | 25 => some F_impl_GroupsOk
 | 27 => some F_spec_DrawJoinedRounds
 | 28 => some F_impl_JoinedRounds
 | 29 => some F_spec_JoinedRounds
 | 51 => some F_spec_l20Open
 | 53 => some F_spec_l20Rd_pick
 | 54 => some F_impl_TestsOk
 | 55 => some F_impl_feeOk
 | 56 => some F_slices_Backward_int_int
 | 57 => some F_impl_averageOfRound
 | 58 => some F_impl_setOf
 | 60 => some F_spec_GroupsOk
 | 61 => some F_spec_l1In
 | 63 => some F_impl_OrderOk
 | 65 => some F_impl_wholeOf
 | 67 => some F_spec_l20Tests
 | 72 => some F_laws_sameInts
 | 73 => some F_spec_l20Groups
 | 74 => some F_impl_manyOk
 | 75 => some F_impl_isWithin
 | 80 => some F_slices_Clone_int_int
 | 92 => some F_slices_Backward_int_int_1
 | 93 => some F_impl_hasTest
 | 94 => some F_spec_l20Rd_odd
 | 97 => some F_spec_l20Order
 | _ => none
theorem w_laws_sameRows_0 (S : LS) : ex lf F_laws_sameRows_W0 S = match ex lf F_laws_sameRows_L0 S with | some (.normal, S1) => ex lf F_laws_sameRows_W0 S1 | r => r := ex_loop lf F_laws_sameRows_L0 S
theorem w_impl_GroupsOk_0 (S : LS) : ex lf F_impl_GroupsOk_W0 S = match ex lf F_impl_GroupsOk_L0 S with | some (.normal, S1) => ex lf F_impl_GroupsOk_W0 S1 | r => r := ex_loop lf F_impl_GroupsOk_L0 S
theorem w_impl_JoinedRounds_0 (S : LS) : ex lf F_impl_JoinedRounds_W0 S = match ex lf F_impl_JoinedRounds_L0 S with | some (.normal, S1) => ex lf F_impl_JoinedRounds_W0 S1 | r => r := ex_loop lf F_impl_JoinedRounds_L0 S
theorem w_spec_JoinedRounds_0 (S : LS) : ex lf F_spec_JoinedRounds_W0 S = match ex lf F_spec_JoinedRounds_L0 S with | some (.normal, S1) => ex lf F_spec_JoinedRounds_W0 S1 | r => r := ex_loop lf F_spec_JoinedRounds_L0 S
theorem w_impl_TestsOk_0 (S : LS) : ex lf F_impl_TestsOk_W0 S = match ex lf F_impl_TestsOk_L0 S with | some (.normal, S1) => ex lf F_impl_TestsOk_W0 S1 | r => r := ex_loop lf F_impl_TestsOk_L0 S
theorem w_impl_averageOfRound_0 (S : LS) : ex lf F_impl_averageOfRound_W0 S = match ex lf F_impl_averageOfRound_L0 S with | some (.normal, S1) => ex lf F_impl_averageOfRound_W0 S1 | r => r := ex_loop lf F_impl_averageOfRound_L0 S
theorem w_impl_setOf_0 (S : LS) : ex lf F_impl_setOf_W0 S = match ex lf F_impl_setOf_L0 S with | some (.normal, S1) => ex lf F_impl_setOf_W0 S1 | r => r := ex_loop lf F_impl_setOf_L0 S
theorem w_spec_GroupsOk_1 (S : LS) : ex lf F_spec_GroupsOk_W1 S = match ex lf F_spec_GroupsOk_L1 S with | some (.normal, S1) => ex lf F_spec_GroupsOk_W1 S1 | r => r := ex_loop lf F_spec_GroupsOk_L1 S
theorem w_spec_GroupsOk_0 (S : LS) : ex lf F_spec_GroupsOk_W0 S = match ex lf F_spec_GroupsOk_L0 S with | some (.normal, S1) => ex lf F_spec_GroupsOk_W0 S1 | r => r := ex_loop lf F_spec_GroupsOk_L0 S
theorem w_impl_OrderOk_0 (S : LS) : ex lf F_impl_OrderOk_W0 S = match ex lf F_impl_OrderOk_L0 S with | some (.normal, S1) => ex lf F_impl_OrderOk_W0 S1 | r => r := ex_loop lf F_impl_OrderOk_L0 S
theorem w_impl_wholeOf_0 (S : LS) : ex lf F_impl_wholeOf_W0 S = match ex lf F_impl_wholeOf_L0 S with | some (.normal, S1) => ex lf F_impl_wholeOf_W0 S1 | r => r := ex_loop lf F_impl_wholeOf_L0 S
theorem w_spec_l20Tests_0 (S : LS) : ex lf F_spec_l20Tests_W0 S = match ex lf F_spec_l20Tests_L0 S with | some (.normal, S1) => ex lf F_spec_l20Tests_W0 S1 | r => r := ex_loop lf F_spec_l20Tests_L0 S
theorem w_laws_sameInts_0 (S : LS) : ex lf F_laws_sameInts_W0 S = match ex lf F_laws_sameInts_L0 S with | some (.normal, S1) => ex lf F_laws_sameInts_W0 S1 | r => r := ex_loop lf F_laws_sameInts_L0 S
theorem w_spec_l20Groups_0 (S : LS) : ex lf F_spec_l20Groups_W0 S = match ex lf F_spec_l20Groups_L0 S with | some (.normal, S1) => ex lf F_spec_l20Groups_W0 S1 | r => r := ex_loop lf F_spec_l20Groups_L0 S
theorem w_slices_Backward_int_int_1_0 (S : LS) : ex lf F_slices_Backward_int_int_1_W0 S = match ex lf F_slices_Backward_int_int_1_L0 S with | some (.normal, S1) => ex lf F_slices_Backward_int_int_1_W0 S1 | r => r := ex_loop lf F_slices_Backward_int_int_1_L0 S
theorem w_spec_l20Order_0 (S : LS) : ex lf F_spec_l20Order_W0 S = match ex lf F_spec_l20Order_L0 S with | some (.normal, S1) => ex lf F_spec_l20Order_W0 S1 | r => r := ex_loop lf F_spec_l20Order_L0 S
end Zz
