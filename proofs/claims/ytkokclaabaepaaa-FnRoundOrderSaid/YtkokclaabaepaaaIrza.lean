/- The functions of the program, read as data. No conditions. -/
import Derived.Test.YtkokclaabaepaaaLgC
set_option linter.unusedSectionVars false
set_option linter.unusedVariables false
set_option linter.unusedSimpArgs false
namespace Zz
open Go.Lg
def n_laws_FnRoundAverage : Nat := 3
def n_laws_FnRoundOrder : Nat := 7
def n_spec_DrawRoundAverage : Nat := 14
def n_impl_RoundAverage : Nat := 15
def n_spec_RoundAverage : Nat := 16
def n_laws_alive : Nat := 17
def n_laws_power : Nat := 18
def n_impl_RowAverage : Nat := 19
def n_impl_GroupsOk : Nat := 25
def n_spec_l20Open : Nat := 51
def n_spec_l20Grouped : Nat := 52
def n_spec_l20Rd_pick : Nat := 53
def n_impl_TestsOk : Nat := 54
def n_impl_feeOk : Nat := 55
def n_slices_Backward_int_int : Nat := 56
def n_impl_averageOfRound : Nat := 57
def n_impl_setOf : Nat := 58
def n_spec_TestsOk : Nat := 59
def n_spec_GroupsOk : Nat := 60
def n_spec_l1In : Nat := 61
def n_spec_l1Power : Nat := 62
def n_impl_OrderOk : Nat := 63
def n_impl_rowOk : Nat := 64
def n_impl_wholeOf : Nat := 65
def n_impl_endChance : Nat := 66
def n_spec_l20Tests : Nat := 67
def n_spec_l20Groups : Nat := 73
def n_impl_manyOk : Nat := 74
def n_impl_isWithin : Nat := 75
def n_slices_Backward_int_int_1 : Nat := 92
def n_impl_hasTest : Nat := 93
def n_spec_l20Rd_odd : Nat := 94
def n_spec_l20Order : Nat := 97
def bkFs : List Nat := [n_slices_Backward_int_int_1]
instance : GL := ⟨[], [36, 37, 42, 49], ["l4_orders.go:82", "l10_rounds.go:90"], [], [(79, [0]), (98, [0, 2]), (100, [0]), (107, [0, 2])], [], ["l20_draw.go:447"], bkFs⟩
/-- laws.FnRoundAverage -/
def F_laws_FnRoundAverage_L0 : LC :=
 (.seq
 (.seq
 (.region false [⟨some 38, .mv, [.t 8], none⟩,
 ⟨some 39, .mv, [.t 4], none⟩,
 ⟨some 40, .len, [.t 39], none⟩,
 ⟨some 41, .bin .lss, [.t 38, .t 40], none⟩] [38, 39, 40])
 (.cond (.t 41) [41]
 .skip
 (.exit 0)))
 (.seq
 (.block 1
 (.region false [⟨some 44, .mv, [.t 7], none⟩,
 ⟨some 45, .mv, [.t 4], none⟩,
 ⟨some 46, .mv, [.t 8], none⟩,
 ⟨some 47, .idxa 1, [.t 45, .t 46], none⟩,
 ⟨some 48, .load 1 false, [.t 47], none⟩,
 ⟨some 49, .app 25096 1, [.t 44, .t 48], none⟩,
 ⟨some 7, .mv, [.t 49], none⟩] [44, 45, 46, 47, 48, 49]))
 (.region false [⟨some 42, .mv, [.t 8], none⟩,
 ⟨some 43, .bin .add, [.t 42, .c (.i 1)], none⟩,
 ⟨some 8, .mv, [.t 43], none⟩] [42, 43])))
def F_laws_FnRoundAverage_W0 : LC := .loop F_laws_FnRoundAverage_L0
def F_laws_FnRoundAverage : LF :=
 { nparams := 1, results := [.t 2], body :=
 (.seq
 (.region false [⟨some 2, .mv, [.c (.b false)], none⟩] [2])
 (.seq
 (.seq
 (.region false [⟨some 11, .mv, [.t 0], none⟩,
 ⟨some 12, .len, [.t 11], none⟩,
 ⟨some 13, .bin .gtr, [.t 12, .c (.i 1048576)], none⟩] [11, 12])
 (.cond (.t 13) [13]
 (.seq
 (.region false [⟨some 2, .mv, [.c (.b true)], none⟩] [0])
 .ret)
 .skip))
 (.seq
 (.region false [⟨some 15, .mv, [.t 0], none⟩,
 ⟨some 16, .call n_spec_DrawRoundAverage 8192, [.t 15], none⟩,
 ⟨some 14, .mv, [.t 16], none⟩,
 ⟨some 17, .ext 0, [.t 14], none⟩,
 ⟨some 18, .ext 1, [.t 14], none⟩,
 ⟨some 19, .ext 2, [.t 14], none⟩,
 ⟨some 3, .mv, [.t 17], none⟩,
 ⟨some 4, .mv, [.t 18], none⟩,
 ⟨some 5, .mv, [.t 19], none⟩] [0, 14, 15, 16, 17, 18, 19])
 (.seq
 (.region false [⟨some 20, .mv, [.t 3], none⟩,
 ⟨some 21, .mv, [.t 4], none⟩,
 ⟨some 22, .mv, [.t 5], none⟩,
 ⟨some 23, .call n_impl_RoundAverage 11776, [.t 20, .t 21, .t 22], none⟩,
 ⟨some 6, .mv, [.t 23], none⟩] [20, 21, 22, 23])
 (.seq
 (.seq
 (.region false [⟨some 24, .mv, [.t 6], none⟩,
 ⟨some 25, .mv, [.t 3], none⟩,
 ⟨some 26, .mv, [.t 4], none⟩,
 ⟨some 27, .mv, [.t 5], none⟩,
 ⟨some 28, .call n_spec_RoundAverage 14336, [.t 25, .t 26, .t 27], none⟩,
 ⟨some 29, .bin .neq, [.t 24, .t 28], none⟩] [24, 25, 26, 27, 28])
 (.cond (.t 29) [29]
 (.seq
 (.region false [⟨some 2, .mv, [.c (.b false)], none⟩] [3, 4, 5, 6])
 .ret)
 .skip))
 (.seq
 (.seq
 (.region false [⟨some 30, .mv, [.t 6], none⟩,
 ⟨some 31, .bin .lss, [.t 30, .c (.i 0)], none⟩] [30])
 (.cond (.t 31) [31]
 (.seq
 (.region false [⟨some 32, .mv, [.t 6], none⟩,
 ⟨some 33, .bin .eql, [.t 32, .c (.i (-1))], none⟩,
 ⟨some 34, .mv, [.t 33], none⟩,
 ⟨some 35, .call n_laws_alive 17920, [], some (34, true)⟩,
 ⟨some 36, .pick, [.t 34, .t 35, .c (.b false)], none⟩,
 ⟨some 2, .mv, [.t 36], none⟩] [3, 4, 5, 6, 32, 33, 34, 35, 36])
 .ret)
 .skip))
 (.seq
 (.region false [⟨some 37, .bslice 18952 0 1 (.i 0) [], [], none⟩,
 ⟨some 7, .mv, [.t 37], none⟩] [37])
 (.seq
 (.seq
 (.region false [⟨some 8, .mv, [.c (.i 0)], none⟩] [])
 (.block 0
 F_laws_FnRoundAverage_W0))
 (.seq
 (.region false [⟨some 50, .mv, [.t 3], none⟩,
 ⟨some 51, .mv, [.t 4], none⟩,
 ⟨some 52, .mv, [.t 5], none⟩,
 ⟨some 53, .bin .add, [.t 52, .c (.i 1)], none⟩,
 ⟨some 54, .call n_impl_RoundAverage 27648, [.t 50, .t 51, .t 53], none⟩,
 ⟨some 9, .mv, [.t 54], none⟩] [5, 8, 50, 51, 52, 53, 54])
 (.seq
 (.region false [⟨some 55, .mv, [.t 3], none⟩,
 ⟨some 56, .len, [.t 55], none⟩,
 ⟨some 57, .call n_laws_power 29184, [.t 56], none⟩,
 ⟨some 10, .mv, [.t 57], none⟩] [55, 56, 57])
 (.seq
 (.region false [⟨some 58, .mv, [.t 4], none⟩,
 ⟨some 59, .len, [.t 58], none⟩,
 ⟨some 60, .mv, [.t 3], none⟩,
 ⟨some 61, .len, [.t 60], none⟩,
 ⟨some 62, .bin .lss, [.t 59, .t 61], none⟩,
 ⟨some 63, .mv, [.t 62], none⟩,
 ⟨some 64, .mv, [.t 3], some (63, false)⟩,
 ⟨some 65, .mv, [.t 4], some (63, false)⟩,
 ⟨some 66, .call n_impl_RoundAverage 33792, [.t 64, .t 65, .c (.i 0)], some (63, false)⟩,
 ⟨some 67, .mv, [.t 3], some (63, false)⟩,
 ⟨some 68, .mv, [.t 7], some (63, false)⟩,
 ⟨some 69, .call n_impl_RowAverage 35328, [.t 67, .t 68, .c (.i 0)], some (63, false)⟩,
 ⟨some 70, .bin .eql, [.t 66, .t 69], some (63, false)⟩,
 ⟨some 71, .pick, [.t 63, .c (.b true), .t 70], none⟩,
 ⟨some 72, .mv, [.t 71], none⟩,
 ⟨some 73, .mv, [.t 9], some (72, true)⟩,
 ⟨some 74, .bin .lss, [.t 73, .c (.i 0)], some (72, true)⟩,
 ⟨some 75, .mv, [.t 74], some (72, true)⟩,
 ⟨some 76, .mv, [.t 9], some (75, false)⟩,
 ⟨some 77, .mv, [.t 6], some (75, false)⟩,
 ⟨some 78, .mv, [.t 10], some (75, false)⟩,
 ⟨some 79, .bin .add, [.t 77, .t 78], some (75, false)⟩,
 ⟨some 80, .bin .geq, [.t 76, .t 79], some (75, false)⟩,
 ⟨some 81, .mv, [.t 80], some (75, false)⟩,
 ⟨some 82, .mv, [.t 9], some (81, true)⟩,
 ⟨some 83, .mv, [.t 6], some (81, true)⟩,
 ⟨some 84, .mv, [.t 10], some (81, true)⟩,
 ⟨some 85, .mv, [.t 4], some (81, true)⟩,
 ⟨some 86, .len, [.t 85], some (81, true)⟩,
 ⟨some 87, .bin .mul, [.t 84, .t 86], some (81, true)⟩,
 ⟨some 88, .bin .add, [.t 83, .t 87], some (81, true)⟩,
 ⟨some 89, .bin .leq, [.t 82, .t 88], some (81, true)⟩,
 ⟨some 90, .pick, [.t 81, .t 89, .c (.b false)], some (75, false)⟩,
 ⟨some 91, .pick, [.t 75, .c (.b true), .t 90], some (72, true)⟩,
 ⟨some 92, .pick, [.t 72, .t 91, .c (.b false)], none⟩,
 ⟨some 2, .mv, [.t 92], none⟩] [3, 4, 6, 7, 9, 10, 58, 59, 60, 61, 62, 63, 64, 65, 66, 67, 68, 69, 70, 71, 72, 73, 74, 75, 76, 77, 78, 79, 80, 81, 82, 83, 84, 85, 86, 87, 88, 89, 90, 91, 92])
 .ret))))))))))) }
/-- laws.FnRoundOrder -/
def F_laws_FnRoundOrder_L1 : LC :=
 (.ghost (.rename 9 17416)
 (.seq
 (.seq
 (.region false [⟨some 35, .mv, [.t 10], none⟩,
 ⟨some 36, .mv, [.t 4], none⟩,
 ⟨some 37, .mv, [.t 8], none⟩,
 ⟨some 38, .idxa 1, [.t 36, .t 37], none⟩,
 ⟨some 39, .load 1 false, [.t 38], none⟩,
 ⟨some 40, .len, [.t 39], none⟩,
 ⟨some 41, .bin .lss, [.t 35, .t 40], none⟩] [35, 36, 37, 38, 39, 40])
 (.cond (.t 41) [41]
 .skip
 (.exit 2)))
 (.seq
 (.block 3
 (.region false [⟨some 44, .mv, [.t 4], none⟩,
 ⟨some 45, .mv, [.t 8], none⟩,
 ⟨some 46, .idxa 1, [.t 44, .t 45], none⟩,
 ⟨some 47, .load 1 false, [.t 46], none⟩,
 ⟨some 48, .mv, [.t 10], none⟩,
 ⟨some 49, .idxa 1, [.t 47, .t 48], none⟩,
 ⟨some 50, .load 1 false, [.t 49], none⟩,
 ⟨some 51, .bslice 26120 1 1 (.i 0) [0], [.t 50], none⟩,
 ⟨some 52, .mv, [.t 9], none⟩,
 ⟨some 53, .app 27144 1, [.t 51, .t 52], none⟩,
 ⟨some 9, .mv, [.t 53], none⟩] [44, 45, 46, 47, 48, 49, 50, 51, 52, 53]))
 (.region false [⟨some 42, .mv, [.t 10], none⟩,
 ⟨some 43, .bin .add, [.t 42, .c (.i 1)], none⟩,
 ⟨some 10, .mv, [.t 43], none⟩] [42, 43]))))
def F_laws_FnRoundOrder_W1 : LC := .loop F_laws_FnRoundOrder_L1
def F_laws_FnRoundOrder_L0 : LC :=
 (.seq
 (.seq
 (.region false [⟨some 28, .mv, [.t 8], none⟩,
 ⟨some 29, .mv, [.t 4], none⟩,
 ⟨some 30, .len, [.t 29], none⟩,
 ⟨some 31, .bin .lss, [.t 28, .t 30], none⟩] [28, 29, 30])
 (.cond (.t 31) [31]
 .skip
 (.exit 0)))
 (.seq
 (.block 1
 (.seq
 (.region false [⟨some 34, .bslice 17416 0 1 (.i 0) [], [], none⟩,
 ⟨some 9, .mv, [.t 34], none⟩] [34])
 (.seq
 (.seq
 (.region false [⟨some 10, .mv, [.c (.i 0)], none⟩] [])
 (.block 2
 F_laws_FnRoundOrder_W1))
 (.region false [⟨some 54, .mv, [.t 7], none⟩,
 ⟨some 55, .mv, [.t 9], none⟩,
 ⟨some 56, .bslice 28680 1 1 (.sl 1 []) [0], [.t 55], none⟩,
 ⟨some 57, .app 29192 1, [.t 54, .t 56], none⟩,
 ⟨some 7, .mv, [.t 57], none⟩] [9, 10, 54, 55, 56, 57]))))
 (.region false [⟨some 32, .mv, [.t 8], none⟩,
 ⟨some 33, .bin .add, [.t 32, .c (.i 1)], none⟩,
 ⟨some 8, .mv, [.t 33], none⟩] [32, 33])))
def F_laws_FnRoundOrder_W0 : LC := .loop F_laws_FnRoundOrder_L0
def F_laws_FnRoundOrder : LF :=
 { nparams := 1, results := [.t 2], body :=
 (.seq
 (.region false [⟨some 2, .mv, [.c (.b false)], none⟩] [2])
 (.seq
 (.seq
 (.region false [⟨some 11, .mv, [.t 0], none⟩,
 ⟨some 12, .len, [.t 11], none⟩,
 ⟨some 13, .bin .gtr, [.t 12, .c (.i 1048576)], none⟩] [11, 12])
 (.cond (.t 13) [13]
 (.seq
 (.region false [⟨some 2, .mv, [.c (.b true)], none⟩] [0])
 .ret)
 .skip))
 (.seq
 (.region false [⟨some 15, .mv, [.t 0], none⟩,
 ⟨some 16, .call n_spec_DrawRoundAverage 8192, [.t 15], none⟩,
 ⟨some 14, .mv, [.t 16], none⟩,
 ⟨some 17, .ext 0, [.t 14], none⟩,
 ⟨some 18, .ext 1, [.t 14], none⟩,
 ⟨some 19, .ext 2, [.t 14], none⟩,
 ⟨some 3, .mv, [.t 17], none⟩,
 ⟨some 4, .mv, [.t 18], none⟩,
 ⟨some 5, .mv, [.t 19], none⟩] [0, 14, 15, 16, 17, 18, 19])
 (.seq
 (.region false [⟨some 20, .mv, [.t 3], none⟩,
 ⟨some 21, .mv, [.t 4], none⟩,
 ⟨some 22, .mv, [.t 5], none⟩,
 ⟨some 23, .call n_impl_RoundAverage 11776, [.t 20, .t 21, .t 22], none⟩,
 ⟨some 6, .mv, [.t 23], none⟩] [20, 21, 22, 23])
 (.seq
 (.seq
 (.region false [⟨some 24, .mv, [.t 6], none⟩,
 ⟨some 25, .bin .lss, [.t 24, .c (.i 0)], none⟩] [24])
 (.cond (.t 25) [25]
 (.seq
 (.region false [⟨some 26, .call n_laws_alive 13312, [], none⟩,
 ⟨some 2, .mv, [.t 26], none⟩] [3, 4, 5, 6, 26])
 .ret)
 .skip))
 (.seq
 (.region false [⟨some 27, .bslice 13832 0 1 (.sl 1 []) [], [], none⟩,
 ⟨some 7, .mv, [.t 27], none⟩] [27])
 (.seq
 (.seq
 (.region false [⟨some 8, .mv, [.c (.i 0)], none⟩] [])
 (.block 0
 F_laws_FnRoundOrder_W0))
 (.seq
 (.region false [⟨some 58, .call n_laws_alive 29696, [], none⟩,
 ⟨some 59, .mv, [.t 58], none⟩,
 ⟨some 60, .mv, [.t 3], some (59, true)⟩,
 ⟨some 61, .mv, [.t 7], some (59, true)⟩,
 ⟨some 62, .mv, [.t 5], some (59, true)⟩,
 ⟨some 63, .call n_impl_RoundAverage 32256, [.t 60, .t 61, .t 62], some (59, true)⟩,
 ⟨some 64, .mv, [.t 6], some (59, true)⟩,
 ⟨some 65, .bin .eql, [.t 63, .t 64], some (59, true)⟩,
 ⟨some 66, .pick, [.t 59, .t 65, .c (.b false)], none⟩,
 ⟨some 2, .mv, [.t 66], none⟩] [3, 4, 5, 6, 7, 8, 58, 59, 60, 61, 62, 63, 64, 65, 66])
 .ret)))))))) }
/-- spec.DrawRoundAverage -/
def F_spec_DrawRoundAverage : LF :=
 { nparams := 1, results := [.t 2, .t 3, .t 4], body :=
 (.seq
 (.region false [⟨some 2, .newnil 1040, [], none⟩,
 ⟨some 3, .newnil 1544, [], none⟩,
 ⟨some 4, .mv, [.c (.i 0)], none⟩] [2, 3, 4])
 (.seq
 (.region false [⟨some 8, .mv, [.t 0], none⟩,
 ⟨some 9, .call n_spec_l20Open 4608, [.t 8], none⟩,
 ⟨some 5, .mv, [.t 9], none⟩] [0, 8, 9])
 (.seq
 (.region false [⟨some 11, .mv, [.t 5], none⟩,
 ⟨some 12, .call n_spec_l20Grouped 6144, [.t 11], none⟩,
 ⟨some 10, .mv, [.t 12], none⟩,
 ⟨some 13, .ext 0, [.t 10], none⟩,
 ⟨some 14, .ext 1, [.t 10], none⟩,
 ⟨some 6, .mv, [.t 13], none⟩,
 ⟨some 7, .mv, [.t 14], none⟩] [10, 11, 12, 13, 14])
 (.seq
 (.region false [⟨some 15, .mv, [.t 6], none⟩,
 ⟨some 16, .mv, [.t 7], none⟩,
 ⟨some 17, .mv, [.t 5], none⟩,
 ⟨some 18, .call n_spec_l20Rd_pick 9216, [.t 17, .c (.i 6)], none⟩,
 ⟨some 19, .mv, [.t 5], none⟩,
 ⟨some 20, .call n_spec_l20Rd_pick 10240, [.t 19, .c (.i 9)], none⟩,
 ⟨some 21, .bin .quo, [.t 20, .c (.i 8)], none⟩,
 ⟨some 22, .bin .mul, [.t 21, .c (.i 14)], none⟩,
 ⟨some 23, .bin .add, [.t 18, .t 22], none⟩,
 ⟨some 24, .mv, [.t 5], none⟩,
 ⟨some 25, .call n_spec_l20Rd_pick 12800, [.t 24, .c (.i 60)], none⟩,
 ⟨some 26, .bin .quo, [.t 25, .c (.i 59)], none⟩,
 ⟨some 27, .bin .mul, [.t 26, .c (.i 20)], none⟩,
 ⟨some 28, .bin .add, [.t 23, .t 27], none⟩,
 ⟨some 2, .mv, [.t 15], none⟩,
 ⟨some 3, .mv, [.t 16], none⟩,
 ⟨some 4, .mv, [.t 28], none⟩] [5, 6, 7, 15, 16, 17, 18, 19, 20, 21, 22, 23, 24, 25, 26, 27, 28])
 .ret)))) }
/-- impl.RoundAverage -/
def F_impl_RoundAverage_R0 : LC :=
 (.block 1
 (.seq
 (.region false [⟨some 30, .load 1 false, [.t 8], none⟩,
 ⟨some 31, .mv, [.t 10], none⟩,
 ⟨some 32, .len, [.t 31], none⟩,
 ⟨some 33, .bin .add, [.t 30, .t 32], none⟩,
 ⟨none, .store 1, [.t 8, .t 33], none⟩] [30, 31, 32, 33])
 (.region true [⟨some 34, .load 1 false, [.t 3], none⟩,
 ⟨some 35, .mv, [.t 10], none⟩,
 ⟨some 36, .call n_impl_setOf 18432, [.t 35], none⟩,
 ⟨some 37, .load 1 false, [.t 5], none⟩,
 ⟨some 38, .load 1 false, [.t 8], none⟩,
 ⟨some 39, .load 1 false, [.t 7], none⟩,
 ⟨some 40, .call n_impl_averageOfRound 20480, [.t 34, .t 36, .t 37, .t 38, .t 39], none⟩,
 ⟨none, .store 1, [.t 7, .t 40], none⟩] [34, 35, 36, 37, 38, 39, 40])))
def F_impl_RoundAverage_B0 : LC := .back bkFs 27 28 29 [3, 5, 7, 8, 10] [⟨some 10, .mv, [.t 29], none⟩] F_impl_RoundAverage_R0
def F_impl_RoundAverage : LF :=
 { nparams := 3, results := [.t 6], body :=
 (.seq
 (.region false [⟨some 3, .box 1544, [.t 0], none⟩,
 ⟨some 5, .box 2568, [.t 2], none⟩,
 ⟨some 6, .mv, [.c (.i 0)], none⟩] [0, 2, 6])
 (.ghost (.close_ 3)
(.ghost (.close_ 5)
 (.seq
 (.seq
 (.region false [⟨some 11, .load 1 false, [.t 3], none⟩,
 ⟨some 12, .call n_impl_TestsOk 6144, [.t 11], none⟩,
 ⟨some 13, .un .not, [.t 12], none⟩,
 ⟨some 14, .mv, [.t 13], none⟩,
 ⟨some 15, .load 1 false, [.t 3], some (14, false)⟩,
 ⟨some 16, .len, [.t 15], some (14, false)⟩,
 ⟨some 17, .mv, [.t 1], some (14, false)⟩,
 ⟨some 18, .call n_impl_GroupsOk 9216, [.t 16, .t 17], some (14, false)⟩,
 ⟨some 19, .un .not, [.t 18], some (14, false)⟩,
 ⟨some 20, .pick, [.t 14, .c (.b true), .t 19], none⟩,
 ⟨some 21, .mv, [.t 20], none⟩,
 ⟨some 22, .load 1 false, [.t 5], some (21, false)⟩,
 ⟨some 23, .call n_impl_feeOk 11776, [.t 22], some (21, false)⟩,
 ⟨some 24, .un .not, [.t 23], some (21, false)⟩,
 ⟨some 25, .pick, [.t 21, .c (.b true), .t 24], none⟩] [11, 12, 13, 14, 15, 16, 17, 18, 19, 20, 21, 22, 23, 24])
 (.cond (.t 25) [25]
 (.seq
 (.region false [⟨some 6, .mv, [.c (.i (-1))], none⟩] [1, 3, 5])
 .ret)
 .skip))
 (.seq
 (.region false [⟨some 7, .alloc 3592 (.i 0), [], none⟩,
 ⟨some 8, .alloc 4104 (.i 0), [], none⟩,
 ⟨none, .store 1, [.t 7, .c (.i 0)], none⟩,
 ⟨none, .store 1, [.t 8, .c (.i 0)], none⟩] [])
 (.seq
 (.seq
 (.region false [⟨some 26, .mv, [.t 1], none⟩,
 ⟨some 27, .call n_slices_Backward_int_int 13824, [.t 26], none⟩] [1, 26])
 (.block 0
 F_impl_RoundAverage_B0))
 (.seq
 (.region false [⟨some 41, .load 1 false, [.t 7], none⟩,
 ⟨some 6, .mv, [.t 41], none⟩] [3, 5, 7, 8, 27, 41])
 .ret))))))) }
/-- spec.RoundAverage -/
def F_spec_RoundAverage_L1 : LC :=
 (.seq
 (.seq
 (.region false [⟨some 39, .mv, [.t 12], none⟩,
 ⟨some 40, .mv, [.t 1], none⟩,
 ⟨some 41, .mv, [.t 9], none⟩,
 ⟨some 42, .idxa 1, [.t 40, .t 41], none⟩,
 ⟨some 43, .load 1 false, [.t 42], none⟩,
 ⟨some 44, .len, [.t 43], none⟩,
 ⟨some 45, .bin .lss, [.t 39, .t 44], none⟩] [39, 40, 41, 42, 43, 44])
 (.cond (.t 45) [45]
 .skip
 (.exit 2)))
 (.seq
 (.block 3
 (.seq
 (.region false [⟨some 48, .mv, [.t 10], none⟩,
 ⟨some 49, .mv, [.t 0], none⟩,
 ⟨some 50, .mv, [.t 1], none⟩,
 ⟨some 51, .mv, [.t 9], none⟩,
 ⟨some 52, .idxa 1, [.t 50, .t 51], none⟩,
 ⟨some 53, .load 1 false, [.t 52], none⟩,
 ⟨some 54, .mv, [.t 12], none⟩,
 ⟨some 55, .idxa 1, [.t 53, .t 54], none⟩,
 ⟨some 56, .load 1 false, [.t 55], none⟩,
 ⟨some 57, .idxa 2, [.t 49, .t 56], none⟩,
 ⟨some 58, .fld 0 1 false, [.t 57], none⟩,
 ⟨some 59, .load 1 false, [.t 58], none⟩,
 ⟨some 60, .bin .add, [.t 48, .t 59], none⟩,
 ⟨some 10, .mv, [.t 60], none⟩] [48, 49, 50, 51, 52, 53, 54, 55, 56, 57, 58, 59, 60])
 (.region false [⟨some 61, .mv, [.t 11], none⟩,
 ⟨some 62, .bin .quo, [.t 61, .c (.i 6)], none⟩,
 ⟨some 63, .mv, [.t 0], none⟩,
 ⟨some 64, .mv, [.t 1], none⟩,
 ⟨some 65, .mv, [.t 9], none⟩,
 ⟨some 66, .idxa 1, [.t 64, .t 65], none⟩,
 ⟨some 67, .load 1 false, [.t 66], none⟩,
 ⟨some 68, .mv, [.t 12], none⟩,
 ⟨some 69, .idxa 1, [.t 67, .t 68], none⟩,
 ⟨some 70, .load 1 false, [.t 69], none⟩,
 ⟨some 71, .idxa 2, [.t 63, .t 70], none⟩,
 ⟨some 72, .fld 1 1 false, [.t 71], none⟩,
 ⟨some 73, .load 1 false, [.t 72], none⟩,
 ⟨some 74, .bin .mul, [.t 62, .t 73], none⟩,
 ⟨some 11, .mv, [.t 74], none⟩] [61, 62, 63, 64, 65, 66, 67, 68, 69, 70, 71, 72, 73, 74])))
 (.region false [⟨some 46, .mv, [.t 12], none⟩,
 ⟨some 47, .bin .add, [.t 46, .c (.i 1)], none⟩,
 ⟨some 12, .mv, [.t 47], none⟩] [46, 47])))
def F_spec_RoundAverage_W1 : LC := .loop F_spec_RoundAverage_L1
def F_spec_RoundAverage_L0 : LC :=
 (.seq
 (.seq
 (.region false [⟨some 31, .mv, [.t 9], none⟩,
 ⟨some 32, .mv, [.t 1], none⟩,
 ⟨some 33, .len, [.t 32], none⟩,
 ⟨some 34, .bin .lss, [.t 31, .t 33], none⟩] [31, 32, 33])
 (.cond (.t 34) [34]
 .skip
 (.exit 0)))
 (.seq
 (.block 1
 (.seq
 (.region false [⟨some 37, .mv, [.t 2], none⟩,
 ⟨some 10, .mv, [.t 37], none⟩] [37])
 (.seq
 (.region false [⟨some 38, .mv, [.t 8], none⟩,
 ⟨some 11, .mv, [.t 38], none⟩] [38])
 (.seq
 (.seq
 (.region false [⟨some 12, .mv, [.c (.i 0)], none⟩] [])
 (.block 2
 F_spec_RoundAverage_W1))
 (.seq
 (.region false [⟨some 75, .mv, [.t 7], none⟩,
 ⟨some 76, .mv, [.t 10], none⟩,
 ⟨some 77, .mv, [.t 8], none⟩,
 ⟨some 78, .bin .mul, [.t 76, .t 77], none⟩,
 ⟨some 79, .bin .add, [.t 75, .t 78], none⟩,
 ⟨some 7, .mv, [.t 79], none⟩] [8, 10, 12, 75, 76, 77, 78, 79])
 (.region false [⟨some 80, .mv, [.t 11], none⟩,
 ⟨some 8, .mv, [.t 80], none⟩] [11, 80]))))))
 (.region false [⟨some 35, .mv, [.t 9], none⟩,
 ⟨some 36, .bin .add, [.t 35, .c (.i 1)], none⟩,
 ⟨some 9, .mv, [.t 36], none⟩] [35, 36])))
def F_spec_RoundAverage_W0 : LC := .loop F_spec_RoundAverage_L0
def F_spec_RoundAverage : LF :=
 { nparams := 3, results := [.t 6], body :=
 (.seq
 (.region false [⟨some 6, .mv, [.c (.i 0)], none⟩] [6])
 (.seq
 (.seq
 (.region false [⟨some 13, .mv, [.t 0], none⟩,
 ⟨some 14, .call n_spec_TestsOk 7168, [.t 13], none⟩,
 ⟨some 15, .un .not, [.t 14], none⟩,
 ⟨some 16, .mv, [.t 15], none⟩,
 ⟨some 17, .mv, [.t 0], some (16, false)⟩,
 ⟨some 18, .len, [.t 17], some (16, false)⟩,
 ⟨some 19, .mv, [.t 1], some (16, false)⟩,
 ⟨some 20, .call n_spec_GroupsOk 10240, [.t 18, .t 19], some (16, false)⟩,
 ⟨some 21, .un .not, [.t 20], some (16, false)⟩,
 ⟨some 22, .pick, [.t 16, .c (.b true), .t 21], none⟩,
 ⟨some 23, .mv, [.t 22], none⟩,
 ⟨some 24, .mv, [.t 2], some (23, false)⟩,
 ⟨some 25, .call n_spec_l1In 12800, [.t 24, .c (.i 0), .c (.i 20)], some (23, false)⟩,
 ⟨some 26, .un .not, [.t 25], some (23, false)⟩,
 ⟨some 27, .pick, [.t 23, .c (.b true), .t 26], none⟩] [13, 14, 15, 16, 17, 18, 19, 20, 21, 22, 23, 24, 25, 26])
 (.cond (.t 27) [27]
 (.seq
 (.region false [⟨some 6, .mv, [.c (.i (-1))], none⟩] [0, 1, 2])
 .ret)
 .skip))
 (.seq
 (.region false [⟨some 7, .mv, [.c (.i 0)], none⟩] [])
 (.seq
 (.region false [⟨some 28, .mv, [.t 0], none⟩,
 ⟨some 29, .len, [.t 28], none⟩,
 ⟨some 30, .call n_spec_l1Power 15360, [.t 29], none⟩,
 ⟨some 8, .mv, [.t 30], none⟩] [28, 29, 30])
 (.seq
 (.seq
 (.region false [⟨some 9, .mv, [.c (.i 0)], none⟩] [])
 (.block 0
 F_spec_RoundAverage_W0))
 (.seq
 (.region false [⟨some 81, .mv, [.t 7], none⟩,
 ⟨some 6, .mv, [.t 81], none⟩] [0, 1, 2, 7, 8, 9, 81])
 .ret)))))) }
/-- laws.alive -/
def F_laws_alive : LF :=
 { nparams := 0, results := [.t 0], body :=
 (.seq
 (.region false [⟨some 0, .mv, [.c (.b false)], none⟩] [0])
 (.seq
 (.region false [⟨some 1, .build [.i 0, .i 0] [(0, 1), (1, 1)], [.c (.i 1), .c (.i 1)], none⟩,
 ⟨some 2, .bslice 1040 1 2 (.st [.i 0, .i 0]) [0], [.t 1], none⟩,
 ⟨some 3, .call n_impl_TestsOk 1536, [.t 2], none⟩,
 ⟨some 4, .mv, [.t 3], none⟩,
 ⟨some 5, .build [.i 0, .i 0] [], [], some (4, true)⟩,
 ⟨some 6, .bslice 3088 1 2 (.st [.i 0, .i 0]) [0], [.t 5], some (4, true)⟩,
 ⟨some 7, .call n_impl_TestsOk 3584, [.t 6], some (4, true)⟩,
 ⟨some 8, .un .not, [.t 7], some (4, true)⟩,
 ⟨some 9, .pick, [.t 4, .t 8, .c (.b false)], none⟩,
 ⟨some 0, .mv, [.t 9], none⟩] [1, 2, 3, 4, 5, 6, 7, 8, 9])
 .ret)) }
/-- laws.power -/
def F_laws_power_L0 : LC :=
 (.seq
 (.seq
 (.region false [⟨some 5, .mv, [.t 4], none⟩,
 ⟨some 6, .mv, [.t 0], none⟩,
 ⟨some 7, .bin .lss, [.t 5, .t 6], none⟩] [5, 6])
 (.cond (.t 7) [7]
 .skip
 (.exit 0)))
 (.seq
 (.block 1
 (.region false [⟨some 10, .mv, [.t 3], none⟩,
 ⟨some 11, .bin .mul, [.t 10, .c (.i 6)], none⟩,
 ⟨some 3, .mv, [.t 11], none⟩] [10, 11]))
 (.region false [⟨some 8, .mv, [.t 4], none⟩,
 ⟨some 9, .bin .add, [.t 8, .c (.i 1)], none⟩,
 ⟨some 4, .mv, [.t 9], none⟩] [8, 9])))
def F_laws_power_W0 : LC := .loop F_laws_power_L0
def F_laws_power : LF :=
 { nparams := 1, results := [.t 2], body :=
 (.seq
 (.region false [⟨some 2, .mv, [.c (.i 0)], none⟩] [2])
 (.seq
 (.region false [⟨some 3, .mv, [.c (.i 1)], none⟩] [])
 (.seq
 (.seq
 (.region false [⟨some 4, .mv, [.c (.i 0)], none⟩] [])
 (.block 0
 F_laws_power_W0))
 (.seq
 (.region false [⟨some 12, .mv, [.t 3], none⟩,
 ⟨some 2, .mv, [.t 12], none⟩] [0, 3, 4, 12])
 .ret)))) }
/-- impl.RowAverage -/
def F_impl_RowAverage_L0 : LC :=
 (.seq
 (.region false [⟨some 33, .bin .lss, [.t 32, .t 31], none⟩] [])
 (.seq
 (.cond (.t 33) [33]
 .skip
 (.exit 0))
 (.seq
 (.block 1
 (.seq
 (.region false [⟨some 34, .idxa 1, [.t 30, .t 32], none⟩,
 ⟨some 35, .load 1 false, [.t 34], none⟩,
 ⟨some 11, .mv, [.t 35], none⟩] [34, 35])
 (.seq
 (.region false [⟨some 36, .mv, [.t 8], none⟩,
 ⟨some 37, .mv, [.t 0], none⟩,
 ⟨some 38, .mv, [.t 11], none⟩,
 ⟨some 39, .idxa 2, [.t 37, .t 38], none⟩,
 ⟨some 40, .fld 0 1 false, [.t 39], none⟩,
 ⟨some 41, .load 1 false, [.t 40], none⟩,
 ⟨some 42, .mv, [.t 9], none⟩,
 ⟨some 43, .bin .mul, [.t 41, .t 42], none⟩,
 ⟨some 44, .bin .add, [.t 36, .t 43], none⟩,
 ⟨some 8, .mv, [.t 44], none⟩] [36, 37, 38, 39, 40, 41, 42, 43, 44])
 (.region false [⟨some 45, .mv, [.t 9], none⟩,
 ⟨some 46, .bin .quo, [.t 45, .c (.i 6)], none⟩,
 ⟨some 47, .mv, [.t 0], none⟩,
 ⟨some 48, .mv, [.t 11], none⟩,
 ⟨some 49, .idxa 2, [.t 47, .t 48], none⟩,
 ⟨some 50, .load 2 true, [.t 49], none⟩,
 ⟨some 51, .mv, [.t 2], none⟩,
 ⟨some 52, .call n_impl_endChance 26624, [.t 50, .t 51], none⟩,
 ⟨some 53, .bin .sub, [.c (.i 6), .t 52], none⟩,
 ⟨some 54, .bin .mul, [.t 46, .t 53], none⟩,
 ⟨some 9, .mv, [.t 54], none⟩] [11, 45, 46, 47, 48, 49, 50, 51, 52, 53, 54]))))
 (.region false [⟨some 55, .bin .add, [.t 32, .c (.i 1)], none⟩,
 ⟨some 32, .mv, [.t 55], none⟩] [55]))))
def F_impl_RowAverage_W0 : LC := .loop F_impl_RowAverage_L0
def F_impl_RowAverage : LF :=
 { nparams := 3, results := [.t 6], body :=
 (.seq
 (.region false [⟨some 6, .mv, [.c (.i 0)], none⟩] [6])
 (.seq
 (.region false [⟨some 12, .mv, [.t 0], none⟩,
 ⟨some 13, .len, [.t 12], none⟩,
 ⟨some 7, .mv, [.t 13], none⟩] [12, 13])
 (.seq
 (.seq
 (.region false [⟨some 14, .mv, [.t 0], none⟩,
 ⟨some 15, .call n_impl_TestsOk 7680, [.t 14], none⟩,
 ⟨some 16, .un .not, [.t 15], none⟩,
 ⟨some 17, .mv, [.t 16], none⟩,
 ⟨some 18, .mv, [.t 7], some (17, false)⟩,
 ⟨some 19, .mv, [.t 1], some (17, false)⟩,
 ⟨some 20, .call n_impl_OrderOk 10240, [.t 18, .t 19], some (17, false)⟩,
 ⟨some 21, .un .not, [.t 20], some (17, false)⟩,
 ⟨some 22, .pick, [.t 17, .c (.b true), .t 21], none⟩,
 ⟨some 23, .mv, [.t 22], none⟩,
 ⟨some 24, .mv, [.t 2], some (23, false)⟩,
 ⟨some 25, .call n_impl_rowOk 12800, [.t 24], some (23, false)⟩,
 ⟨some 26, .un .not, [.t 25], some (23, false)⟩,
 ⟨some 27, .pick, [.t 23, .c (.b true), .t 26], none⟩] [14, 15, 16, 17, 18, 19, 20, 21, 22, 23, 24, 25, 26])
 (.cond (.t 27) [27]
 (.seq
 (.region false [⟨some 6, .mv, [.c (.i (-1))], none⟩] [0, 1, 2, 7])
 .ret)
 .skip))
 (.seq
 (.region false [⟨some 28, .mv, [.t 7], none⟩,
 ⟨some 29, .call n_impl_wholeOf 14848, [.t 28], none⟩,
 ⟨some 8, .mv, [.c (.i 0)], none⟩,
 ⟨some 9, .mv, [.t 29], none⟩] [7, 28, 29])
 (.seq
 (.seq
 (.region false [⟨some 30, .mv, [.t 1], none⟩,
 ⟨some 31, .len, [.t 30], none⟩,
 ⟨some 32, .mv, [.c (.i 0)], none⟩] [1])
 (.block 0
 F_impl_RowAverage_W0))
 (.seq
 (.region false [⟨some 56, .mv, [.t 8], none⟩,
 ⟨some 6, .mv, [.t 56], none⟩] [0, 2, 8, 9, 30, 31, 32, 56])
 .ret)))))) }
/-- impl.GroupsOk -/
def F_impl_GroupsOk_L0 : LC :=
 (.seq
 (.region false [⟨some 14, .bin .lss, [.t 13, .t 12], none⟩] [])
 (.seq
 (.cond (.t 14) [14]
 .skip
 (.exit 0))
 (.seq
 (.block 1
 (.seq
 (.region false [⟨some 15, .idxa 1, [.t 11, .t 13], none⟩,
 ⟨some 16, .load 1 false, [.t 15], none⟩,
 ⟨some 7, .mv, [.t 16], none⟩] [15, 16])
 (.seq
 (.seq
 (.region false [⟨some 17, .mv, [.t 7], none⟩,
 ⟨some 18, .len, [.t 17], none⟩,
 ⟨some 19, .mv, [.t 0], none⟩,
 ⟨some 20, .mv, [.t 5], none⟩,
 ⟨some 21, .len, [.t 20], none⟩,
 ⟨some 22, .bin .sub, [.t 19, .t 21], none⟩,
 ⟨some 23, .call n_impl_isWithin 11776, [.t 18, .c (.i 1), .t 22], none⟩,
 ⟨some 24, .un .not, [.t 23], none⟩] [17, 18, 19, 20, 21, 22, 23])
 (.cond (.t 24) [24]
 (.seq
 (.region false [⟨some 4, .mv, [.c (.b false)], none⟩] [0, 5, 7, 11, 12, 13])
 .ret)
 .skip))
 (.region false [⟨some 25, .mv, [.t 5], none⟩,
 ⟨some 26, .mv, [.t 7], none⟩,
 ⟨some 27, .app 13832 1, [.t 25, .t 26], none⟩,
 ⟨some 5, .mv, [.t 27], none⟩] [7, 25, 26, 27]))))
 (.region false [⟨some 28, .bin .add, [.t 13, .c (.i 1)], none⟩,
 ⟨some 13, .mv, [.t 28], none⟩] [28]))))
def F_impl_GroupsOk_W0 : LC := .loop F_impl_GroupsOk_L0
def F_impl_GroupsOk : LF :=
 { nparams := 2, results := [.t 4], body :=
 (.seq
 (.region false [⟨some 4, .mv, [.c (.b false)], none⟩] [4])
 (.seq
 (.seq
 (.region false [⟨some 8, .mv, [.t 0], none⟩,
 ⟨some 9, .call n_impl_manyOk 4608, [.t 8], none⟩,
 ⟨some 10, .un .not, [.t 9], none⟩] [8, 9])
 (.cond (.t 10) [10]
 (.seq
 (.region false [⟨some 4, .mv, [.c (.b false)], none⟩] [0, 1])
 .ret)
 .skip))
 (.seq
 (.region false [⟨some 5, .newnil 2568, [], none⟩] [])
 (.seq
 (.seq
 (.region false [⟨some 11, .mv, [.t 1], none⟩,
 ⟨some 12, .len, [.t 11], none⟩,
 ⟨some 13, .mv, [.c (.i 0)], none⟩] [1])
 (.block 0
 F_impl_GroupsOk_W0))
 (.seq
 (.region false [⟨some 29, .mv, [.t 0], none⟩,
 ⟨some 30, .mv, [.t 5], none⟩,
 ⟨some 31, .call n_impl_OrderOk 15872, [.t 29, .t 30], none⟩,
 ⟨some 4, .mv, [.t 31], none⟩] [0, 5, 11, 12, 13, 29, 30, 31])
 .ret))))) }
/-- spec.l20Open -/
def F_spec_l20Open : LF :=
 { nparams := 1, results := [.t 2], body :=
 (.seq
 (.region false [⟨some 2, .mv, [.c (.np)], none⟩] [2])
 (.seq
 (.seq
 (.region false [⟨some 3, .mv, [.t 0], none⟩,
 ⟨some 4, .len, [.t 3], none⟩,
 ⟨some 5, .bin .gtr, [.t 4, .c (.i 2000)], none⟩] [3, 4])
 (.cond (.t 5) [5]
 (.region false [⟨some 6, .mv, [.t 0], none⟩,
 ⟨some 7, .slice false true 1, [.t 6, .c (.i 2000)], none⟩,
 ⟨some 0, .mv, [.t 7], none⟩] [6, 7])
 .skip))
 (.seq
 (.region false [⟨some 8, .mv, [.t 0], none⟩,
 ⟨some 9, .build [.sl 1 [], .i 0] [(0, 1)], [.t 8], none⟩,
 ⟨some 10, .box 5136, [.t 9], none⟩,
 ⟨some 2, .mv, [.t 10], none⟩] [0, 8, 9, 10])
 .ret))) }
/-- spec.l20Grouped -/
def F_spec_l20Grouped : LF :=
 { nparams := 1, results := [.t 2, .t 3], body :=
 (.seq
 (.region false [⟨some 2, .newnil 1040, [], none⟩,
 ⟨some 3, .newnil 1544, [], none⟩] [2, 3])
 (.seq
 (.region false [⟨some 5, .mv, [.t 0], none⟩,
 ⟨some 6, .call n_spec_l20Tests 3072, [.t 5, .c (.i 14)], none⟩,
 ⟨some 4, .mv, [.t 6], none⟩] [5, 6])
 (.seq
 (.region false [⟨some 7, .mv, [.t 4], none⟩,
 ⟨some 8, .mv, [.t 0], none⟩,
 ⟨some 9, .mv, [.t 4], none⟩,
 ⟨some 10, .len, [.t 9], none⟩,
 ⟨some 11, .call n_spec_l20Groups 5632, [.t 8, .t 10, .c (.i 14)], none⟩,
 ⟨some 2, .mv, [.t 7], none⟩,
 ⟨some 3, .mv, [.t 11], none⟩] [4, 7, 8, 9, 10, 11])
 .ret))) }
/-- spec.l20Rd).pick -/
def F_spec_l20Rd_pick : LF :=
 { nparams := 2, results := [.t 4], body :=
 (.seq
 (.region false [⟨some 4, .mv, [.c (.i 0)], none⟩] [4])
 (.seq
 (.region false [⟨some 7, .mv, [.t 0], none⟩,
 ⟨some 8, .mv, [.t 0], none⟩,
 ⟨some 9, .chk, [.t 8], none⟩,
 ⟨some 10, .fld 1 1 false, [.t 9], none⟩,
 ⟨some 11, .load 1 false, [.t 10], none⟩,
 ⟨some 12, .bin .add, [.t 11, .c (.i 1)], none⟩,
 ⟨some 13, .chk, [.t 7], none⟩,
 ⟨some 14, .fld 1 1 false, [.t 13], none⟩,
 ⟨none, .store 1, [.t 14, .t 12], none⟩] [7, 8, 9, 10, 11, 12, 13, 14])
 (.seq
 (.seq
 (.region false [⟨some 15, .mv, [.t 1], none⟩,
 ⟨some 16, .bin .lss, [.t 15, .c (.i 1)], none⟩,
 ⟨some 17, .mv, [.t 16], none⟩,
 ⟨some 18, .mv, [.t 0], some (17, false)⟩,
 ⟨some 19, .chk, [.t 18], some (17, false)⟩,
 ⟨some 20, .fld 0 1 false, [.t 19], some (17, false)⟩,
 ⟨some 21, .load 1 false, [.t 20], some (17, false)⟩,
 ⟨some 22, .len, [.t 21], some (17, false)⟩,
 ⟨some 23, .bin .eql, [.t 22, .c (.i 0)], some (17, false)⟩,
 ⟨some 24, .pick, [.t 17, .c (.b true), .t 23], none⟩] [15, 16, 17, 18, 19, 20, 21, 22, 23])
 (.cond (.t 24) [24]
 (.seq
 (.region false [⟨some 4, .mv, [.c (.i 0)], none⟩] [1])
 .ret)
 .skip))
 (.seq
 (.region false [⟨some 25, .mv, [.t 0], none⟩,
 ⟨some 26, .chk, [.t 25], none⟩,
 ⟨some 27, .fld 1 1 false, [.t 26], none⟩,
 ⟨some 28, .load 1 false, [.t 27], none⟩,
 ⟨some 29, .bin .sub, [.t 28, .c (.i 1)], none⟩,
 ⟨some 5, .mv, [.t 29], none⟩] [25, 26, 27, 28, 29])
 (.seq
 (.seq
 (.region false [⟨some 30, .mv, [.t 5], none⟩,
 ⟨some 31, .mv, [.t 0], none⟩,
 ⟨some 32, .chk, [.t 31], none⟩,
 ⟨some 33, .fld 0 1 false, [.t 32], none⟩,
 ⟨some 34, .load 1 false, [.t 33], none⟩,
 ⟨some 35, .len, [.t 34], none⟩,
 ⟨some 36, .bin .lss, [.t 30, .t 35], none⟩] [30, 31, 32, 33, 34, 35])
 (.cond (.t 36) [36]
 (.seq
 (.region false [⟨some 37, .mv, [.t 0], none⟩,
 ⟨some 38, .chk, [.t 37], none⟩,
 ⟨some 39, .fld 0 1 false, [.t 38], none⟩,
 ⟨some 40, .load 1 false, [.t 39], none⟩,
 ⟨some 41, .mv, [.t 5], none⟩,
 ⟨some 42, .idxa 1, [.t 40, .t 41], none⟩,
 ⟨some 43, .load 1 false, [.t 42], none⟩,
 ⟨some 44, .conv .b2i 22528, [.t 43], none⟩,
 ⟨some 45, .mv, [.t 1], none⟩,
 ⟨some 46, .bin .rem, [.t 44, .t 45], none⟩,
 ⟨some 4, .mv, [.t 46], none⟩] [1, 5, 37, 38, 39, 40, 41, 42, 43, 44, 45, 46])
 .ret)
 .skip))
 (.seq
 (.region true [⟨some 47, .mv, [.t 0], none⟩,
 ⟨some 48, .chk, [.t 47], none⟩,
 ⟨some 49, .fld 0 1 false, [.t 48], none⟩,
 ⟨some 50, .load 1 false, [.t 49], none⟩,
 ⟨some 51, .mv, [.t 5], none⟩,
 ⟨some 52, .mv, [.t 0], none⟩,
 ⟨some 53, .chk, [.t 52], none⟩,
 ⟨some 54, .fld 0 1 false, [.t 53], none⟩,
 ⟨some 55, .load 1 false, [.t 54], none⟩,
 ⟨some 56, .len, [.t 55], none⟩,
 ⟨some 57, .bin .rem, [.t 51, .t 56], none⟩,
 ⟨some 58, .idxa 1, [.t 50, .t 57], none⟩,
 ⟨some 59, .load 1 false, [.t 58], none⟩,
 ⟨some 60, .conv .b2i 30720, [.t 59], none⟩,
 ⟨some 61, .bin .mul, [.t 60, .c (.i 131)], none⟩,
 ⟨some 62, .mv, [.t 0], none⟩,
 ⟨some 63, .chk, [.t 62], none⟩,
 ⟨some 64, .fld 0 1 false, [.t 63], none⟩,
 ⟨some 65, .load 1 false, [.t 64], none⟩,
 ⟨some 66, .mv, [.t 5], none⟩,
 ⟨some 67, .bin .mul, [.t 66, .c (.i 7)], none⟩,
 ⟨some 68, .bin .add, [.t 67, .c (.i 3)], none⟩,
 ⟨some 69, .mv, [.t 0], none⟩,
 ⟨some 70, .chk, [.t 69], none⟩,
 ⟨some 71, .fld 0 1 false, [.t 70], none⟩,
 ⟨some 72, .load 1 false, [.t 71], none⟩,
 ⟨some 73, .len, [.t 72], none⟩,
 ⟨some 74, .bin .rem, [.t 68, .t 73], none⟩,
 ⟨some 75, .idxa 1, [.t 65, .t 74], none⟩,
 ⟨some 76, .load 1 false, [.t 75], none⟩,
 ⟨some 77, .conv .b2i 39424, [.t 76], none⟩,
 ⟨some 78, .bin .mul, [.t 77, .c (.i 1117)], none⟩,
 ⟨some 79, .bin .add, [.t 61, .t 78], none⟩,
 ⟨some 80, .mv, [.t 5], none⟩,
 ⟨some 81, .bin .mul, [.t 80, .c (.i 29)], none⟩,
 ⟨some 82, .bin .add, [.t 79, .t 81], none⟩,
 ⟨some 83, .mv, [.t 5], none⟩,
 ⟨some 84, .mv, [.t 0], none⟩,
 ⟨some 85, .chk, [.t 84], none⟩,
 ⟨some 86, .fld 0 1 false, [.t 85], none⟩,
 ⟨some 87, .load 1 false, [.t 86], none⟩,
 ⟨some 88, .len, [.t 87], none⟩,
 ⟨some 89, .bin .quo, [.t 83, .t 88], none⟩,
 ⟨some 90, .bin .mul, [.t 89, .c (.i 53)], none⟩,
 ⟨some 91, .bin .add, [.t 82, .t 90], none⟩,
 ⟨some 6, .mv, [.t 91], none⟩] [5, 47, 48, 49, 50, 51, 52, 53, 54, 55, 56, 57, 58, 59, 60, 61, 62, 63, 64, 65, 66, 67, 68, 69, 70, 71, 72, 73, 74, 75, 76, 77, 78, 79, 80, 81, 82, 83, 84, 85, 86, 87, 88, 89, 90, 91])
 (.seq
 (.region false [⟨some 92, .mv, [.t 6], none⟩,
 ⟨some 93, .mv, [.t 6], none⟩,
 ⟨some 94, .bin .quo, [.t 93, .c (.i 64)], none⟩,
 ⟨some 95, .bin .xor, [.t 92, .t 94], none⟩,
 ⟨some 6, .mv, [.t 95], none⟩] [92, 93, 94, 95])
 (.seq
 (.region false [⟨some 96, .mv, [.t 6], none⟩,
 ⟨some 97, .mv, [.t 1], none⟩,
 ⟨some 98, .bin .rem, [.t 96, .t 97], none⟩,
 ⟨some 4, .mv, [.t 98], none⟩] [1, 6, 96, 97, 98])
 .ret)))))))) }
/-- impl.TestsOk -/
def F_impl_TestsOk_L0 : LC :=
 (.seq
 (.region false [⟨some 12, .bin .lss, [.t 11, .t 10], none⟩] [])
 (.seq
 (.cond (.t 12) [12]
 .skip
 (.exit 0))
 (.seq
 (.block 1
 (.seq
 (.region false [⟨some 13, .idxa 2, [.t 9, .t 11], none⟩,
 ⟨some 14, .load 2 true, [.t 13], none⟩,
 ⟨some 4, .alloc 2064 (.st [.i 0, .i 0]), [], none⟩,
 ⟨none, .store 2, [.t 4, .t 14], none⟩] [13, 14])
 (.seq
 (.region false [⟨some 15, .fld 0 1 false, [.t 4], none⟩,
 ⟨some 16, .load 1 false, [.t 15], none⟩,
 ⟨some 17, .call n_impl_isWithin 8704, [.t 16, .c (.i 1), .c (.i 9)], none⟩,
 ⟨some 18, .un .not, [.t 17], none⟩,
 ⟨some 19, .mv, [.t 18], none⟩,
 ⟨some 20, .fld 1 1 false, [.t 4], some (19, false)⟩,
 ⟨some 21, .load 1 false, [.t 20], some (19, false)⟩,
 ⟨some 22, .call n_impl_isWithin 11264, [.t 21, .c (.i 1), .c (.i 5)], some (19, false)⟩,
 ⟨some 23, .un .not, [.t 22], some (19, false)⟩,
 ⟨some 24, .pick, [.t 19, .c (.b true), .t 23], none⟩] [4, 15, 16, 17, 18, 19, 20, 21, 22, 23])
 (.cond (.t 24) [24]
 (.seq
 (.region false [⟨some 2, .mv, [.c (.b false)], none⟩] [9, 10, 11])
 .ret)
 .skip))))
 (.region false [⟨some 25, .bin .add, [.t 11, .c (.i 1)], none⟩,
 ⟨some 11, .mv, [.t 25], none⟩] [25]))))
def F_impl_TestsOk_W0 : LC := .loop F_impl_TestsOk_L0
def F_impl_TestsOk : LF :=
 { nparams := 1, results := [.t 2], body :=
 (.seq
 (.region false [⟨some 2, .mv, [.c (.b false)], none⟩] [2])
 (.seq
 (.seq
 (.region false [⟨some 5, .mv, [.t 0], none⟩,
 ⟨some 6, .len, [.t 5], none⟩,
 ⟨some 7, .call n_impl_manyOk 3584, [.t 6], none⟩,
 ⟨some 8, .un .not, [.t 7], none⟩] [5, 6, 7])
 (.cond (.t 8) [8]
 (.seq
 (.region false [⟨some 2, .mv, [.c (.b false)], none⟩] [0])
 .ret)
 .skip))
 (.seq
 (.seq
 (.region false [⟨some 9, .mv, [.t 0], none⟩,
 ⟨some 10, .len, [.t 9], none⟩,
 ⟨some 11, .mv, [.c (.i 0)], none⟩] [0])
 (.block 0
 F_impl_TestsOk_W0))
 (.seq
 (.region false [⟨some 2, .mv, [.c (.b true)], none⟩] [9, 10, 11])
 .ret)))) }
/-- impl.feeOk -/
def F_impl_feeOk : LF :=
 { nparams := 1, results := [.t 2], body :=
 (.seq
 (.region false [⟨some 2, .mv, [.c (.b false)], none⟩] [2])
 (.seq
 (.region false [⟨some 3, .mv, [.t 0], none⟩,
 ⟨some 4, .call n_impl_isWithin 2048, [.t 3, .c (.i 0), .c (.i 20)], none⟩,
 ⟨some 2, .mv, [.t 4], none⟩] [0, 3, 4])
 .ret)) }
/-- slices.Backward[[][]int,[]int] -/
def F_slices_Backward_int_int : LF :=
 { nparams := 1, results := [.t 2], body :=
 (.seq
 (.region false [⟨some 1, .box 520, [.t 0], none⟩,
 ⟨some 2, .mv, [.c (.dead)], none⟩] [0, 2])
 (.seq
 (.region false [⟨some 3, .mkfn (mkNo n_slices_Backward_int_int_1 0), [.t 1], none⟩,
 ⟨some 2, .mv, [.t 3], none⟩] [1, 3])
 .ret)) }
/-- impl.averageOfRound -/
def F_impl_averageOfRound_L0 : LC :=
 (.seq
 (.region false [⟨some 19, .bin .lss, [.t 18, .t 17], none⟩] [])
 (.seq
 (.cond (.t 19) [19]
 .skip
 (.exit 0))
 (.seq
 (.block 1
 (.seq
 (.region false [⟨some 20, .mv, [.t 18], none⟩,
 ⟨some 21, .idxa 2, [.t 16, .t 18], none⟩,
 ⟨some 22, .load 2 true, [.t 21], none⟩,
 ⟨some 14, .alloc 7184 (.st [.i 0, .i 0]), [], none⟩,
 ⟨some 13, .mv, [.t 20], none⟩,
 ⟨none, .store 2, [.t 14, .t 22], none⟩] [20, 21, 22])
 (.seq
 (.region false [⟨some 23, .mv, [.t 1], none⟩,
 ⟨some 24, .mv, [.t 13], none⟩,
 ⟨some 25, .call n_impl_hasTest 12800, [.t 23, .t 24], none⟩] [13, 23, 24])
 (.cond (.t 25) [25]
 (.seq
 (.region false [⟨some 26, .mv, [.t 11], none⟩,
 ⟨some 27, .fld 0 1 false, [.t 14], none⟩,
 ⟨some 28, .load 1 false, [.t 27], none⟩,
 ⟨some 29, .bin .add, [.t 26, .t 28], none⟩,
 ⟨some 11, .mv, [.t 29], none⟩] [26, 27, 28, 29])
 (.region false [⟨some 30, .mv, [.t 12], none⟩,
 ⟨some 31, .fld 1 1 false, [.t 14], none⟩,
 ⟨some 32, .load 1 false, [.t 31], none⟩,
 ⟨some 33, .bin .mul, [.t 30, .t 32], none⟩,
 ⟨some 12, .mv, [.t 33], none⟩] [14, 30, 31, 32, 33]))
 .skip))))
 (.region false [⟨some 34, .bin .add, [.t 18, .c (.i 1)], none⟩,
 ⟨some 18, .mv, [.t 34], none⟩] [14, 34]))))
def F_impl_averageOfRound_W0 : LC := .loop F_impl_averageOfRound_L0
def F_impl_averageOfRound : LF :=
 { nparams := 5, results := [.t 10], body :=
 (.seq
 (.region false [⟨some 10, .mv, [.c (.i 0)], none⟩] [10])
 (.seq
 (.region false [⟨some 15, .mv, [.t 2], none⟩,
 ⟨some 11, .mv, [.t 15], none⟩,
 ⟨some 12, .mv, [.c (.i 1)], none⟩] [2, 15])
 (.seq
 (.seq
 (.region false [⟨some 16, .mv, [.t 0], none⟩,
 ⟨some 17, .len, [.t 16], none⟩,
 ⟨some 18, .mv, [.c (.i 0)], none⟩] [0])
 (.block 0
 F_impl_averageOfRound_W0))
 (.seq
 (.region false [⟨some 35, .mv, [.t 11], none⟩,
 ⟨some 36, .mv, [.t 3], none⟩,
 ⟨some 37, .call n_impl_wholeOf 18944, [.t 36], none⟩,
 ⟨some 38, .bin .mul, [.t 35, .t 37], none⟩,
 ⟨some 39, .mv, [.t 12], none⟩,
 ⟨some 40, .mv, [.t 4], none⟩,
 ⟨some 41, .bin .mul, [.t 39, .t 40], none⟩,
 ⟨some 42, .bin .add, [.t 38, .t 41], none⟩,
 ⟨some 10, .mv, [.t 42], none⟩] [1, 3, 4, 11, 12, 16, 17, 18, 35, 36, 37, 38, 39, 40, 41, 42])
 .ret)))) }
/-- impl.setOf -/
def F_impl_setOf_L0 : LC :=
 (.seq
 (.region false [⟨some 9, .bin .lss, [.t 8, .t 7], none⟩] [])
 (.seq
 (.cond (.t 9) [9]
 .skip
 (.exit 0))
 (.seq
 (.block 1
 (.seq
 (.region false [⟨some 10, .idxa 1, [.t 6, .t 8], none⟩,
 ⟨some 11, .load 1 false, [.t 10], none⟩,
 ⟨some 5, .mv, [.t 11], none⟩] [10, 11])
 (.region false [⟨some 12, .mv, [.t 3], none⟩,
 ⟨some 13, .mv, [.t 5], none⟩,
 ⟨some 14, .bin .shl, [.c (.i 1), .t 13], none⟩,
 ⟨some 15, .bin .or, [.t 12, .t 14], none⟩,
 ⟨some 3, .mv, [.t 15], none⟩] [5, 12, 13, 14, 15])))
 (.region false [⟨some 16, .bin .add, [.t 8, .c (.i 1)], none⟩,
 ⟨some 8, .mv, [.t 16], none⟩] [16]))))
def F_impl_setOf_W0 : LC := .loop F_impl_setOf_L0
def F_impl_setOf : LF :=
 { nparams := 1, results := [.t 2], body :=
 (.seq
 (.region false [⟨some 2, .mv, [.c (.i 0)], none⟩] [2])
 (.seq
 (.region false [⟨some 3, .mv, [.c (.i 0)], none⟩] [])
 (.seq
 (.seq
 (.region false [⟨some 6, .mv, [.t 0], none⟩,
 ⟨some 7, .len, [.t 6], none⟩,
 ⟨some 8, .mv, [.c (.i 0)], none⟩] [0])
 (.block 0
 F_impl_setOf_W0))
 (.seq
 (.region false [⟨some 17, .mv, [.t 3], none⟩,
 ⟨some 2, .mv, [.t 17], none⟩] [3, 6, 7, 8, 17])
 .ret)))) }
/-- spec.TestsOk -/
def F_spec_TestsOk_L0 : LC :=
 (.seq
 (.seq
 (.region false [⟨some 4, .mv, [.t 3], none⟩,
 ⟨some 5, .mv, [.t 0], none⟩,
 ⟨some 6, .len, [.t 5], none⟩,
 ⟨some 7, .bin .lss, [.t 4, .t 6], none⟩] [4, 5, 6])
 (.cond (.t 7) [7]
 .skip
 (.exit 0)))
 (.seq
 (.block 1
 (.seq
 (.region false [⟨some 10, .mv, [.t 0], none⟩,
 ⟨some 11, .mv, [.t 3], none⟩,
 ⟨some 12, .idxa 2, [.t 10, .t 11], none⟩,
 ⟨some 13, .fld 0 1 false, [.t 12], none⟩,
 ⟨some 14, .load 1 false, [.t 13], none⟩,
 ⟨some 15, .call n_spec_l1In 7680, [.t 14, .c (.i 1), .c (.i 9)], none⟩,
 ⟨some 16, .un .not, [.t 15], none⟩,
 ⟨some 17, .mv, [.t 16], none⟩,
 ⟨some 18, .mv, [.t 0], some (17, false)⟩,
 ⟨some 19, .mv, [.t 3], some (17, false)⟩,
 ⟨some 20, .idxa 2, [.t 18, .t 19], some (17, false)⟩,
 ⟨some 21, .fld 1 1 false, [.t 20], some (17, false)⟩,
 ⟨some 22, .load 1 false, [.t 21], some (17, false)⟩,
 ⟨some 23, .call n_spec_l1In 11776, [.t 22, .c (.i 1), .c (.i 5)], some (17, false)⟩,
 ⟨some 24, .un .not, [.t 23], some (17, false)⟩,
 ⟨some 25, .pick, [.t 17, .c (.b true), .t 24], none⟩] [10, 11, 12, 13, 14, 15, 16, 17, 18, 19, 20, 21, 22, 23, 24])
 (.cond (.t 25) [25]
 (.seq
 (.region false [⟨some 2, .mv, [.c (.b false)], none⟩] [0, 3])
 .ret)
 .skip)))
 (.region false [⟨some 8, .mv, [.t 3], none⟩,
 ⟨some 9, .bin .add, [.t 8, .c (.i 1)], none⟩,
 ⟨some 3, .mv, [.t 9], none⟩] [8, 9])))
def F_spec_TestsOk_W0 : LC := .loop F_spec_TestsOk_L0
def F_spec_TestsOk : LF :=
 { nparams := 1, results := [.t 2], body :=
 (.seq
 (.region false [⟨some 2, .mv, [.c (.b false)], none⟩] [2])
 (.seq
 (.seq
 (.region false [⟨some 3, .mv, [.c (.i 0)], none⟩] [])
 (.block 0
 F_spec_TestsOk_W0))
 (.seq
 (.region false [⟨some 26, .mv, [.t 0], none⟩,
 ⟨some 27, .len, [.t 26], none⟩,
 ⟨some 28, .call n_spec_l1In 14336, [.t 27, .c (.i 1), .c (.i 5)], none⟩,
 ⟨some 2, .mv, [.t 28], none⟩] [0, 3, 26, 27, 28])
 .ret))) }
/-- spec.GroupsOk -/
def F_spec_GroupsOk_L1 : LC :=
 (.seq
 (.seq
 (.region false [⟨some 22, .mv, [.t 8], none⟩,
 ⟨some 23, .mv, [.t 1], none⟩,
 ⟨some 24, .mv, [.t 7], none⟩,
 ⟨some 25, .idxa 1, [.t 23, .t 24], none⟩,
 ⟨some 26, .load 1 false, [.t 25], none⟩,
 ⟨some 27, .len, [.t 26], none⟩,
 ⟨some 28, .bin .lss, [.t 22, .t 27], none⟩] [22, 23, 24, 25, 26, 27])
 (.cond (.t 28) [28]
 .skip
 (.exit 2)))
 (.seq
 (.block 3
 (.seq
 (.region false [⟨some 31, .mv, [.t 1], none⟩,
 ⟨some 32, .mv, [.t 7], none⟩,
 ⟨some 33, .idxa 1, [.t 31, .t 32], none⟩,
 ⟨some 34, .load 1 false, [.t 33], none⟩,
 ⟨some 35, .mv, [.t 8], none⟩,
 ⟨some 36, .idxa 1, [.t 34, .t 35], none⟩,
 ⟨some 37, .load 1 false, [.t 36], none⟩,
 ⟨some 9, .mv, [.t 37], none⟩] [31, 32, 33, 34, 35, 36, 37])
 (.seq
 (.seq
 (.region false [⟨some 38, .mv, [.t 9], none⟩,
 ⟨some 39, .bin .lss, [.t 38, .c (.i 0)], none⟩,
 ⟨some 40, .mv, [.t 39], none⟩,
 ⟨some 41, .mv, [.t 9], some (40, false)⟩,
 ⟨some 42, .mv, [.t 0], some (40, false)⟩,
 ⟨some 43, .bin .geq, [.t 41, .t 42], some (40, false)⟩,
 ⟨some 44, .pick, [.t 40, .c (.b true), .t 43], none⟩,
 ⟨some 45, .mv, [.t 44], none⟩,
 ⟨some 46, .mv, [.t 9], some (45, false)⟩,
 ⟨some 47, .bin .geq, [.t 46, .c (.i 5)], some (45, false)⟩,
 ⟨some 48, .pick, [.t 45, .c (.b true), .t 47], none⟩,
 ⟨some 49, .mv, [.t 48], none⟩,
 ⟨some 50, .mv, [.t 5], some (49, false)⟩,
 ⟨some 51, .mv, [.t 9], some (49, false)⟩,
 ⟨some 52, .bin .shr, [.t 50, .t 51], some (49, false)⟩,
 ⟨some 53, .bin .rem, [.t 52, .c (.i 2)], some (49, false)⟩,
 ⟨some 54, .bin .eql, [.t 53, .c (.i 1)], some (49, false)⟩,
 ⟨some 55, .pick, [.t 49, .c (.b true), .t 54], none⟩] [38, 39, 40, 41, 42, 43, 44, 45, 46, 47, 48, 49, 50, 51, 52, 53, 54])
 (.cond (.t 55) [55]
 (.seq
 (.region false [⟨some 4, .mv, [.c (.b false)], none⟩] [0, 1, 5, 6, 7, 8, 9])
 .ret)
 .skip))
 (.seq
 (.region false [⟨some 56, .mv, [.t 5], none⟩,
 ⟨some 57, .mv, [.t 9], none⟩,
 ⟨some 58, .bin .shl, [.c (.i 1), .t 57], none⟩,
 ⟨some 59, .bin .or, [.t 56, .t 58], none⟩,
 ⟨some 5, .mv, [.t 59], none⟩] [9, 56, 57, 58, 59])
 (.region false [⟨some 60, .mv, [.t 6], none⟩,
 ⟨some 61, .bin .add, [.t 60, .c (.i 1)], none⟩,
 ⟨some 6, .mv, [.t 61], none⟩] [60, 61])))))
 (.region false [⟨some 29, .mv, [.t 8], none⟩,
 ⟨some 30, .bin .add, [.t 29, .c (.i 1)], none⟩,
 ⟨some 8, .mv, [.t 30], none⟩] [29, 30])))
def F_spec_GroupsOk_W1 : LC := .loop F_spec_GroupsOk_L1
def F_spec_GroupsOk_L0 : LC :=
 (.seq
 (.seq
 (.region false [⟨some 10, .mv, [.t 7], none⟩,
 ⟨some 11, .mv, [.t 1], none⟩,
 ⟨some 12, .len, [.t 11], none⟩,
 ⟨some 13, .bin .lss, [.t 10, .t 12], none⟩] [10, 11, 12])
 (.cond (.t 13) [13]
 .skip
 (.exit 0)))
 (.seq
 (.block 1
 (.seq
 (.seq
 (.region false [⟨some 16, .mv, [.t 1], none⟩,
 ⟨some 17, .mv, [.t 7], none⟩,
 ⟨some 18, .idxa 1, [.t 16, .t 17], none⟩,
 ⟨some 19, .load 1 false, [.t 18], none⟩,
 ⟨some 20, .len, [.t 19], none⟩,
 ⟨some 21, .bin .eql, [.t 20, .c (.i 0)], none⟩] [16, 17, 18, 19, 20])
 (.cond (.t 21) [21]
 (.seq
 (.region false [⟨some 4, .mv, [.c (.b false)], none⟩] [0, 1, 5, 6, 7])
 .ret)
 .skip))
 (.seq
 (.region false [⟨some 8, .mv, [.c (.i 0)], none⟩] [])
 (.block 2
 F_spec_GroupsOk_W1))))
 (.region false [⟨some 14, .mv, [.t 7], none⟩,
 ⟨some 15, .bin .add, [.t 14, .c (.i 1)], none⟩,
 ⟨some 7, .mv, [.t 15], none⟩] [8, 14, 15])))
def F_spec_GroupsOk_W0 : LC := .loop F_spec_GroupsOk_L0
def F_spec_GroupsOk : LF :=
 { nparams := 2, results := [.t 4], body :=
 (.seq
 (.region false [⟨some 4, .mv, [.c (.b false)], none⟩] [4])
 (.seq
 (.region false [⟨some 5, .mv, [.c (.i 0)], none⟩] [])
 (.seq
 (.region false [⟨some 6, .mv, [.c (.i 0)], none⟩] [])
 (.seq
 (.seq
 (.region false [⟨some 7, .mv, [.c (.i 0)], none⟩] [])
 (.block 0
 F_spec_GroupsOk_W0))
 (.seq
 (.region false [⟨some 62, .mv, [.t 0], none⟩,
 ⟨some 63, .call n_spec_l1In 32256, [.t 62, .c (.i 1), .c (.i 5)], none⟩,
 ⟨some 64, .mv, [.t 63], none⟩,
 ⟨some 65, .mv, [.t 6], some (64, true)⟩,
 ⟨some 66, .mv, [.t 0], some (64, true)⟩,
 ⟨some 67, .bin .eql, [.t 65, .t 66], some (64, true)⟩,
 ⟨some 68, .pick, [.t 64, .t 67, .c (.b false)], none⟩,
 ⟨some 4, .mv, [.t 68], none⟩] [0, 1, 5, 6, 7, 62, 63, 64, 65, 66, 67, 68])
 .ret))))) }
/-- spec.l1In -/
def F_spec_l1In : LF :=
 { nparams := 3, results := [.t 6], body :=
 (.seq
 (.region false [⟨some 6, .mv, [.c (.b false)], none⟩] [6])
 (.seq
 (.region false [⟨some 7, .mv, [.t 0], none⟩,
 ⟨some 8, .mv, [.t 1], none⟩,
 ⟨some 9, .bin .geq, [.t 7, .t 8], none⟩,
 ⟨some 10, .mv, [.t 9], none⟩,
 ⟨some 11, .mv, [.t 0], some (10, true)⟩,
 ⟨some 12, .mv, [.t 2], some (10, true)⟩,
 ⟨some 13, .bin .leq, [.t 11, .t 12], some (10, true)⟩,
 ⟨some 14, .pick, [.t 10, .t 13, .c (.b false)], none⟩,
 ⟨some 6, .mv, [.t 14], none⟩] [0, 1, 2, 7, 8, 9, 10, 11, 12, 13, 14])
 .ret)) }
/-- spec.l1Power -/
def F_spec_l1Power_L0 : LC :=
 (.seq
 (.seq
 (.region false [⟨some 5, .mv, [.t 4], none⟩,
 ⟨some 6, .mv, [.t 0], none⟩,
 ⟨some 7, .bin .lss, [.t 5, .t 6], none⟩] [5, 6])
 (.cond (.t 7) [7]
 .skip
 (.exit 0)))
 (.seq
 (.block 1
 (.region false [⟨some 10, .mv, [.t 3], none⟩,
 ⟨some 11, .bin .mul, [.t 10, .c (.i 6)], none⟩,
 ⟨some 3, .mv, [.t 11], none⟩] [10, 11]))
 (.region false [⟨some 8, .mv, [.t 4], none⟩,
 ⟨some 9, .bin .add, [.t 8, .c (.i 1)], none⟩,
 ⟨some 4, .mv, [.t 9], none⟩] [8, 9])))
def F_spec_l1Power_W0 : LC := .loop F_spec_l1Power_L0
def F_spec_l1Power : LF :=
 { nparams := 1, results := [.t 2], body :=
 (.seq
 (.region false [⟨some 2, .mv, [.c (.i 0)], none⟩] [2])
 (.seq
 (.region false [⟨some 3, .mv, [.c (.i 1)], none⟩] [])
 (.seq
 (.seq
 (.region false [⟨some 4, .mv, [.c (.i 0)], none⟩] [])
 (.block 0
 F_spec_l1Power_W0))
 (.seq
 (.region false [⟨some 12, .mv, [.t 3], none⟩,
 ⟨some 2, .mv, [.t 12], none⟩] [0, 3, 4, 12])
 .ret)))) }
/-- impl.OrderOk -/
def F_impl_OrderOk_L0 : LC :=
 (.seq
 (.region false [⟨some 20, .bin .lss, [.t 19, .t 18], none⟩] [])
 (.seq
 (.cond (.t 20) [20]
 .skip
 (.exit 0))
 (.seq
 (.block 1
 (.seq
 (.region false [⟨some 21, .idxa 1, [.t 17, .t 19], none⟩,
 ⟨some 22, .load 1 false, [.t 21], none⟩,
 ⟨some 7, .mv, [.t 22], none⟩] [21, 22])
 (.seq
 (.seq
 (.region false [⟨some 23, .mv, [.t 7], none⟩,
 ⟨some 24, .mv, [.t 0], none⟩,
 ⟨some 25, .bin .sub, [.t 24, .c (.i 1)], none⟩,
 ⟨some 26, .call n_impl_isWithin 13312, [.t 23, .c (.i 0), .t 25], none⟩,
 ⟨some 27, .un .not, [.t 26], none⟩,
 ⟨some 28, .mv, [.t 27], none⟩,
 ⟨some 29, .mv, [.t 5], some (28, false)⟩,
 ⟨some 30, .mv, [.t 7], some (28, false)⟩,
 ⟨some 31, .call n_impl_hasTest 15872, [.t 29, .t 30], some (28, false)⟩,
 ⟨some 32, .pick, [.t 28, .c (.b true), .t 31], none⟩] [23, 24, 25, 26, 27, 28, 29, 30, 31])
 (.cond (.t 32) [32]
 (.seq
 (.region false [⟨some 4, .mv, [.c (.b false)], none⟩] [0, 5, 7, 17, 18, 19])
 .ret)
 .skip))
 (.region false [⟨some 33, .mv, [.t 5], none⟩,
 ⟨some 34, .mv, [.t 7], none⟩,
 ⟨some 35, .bin .shl, [.c (.i 1), .t 34], none⟩,
 ⟨some 36, .bin .or, [.t 33, .t 35], none⟩,
 ⟨some 5, .mv, [.t 36], none⟩] [7, 33, 34, 35, 36]))))
 (.region false [⟨some 37, .bin .add, [.t 19, .c (.i 1)], none⟩,
 ⟨some 19, .mv, [.t 37], none⟩] [37]))))
def F_impl_OrderOk_W0 : LC := .loop F_impl_OrderOk_L0
def F_impl_OrderOk : LF :=
 { nparams := 2, results := [.t 4], body :=
 (.seq
 (.region false [⟨some 4, .mv, [.c (.b false)], none⟩] [4])
 (.seq
 (.seq
 (.region false [⟨some 8, .mv, [.t 0], none⟩,
 ⟨some 9, .call n_impl_manyOk 4608, [.t 8], none⟩,
 ⟨some 10, .un .not, [.t 9], none⟩,
 ⟨some 11, .mv, [.t 10], none⟩,
 ⟨some 12, .mv, [.t 1], some (11, false)⟩,
 ⟨some 13, .len, [.t 12], some (11, false)⟩,
 ⟨some 14, .mv, [.t 0], some (11, false)⟩,
 ⟨some 15, .bin .neq, [.t 13, .t 14], some (11, false)⟩,
 ⟨some 16, .pick, [.t 11, .c (.b true), .t 15], none⟩] [8, 9, 10, 11, 12, 13, 14, 15])
 (.cond (.t 16) [16]
 (.seq
 (.region false [⟨some 4, .mv, [.c (.b false)], none⟩] [0, 1])
 .ret)
 .skip))
 (.seq
 (.region false [⟨some 5, .mv, [.c (.i 0)], none⟩] [])
 (.seq
 (.seq
 (.region false [⟨some 17, .mv, [.t 1], none⟩,
 ⟨some 18, .len, [.t 17], none⟩,
 ⟨some 19, .mv, [.c (.i 0)], none⟩] [1])
 (.block 0
 F_impl_OrderOk_W0))
 (.seq
 (.region false [⟨some 4, .mv, [.c (.b true)], none⟩] [0, 5, 17, 18, 19])
 .ret))))) }
/-- impl.rowOk -/
def F_impl_rowOk : LF :=
 { nparams := 1, results := [.t 2], body :=
 (.seq
 (.region false [⟨some 2, .mv, [.c (.b false)], none⟩] [2])
 (.seq
 (.region false [⟨some 3, .mv, [.t 0], none⟩,
 ⟨some 4, .bin .eql, [.t 3, .c (.i 0)], none⟩,
 ⟨some 5, .mv, [.t 4], none⟩,
 ⟨some 6, .mv, [.t 0], some (5, false)⟩,
 ⟨some 7, .bin .eql, [.t 6, .c (.i 1)], some (5, false)⟩,
 ⟨some 8, .pick, [.t 5, .c (.b true), .t 7], none⟩,
 ⟨some 2, .mv, [.t 8], none⟩] [0, 3, 4, 5, 6, 7, 8])
 .ret)) }
/-- impl.wholeOf -/
def F_impl_wholeOf_L0 : LC :=
 (.seq
 (.region false [⟨some 6, .bin .lss, [.t 5, .t 4], none⟩] [])
 (.seq
 (.cond (.t 6) [6]
 .skip
 (.exit 0))
 (.seq
 (.block 1
 (.region false [⟨some 7, .mv, [.t 3], none⟩,
 ⟨some 8, .bin .mul, [.t 7, .c (.i 6)], none⟩,
 ⟨some 3, .mv, [.t 8], none⟩] [7, 8]))
 (.region false [⟨some 9, .bin .add, [.t 5, .c (.i 1)], none⟩,
 ⟨some 5, .mv, [.t 9], none⟩] [9]))))
def F_impl_wholeOf_W0 : LC := .loop F_impl_wholeOf_L0
def F_impl_wholeOf : LF :=
 { nparams := 1, results := [.t 2], body :=
 (.seq
 (.region false [⟨some 2, .mv, [.c (.i 0)], none⟩] [2])
 (.seq
 (.region false [⟨some 3, .mv, [.c (.i 1)], none⟩] [])
 (.seq
 (.seq
 (.region false [⟨some 4, .mv, [.t 0], none⟩,
 ⟨some 5, .mv, [.c (.i 0)], none⟩] [0])
 (.block 0
 F_impl_wholeOf_W0))
 (.seq
 (.region false [⟨some 10, .mv, [.t 3], none⟩,
 ⟨some 2, .mv, [.t 10], none⟩] [3, 4, 5, 10])
 .ret)))) }
/-- impl.endChance -/
def F_impl_endChance : LF :=
 { nparams := 2, results := [.t 4], body :=
 (.seq
 (.region false [⟨some 2, .box 1040, [.t 0], none⟩,
 ⟨some 4, .mv, [.c (.i 0)], none⟩] [0, 4])
 (.seq
 (.seq
 (.region false [⟨some 5, .mv, [.t 1], none⟩,
 ⟨some 6, .bin .eql, [.t 5, .c (.i 0)], none⟩] [1, 5])
 (.cond (.t 6) [6]
 (.seq
 (.region false [⟨some 7, .fld 1 1 false, [.t 2], none⟩,
 ⟨some 8, .load 1 false, [.t 7], none⟩,
 ⟨some 9, .bin .sub, [.c (.i 6), .t 8], none⟩,
 ⟨some 4, .mv, [.t 9], none⟩] [2, 7, 8, 9])
 .ret)
 .skip))
 (.seq
 (.region false [⟨some 10, .fld 1 1 false, [.t 2], none⟩,
 ⟨some 11, .load 1 false, [.t 10], none⟩,
 ⟨some 4, .mv, [.t 11], none⟩] [2, 10, 11])
 .ret))) }
/-- spec.l20Tests -/
def F_spec_l20Tests_L0 : LC :=
 (.seq
 (.seq
 (.region false [⟨some 11, .mv, [.t 6], none⟩,
 ⟨some 12, .bin .gtr, [.t 11, .c (.i 0)], none⟩] [11])
 (.cond (.t 12) [12]
 .skip
 (.exit 0)))
 (.seq
 (.block 1
 (.region false [⟨some 15, .mv, [.t 5], none⟩,
 ⟨some 16, .mv, [.t 0], none⟩,
 ⟨some 17, .call n_spec_l20Rd_pick 8704, [.t 16, .c (.i 9)], none⟩,
 ⟨some 18, .bin .add, [.c (.i 1), .t 17], none⟩,
 ⟨some 19, .mv, [.t 0], none⟩,
 ⟨some 20, .call n_spec_l20Rd_pick 10240, [.t 19, .c (.i 5)], none⟩,
 ⟨some 21, .bin .add, [.c (.i 1), .t 20], none⟩,
 ⟨some 22, .build [.i 0, .i 0] [(0, 1), (1, 1)], [.t 18, .t 21], none⟩,
 ⟨some 23, .bslice 11792 1 2 (.st [.i 0, .i 0]) [0], [.t 22], none⟩,
 ⟨some 24, .app 12304 2, [.t 15, .t 23], none⟩,
 ⟨some 5, .mv, [.t 24], none⟩] [15, 16, 17, 18, 19, 20, 21, 22, 23, 24]))
 (.region false [⟨some 13, .mv, [.t 6], none⟩,
 ⟨some 14, .bin .sub, [.t 13, .c (.i 1)], none⟩,
 ⟨some 6, .mv, [.t 14], none⟩] [13, 14])))
def F_spec_l20Tests_W0 : LC := .loop F_spec_l20Tests_L0
def F_spec_l20Tests : LF :=
 { nparams := 2, results := [.t 4], body :=
 (.seq
 (.region false [⟨some 4, .newnil 2064, [], none⟩] [4])
 (.seq
 (.region false [⟨some 7, .bslice 3600 0 2 (.st [.i 0, .i 0]) [], [], none⟩,
 ⟨some 5, .mv, [.t 7], none⟩] [7])
 (.seq
 (.seq
 (.region false [⟨some 8, .mv, [.t 0], none⟩,
 ⟨some 9, .call n_spec_l20Rd_pick 4608, [.t 8, .c (.i 5)], none⟩,
 ⟨some 10, .bin .add, [.c (.i 1), .t 9], none⟩,
 ⟨some 6, .mv, [.t 10], none⟩] [8, 9, 10])
 (.block 0
 F_spec_l20Tests_W0))
 (.seq
 (.seq
 (.region false [⟨some 25, .mv, [.t 0], none⟩,
 ⟨some 26, .mv, [.t 1], none⟩,
 ⟨some 27, .call n_spec_l20Rd_odd 13824, [.t 25, .t 26], none⟩] [1, 6, 25, 26])
 (.cond (.t 27) [27]
 (.seq
 (.region false [⟨some 28, .mv, [.t 0], none⟩,
 ⟨some 29, .call n_spec_l20Rd_pick 14848, [.t 28, .c (.i 3)], none⟩] [28])
 (.block 2
 (.seq
 (.region false [⟨some 39, .bin .eql, [.t 29, .c (.i 0)], none⟩,
 ⟨some 38, .mv, [.t 39], none⟩] [39])
 (.cond (.t 38) [38]
 (.seq
 (.region false [⟨some 40, .bslice 20496 0 2 (.st [.i 0, .i 0]) [], [], none⟩,
 ⟨some 4, .mv, [.t 40], none⟩] [5, 29, 40])
 .ret)
 (.seq
 (.region false [⟨some 42, .bin .eql, [.t 29, .c (.i 1)], none⟩,
 ⟨some 41, .mv, [.t 42], none⟩] [29, 42])
 (.cond (.t 41) [41]
 (.region false [⟨some 43, .mv, [.t 5], none⟩,
 ⟨some 44, .bslice 22536 2 1 (.i 0) [0, 1], [.c (.i 0), .c (.i 10)], none⟩,
 ⟨some 45, .mv, [.t 0], none⟩,
 ⟨some 46, .call n_spec_l20Rd_pick 23552, [.t 45, .c (.i 2)], none⟩,
 ⟨some 47, .idxa 1, [.t 44, .t 46], none⟩,
 ⟨some 48, .load 1 false, [.t 47], none⟩,
 ⟨some 49, .idxa 2, [.t 43, .c (.i 0)], none⟩,
 ⟨some 50, .fld 0 1 false, [.t 49], none⟩,
 ⟨none, .store 1, [.t 50, .t 48], none⟩] [43, 44, 45, 46, 47, 48, 49, 50])
 (.region false [⟨some 30, .mv, [.t 5], none⟩,
 ⟨some 31, .bslice 15880 2 1 (.i 0) [0, 1], [.c (.i 0), .c (.i 6)], none⟩,
 ⟨some 32, .mv, [.t 0], none⟩,
 ⟨some 33, .call n_spec_l20Rd_pick 16896, [.t 32, .c (.i 2)], none⟩,
 ⟨some 34, .idxa 1, [.t 31, .t 33], none⟩,
 ⟨some 35, .load 1 false, [.t 34], none⟩,
 ⟨some 36, .idxa 2, [.t 30, .c (.i 0)], none⟩,
 ⟨some 37, .fld 1 1 false, [.t 36], none⟩,
 ⟨none, .store 1, [.t 37, .t 35], none⟩] [30, 31, 32, 33, 34, 35, 36, 37])))))))
 .skip))
 (.seq
 (.region false [⟨some 51, .mv, [.t 5], none⟩,
 ⟨some 4, .mv, [.t 51], none⟩] [5, 51])
 .ret))))) }
/-- spec.l20Groups -/
def F_spec_l20Groups_L0 : LC :=
 (.seq
 (.seq
 (.region false [⟨some 15, .mv, [.t 9], none⟩,
 ⟨some 16, .mv, [.t 7], none⟩,
 ⟨some 17, .len, [.t 16], none⟩,
 ⟨some 18, .bin .lss, [.t 15, .t 17], none⟩] [15, 16, 17])
 (.cond (.t 18) [18]
 .skip
 (.exit 0)))
 (.seq
 (.block 1
 (.seq
 (.seq
 (.region false [⟨some 21, .mv, [.t 8], none⟩,
 ⟨some 22, .len, [.t 21], none⟩,
 ⟨some 23, .bin .eql, [.t 22, .c (.i 0)], none⟩,
 ⟨some 24, .mv, [.t 23], none⟩,
 ⟨some 25, .mv, [.t 0], some (24, false)⟩,
 ⟨some 26, .call n_spec_l20Rd_pick 13312, [.t 25, .c (.i 2)], some (24, false)⟩,
 ⟨some 27, .bin .eql, [.t 26, .c (.i 0)], some (24, false)⟩,
 ⟨some 28, .pick, [.t 24, .c (.b true), .t 27], none⟩] [21, 22, 23, 24, 25, 26, 27])
 (.cond (.t 28) [28]
 (.ghost (.shut 8)
 (.region false [⟨some 29, .mv, [.t 8], none⟩,
 ⟨some 30, .bslice 15373 0 1 (.i 0) [], [], none⟩,
 ⟨some 31, .bslice 15880 1 1 (.sl 1 []) [0], [.t 30], none⟩,
 ⟨some 32, .app 16392 1, [.t 29, .t 31], none⟩,
 ⟨some 8, .mv, [.t 32], none⟩] [29, 30, 31, 32]))
 .skip))
 (.seq
 (.region false [⟨some 33, .mv, [.t 8], none⟩,
 ⟨some 34, .len, [.t 33], none⟩,
 ⟨some 35, .bin .sub, [.t 34, .c (.i 1)], none⟩,
 ⟨some 10, .mv, [.t 35], none⟩] [33, 34, 35])
 (.region true [⟨some 36, .mv, [.t 8], none⟩,
 ⟨some 37, .mv, [.t 10], none⟩,
 ⟨some 38, .mv, [.t 8], none⟩,
 ⟨some 39, .mv, [.t 10], none⟩,
 ⟨some 40, .idxa 1, [.t 38, .t 39], none⟩,
 ⟨some 41, .load 1 false, [.t 40], none⟩,
 ⟨some 42, .mv, [.t 7], none⟩,
 ⟨some 43, .mv, [.t 9], none⟩,
 ⟨some 44, .idxa 1, [.t 42, .t 43], none⟩,
 ⟨some 45, .load 1 false, [.t 44], none⟩,
 ⟨some 46, .bslice 23560 1 1 (.i 0) [0], [.t 45], none⟩,
 ⟨some 47, .app 24072 1, [.t 41, .t 46], none⟩,
 ⟨some 48, .idxa 1, [.t 36, .t 37], none⟩,
 ⟨none, .store 1, [.t 48, .t 47], none⟩] [10, 36, 37, 38, 39, 40, 41, 42, 43, 44, 45, 46, 47, 48]))))
 (.region false [⟨some 19, .mv, [.t 9], none⟩,
 ⟨some 20, .bin .add, [.t 19, .c (.i 1)], none⟩,
 ⟨some 9, .mv, [.t 20], none⟩] [19, 20])))
def F_spec_l20Groups_W0 : LC := .loop F_spec_l20Groups_L0
def F_spec_l20Groups : LF :=
 { nparams := 3, results := [.t 6], body :=
 (.seq
 (.region false [⟨some 6, .newnil 3080, [], none⟩] [6])
 (.seq
 (.region false [⟨some 11, .mv, [.t 0], none⟩,
 ⟨some 12, .mv, [.t 1], none⟩,
 ⟨some 13, .call n_spec_l20Order 6656, [.t 11, .t 12, .c (.i 0)], none⟩,
 ⟨some 7, .mv, [.t 13], none⟩] [1, 11, 12, 13])
 (.seq
 (.region false [⟨some 14, .bslice 7176 0 1 (.sl 1 []) [], [], none⟩,
 ⟨some 8, .mv, [.t 14], none⟩] [14])
 (.seq
 (.seq
 (.region false [⟨some 9, .mv, [.c (.i 0)], none⟩] [])
 (.block 0
 F_spec_l20Groups_W0))
 (.seq
 (.seq
 (.ghost (.shut 8)
 (.region false [⟨some 49, .mv, [.t 0], none⟩,
 ⟨some 50, .mv, [.t 2], none⟩,
 ⟨some 51, .call n_spec_l20Rd_odd 26112, [.t 49, .t 50], none⟩] [2, 7, 9, 49, 50]))
 (.cond (.t 51) [51]
 (.seq
 (.region false [⟨some 52, .mv, [.t 0], none⟩,
 ⟨some 53, .call n_spec_l20Rd_pick 27136, [.t 52, .c (.i 2)], none⟩] [52])
 (.block 2
 (.seq
 (.region false [⟨some 59, .bin .eql, [.t 53, .c (.i 0)], none⟩,
 ⟨some 58, .mv, [.t 59], none⟩] [53, 59])
 (.cond (.t 58) [58]
 (.seq
 (.region false [⟨some 60, .mv, [.t 8], none⟩,
 ⟨some 61, .bslice 31240 0 1 (.i 0) [], [], none⟩,
 ⟨some 62, .bslice 31752 1 1 (.sl 1 []) [0], [.t 61], none⟩,
 ⟨some 63, .app 32264 1, [.t 60, .t 62], none⟩,
 ⟨some 6, .mv, [.t 63], none⟩] [8, 60, 61, 62, 63])
 .ret)
 (.seq
 (.region false [⟨some 54, .mv, [.t 8], none⟩,
 ⟨some 55, .bslice 28168 1 1 (.i 0) [0], [.c (.i 0)], none⟩,
 ⟨some 56, .bslice 28680 1 1 (.sl 1 []) [0], [.t 55], none⟩,
 ⟨some 57, .app 29192 1, [.t 54, .t 56], none⟩,
 ⟨some 6, .mv, [.t 57], none⟩] [8, 54, 55, 56, 57])
 .ret)))))
 .skip))
 (.seq
 (.region false [⟨some 64, .mv, [.t 8], none⟩,
 ⟨some 6, .mv, [.t 64], none⟩] [8, 64])
 .ret)))))) }
/-- impl.manyOk -/
def F_impl_manyOk : LF :=
 { nparams := 1, results := [.t 2], body :=
 (.seq
 (.region false [⟨some 2, .mv, [.c (.b false)], none⟩] [2])
 (.seq
 (.region false [⟨some 3, .mv, [.t 0], none⟩,
 ⟨some 4, .call n_impl_isWithin 2048, [.t 3, .c (.i 1), .c (.i 5)], none⟩,
 ⟨some 2, .mv, [.t 4], none⟩] [0, 3, 4])
 .ret)) }
/-- impl.isWithin -/
def F_impl_isWithin : LF :=
 { nparams := 3, results := [.t 6], body :=
 (.seq
 (.region false [⟨some 6, .mv, [.c (.b false)], none⟩] [6])
 (.seq
 (.region false [⟨some 7, .mv, [.t 1], none⟩,
 ⟨some 8, .mv, [.t 0], none⟩,
 ⟨some 9, .bin .leq, [.t 7, .t 8], none⟩,
 ⟨some 10, .mv, [.t 9], none⟩,
 ⟨some 11, .mv, [.t 0], some (10, true)⟩,
 ⟨some 12, .mv, [.t 2], some (10, true)⟩,
 ⟨some 13, .bin .leq, [.t 11, .t 12], some (10, true)⟩,
 ⟨some 14, .pick, [.t 10, .t 13, .c (.b false)], none⟩,
 ⟨some 6, .mv, [.t 14], none⟩] [0, 1, 2, 7, 8, 9, 10, 11, 12, 13, 14])
 .ret)) }
/-- slices.Backward[[][]int,[]int]$1 -/
def F_slices_Backward_int_int_1_L0 : LC :=
 (.seq
 (.seq
 (.region false [⟨some 7, .mv, [.t 3], none⟩,
 ⟨some 8, .bin .geq, [.t 7, .c (.i 0)], none⟩] [7])
 (.cond (.t 8) [8]
 .skip
 (.exit 0)))
 (.seq
 (.block 1
 (.seq
 (.region false [⟨some 11, .mv, [.t 0], none⟩,
 ⟨some 12, .mv, [.t 3], none⟩,
 ⟨some 13, .load 1 false, [.t 1], none⟩,
 ⟨some 14, .mv, [.t 3], none⟩,
 ⟨some 15, .idxa 1, [.t 13, .t 14], none⟩,
 ⟨some 16, .load 1 false, [.t 15], none⟩,
 ⟨some 17, .calld 8704, [.t 11, .t 12, .t 16], none⟩,
 ⟨some 18, .un .not, [.t 17], none⟩] [11, 12, 13, 14, 15, 16, 17])
 (.cond (.t 18) [18]
 .ret
 .skip)))
 (.region false [⟨some 9, .mv, [.t 3], none⟩,
 ⟨some 10, .bin .sub, [.t 9, .c (.i 1)], none⟩,
 ⟨some 3, .mv, [.t 10], none⟩] [9, 10])))
def F_slices_Backward_int_int_1_W0 : LC := .loop F_slices_Backward_int_int_1_L0
def F_slices_Backward_int_int_1 : LF :=
 { nparams := 2, results := [], body :=
 (.seq
 (.region false [⟨some 4, .load 1 false, [.t 1], none⟩,
 ⟨some 5, .len, [.t 4], none⟩,
 ⟨some 6, .bin .sub, [.t 5, .c (.i 1)], none⟩,
 ⟨some 3, .mv, [.t 6], none⟩] [4, 5, 6])
 (.block 0
 F_slices_Backward_int_int_1_W0)) }
/-- impl.hasTest -/
def F_impl_hasTest : LF :=
 { nparams := 2, results := [.t 4], body :=
 (.seq
 (.region false [⟨some 4, .mv, [.c (.b false)], none⟩] [4])
 (.seq
 (.region false [⟨some 5, .mv, [.t 0], none⟩,
 ⟨some 6, .mv, [.t 1], none⟩,
 ⟨some 7, .bin .shr, [.t 5, .t 6], none⟩,
 ⟨some 8, .bin .and, [.t 7, .c (.i 1)], none⟩,
 ⟨some 9, .bin .eql, [.t 8, .c (.i 1)], none⟩,
 ⟨some 4, .mv, [.t 9], none⟩] [0, 1, 5, 6, 7, 8, 9])
 .ret)) }
/-- spec.l20Rd).odd -/
def F_spec_l20Rd_odd : LF :=
 { nparams := 2, results := [.t 4], body :=
 (.seq
 (.region false [⟨some 4, .mv, [.c (.b false)], none⟩] [4])
 (.seq
 (.region false [⟨some 5, .mv, [.t 1], none⟩,
 ⟨some 6, .bin .gtr, [.t 5, .c (.i 0)], none⟩,
 ⟨some 7, .mv, [.t 6], none⟩,
 ⟨some 8, .mv, [.t 0], some (7, true)⟩,
 ⟨some 9, .mv, [.t 1], some (7, true)⟩,
 ⟨some 10, .call n_spec_l20Rd_pick 5120, [.t 8, .t 9], some (7, true)⟩,
 ⟨some 11, .mv, [.t 1], some (7, true)⟩,
 ⟨some 12, .bin .sub, [.t 11, .c (.i 1)], some (7, true)⟩,
 ⟨some 13, .bin .eql, [.t 10, .t 12], some (7, true)⟩,
 ⟨some 14, .pick, [.t 7, .t 13, .c (.b false)], none⟩,
 ⟨some 4, .mv, [.t 14], none⟩] [1, 5, 6, 7, 8, 9, 10, 11, 12, 13, 14])
 .ret)) }
/-- spec.l20Order -/
def F_spec_l20Order_L0 : LC :=
 (.ghost (.rename 7 5640)
 (.seq
 (.seq
 (.region false [⟨some 12, .mv, [.t 8], none⟩,
 ⟨some 13, .mv, [.t 1], none⟩,
 ⟨some 14, .bin .lss, [.t 12, .t 13], none⟩] [12, 13])
 (.cond (.t 14) [14]
 .skip
 (.exit 0)))
 (.seq
 (.block 1
 (.seq
 (.region false [⟨some 17, .mv, [.t 0], none⟩,
 ⟨some 18, .mv, [.t 7], none⟩,
 ⟨some 19, .len, [.t 18], none⟩,
 ⟨some 20, .bin .add, [.t 19, .c (.i 1)], none⟩,
 ⟨some 21, .call n_spec_l20Rd_pick 10752, [.t 17, .t 20], none⟩,
 ⟨some 9, .mv, [.t 21], none⟩] [17, 18, 19, 20, 21])
 (.seq
 (.region false [⟨some 22, .bslice 11272 0 1 (.i 0) [], [], none⟩,
 ⟨some 23, .mv, [.t 7], none⟩,
 ⟨some 24, .mv, [.t 9], none⟩,
 ⟨some 25, .slice false true 1, [.t 23, .t 24], none⟩,
 ⟨some 26, .app 13320 1, [.t 22, .t 25], none⟩,
 ⟨some 10, .mv, [.t 26], none⟩] [22, 23, 24, 25, 26])
 (.seq
 (.region false [⟨some 27, .mv, [.t 10], none⟩,
 ⟨some 28, .mv, [.t 8], none⟩,
 ⟨some 29, .bslice 14856 1 1 (.i 0) [0], [.t 28], none⟩,
 ⟨some 30, .app 15368 1, [.t 27, .t 29], none⟩,
 ⟨some 10, .mv, [.t 30], none⟩] [27, 28, 29, 30])
 (.region false [⟨some 31, .mv, [.t 10], none⟩,
 ⟨some 32, .mv, [.t 7], none⟩,
 ⟨some 33, .mv, [.t 9], none⟩,
 ⟨some 34, .slice true false 1, [.t 32, .t 33], none⟩,
 ⟨some 35, .app 17928 1, [.t 31, .t 34], none⟩,
 ⟨some 7, .mv, [.t 35], none⟩] [9, 10, 31, 32, 33, 34, 35])))))
 (.region false [⟨some 15, .mv, [.t 8], none⟩,
 ⟨some 16, .bin .add, [.t 15, .c (.i 1)], none⟩,
 ⟨some 8, .mv, [.t 16], none⟩] [15, 16]))))
def F_spec_l20Order_W0 : LC := .loop F_spec_l20Order_L0
def F_spec_l20Order : LF :=
 { nparams := 3, results := [.t 6], body :=
 (.seq
 (.region false [⟨some 6, .newnil 3080, [], none⟩] [6])
 (.seq
 (.region false [⟨some 11, .bslice 5640 0 1 (.i 0) [], [], none⟩,
 ⟨some 7, .mv, [.t 11], none⟩] [11])
 (.seq
 (.seq
 (.region false [⟨some 8, .mv, [.c (.i 0)], none⟩] [])
 (.block 0
 F_spec_l20Order_W0))
 (.seq
 (.seq
 (.region false [⟨some 36, .mv, [.t 0], none⟩,
 ⟨some 37, .mv, [.t 2], none⟩,
 ⟨some 38, .call n_spec_l20Rd_odd 19456, [.t 36, .t 37], none⟩] [1, 2, 8, 36, 37])
 (.cond (.t 38) [38]
 (.seq
 (.region false [⟨some 39, .mv, [.t 0], none⟩,
 ⟨some 40, .call n_spec_l20Rd_pick 20480, [.t 39, .c (.i 2)], none⟩] [39])
 (.block 2
 (.seq
 (.region false [⟨some 52, .bin .eql, [.t 40, .c (.i 0)], none⟩,
 ⟨some 51, .mv, [.t 52], none⟩] [40, 52])
 (.cond (.t 51) [51]
 (.seq
 (.region false [⟨some 53, .mv, [.t 7], none⟩,
 ⟨some 54, .bslice 27656 1 1 (.i 0) [0], [.c (.i 0)], none⟩,
 ⟨some 55, .app 28168 1, [.t 53, .t 54], none⟩,
 ⟨some 6, .mv, [.t 55], none⟩] [7, 53, 54, 55])
 .ret)
 (.seq
 (.region false [⟨some 41, .mv, [.t 7], none⟩,
 ⟨some 42, .len, [.t 41], none⟩,
 ⟨some 43, .bin .gtr, [.t 42, .c (.i 0)], none⟩] [41, 42])
 (.cond (.t 43) [43]
 (.region false [⟨some 44, .mv, [.t 7], none⟩,
 ⟨some 45, .bslice 23048 2 1 (.i 0) [0, 1], [.c (.i 5), .c (.i (-1))], none⟩,
 ⟨some 46, .mv, [.t 0], none⟩,
 ⟨some 47, .call n_spec_l20Rd_pick 24064, [.t 46, .c (.i 2)], none⟩,
 ⟨some 48, .idxa 1, [.t 45, .t 47], none⟩,
 ⟨some 49, .load 1 false, [.t 48], none⟩,
 ⟨some 50, .idxa 1, [.t 44, .c (.i 0)], none⟩,
 ⟨none, .store 1, [.t 50, .t 49], none⟩] [44, 45, 46, 47, 48, 49, 50])
 .skip))))))
 .skip))
 (.seq
 (.region false [⟨some 56, .mv, [.t 7], none⟩,
 ⟨some 6, .mv, [.t 56], none⟩] [7, 56])
 .ret))))) }
def lf : Nat → Option LF
 | 3 => some F_laws_FnRoundAverage
 | 7 => some F_laws_FnRoundOrder
 | 14 => some F_spec_DrawRoundAverage
 | 15 => some F_impl_RoundAverage
 | 16 => some F_spec_RoundAverage
 | 17 => some F_laws_alive
 | 18 => some F_laws_power
 | 19 => some F_impl_RowAverage
 | 25 => some F_impl_GroupsOk
 | 51 => some F_spec_l20Open
 | 52 => some F_spec_l20Grouped
 | 53 => some F_spec_l20Rd_pick
 | 54 => some F_impl_TestsOk
 | 55 => some F_impl_feeOk
 | 56 => some F_slices_Backward_int_int
 | 57 => some F_impl_averageOfRound
 | 58 => some F_impl_setOf
 | 59 => some F_spec_TestsOk
 | 60 => some F_spec_GroupsOk
 | 61 => some F_spec_l1In
 | 62 => some F_spec_l1Power
 | 63 => some F_impl_OrderOk
 | 64 => some F_impl_rowOk
 | 65 => some F_impl_wholeOf
 | 66 => some F_impl_endChance
 | 67 => some F_spec_l20Tests
 | 73 => some F_spec_l20Groups
 | 74 => some F_impl_manyOk
 | 75 => some F_impl_isWithin
 | 92 => some F_slices_Backward_int_int_1
 | 93 => some F_impl_hasTest
 | 94 => some F_spec_l20Rd_odd
 | 97 => some F_spec_l20Order
 | _ => none
theorem w_laws_FnRoundAverage_0 (S : LS) : ex lf F_laws_FnRoundAverage_W0 S = match ex lf F_laws_FnRoundAverage_L0 S with | some (.normal, S1) => ex lf F_laws_FnRoundAverage_W0 S1 | r => r := ex_loop lf F_laws_FnRoundAverage_L0 S
theorem w_laws_FnRoundOrder_1 (S : LS) : ex lf F_laws_FnRoundOrder_W1 S = match ex lf F_laws_FnRoundOrder_L1 S with | some (.normal, S1) => ex lf F_laws_FnRoundOrder_W1 S1 | r => r := ex_loop lf F_laws_FnRoundOrder_L1 S
theorem w_laws_FnRoundOrder_0 (S : LS) : ex lf F_laws_FnRoundOrder_W0 S = match ex lf F_laws_FnRoundOrder_L0 S with | some (.normal, S1) => ex lf F_laws_FnRoundOrder_W0 S1 | r => r := ex_loop lf F_laws_FnRoundOrder_L0 S
theorem w_spec_RoundAverage_1 (S : LS) : ex lf F_spec_RoundAverage_W1 S = match ex lf F_spec_RoundAverage_L1 S with | some (.normal, S1) => ex lf F_spec_RoundAverage_W1 S1 | r => r := ex_loop lf F_spec_RoundAverage_L1 S
theorem w_spec_RoundAverage_0 (S : LS) : ex lf F_spec_RoundAverage_W0 S = match ex lf F_spec_RoundAverage_L0 S with | some (.normal, S1) => ex lf F_spec_RoundAverage_W0 S1 | r => r := ex_loop lf F_spec_RoundAverage_L0 S
theorem w_laws_power_0 (S : LS) : ex lf F_laws_power_W0 S = match ex lf F_laws_power_L0 S with | some (.normal, S1) => ex lf F_laws_power_W0 S1 | r => r := ex_loop lf F_laws_power_L0 S
theorem w_impl_RowAverage_0 (S : LS) : ex lf F_impl_RowAverage_W0 S = match ex lf F_impl_RowAverage_L0 S with | some (.normal, S1) => ex lf F_impl_RowAverage_W0 S1 | r => r := ex_loop lf F_impl_RowAverage_L0 S
theorem w_impl_GroupsOk_0 (S : LS) : ex lf F_impl_GroupsOk_W0 S = match ex lf F_impl_GroupsOk_L0 S with | some (.normal, S1) => ex lf F_impl_GroupsOk_W0 S1 | r => r := ex_loop lf F_impl_GroupsOk_L0 S
theorem w_impl_TestsOk_0 (S : LS) : ex lf F_impl_TestsOk_W0 S = match ex lf F_impl_TestsOk_L0 S with | some (.normal, S1) => ex lf F_impl_TestsOk_W0 S1 | r => r := ex_loop lf F_impl_TestsOk_L0 S
theorem w_impl_averageOfRound_0 (S : LS) : ex lf F_impl_averageOfRound_W0 S = match ex lf F_impl_averageOfRound_L0 S with | some (.normal, S1) => ex lf F_impl_averageOfRound_W0 S1 | r => r := ex_loop lf F_impl_averageOfRound_L0 S
theorem w_impl_setOf_0 (S : LS) : ex lf F_impl_setOf_W0 S = match ex lf F_impl_setOf_L0 S with | some (.normal, S1) => ex lf F_impl_setOf_W0 S1 | r => r := ex_loop lf F_impl_setOf_L0 S
theorem w_spec_TestsOk_0 (S : LS) : ex lf F_spec_TestsOk_W0 S = match ex lf F_spec_TestsOk_L0 S with | some (.normal, S1) => ex lf F_spec_TestsOk_W0 S1 | r => r := ex_loop lf F_spec_TestsOk_L0 S
theorem w_spec_GroupsOk_1 (S : LS) : ex lf F_spec_GroupsOk_W1 S = match ex lf F_spec_GroupsOk_L1 S with | some (.normal, S1) => ex lf F_spec_GroupsOk_W1 S1 | r => r := ex_loop lf F_spec_GroupsOk_L1 S
theorem w_spec_GroupsOk_0 (S : LS) : ex lf F_spec_GroupsOk_W0 S = match ex lf F_spec_GroupsOk_L0 S with | some (.normal, S1) => ex lf F_spec_GroupsOk_W0 S1 | r => r := ex_loop lf F_spec_GroupsOk_L0 S
theorem w_spec_l1Power_0 (S : LS) : ex lf F_spec_l1Power_W0 S = match ex lf F_spec_l1Power_L0 S with | some (.normal, S1) => ex lf F_spec_l1Power_W0 S1 | r => r := ex_loop lf F_spec_l1Power_L0 S
theorem w_impl_OrderOk_0 (S : LS) : ex lf F_impl_OrderOk_W0 S = match ex lf F_impl_OrderOk_L0 S with | some (.normal, S1) => ex lf F_impl_OrderOk_W0 S1 | r => r := ex_loop lf F_impl_OrderOk_L0 S
theorem w_impl_wholeOf_0 (S : LS) : ex lf F_impl_wholeOf_W0 S = match ex lf F_impl_wholeOf_L0 S with | some (.normal, S1) => ex lf F_impl_wholeOf_W0 S1 | r => r := ex_loop lf F_impl_wholeOf_L0 S
theorem w_spec_l20Tests_0 (S : LS) : ex lf F_spec_l20Tests_W0 S = match ex lf F_spec_l20Tests_L0 S with | some (.normal, S1) => ex lf F_spec_l20Tests_W0 S1 | r => r := ex_loop lf F_spec_l20Tests_L0 S
theorem w_spec_l20Groups_0 (S : LS) : ex lf F_spec_l20Groups_W0 S = match ex lf F_spec_l20Groups_L0 S with | some (.normal, S1) => ex lf F_spec_l20Groups_W0 S1 | r => r := ex_loop lf F_spec_l20Groups_L0 S
theorem w_slices_Backward_int_int_1_0 (S : LS) : ex lf F_slices_Backward_int_int_1_W0 S = match ex lf F_slices_Backward_int_int_1_L0 S with | some (.normal, S1) => ex lf F_slices_Backward_int_int_1_W0 S1 | r => r := ex_loop lf F_slices_Backward_int_int_1_L0 S
theorem w_spec_l20Order_0 (S : LS) : ex lf F_spec_l20Order_W0 S = match ex lf F_spec_l20Order_L0 S with | some (.normal, S1) => ex lf F_spec_l20Order_W0 S1 | r => r := ex_loop lf F_spec_l20Order_L0 S
end Zz
