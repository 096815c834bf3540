/- The functions of the program, read as data. No conditions. -/
import Derived.Test.YtkokclaabaepaaaLgC
set_option linter.unusedSectionVars false
set_option linter.unusedVariables false
set_option linter.unusedSimpArgs false
namespace Zz
open Go.Lg
def n_laws_FnExactRoundAverage : Nat := 8
def n_impl_RoundAverage : Nat := 15
def n_spec_RoundAverage : Nat := 16
def n_impl_GroupsOk : Nat := 25
def n_laws_szTestS : Nat := 30
def n_laws_szIntSS : Nat := 31
def n_laws_toTestS : Nat := 32
def n_laws_toIntSS : Nat := 33
def n_laws_eqTestS : Nat := 34
def n_laws_eqIntSS : Nat := 35
def n_laws_eqIntS : Nat := 48
def n_impl_TestsOk : Nat := 54
def n_impl_feeOk : Nat := 55
def n_slices_Backward_int_int : Nat := 56
def n_impl_averageOfRound : Nat := 57
def n_impl_setOf : Nat := 58
def n_spec_TestsOk : Nat := 59
def n_spec_GroupsOk : Nat := 60
def n_spec_l1In : Nat := 61
def n_spec_l1Power : Nat := 62
def n_impl_OrderOk : Nat := 63
def n_impl_wholeOf : Nat := 65
def n_impl_manyOk : Nat := 74
def n_impl_isWithin : Nat := 75
def n_laws_szIntS : Nat := 81
def n_laws_toTest : Nat := 82
def n_laws_toIntS : Nat := 83
def n_laws_eqTest : Nat := 84
def n_slices_Backward_int_int_1 : Nat := 92
def n_impl_hasTest : Nat := 93
def bkFs : List Nat := [n_slices_Backward_int_int_1]
instance : GL := ⟨[], [36, 37, 42, 49], ["l4_orders.go:82", "l10_rounds.go:90"], [], [(79, [0]), (98, [0, 2]), (100, [0]), (107, [0, 2])], [], ["l20_draw.go:447"], bkFs⟩
/-- laws.FnExactRoundAverage -/
def F_laws_FnExactRoundAverage : LF :=
 { nparams := 3, results := [.t 6], body :=
 (.seq
 (.region false [⟨some 6, .mv, [.c (.b false)], none⟩] [6])
 (.seq
 (.region false [⟨some 7, .mv, [.c (.i 1048576)], none⟩] [])
 (.seq
 (.region false [⟨some 12, .mv, [.t 0], none⟩,
 ⟨some 13, .mv, [.t 7], none⟩,
 ⟨some 14, .call n_laws_szTestS 7168, [.t 12, .t 13], none⟩,
 ⟨some 7, .mv, [.t 14], none⟩] [12, 13, 14])
 (.seq
 (.seq
 (.region false [⟨some 15, .mv, [.t 7], none⟩,
 ⟨some 16, .bin .lss, [.t 15, .c (.i 0)], none⟩] [15])
 (.cond (.t 16) [16]
 (.seq
 (.region false [⟨some 6, .mv, [.c (.b true)], none⟩] [0, 1, 2, 7])
 .ret)
 .skip))
 (.seq
 (.region false [⟨some 17, .mv, [.t 1], none⟩,
 ⟨some 18, .mv, [.t 7], none⟩,
 ⟨some 19, .call n_laws_szIntSS 9728, [.t 17, .t 18], none⟩,
 ⟨some 7, .mv, [.t 19], none⟩] [17, 18, 19])
 (.seq
 (.seq
 (.region false [⟨some 20, .mv, [.t 7], none⟩,
 ⟨some 21, .bin .lss, [.t 20, .c (.i 0)], none⟩] [7, 20])
 (.cond (.t 21) [21]
 (.seq
 (.region false [⟨some 6, .mv, [.c (.b true)], none⟩] [0, 1, 2])
 .ret)
 .skip))
 (.seq
 (.region false [⟨some 22, .mv, [.t 0], none⟩,
 ⟨some 23, .call n_laws_toTestS 11776, [.t 22], none⟩,
 ⟨some 24, .mv, [.t 1], none⟩,
 ⟨some 25, .call n_laws_toIntSS 12800, [.t 24], none⟩,
 ⟨some 26, .mv, [.t 2], none⟩,
 ⟨some 27, .call n_spec_RoundAverage 13824, [.t 23, .t 25, .t 26], none⟩,
 ⟨some 8, .mv, [.t 27], none⟩] [22, 23, 24, 25, 26, 27])
 (.seq
 (.region false [⟨some 28, .mv, [.t 0], none⟩,
 ⟨some 29, .call n_laws_toTestS 14848, [.t 28], none⟩,
 ⟨some 9, .mv, [.t 29], none⟩] [28, 29])
 (.seq
 (.region false [⟨some 30, .mv, [.t 1], none⟩,
 ⟨some 31, .call n_laws_toIntSS 15872, [.t 30], none⟩,
 ⟨some 10, .mv, [.t 31], none⟩] [30, 31])
 (.seq
 (.region false [⟨some 32, .mv, [.t 9], none⟩,
 ⟨some 33, .mv, [.t 10], none⟩,
 ⟨some 34, .mv, [.t 2], none⟩,
 ⟨some 35, .call n_impl_RoundAverage 17920, [.t 32, .t 33, .t 34], none⟩,
 ⟨some 11, .mv, [.t 35], none⟩] [2, 32, 33, 34, 35])
 (.seq
 (.seq
 (.region false [⟨some 36, .mv, [.t 11], none⟩,
 ⟨some 37, .mv, [.t 8], none⟩,
 ⟨some 38, .bin .neq, [.t 36, .t 37], none⟩] [8, 11, 36, 37])
 (.cond (.t 38) [38]
 (.seq
 (.region false [⟨some 6, .mv, [.c (.b false)], none⟩] [0, 1, 9, 10])
 .ret)
 .skip))
 (.seq
 (.seq
 (.region false [⟨some 39, .mv, [.t 9], none⟩,
 ⟨some 40, .mv, [.t 0], none⟩,
 ⟨some 41, .call n_laws_toTestS 20992, [.t 40], none⟩,
 ⟨some 42, .call n_laws_eqTestS 21504, [.t 39, .t 41], none⟩,
 ⟨some 43, .un .not, [.t 42], none⟩] [0, 9, 39, 40, 41, 42])
 (.cond (.t 43) [43]
 (.seq
 (.region false [⟨some 6, .mv, [.c (.b false)], none⟩] [1, 10])
 .ret)
 .skip))
 (.seq
 (.seq
 (.region false [⟨some 44, .mv, [.t 10], none⟩,
 ⟨some 45, .mv, [.t 1], none⟩,
 ⟨some 46, .call n_laws_toIntSS 23552, [.t 45], none⟩,
 ⟨some 47, .call n_laws_eqIntSS 24064, [.t 44, .t 46], none⟩,
 ⟨some 48, .un .not, [.t 47], none⟩] [1, 10, 44, 45, 46, 47])
 (.cond (.t 48) [48]
 (.seq
 (.region false [⟨some 6, .mv, [.c (.b false)], none⟩] [])
 .ret)
 .skip))
 (.seq
 (.region false [⟨some 6, .mv, [.c (.b true)], none⟩] [])
 .ret)))))))))))))) }
/-- impl.RoundAverage -/
def F_impl_RoundAverage_R0 : LC :=
 (.block 1
 (.seq
 (.region false [⟨some 30, .load 1 false, [.t 8], none⟩,
 ⟨some 31, .mv, [.t 10], none⟩,
 ⟨some 32, .len, [.t 31], none⟩,
 ⟨some 33, .bin .add, [.t 30, .t 32], none⟩,
 ⟨none, .store 1, [.t 8, .t 33], none⟩] [30, 31, 32, 33])
 (.region true [⟨some 34, .load 1 false, [.t 3], none⟩,
 ⟨some 35, .mv, [.t 10], none⟩,
 ⟨some 36, .call n_impl_setOf 18432, [.t 35], none⟩,
 ⟨some 37, .load 1 false, [.t 5], none⟩,
 ⟨some 38, .load 1 false, [.t 8], none⟩,
 ⟨some 39, .load 1 false, [.t 7], none⟩,
 ⟨some 40, .call n_impl_averageOfRound 20480, [.t 34, .t 36, .t 37, .t 38, .t 39], none⟩,
 ⟨none, .store 1, [.t 7, .t 40], none⟩] [34, 35, 36, 37, 38, 39, 40])))
def F_impl_RoundAverage_B0 : LC := .back bkFs 27 28 29 [3, 5, 7, 8, 10] [⟨some 10, .mv, [.t 29], none⟩] F_impl_RoundAverage_R0
def F_impl_RoundAverage : LF :=
 { nparams := 3, results := [.t 6], body :=
 (.seq
 (.region false [⟨some 3, .box 1544, [.t 0], none⟩,
 ⟨some 5, .box 2568, [.t 2], none⟩,
 ⟨some 6, .mv, [.c (.i 0)], none⟩] [0, 2, 6])
 (.ghost (.close_ 3)
(.ghost (.close_ 5)
 (.seq
 (.seq
 (.region false [⟨some 11, .load 1 false, [.t 3], none⟩,
 ⟨some 12, .call n_impl_TestsOk 6144, [.t 11], none⟩,
 ⟨some 13, .un .not, [.t 12], none⟩,
 ⟨some 14, .mv, [.t 13], none⟩,
 ⟨some 15, .load 1 false, [.t 3], some (14, false)⟩,
 ⟨some 16, .len, [.t 15], some (14, false)⟩,
 ⟨some 17, .mv, [.t 1], some (14, false)⟩,
 ⟨some 18, .call n_impl_GroupsOk 9216, [.t 16, .t 17], some (14, false)⟩,
 ⟨some 19, .un .not, [.t 18], some (14, false)⟩,
 ⟨some 20, .pick, [.t 14, .c (.b true), .t 19], none⟩,
 ⟨some 21, .mv, [.t 20], none⟩,
 ⟨some 22, .load 1 false, [.t 5], some (21, false)⟩,
 ⟨some 23, .call n_impl_feeOk 11776, [.t 22], some (21, false)⟩,
 ⟨some 24, .un .not, [.t 23], some (21, false)⟩,
 ⟨some 25, .pick, [.t 21, .c (.b true), .t 24], none⟩] [11, 12, 13, 14, 15, 16, 17, 18, 19, 20, 21, 22, 23, 24])
 (.cond (.t 25) [25]
 (.seq
 (.region false [⟨some 6, .mv, [.c (.i (-1))], none⟩] [1, 3, 5])
 .ret)
 .skip))
 (.seq
 (.region false [⟨some 7, .alloc 3592 (.i 0), [], none⟩,
 ⟨some 8, .alloc 4104 (.i 0), [], none⟩,
 ⟨none, .store 1, [.t 7, .c (.i 0)], none⟩,
 ⟨none, .store 1, [.t 8, .c (.i 0)], none⟩] [])
 (.seq
 (.seq
 (.region false [⟨some 26, .mv, [.t 1], none⟩,
 ⟨some 27, .call n_slices_Backward_int_int 13824, [.t 26], none⟩] [1, 26])
 (.block 0
 F_impl_RoundAverage_B0))
 (.seq
 (.region false [⟨some 41, .load 1 false, [.t 7], none⟩,
 ⟨some 6, .mv, [.t 41], none⟩] [3, 5, 7, 8, 27, 41])
 .ret))))))) }
/-- spec.RoundAverage -/
def F_spec_RoundAverage_L1 : LC :=
 (.seq
 (.seq
 (.region false [⟨some 39, .mv, [.t 12], none⟩,
 ⟨some 40, .mv, [.t 1], none⟩,
 ⟨some 41, .mv, [.t 9], none⟩,
 ⟨some 42, .idxa 1, [.t 40, .t 41], none⟩,
 ⟨some 43, .load 1 false, [.t 42], none⟩,
 ⟨some 44, .len, [.t 43], none⟩,
 ⟨some 45, .bin .lss, [.t 39, .t 44], none⟩] [39, 40, 41, 42, 43, 44])
 (.cond (.t 45) [45]
 .skip
 (.exit 2)))
 (.seq
 (.block 3
 (.seq
 (.region false [⟨some 48, .mv, [.t 10], none⟩,
 ⟨some 49, .mv, [.t 0], none⟩,
 ⟨some 50, .mv, [.t 1], none⟩,
 ⟨some 51, .mv, [.t 9], none⟩,
 ⟨some 52, .idxa 1, [.t 50, .t 51], none⟩,
 ⟨some 53, .load 1 false, [.t 52], none⟩,
 ⟨some 54, .mv, [.t 12], none⟩,
 ⟨some 55, .idxa 1, [.t 53, .t 54], none⟩,
 ⟨some 56, .load 1 false, [.t 55], none⟩,
 ⟨some 57, .idxa 2, [.t 49, .t 56], none⟩,
 ⟨some 58, .fld 0 1 false, [.t 57], none⟩,
 ⟨some 59, .load 1 false, [.t 58], none⟩,
 ⟨some 60, .bin .add, [.t 48, .t 59], none⟩,
 ⟨some 10, .mv, [.t 60], none⟩] [48, 49, 50, 51, 52, 53, 54, 55, 56, 57, 58, 59, 60])
 (.region false [⟨some 61, .mv, [.t 11], none⟩,
 ⟨some 62, .bin .quo, [.t 61, .c (.i 6)], none⟩,
 ⟨some 63, .mv, [.t 0], none⟩,
 ⟨some 64, .mv, [.t 1], none⟩,
 ⟨some 65, .mv, [.t 9], none⟩,
 ⟨some 66, .idxa 1, [.t 64, .t 65], none⟩,
 ⟨some 67, .load 1 false, [.t 66], none⟩,
 ⟨some 68, .mv, [.t 12], none⟩,
 ⟨some 69, .idxa 1, [.t 67, .t 68], none⟩,
 ⟨some 70, .load 1 false, [.t 69], none⟩,
 ⟨some 71, .idxa 2, [.t 63, .t 70], none⟩,
 ⟨some 72, .fld 1 1 false, [.t 71], none⟩,
 ⟨some 73, .load 1 false, [.t 72], none⟩,
 ⟨some 74, .bin .mul, [.t 62, .t 73], none⟩,
 ⟨some 11, .mv, [.t 74], none⟩] [61, 62, 63, 64, 65, 66, 67, 68, 69, 70, 71, 72, 73, 74])))
 (.region false [⟨some 46, .mv, [.t 12], none⟩,
 ⟨some 47, .bin .add, [.t 46, .c (.i 1)], none⟩,
 ⟨some 12, .mv, [.t 47], none⟩] [46, 47])))
def F_spec_RoundAverage_W1 : LC := .loop F_spec_RoundAverage_L1
def F_spec_RoundAverage_L0 : LC :=
 (.seq
 (.seq
 (.region false [⟨some 31, .mv, [.t 9], none⟩,
 ⟨some 32, .mv, [.t 1], none⟩,
 ⟨some 33, .len, [.t 32], none⟩,
 ⟨some 34, .bin .lss, [.t 31, .t 33], none⟩] [31, 32, 33])
 (.cond (.t 34) [34]
 .skip
 (.exit 0)))
 (.seq
 (.block 1
 (.seq
 (.region false [⟨some 37, .mv, [.t 2], none⟩,
 ⟨some 10, .mv, [.t 37], none⟩] [37])
 (.seq
 (.region false [⟨some 38, .mv, [.t 8], none⟩,
 ⟨some 11, .mv, [.t 38], none⟩] [38])
 (.seq
 (.seq
 (.region false [⟨some 12, .mv, [.c (.i 0)], none⟩] [])
 (.block 2
 F_spec_RoundAverage_W1))
 (.seq
 (.region false [⟨some 75, .mv, [.t 7], none⟩,
 ⟨some 76, .mv, [.t 10], none⟩,
 ⟨some 77, .mv, [.t 8], none⟩,
 ⟨some 78, .bin .mul, [.t 76, .t 77], none⟩,
 ⟨some 79, .bin .add, [.t 75, .t 78], none⟩,
 ⟨some 7, .mv, [.t 79], none⟩] [8, 10, 12, 75, 76, 77, 78, 79])
 (.region false [⟨some 80, .mv, [.t 11], none⟩,
 ⟨some 8, .mv, [.t 80], none⟩] [11, 80]))))))
 (.region false [⟨some 35, .mv, [.t 9], none⟩,
 ⟨some 36, .bin .add, [.t 35, .c (.i 1)], none⟩,
 ⟨some 9, .mv, [.t 36], none⟩] [35, 36])))
def F_spec_RoundAverage_W0 : LC := .loop F_spec_RoundAverage_L0
def F_spec_RoundAverage : LF :=
 { nparams := 3, results := [.t 6], body :=
 (.seq
 (.region false [⟨some 6, .mv, [.c (.i 0)], none⟩] [6])
 (.seq
 (.seq
 (.region false [⟨some 13, .mv, [.t 0], none⟩,
 ⟨some 14, .call n_spec_TestsOk 7168, [.t 13], none⟩,
 ⟨some 15, .un .not, [.t 14], none⟩,
 ⟨some 16, .mv, [.t 15], none⟩,
 ⟨some 17, .mv, [.t 0], some (16, false)⟩,
 ⟨some 18, .len, [.t 17], some (16, false)⟩,
 ⟨some 19, .mv, [.t 1], some (16, false)⟩,
 ⟨some 20, .call n_spec_GroupsOk 10240, [.t 18, .t 19], some (16, false)⟩,
 ⟨some 21, .un .not, [.t 20], some (16, false)⟩,
 ⟨some 22, .pick, [.t 16, .c (.b true), .t 21], none⟩,
 ⟨some 23, .mv, [.t 22], none⟩,
 ⟨some 24, .mv, [.t 2], some (23, false)⟩,
 ⟨some 25, .call n_spec_l1In 12800, [.t 24, .c (.i 0), .c (.i 20)], some (23, false)⟩,
 ⟨some 26, .un .not, [.t 25], some (23, false)⟩,
 ⟨some 27, .pick, [.t 23, .c (.b true), .t 26], none⟩] [13, 14, 15, 16, 17, 18, 19, 20, 21, 22, 23, 24, 25, 26])
 (.cond (.t 27) [27]
 (.seq
 (.region false [⟨some 6, .mv, [.c (.i (-1))], none⟩] [0, 1, 2])
 .ret)
 .skip))
 (.seq
 (.region false [⟨some 7, .mv, [.c (.i 0)], none⟩] [])
 (.seq
 (.region false [⟨some 28, .mv, [.t 0], none⟩,
 ⟨some 29, .len, [.t 28], none⟩,
 ⟨some 30, .call n_spec_l1Power 15360, [.t 29], none⟩,
 ⟨some 8, .mv, [.t 30], none⟩] [28, 29, 30])
 (.seq
 (.seq
 (.region false [⟨some 9, .mv, [.c (.i 0)], none⟩] [])
 (.block 0
 F_spec_RoundAverage_W0))
 (.seq
 (.region false [⟨some 81, .mv, [.t 7], none⟩,
 ⟨some 6, .mv, [.t 81], none⟩] [0, 1, 2, 7, 8, 9, 81])
 .ret)))))) }
/-- impl.GroupsOk -/
def F_impl_GroupsOk_L0 : LC :=
 (.seq
 (.region false [⟨some 14, .bin .lss, [.t 13, .t 12], none⟩] [])
 (.seq
 (.cond (.t 14) [14]
 .skip
 (.exit 0))
 (.seq
 (.block 1
 (.seq
 (.region false [⟨some 15, .idxa 1, [.t 11, .t 13], none⟩,
 ⟨some 16, .load 1 false, [.t 15], none⟩,
 ⟨some 7, .mv, [.t 16], none⟩] [15, 16])
 (.seq
 (.seq
 (.region false [⟨some 17, .mv, [.t 7], none⟩,
 ⟨some 18, .len, [.t 17], none⟩,
 ⟨some 19, .mv, [.t 0], none⟩,
 ⟨some 20, .mv, [.t 5], none⟩,
 ⟨some 21, .len, [.t 20], none⟩,
 ⟨some 22, .bin .sub, [.t 19, .t 21], none⟩,
 ⟨some 23, .call n_impl_isWithin 11776, [.t 18, .c (.i 1), .t 22], none⟩,
 ⟨some 24, .un .not, [.t 23], none⟩] [17, 18, 19, 20, 21, 22, 23])
 (.cond (.t 24) [24]
 (.seq
 (.region false [⟨some 4, .mv, [.c (.b false)], none⟩] [0, 5, 7, 11, 12, 13])
 .ret)
 .skip))
 (.region false [⟨some 25, .mv, [.t 5], none⟩,
 ⟨some 26, .mv, [.t 7], none⟩,
 ⟨some 27, .app 13832 1, [.t 25, .t 26], none⟩,
 ⟨some 5, .mv, [.t 27], none⟩] [7, 25, 26, 27]))))
 (.region false [⟨some 28, .bin .add, [.t 13, .c (.i 1)], none⟩,
 ⟨some 13, .mv, [.t 28], none⟩] [28]))))
def F_impl_GroupsOk_W0 : LC := .loop F_impl_GroupsOk_L0
def F_impl_GroupsOk : LF :=
 { nparams := 2, results := [.t 4], body :=
 (.seq
 (.region false [⟨some 4, .mv, [.c (.b false)], none⟩] [4])
 (.seq
 (.seq
 (.region false [⟨some 8, .mv, [.t 0], none⟩,
 ⟨some 9, .call n_impl_manyOk 4608, [.t 8], none⟩,
 ⟨some 10, .un .not, [.t 9], none⟩] [8, 9])
 (.cond (.t 10) [10]
 (.seq
 (.region false [⟨some 4, .mv, [.c (.b false)], none⟩] [0, 1])
 .ret)
 .skip))
 (.seq
 (.region false [⟨some 5, .newnil 2568, [], none⟩] [])
 (.seq
 (.seq
 (.region false [⟨some 11, .mv, [.t 1], none⟩,
 ⟨some 12, .len, [.t 11], none⟩,
 ⟨some 13, .mv, [.c (.i 0)], none⟩] [1])
 (.block 0
 F_impl_GroupsOk_W0))
 (.seq
 (.region false [⟨some 29, .mv, [.t 0], none⟩,
 ⟨some 30, .mv, [.t 5], none⟩,
 ⟨some 31, .call n_impl_OrderOk 15872, [.t 29, .t 30], none⟩,
 ⟨some 4, .mv, [.t 31], none⟩] [0, 5, 11, 12, 13, 29, 30, 31])
 .ret))))) }
/-- laws.szTestS -/
def F_laws_szTestS : LF :=
 { nparams := 2, results := [.t 4], body :=
 (.seq
 (.region false [⟨some 4, .mv, [.c (.i 0)], none⟩] [4])
 (.seq
 (.region false [⟨some 5, .mv, [.t 1], none⟩,
 ⟨some 6, .mv, [.t 0], none⟩,
 ⟨some 7, .len, [.t 6], none⟩,
 ⟨some 8, .bin .sub, [.t 5, .t 7], none⟩,
 ⟨some 1, .mv, [.t 8], none⟩] [0, 5, 6, 7, 8])
 (.seq
 (.seq
 (.region false [⟨some 9, .mv, [.t 1], none⟩,
 ⟨some 10, .bin .lss, [.t 9, .c (.i 0)], none⟩] [9])
 (.cond (.t 10) [10]
 (.seq
 (.region false [⟨some 4, .mv, [.c (.i (-1))], none⟩] [1])
 .ret)
 .skip))
 (.seq
 (.region false [⟨some 11, .mv, [.t 1], none⟩,
 ⟨some 4, .mv, [.t 11], none⟩] [1, 11])
 .ret)))) }
/-- laws.szIntSS -/
def F_laws_szIntSS_L0 : LC :=
 (.seq
 (.seq
 (.region false [⟨some 12, .mv, [.t 5], none⟩,
 ⟨some 13, .mv, [.t 0], none⟩,
 ⟨some 14, .len, [.t 13], none⟩,
 ⟨some 15, .bin .lss, [.t 12, .t 14], none⟩] [12, 13, 14])
 (.cond (.t 15) [15]
 .skip
 (.exit 0)))
 (.seq
 (.block 1
 (.seq
 (.region false [⟨some 18, .mv, [.t 0], none⟩,
 ⟨some 19, .mv, [.t 5], none⟩,
 ⟨some 20, .idxa 1, [.t 18, .t 19], none⟩,
 ⟨some 21, .load 1 false, [.t 20], none⟩,
 ⟨some 22, .mv, [.t 1], none⟩,
 ⟨some 23, .call n_laws_szIntS 11776, [.t 21, .t 22], none⟩,
 ⟨some 1, .mv, [.t 23], none⟩] [18, 19, 20, 21, 22, 23])
 (.seq
 (.region false [⟨some 24, .mv, [.t 1], none⟩,
 ⟨some 25, .bin .lss, [.t 24, .c (.i 0)], none⟩] [24])
 (.cond (.t 25) [25]
 (.seq
 (.region false [⟨some 4, .mv, [.c (.i (-1))], none⟩] [0, 1, 5])
 .ret)
 .skip))))
 (.region false [⟨some 16, .mv, [.t 5], none⟩,
 ⟨some 17, .bin .add, [.t 16, .c (.i 1)], none⟩,
 ⟨some 5, .mv, [.t 17], none⟩] [16, 17])))
def F_laws_szIntSS_W0 : LC := .loop F_laws_szIntSS_L0
def F_laws_szIntSS : LF :=
 { nparams := 2, results := [.t 4], body :=
 (.seq
 (.region false [⟨some 4, .mv, [.c (.i 0)], none⟩] [4])
 (.seq
 (.region false [⟨some 6, .mv, [.t 1], none⟩,
 ⟨some 7, .mv, [.t 0], none⟩,
 ⟨some 8, .len, [.t 7], none⟩,
 ⟨some 9, .bin .sub, [.t 6, .t 8], none⟩,
 ⟨some 1, .mv, [.t 9], none⟩] [6, 7, 8, 9])
 (.seq
 (.seq
 (.region false [⟨some 10, .mv, [.t 1], none⟩,
 ⟨some 11, .bin .lss, [.t 10, .c (.i 0)], none⟩] [10])
 (.cond (.t 11) [11]
 (.seq
 (.region false [⟨some 4, .mv, [.c (.i (-1))], none⟩] [0, 1])
 .ret)
 .skip))
 (.seq
 (.seq
 (.region false [⟨some 5, .mv, [.c (.i 0)], none⟩] [])
 (.block 0
 F_laws_szIntSS_W0))
 (.seq
 (.region false [⟨some 26, .mv, [.t 1], none⟩,
 ⟨some 4, .mv, [.t 26], none⟩] [0, 1, 5, 26])
 .ret))))) }
/-- laws.toTestS -/
def F_laws_toTestS_L0 : LC :=
 (.seq
 (.seq
 (.region false [⟨some 8, .mv, [.t 4], none⟩,
 ⟨some 9, .mv, [.t 0], none⟩,
 ⟨some 10, .len, [.t 9], none⟩,
 ⟨some 11, .bin .lss, [.t 8, .t 10], none⟩] [8, 9, 10])
 (.cond (.t 11) [11]
 .skip
 (.exit 0)))
 (.seq
 (.block 1
 (.region false [⟨some 14, .mv, [.t 3], none⟩,
 ⟨some 15, .mv, [.t 4], none⟩,
 ⟨some 16, .mv, [.t 0], none⟩,
 ⟨some 17, .mv, [.t 4], none⟩,
 ⟨some 18, .idxa 2, [.t 16, .t 17], none⟩,
 ⟨some 19, .load 2 true, [.t 18], none⟩,
 ⟨some 20, .call n_laws_toTest 10240, [.t 19], none⟩,
 ⟨some 21, .idxa 2, [.t 14, .t 15], none⟩,
 ⟨none, .store 2, [.t 21, .t 20], none⟩] [14, 15, 16, 17, 18, 19, 20, 21]))
 (.region false [⟨some 12, .mv, [.t 4], none⟩,
 ⟨some 13, .bin .add, [.t 12, .c (.i 1)], none⟩,
 ⟨some 4, .mv, [.t 13], none⟩] [12, 13])))
def F_laws_toTestS_W0 : LC := .loop F_laws_toTestS_L0
def F_laws_toTestS : LF :=
 { nparams := 1, results := [.t 2], body :=
 (.seq
 (.region false [⟨some 2, .newnil 1040, [], none⟩] [2])
 (.seq
 (.region false [⟨some 5, .mv, [.t 0], none⟩,
 ⟨some 6, .len, [.t 5], none⟩,
 ⟨some 7, .make 3600 2 (.st [.i 0, .i 0]), [.t 6, .t 6], none⟩,
 ⟨some 3, .mv, [.t 7], none⟩] [5, 6, 7])
 (.seq
 (.seq
 (.region false [⟨some 4, .mv, [.c (.i 0)], none⟩] [])
 (.block 0
 F_laws_toTestS_W0))
 (.seq
 (.region false [⟨some 22, .mv, [.t 3], none⟩,
 ⟨some 2, .mv, [.t 22], none⟩] [0, 3, 4, 22])
 .ret)))) }
/-- laws.toIntSS -/
def F_laws_toIntSS_L0 : LC :=
 (.seq
 (.seq
 (.region false [⟨some 8, .mv, [.t 4], none⟩,
 ⟨some 9, .mv, [.t 0], none⟩,
 ⟨some 10, .len, [.t 9], none⟩,
 ⟨some 11, .bin .lss, [.t 8, .t 10], none⟩] [8, 9, 10])
 (.cond (.t 11) [11]
 .skip
 (.exit 0)))
 (.seq
 (.block 1
 (.region false [⟨some 14, .mv, [.t 3], none⟩,
 ⟨some 15, .mv, [.t 4], none⟩,
 ⟨some 16, .mv, [.t 0], none⟩,
 ⟨some 17, .mv, [.t 4], none⟩,
 ⟨some 18, .idxa 1, [.t 16, .t 17], none⟩,
 ⟨some 19, .load 1 false, [.t 18], none⟩,
 ⟨some 20, .call n_laws_toIntS 10240, [.t 19], none⟩,
 ⟨some 21, .idxa 1, [.t 14, .t 15], none⟩,
 ⟨none, .store 1, [.t 21, .t 20], none⟩] [14, 15, 16, 17, 18, 19, 20, 21]))
 (.region false [⟨some 12, .mv, [.t 4], none⟩,
 ⟨some 13, .bin .add, [.t 12, .c (.i 1)], none⟩,
 ⟨some 4, .mv, [.t 13], none⟩] [12, 13])))
def F_laws_toIntSS_W0 : LC := .loop F_laws_toIntSS_L0
def F_laws_toIntSS : LF :=
 { nparams := 1, results := [.t 2], body :=
 (.seq
 (.region false [⟨some 2, .newnil 1032, [], none⟩] [2])
 (.seq
 (.region false [⟨some 5, .mv, [.t 0], none⟩,
 ⟨some 6, .len, [.t 5], none⟩,
 ⟨some 7, .make 3592 1 (.sl 1 []), [.t 6, .t 6], none⟩,
 ⟨some 3, .mv, [.t 7], none⟩] [5, 6, 7])
 (.seq
 (.seq
 (.region false [⟨some 4, .mv, [.c (.i 0)], none⟩] [])
 (.block 0
 F_laws_toIntSS_W0))
 (.seq
 (.region false [⟨some 22, .mv, [.t 3], none⟩,
 ⟨some 2, .mv, [.t 22], none⟩] [0, 3, 4, 22])
 .ret)))) }
/-- laws.eqTestS -/
def F_laws_eqTestS_L0 : LC :=
 (.seq
 (.seq
 (.region false [⟨some 11, .mv, [.t 5], none⟩,
 ⟨some 12, .mv, [.t 0], none⟩,
 ⟨some 13, .len, [.t 12], none⟩,
 ⟨some 14, .bin .lss, [.t 11, .t 13], none⟩] [11, 12, 13])
 (.cond (.t 14) [14]
 .skip
 (.exit 0)))
 (.seq
 (.block 1
 (.seq
 (.region true [⟨some 17, .mv, [.t 0], none⟩,
 ⟨some 18, .mv, [.t 5], none⟩,
 ⟨some 19, .idxa 2, [.t 17, .t 18], none⟩,
 ⟨some 20, .load 2 true, [.t 19], none⟩,
 ⟨some 21, .mv, [.t 1], none⟩,
 ⟨some 22, .mv, [.t 5], none⟩,
 ⟨some 23, .idxa 2, [.t 21, .t 22], none⟩,
 ⟨some 24, .load 2 true, [.t 23], none⟩,
 ⟨some 25, .call n_laws_eqTest 12800, [.t 20, .t 24], none⟩,
 ⟨some 26, .un .not, [.t 25], none⟩] [17, 18, 19, 20, 21, 22, 23, 24, 25])
 (.cond (.t 26) [26]
 (.seq
 (.region false [⟨some 4, .mv, [.c (.b false)], none⟩] [0, 1, 5])
 .ret)
 .skip)))
 (.region false [⟨some 15, .mv, [.t 5], none⟩,
 ⟨some 16, .bin .add, [.t 15, .c (.i 1)], none⟩,
 ⟨some 5, .mv, [.t 16], none⟩] [15, 16])))
def F_laws_eqTestS_W0 : LC := .loop F_laws_eqTestS_L0
def F_laws_eqTestS : LF :=
 { nparams := 2, results := [.t 4], body :=
 (.seq
 (.region false [⟨some 4, .mv, [.c (.b false)], none⟩] [4])
 (.seq
 (.seq
 (.region false [⟨some 6, .mv, [.t 0], none⟩,
 ⟨some 7, .len, [.t 6], none⟩,
 ⟨some 8, .mv, [.t 1], none⟩,
 ⟨some 9, .len, [.t 8], none⟩,
 ⟨some 10, .bin .neq, [.t 7, .t 9], none⟩] [6, 7, 8, 9])
 (.cond (.t 10) [10]
 (.seq
 (.region false [⟨some 4, .mv, [.c (.b false)], none⟩] [0, 1])
 .ret)
 .skip))
 (.seq
 (.seq
 (.region false [⟨some 5, .mv, [.c (.i 0)], none⟩] [])
 (.block 0
 F_laws_eqTestS_W0))
 (.seq
 (.region false [⟨some 4, .mv, [.c (.b true)], none⟩] [0, 1, 5])
 .ret)))) }
/-- laws.eqIntSS -/
def F_laws_eqIntSS_L0 : LC :=
 (.seq
 (.seq
 (.region false [⟨some 11, .mv, [.t 5], none⟩,
 ⟨some 12, .mv, [.t 0], none⟩,
 ⟨some 13, .len, [.t 12], none⟩,
 ⟨some 14, .bin .lss, [.t 11, .t 13], none⟩] [11, 12, 13])
 (.cond (.t 14) [14]
 .skip
 (.exit 0)))
 (.seq
 (.block 1
 (.seq
 (.region true [⟨some 17, .mv, [.t 0], none⟩,
 ⟨some 18, .mv, [.t 5], none⟩,
 ⟨some 19, .idxa 1, [.t 17, .t 18], none⟩,
 ⟨some 20, .load 1 false, [.t 19], none⟩,
 ⟨some 21, .mv, [.t 1], none⟩,
 ⟨some 22, .mv, [.t 5], none⟩,
 ⟨some 23, .idxa 1, [.t 21, .t 22], none⟩,
 ⟨some 24, .load 1 false, [.t 23], none⟩,
 ⟨some 25, .call n_laws_eqIntS 12800, [.t 20, .t 24], none⟩,
 ⟨some 26, .un .not, [.t 25], none⟩] [17, 18, 19, 20, 21, 22, 23, 24, 25])
 (.cond (.t 26) [26]
 (.seq
 (.region false [⟨some 4, .mv, [.c (.b false)], none⟩] [0, 1, 5])
 .ret)
 .skip)))
 (.region false [⟨some 15, .mv, [.t 5], none⟩,
 ⟨some 16, .bin .add, [.t 15, .c (.i 1)], none⟩,
 ⟨some 5, .mv, [.t 16], none⟩] [15, 16])))
def F_laws_eqIntSS_W0 : LC := .loop F_laws_eqIntSS_L0
def F_laws_eqIntSS : LF :=
 { nparams := 2, results := [.t 4], body :=
 (.seq
 (.region false [⟨some 4, .mv, [.c (.b false)], none⟩] [4])
 (.seq
 (.seq
 (.region false [⟨some 6, .mv, [.t 0], none⟩,
 ⟨some 7, .len, [.t 6], none⟩,
 ⟨some 8, .mv, [.t 1], none⟩,
 ⟨some 9, .len, [.t 8], none⟩,
 ⟨some 10, .bin .neq, [.t 7, .t 9], none⟩] [6, 7, 8, 9])
 (.cond (.t 10) [10]
 (.seq
 (.region false [⟨some 4, .mv, [.c (.b false)], none⟩] [0, 1])
 .ret)
 .skip))
 (.seq
 (.seq
 (.region false [⟨some 5, .mv, [.c (.i 0)], none⟩] [])
 (.block 0
 F_laws_eqIntSS_W0))
 (.seq
 (.region false [⟨some 4, .mv, [.c (.b true)], none⟩] [0, 1, 5])
 .ret)))) }
/-- laws.eqIntS -/
def F_laws_eqIntS_L0 : LC :=
 (.seq
 (.seq
 (.region false [⟨some 11, .mv, [.t 5], none⟩,
 ⟨some 12, .mv, [.t 0], none⟩,
 ⟨some 13, .len, [.t 12], none⟩,
 ⟨some 14, .bin .lss, [.t 11, .t 13], none⟩] [11, 12, 13])
 (.cond (.t 14) [14]
 .skip
 (.exit 0)))
 (.seq
 (.block 1
 (.seq
 (.region true [⟨some 17, .mv, [.t 0], none⟩,
 ⟨some 18, .mv, [.t 5], none⟩,
 ⟨some 19, .idxa 1, [.t 17, .t 18], none⟩,
 ⟨some 20, .load 1 false, [.t 19], none⟩,
 ⟨some 21, .mv, [.t 1], none⟩,
 ⟨some 22, .mv, [.t 5], none⟩,
 ⟨some 23, .idxa 1, [.t 21, .t 22], none⟩,
 ⟨some 24, .load 1 false, [.t 23], none⟩,
 ⟨some 25, .bin .neq, [.t 20, .t 24], none⟩] [17, 18, 19, 20, 21, 22, 23, 24])
 (.cond (.t 25) [25]
 (.seq
 (.region false [⟨some 4, .mv, [.c (.b false)], none⟩] [0, 1, 5])
 .ret)
 .skip)))
 (.region false [⟨some 15, .mv, [.t 5], none⟩,
 ⟨some 16, .bin .add, [.t 15, .c (.i 1)], none⟩,
 ⟨some 5, .mv, [.t 16], none⟩] [15, 16])))
def F_laws_eqIntS_W0 : LC := .loop F_laws_eqIntS_L0
def F_laws_eqIntS : LF :=
 { nparams := 2, results := [.t 4], body :=
 (.seq
 (.region false [⟨some 4, .mv, [.c (.b false)], none⟩] [4])
 (.seq
 (.seq
 (.region false [⟨some 6, .mv, [.t 0], none⟩,
 ⟨some 7, .len, [.t 6], none⟩,
 ⟨some 8, .mv, [.t 1], none⟩,
 ⟨some 9, .len, [.t 8], none⟩,
 ⟨some 10, .bin .neq, [.t 7, .t 9], none⟩] [6, 7, 8, 9])
 (.cond (.t 10) [10]
 (.seq
 (.region false [⟨some 4, .mv, [.c (.b false)], none⟩] [0, 1])
 .ret)
 .skip))
 (.seq
 (.seq
 (.region false [⟨some 5, .mv, [.c (.i 0)], none⟩] [])
 (.block 0
 F_laws_eqIntS_W0))
 (.seq
 (.region false [⟨some 4, .mv, [.c (.b true)], none⟩] [0, 1, 5])
 .ret)))) }
/-- impl.TestsOk -/
def F_impl_TestsOk_L0 : LC :=
 (.seq
 (.region false [⟨some 12, .bin .lss, [.t 11, .t 10], none⟩] [])
 (.seq
 (.cond (.t 12) [12]
 .skip
 (.exit 0))
 (.seq
 (.block 1
 (.seq
 (.region false [⟨some 13, .idxa 2, [.t 9, .t 11], none⟩,
 ⟨some 14, .load 2 true, [.t 13], none⟩,
 ⟨some 4, .alloc 2064 (.st [.i 0, .i 0]), [], none⟩,
 ⟨none, .store 2, [.t 4, .t 14], none⟩] [13, 14])
 (.seq
 (.region false [⟨some 15, .fld 0 1 false, [.t 4], none⟩,
 ⟨some 16, .load 1 false, [.t 15], none⟩,
 ⟨some 17, .call n_impl_isWithin 8704, [.t 16, .c (.i 1), .c (.i 9)], none⟩,
 ⟨some 18, .un .not, [.t 17], none⟩,
 ⟨some 19, .mv, [.t 18], none⟩,
 ⟨some 20, .fld 1 1 false, [.t 4], some (19, false)⟩,
 ⟨some 21, .load 1 false, [.t 20], some (19, false)⟩,
 ⟨some 22, .call n_impl_isWithin 11264, [.t 21, .c (.i 1), .c (.i 5)], some (19, false)⟩,
 ⟨some 23, .un .not, [.t 22], some (19, false)⟩,
 ⟨some 24, .pick, [.t 19, .c (.b true), .t 23], none⟩] [4, 15, 16, 17, 18, 19, 20, 21, 22, 23])
 (.cond (.t 24) [24]
 (.seq
 (.region false [⟨some 2, .mv, [.c (.b false)], none⟩] [9, 10, 11])
 .ret)
 .skip))))
 (.region false [⟨some 25, .bin .add, [.t 11, .c (.i 1)], none⟩,
 ⟨some 11, .mv, [.t 25], none⟩] [25]))))
def F_impl_TestsOk_W0 : LC := .loop F_impl_TestsOk_L0
def F_impl_TestsOk : LF :=
 { nparams := 1, results := [.t 2], body :=
 (.seq
 (.region false [⟨some 2, .mv, [.c (.b false)], none⟩] [2])
 (.seq
 (.seq
 (.region false [⟨some 5, .mv, [.t 0], none⟩,
 ⟨some 6, .len, [.t 5], none⟩,
 ⟨some 7, .call n_impl_manyOk 3584, [.t 6], none⟩,
 ⟨some 8, .un .not, [.t 7], none⟩] [5, 6, 7])
 (.cond (.t 8) [8]
 (.seq
 (.region false [⟨some 2, .mv, [.c (.b false)], none⟩] [0])
 .ret)
 .skip))
 (.seq
 (.seq
 (.region false [⟨some 9, .mv, [.t 0], none⟩,
 ⟨some 10, .len, [.t 9], none⟩,
 ⟨some 11, .mv, [.c (.i 0)], none⟩] [0])
 (.block 0
 F_impl_TestsOk_W0))
 (.seq
 (.region false [⟨some 2, .mv, [.c (.b true)], none⟩] [9, 10, 11])
 .ret)))) }
/-- impl.feeOk -/
def F_impl_feeOk : LF :=
 { nparams := 1, results := [.t 2], body :=
 (.seq
 (.region false [⟨some 2, .mv, [.c (.b false)], none⟩] [2])
 (.seq
 (.region false [⟨some 3, .mv, [.t 0], none⟩,
 ⟨some 4, .call n_impl_isWithin 2048, [.t 3, .c (.i 0), .c (.i 20)], none⟩,
 ⟨some 2, .mv, [.t 4], none⟩] [0, 3, 4])
 .ret)) }
/-- slices.Backward[[][]int,[]int] -/
def F_slices_Backward_int_int : LF :=
 { nparams := 1, results := [.t 2], body :=
 (.seq
 (.region false [⟨some 1, .box 520, [.t 0], none⟩,
 ⟨some 2, .mv, [.c (.dead)], none⟩] [0, 2])
 (.seq
 (.region false [⟨some 3, .mkfn (mkNo n_slices_Backward_int_int_1 0), [.t 1], none⟩,
 ⟨some 2, .mv, [.t 3], none⟩] [1, 3])
 .ret)) }
/-- impl.averageOfRound -/
def F_impl_averageOfRound_L0 : LC :=
 (.seq
 (.region false [⟨some 19, .bin .lss, [.t 18, .t 17], none⟩] [])
 (.seq
 (.cond (.t 19) [19]
 .skip
 (.exit 0))
 (.seq
 (.block 1
 (.seq
 (.region false [⟨some 20, .mv, [.t 18], none⟩,
 ⟨some 21, .idxa 2, [.t 16, .t 18], none⟩,
 ⟨some 22, .load 2 true, [.t 21], none⟩,
 ⟨some 14, .alloc 7184 (.st [.i 0, .i 0]), [], none⟩,
 ⟨some 13, .mv, [.t 20], none⟩,
 ⟨none, .store 2, [.t 14, .t 22], none⟩] [20, 21, 22])
 (.seq
 (.region false [⟨some 23, .mv, [.t 1], none⟩,
 ⟨some 24, .mv, [.t 13], none⟩,
 ⟨some 25, .call n_impl_hasTest 12800, [.t 23, .t 24], none⟩] [13, 23, 24])
 (.cond (.t 25) [25]
 (.seq
 (.region false [⟨some 26, .mv, [.t 11], none⟩,
 ⟨some 27, .fld 0 1 false, [.t 14], none⟩,
 ⟨some 28, .load 1 false, [.t 27], none⟩,
 ⟨some 29, .bin .add, [.t 26, .t 28], none⟩,
 ⟨some 11, .mv, [.t 29], none⟩] [26, 27, 28, 29])
 (.region false [⟨some 30, .mv, [.t 12], none⟩,
 ⟨some 31, .fld 1 1 false, [.t 14], none⟩,
 ⟨some 32, .load 1 false, [.t 31], none⟩,
 ⟨some 33, .bin .mul, [.t 30, .t 32], none⟩,
 ⟨some 12, .mv, [.t 33], none⟩] [14, 30, 31, 32, 33]))
 .skip))))
 (.region false [⟨some 34, .bin .add, [.t 18, .c (.i 1)], none⟩,
 ⟨some 18, .mv, [.t 34], none⟩] [14, 34]))))
def F_impl_averageOfRound_W0 : LC := .loop F_impl_averageOfRound_L0
def F_impl_averageOfRound : LF :=
 { nparams := 5, results := [.t 10], body :=
 (.seq
 (.region false [⟨some 10, .mv, [.c (.i 0)], none⟩] [10])
 (.seq
 (.region false [⟨some 15, .mv, [.t 2], none⟩,
 ⟨some 11, .mv, [.t 15], none⟩,
 ⟨some 12, .mv, [.c (.i 1)], none⟩] [2, 15])
 (.seq
 (.seq
 (.region false [⟨some 16, .mv, [.t 0], none⟩,
 ⟨some 17, .len, [.t 16], none⟩,
 ⟨some 18, .mv, [.c (.i 0)], none⟩] [0])
 (.block 0
 F_impl_averageOfRound_W0))
 (.seq
 (.region false [⟨some 35, .mv, [.t 11], none⟩,
 ⟨some 36, .mv, [.t 3], none⟩,
 ⟨some 37, .call n_impl_wholeOf 18944, [.t 36], none⟩,
 ⟨some 38, .bin .mul, [.t 35, .t 37], none⟩,
 ⟨some 39, .mv, [.t 12], none⟩,
 ⟨some 40, .mv, [.t 4], none⟩,
 ⟨some 41, .bin .mul, [.t 39, .t 40], none⟩,
 ⟨some 42, .bin .add, [.t 38, .t 41], none⟩,
 ⟨some 10, .mv, [.t 42], none⟩] [1, 3, 4, 11, 12, 16, 17, 18, 35, 36, 37, 38, 39, 40, 41, 42])
 .ret)))) }
/-- impl.setOf -/
def F_impl_setOf_L0 : LC :=
 (.seq
 (.region false [⟨some 9, .bin .lss, [.t 8, .t 7], none⟩] [])
 (.seq
 (.cond (.t 9) [9]
 .skip
 (.exit 0))
 (.seq
 (.block 1
 (.seq
 (.region false [⟨some 10, .idxa 1, [.t 6, .t 8], none⟩,
 ⟨some 11, .load 1 false, [.t 10], none⟩,
 ⟨some 5, .mv, [.t 11], none⟩] [10, 11])
 (.region false [⟨some 12, .mv, [.t 3], none⟩,
 ⟨some 13, .mv, [.t 5], none⟩,
 ⟨some 14, .bin .shl, [.c (.i 1), .t 13], none⟩,
 ⟨some 15, .bin .or, [.t 12, .t 14], none⟩,
 ⟨some 3, .mv, [.t 15], none⟩] [5, 12, 13, 14, 15])))
 (.region false [⟨some 16, .bin .add, [.t 8, .c (.i 1)], none⟩,
 ⟨some 8, .mv, [.t 16], none⟩] [16]))))
def F_impl_setOf_W0 : LC := .loop F_impl_setOf_L0
def F_impl_setOf : LF :=
 { nparams := 1, results := [.t 2], body :=
 (.seq
 (.region false [⟨some 2, .mv, [.c (.i 0)], none⟩] [2])
 (.seq
 (.region false [⟨some 3, .mv, [.c (.i 0)], none⟩] [])
 (.seq
 (.seq
 (.region false [⟨some 6, .mv, [.t 0], none⟩,
 ⟨some 7, .len, [.t 6], none⟩,
 ⟨some 8, .mv, [.c (.i 0)], none⟩] [0])
 (.block 0
 F_impl_setOf_W0))
 (.seq
 (.region false [⟨some 17, .mv, [.t 3], none⟩,
 ⟨some 2, .mv, [.t 17], none⟩] [3, 6, 7, 8, 17])
 .ret)))) }
/-- spec.TestsOk -/
def F_spec_TestsOk_L0 : LC :=
 (.seq
 (.seq
 (.region false [⟨some 4, .mv, [.t 3], none⟩,
 ⟨some 5, .mv, [.t 0], none⟩,
 ⟨some 6, .len, [.t 5], none⟩,
 ⟨some 7, .bin .lss, [.t 4, .t 6], none⟩] [4, 5, 6])
 (.cond (.t 7) [7]
 .skip
 (.exit 0)))
 (.seq
 (.block 1
 (.seq
 (.region false [⟨some 10, .mv, [.t 0], none⟩,
 ⟨some 11, .mv, [.t 3], none⟩,
 ⟨some 12, .idxa 2, [.t 10, .t 11], none⟩,
 ⟨some 13, .fld 0 1 false, [.t 12], none⟩,
 ⟨some 14, .load 1 false, [.t 13], none⟩,
 ⟨some 15, .call n_spec_l1In 7680, [.t 14, .c (.i 1), .c (.i 9)], none⟩,
 ⟨some 16, .un .not, [.t 15], none⟩,
 ⟨some 17, .mv, [.t 16], none⟩,
 ⟨some 18, .mv, [.t 0], some (17, false)⟩,
 ⟨some 19, .mv, [.t 3], some (17, false)⟩,
 ⟨some 20, .idxa 2, [.t 18, .t 19], some (17, false)⟩,
 ⟨some 21, .fld 1 1 false, [.t 20], some (17, false)⟩,
 ⟨some 22, .load 1 false, [.t 21], some (17, false)⟩,
 ⟨some 23, .call n_spec_l1In 11776, [.t 22, .c (.i 1), .c (.i 5)], some (17, false)⟩,
 ⟨some 24, .un .not, [.t 23], some (17, false)⟩,
 ⟨some 25, .pick, [.t 17, .c (.b true), .t 24], none⟩] [10, 11, 12, 13, 14, 15, 16, 17, 18, 19, 20, 21, 22, 23, 24])
 (.cond (.t 25) [25]
 (.seq
 (.region false [⟨some 2, .mv, [.c (.b false)], none⟩] [0, 3])
 .ret)
 .skip)))
 (.region false [⟨some 8, .mv, [.t 3], none⟩,
 ⟨some 9, .bin .add, [.t 8, .c (.i 1)], none⟩,
 ⟨some 3, .mv, [.t 9], none⟩] [8, 9])))
def F_spec_TestsOk_W0 : LC := .loop F_spec_TestsOk_L0
def F_spec_TestsOk : LF :=
 { nparams := 1, results := [.t 2], body :=
 (.seq
 (.region false [⟨some 2, .mv, [.c (.b false)], none⟩] [2])
 (.seq
 (.seq
 (.region false [⟨some 3, .mv, [.c (.i 0)], none⟩] [])
 (.block 0
 F_spec_TestsOk_W0))
 (.seq
 (.region false [⟨some 26, .mv, [.t 0], none⟩,
 ⟨some 27, .len, [.t 26], none⟩,
 ⟨some 28, .call n_spec_l1In 14336, [.t 27, .c (.i 1), .c (.i 5)], none⟩,
 ⟨some 2, .mv, [.t 28], none⟩] [0, 3, 26, 27, 28])
 .ret))) }
/-- spec.GroupsOk -/
def F_spec_GroupsOk_L1 : LC :=
 (.seq
 (.seq
 (.region false [⟨some 22, .mv, [.t 8], none⟩,
 ⟨some 23, .mv, [.t 1], none⟩,
 ⟨some 24, .mv, [.t 7], none⟩,
 ⟨some 25, .idxa 1, [.t 23, .t 24], none⟩,
 ⟨some 26, .load 1 false, [.t 25], none⟩,
 ⟨some 27, .len, [.t 26], none⟩,
 ⟨some 28, .bin .lss, [.t 22, .t 27], none⟩] [22, 23, 24, 25, 26, 27])
 (.cond (.t 28) [28]
 .skip
 (.exit 2)))
 (.seq
 (.block 3
 (.seq
 (.region false [⟨some 31, .mv, [.t 1], none⟩,
 ⟨some 32, .mv, [.t 7], none⟩,
 ⟨some 33, .idxa 1, [.t 31, .t 32], none⟩,
 ⟨some 34, .load 1 false, [.t 33], none⟩,
 ⟨some 35, .mv, [.t 8], none⟩,
 ⟨some 36, .idxa 1, [.t 34, .t 35], none⟩,
 ⟨some 37, .load 1 false, [.t 36], none⟩,
 ⟨some 9, .mv, [.t 37], none⟩] [31, 32, 33, 34, 35, 36, 37])
 (.seq
 (.seq
 (.region false [⟨some 38, .mv, [.t 9], none⟩,
 ⟨some 39, .bin .lss, [.t 38, .c (.i 0)], none⟩,
 ⟨some 40, .mv, [.t 39], none⟩,
 ⟨some 41, .mv, [.t 9], some (40, false)⟩,
 ⟨some 42, .mv, [.t 0], some (40, false)⟩,
 ⟨some 43, .bin .geq, [.t 41, .t 42], some (40, false)⟩,
 ⟨some 44, .pick, [.t 40, .c (.b true), .t 43], none⟩,
 ⟨some 45, .mv, [.t 44], none⟩,
 ⟨some 46, .mv, [.t 9], some (45, false)⟩,
 ⟨some 47, .bin .geq, [.t 46, .c (.i 5)], some (45, false)⟩,
 ⟨some 48, .pick, [.t 45, .c (.b true), .t 47], none⟩,
 ⟨some 49, .mv, [.t 48], none⟩,
 ⟨some 50, .mv, [.t 5], some (49, false)⟩,
 ⟨some 51, .mv, [.t 9], some (49, false)⟩,
 ⟨some 52, .bin .shr, [.t 50, .t 51], some (49, false)⟩,
 ⟨some 53, .bin .rem, [.t 52, .c (.i 2)], some (49, false)⟩,
 ⟨some 54, .bin .eql, [.t 53, .c (.i 1)], some (49, false)⟩,
 ⟨some 55, .pick, [.t 49, .c (.b true), .t 54], none⟩] [38, 39, 40, 41, 42, 43, 44, 45, 46, 47, 48, 49, 50, 51, 52, 53, 54])
 (.cond (.t 55) [55]
 (.seq
 (.region false [⟨some 4, .mv, [.c (.b false)], none⟩] [0, 1, 5, 6, 7, 8, 9])
 .ret)
 .skip))
 (.seq
 (.region false [⟨some 56, .mv, [.t 5], none⟩,
 ⟨some 57, .mv, [.t 9], none⟩,
 ⟨some 58, .bin .shl, [.c (.i 1), .t 57], none⟩,
 ⟨some 59, .bin .or, [.t 56, .t 58], none⟩,
 ⟨some 5, .mv, [.t 59], none⟩] [9, 56, 57, 58, 59])
 (.region false [⟨some 60, .mv, [.t 6], none⟩,
 ⟨some 61, .bin .add, [.t 60, .c (.i 1)], none⟩,
 ⟨some 6, .mv, [.t 61], none⟩] [60, 61])))))
 (.region false [⟨some 29, .mv, [.t 8], none⟩,
 ⟨some 30, .bin .add, [.t 29, .c (.i 1)], none⟩,
 ⟨some 8, .mv, [.t 30], none⟩] [29, 30])))
def F_spec_GroupsOk_W1 : LC := .loop F_spec_GroupsOk_L1
def F_spec_GroupsOk_L0 : LC :=
 (.seq
 (.seq
 (.region false [⟨some 10, .mv, [.t 7], none⟩,
 ⟨some 11, .mv, [.t 1], none⟩,
 ⟨some 12, .len, [.t 11], none⟩,
 ⟨some 13, .bin .lss, [.t 10, .t 12], none⟩] [10, 11, 12])
 (.cond (.t 13) [13]
 .skip
 (.exit 0)))
 (.seq
 (.block 1
 (.seq
 (.seq
 (.region false [⟨some 16, .mv, [.t 1], none⟩,
 ⟨some 17, .mv, [.t 7], none⟩,
 ⟨some 18, .idxa 1, [.t 16, .t 17], none⟩,
 ⟨some 19, .load 1 false, [.t 18], none⟩,
 ⟨some 20, .len, [.t 19], none⟩,
 ⟨some 21, .bin .eql, [.t 20, .c (.i 0)], none⟩] [16, 17, 18, 19, 20])
 (.cond (.t 21) [21]
 (.seq
 (.region false [⟨some 4, .mv, [.c (.b false)], none⟩] [0, 1, 5, 6, 7])
 .ret)
 .skip))
 (.seq
 (.region false [⟨some 8, .mv, [.c (.i 0)], none⟩] [])
 (.block 2
 F_spec_GroupsOk_W1))))
 (.region false [⟨some 14, .mv, [.t 7], none⟩,
 ⟨some 15, .bin .add, [.t 14, .c (.i 1)], none⟩,
 ⟨some 7, .mv, [.t 15], none⟩] [8, 14, 15])))
def F_spec_GroupsOk_W0 : LC := .loop F_spec_GroupsOk_L0
def F_spec_GroupsOk : LF :=
 { nparams := 2, results := [.t 4], body :=
 (.seq
 (.region false [⟨some 4, .mv, [.c (.b false)], none⟩] [4])
 (.seq
 (.region false [⟨some 5, .mv, [.c (.i 0)], none⟩] [])
 (.seq
 (.region false [⟨some 6, .mv, [.c (.i 0)], none⟩] [])
 (.seq
 (.seq
 (.region false [⟨some 7, .mv, [.c (.i 0)], none⟩] [])
 (.block 0
 F_spec_GroupsOk_W0))
 (.seq
 (.region false [⟨some 62, .mv, [.t 0], none⟩,
 ⟨some 63, .call n_spec_l1In 32256, [.t 62, .c (.i 1), .c (.i 5)], none⟩,
 ⟨some 64, .mv, [.t 63], none⟩,
 ⟨some 65, .mv, [.t 6], some (64, true)⟩,
 ⟨some 66, .mv, [.t 0], some (64, true)⟩,
 ⟨some 67, .bin .eql, [.t 65, .t 66], some (64, true)⟩,
 ⟨some 68, .pick, [.t 64, .t 67, .c (.b false)], none⟩,
 ⟨some 4, .mv, [.t 68], none⟩] [0, 1, 5, 6, 7, 62, 63, 64, 65, 66, 67, 68])
 .ret))))) }
/-- spec.l1In -/
def F_spec_l1In : LF :=
 { nparams := 3, results := [.t 6], body :=
 (.seq
 (.region false [⟨some 6, .mv, [.c (.b false)], none⟩] [6])
 (.seq
 (.region false [⟨some 7, .mv, [.t 0], none⟩,
 ⟨some 8, .mv, [.t 1], none⟩,
 ⟨some 9, .bin .geq, [.t 7, .t 8], none⟩,
 ⟨some 10, .mv, [.t 9], none⟩,
 ⟨some 11, .mv, [.t 0], some (10, true)⟩,
 ⟨some 12, .mv, [.t 2], some (10, true)⟩,
 ⟨some 13, .bin .leq, [.t 11, .t 12], some (10, true)⟩,
 ⟨some 14, .pick, [.t 10, .t 13, .c (.b false)], none⟩,
 ⟨some 6, .mv, [.t 14], none⟩] [0, 1, 2, 7, 8, 9, 10, 11, 12, 13, 14])
 .ret)) }
/-- spec.l1Power -/
def F_spec_l1Power_L0 : LC :=
 (.seq
 (.seq
 (.region false [⟨some 5, .mv, [.t 4], none⟩,
 ⟨some 6, .mv, [.t 0], none⟩,
 ⟨some 7, .bin .lss, [.t 5, .t 6], none⟩] [5, 6])
 (.cond (.t 7) [7]
 .skip
 (.exit 0)))
 (.seq
 (.block 1
 (.region false [⟨some 10, .mv, [.t 3], none⟩,
 ⟨some 11, .bin .mul, [.t 10, .c (.i 6)], none⟩,
 ⟨some 3, .mv, [.t 11], none⟩] [10, 11]))
 (.region false [⟨some 8, .mv, [.t 4], none⟩,
 ⟨some 9, .bin .add, [.t 8, .c (.i 1)], none⟩,
 ⟨some 4, .mv, [.t 9], none⟩] [8, 9])))
def F_spec_l1Power_W0 : LC := .loop F_spec_l1Power_L0
def F_spec_l1Power : LF :=
 { nparams := 1, results := [.t 2], body :=
 (.seq
 (.region false [⟨some 2, .mv, [.c (.i 0)], none⟩] [2])
 (.seq
 (.region false [⟨some 3, .mv, [.c (.i 1)], none⟩] [])
 (.seq
 (.seq
 (.region false [⟨some 4, .mv, [.c (.i 0)], none⟩] [])
 (.block 0
 F_spec_l1Power_W0))
 (.seq
 (.region false [⟨some 12, .mv, [.t 3], none⟩,
 ⟨some 2, .mv, [.t 12], none⟩] [0, 3, 4, 12])
 .ret)))) }
/-- impl.OrderOk -/
def F_impl_OrderOk_L0 : LC :=
 (.seq
 (.region false [⟨some 20, .bin .lss, [.t 19, .t 18], none⟩] [])
 (.seq
 (.cond (.t 20) [20]
 .skip
 (.exit 0))
 (.seq
 (.block 1
 (.seq
 (.region false [⟨some 21, .idxa 1, [.t 17, .t 19], none⟩,
 ⟨some 22, .load 1 false, [.t 21], none⟩,
 ⟨some 7, .mv, [.t 22], none⟩] [21, 22])
 (.seq
 (.seq
 (.region false [⟨some 23, .mv, [.t 7], none⟩,
 ⟨some 24, .mv, [.t 0], none⟩,
 ⟨some 25, .bin .sub, [.t 24, .c (.i 1)], none⟩,
 ⟨some 26, .call n_impl_isWithin 13312, [.t 23, .c (.i 0), .t 25], none⟩,
 ⟨some 27, .un .not, [.t 26], none⟩,
 ⟨some 28, .mv, [.t 27], none⟩,
 ⟨some 29, .mv, [.t 5], some (28, false)⟩,
 ⟨some 30, .mv, [.t 7], some (28, false)⟩,
 ⟨some 31, .call n_impl_hasTest 15872, [.t 29, .t 30], some (28, false)⟩,
 ⟨some 32, .pick, [.t 28, .c (.b true), .t 31], none⟩] [23, 24, 25, 26, 27, 28, 29, 30, 31])
 (.cond (.t 32) [32]
 (.seq
 (.region false [⟨some 4, .mv, [.c (.b false)], none⟩] [0, 5, 7, 17, 18, 19])
 .ret)
 .skip))
 (.region false [⟨some 33, .mv, [.t 5], none⟩,
 ⟨some 34, .mv, [.t 7], none⟩,
 ⟨some 35, .bin .shl, [.c (.i 1), .t 34], none⟩,
 ⟨some 36, .bin .or, [.t 33, .t 35], none⟩,
 ⟨some 5, .mv, [.t 36], none⟩] [7, 33, 34, 35, 36]))))
 (.region false [⟨some 37, .bin .add, [.t 19, .c (.i 1)], none⟩,
 ⟨some 19, .mv, [.t 37], none⟩] [37]))))
def F_impl_OrderOk_W0 : LC := .loop F_impl_OrderOk_L0
def F_impl_OrderOk : LF :=
 { nparams := 2, results := [.t 4], body :=
 (.seq
 (.region false [⟨some 4, .mv, [.c (.b false)], none⟩] [4])
 (.seq
 (.seq
 (.region false [⟨some 8, .mv, [.t 0], none⟩,
 ⟨some 9, .call n_impl_manyOk 4608, [.t 8], none⟩,
 ⟨some 10, .un .not, [.t 9], none⟩,
 ⟨some 11, .mv, [.t 10], none⟩,
 ⟨some 12, .mv, [.t 1], some (11, false)⟩,
 ⟨some 13, .len, [.t 12], some (11, false)⟩,
 ⟨some 14, .mv, [.t 0], some (11, false)⟩,
 ⟨some 15, .bin .neq, [.t 13, .t 14], some (11, false)⟩,
 ⟨some 16, .pick, [.t 11, .c (.b true), .t 15], none⟩] [8, 9, 10, 11, 12, 13, 14, 15])
 (.cond (.t 16) [16]
 (.seq
 (.region false [⟨some 4, .mv, [.c (.b false)], none⟩] [0, 1])
 .ret)
 .skip))
 (.seq
 (.region false [⟨some 5, .mv, [.c (.i 0)], none⟩] [])
 (.seq
 (.seq
 (.region false [⟨some 17, .mv, [.t 1], none⟩,
 ⟨some 18, .len, [.t 17], none⟩,
 ⟨some 19, .mv, [.c (.i 0)], none⟩] [1])
 (.block 0
 F_impl_OrderOk_W0))
 (.seq
 (.region false [⟨some 4, .mv, [.c (.b true)], none⟩] [0, 5, 17, 18, 19])
 .ret))))) }
/-- impl.wholeOf -/
def F_impl_wholeOf_L0 : LC :=
 (.seq
 (.region false [⟨some 6, .bin .lss, [.t 5, .t 4], none⟩] [])
 (.seq
 (.cond (.t 6) [6]
 .skip
 (.exit 0))
 (.seq
 (.block 1
 (.region false [⟨some 7, .mv, [.t 3], none⟩,
 ⟨some 8, .bin .mul, [.t 7, .c (.i 6)], none⟩,
 ⟨some 3, .mv, [.t 8], none⟩] [7, 8]))
 (.region false [⟨some 9, .bin .add, [.t 5, .c (.i 1)], none⟩,
 ⟨some 5, .mv, [.t 9], none⟩] [9]))))
def F_impl_wholeOf_W0 : LC := .loop F_impl_wholeOf_L0
def F_impl_wholeOf : LF :=
 { nparams := 1, results := [.t 2], body :=
 (.seq
 (.region false [⟨some 2, .mv, [.c (.i 0)], none⟩] [2])
 (.seq
 (.region false [⟨some 3, .mv, [.c (.i 1)], none⟩] [])
 (.seq
 (.seq
 (.region false [⟨some 4, .mv, [.t 0], none⟩,
 ⟨some 5, .mv, [.c (.i 0)], none⟩] [0])
 (.block 0
 F_impl_wholeOf_W0))
 (.seq
 (.region false [⟨some 10, .mv, [.t 3], none⟩,
 ⟨some 2, .mv, [.t 10], none⟩] [3, 4, 5, 10])
 .ret)))) }
/-- impl.manyOk -/
def F_impl_manyOk : LF :=
 { nparams := 1, results := [.t 2], body :=
 (.seq
 (.region false [⟨some 2, .mv, [.c (.b false)], none⟩] [2])
 (.seq
 (.region false [⟨some 3, .mv, [.t 0], none⟩,
 ⟨some 4, .call n_impl_isWithin 2048, [.t 3, .c (.i 1), .c (.i 5)], none⟩,
 ⟨some 2, .mv, [.t 4], none⟩] [0, 3, 4])
 .ret)) }
/-- impl.isWithin -/
def F_impl_isWithin : LF :=
 { nparams := 3, results := [.t 6], body :=
 (.seq
 (.region false [⟨some 6, .mv, [.c (.b false)], none⟩] [6])
 (.seq
 (.region false [⟨some 7, .mv, [.t 1], none⟩,
 ⟨some 8, .mv, [.t 0], none⟩,
 ⟨some 9, .bin .leq, [.t 7, .t 8], none⟩,
 ⟨some 10, .mv, [.t 9], none⟩,
 ⟨some 11, .mv, [.t 0], some (10, true)⟩,
 ⟨some 12, .mv, [.t 2], some (10, true)⟩,
 ⟨some 13, .bin .leq, [.t 11, .t 12], some (10, true)⟩,
 ⟨some 14, .pick, [.t 10, .t 13, .c (.b false)], none⟩,
 ⟨some 6, .mv, [.t 14], none⟩] [0, 1, 2, 7, 8, 9, 10, 11, 12, 13, 14])
 .ret)) }
/-- laws.szIntS -/
def F_laws_szIntS : LF :=
 { nparams := 2, results := [.t 4], body :=
 (.seq
 (.region false [⟨some 4, .mv, [.c (.i 0)], none⟩] [4])
 (.seq
 (.region false [⟨some 5, .mv, [.t 1], none⟩,
 ⟨some 6, .mv, [.t 0], none⟩,
 ⟨some 7, .len, [.t 6], none⟩,
 ⟨some 8, .bin .sub, [.t 5, .t 7], none⟩,
 ⟨some 1, .mv, [.t 8], none⟩] [0, 5, 6, 7, 8])
 (.seq
 (.seq
 (.region false [⟨some 9, .mv, [.t 1], none⟩,
 ⟨some 10, .bin .lss, [.t 9, .c (.i 0)], none⟩] [9])
 (.cond (.t 10) [10]
 (.seq
 (.region false [⟨some 4, .mv, [.c (.i (-1))], none⟩] [1])
 .ret)
 .skip))
 (.seq
 (.region false [⟨some 11, .mv, [.t 1], none⟩,
 ⟨some 4, .mv, [.t 11], none⟩] [1, 11])
 .ret)))) }
/-- laws.toTest -/
def F_laws_toTest : LF :=
 { nparams := 1, results := [.c 2 2 true], body :=
 (.seq
 (.region false [⟨some 1, .box 528, [.t 0], none⟩,
 ⟨some 2, .alloc 1040 (.st [.i 0, .i 0]), [], none⟩] [0])
 (.seq
 (.region false [⟨some 3, .alloc 1552 (.st [.i 0, .i 0]), [], none⟩] [])
 (.seq
 (.region false [⟨some 4, .fld 0 1 false, [.t 1], none⟩,
 ⟨some 5, .load 1 false, [.t 4], none⟩,
 ⟨some 6, .fld 0 1 false, [.t 3], none⟩,
 ⟨none, .store 1, [.t 6, .t 5], none⟩] [4, 5, 6])
 (.seq
 (.region false [⟨some 7, .fld 1 1 false, [.t 1], none⟩,
 ⟨some 8, .load 1 false, [.t 7], none⟩,
 ⟨some 9, .fld 1 1 false, [.t 3], none⟩,
 ⟨none, .store 1, [.t 9, .t 8], none⟩] [1, 7, 8, 9])
 (.seq
 (.region false [⟨some 10, .load 2 true, [.t 3], none⟩,
 ⟨none, .store 2, [.t 2, .t 10], none⟩] [3, 10])
 .ret))))) }
/-- laws.toIntS -/
def F_laws_toIntS_L0 : LC :=
 (.seq
 (.seq
 (.region false [⟨some 8, .mv, [.t 4], none⟩,
 ⟨some 9, .mv, [.t 0], none⟩,
 ⟨some 10, .len, [.t 9], none⟩,
 ⟨some 11, .bin .lss, [.t 8, .t 10], none⟩] [8, 9, 10])
 (.cond (.t 11) [11]
 .skip
 (.exit 0)))
 (.seq
 (.block 1
 (.region false [⟨some 14, .mv, [.t 3], none⟩,
 ⟨some 15, .mv, [.t 4], none⟩,
 ⟨some 16, .mv, [.t 0], none⟩,
 ⟨some 17, .mv, [.t 4], none⟩,
 ⟨some 18, .idxa 1, [.t 16, .t 17], none⟩,
 ⟨some 19, .load 1 false, [.t 18], none⟩,
 ⟨some 20, .idxa 1, [.t 14, .t 15], none⟩,
 ⟨none, .store 1, [.t 20, .t 19], none⟩] [14, 15, 16, 17, 18, 19, 20]))
 (.region false [⟨some 12, .mv, [.t 4], none⟩,
 ⟨some 13, .bin .add, [.t 12, .c (.i 1)], none⟩,
 ⟨some 4, .mv, [.t 13], none⟩] [12, 13])))
def F_laws_toIntS_W0 : LC := .loop F_laws_toIntS_L0
def F_laws_toIntS : LF :=
 { nparams := 1, results := [.t 2], body :=
 (.seq
 (.region false [⟨some 2, .newnil 1032, [], none⟩] [2])
 (.seq
 (.region false [⟨some 5, .mv, [.t 0], none⟩,
 ⟨some 6, .len, [.t 5], none⟩,
 ⟨some 7, .make 3592 1 (.i 0), [.t 6, .t 6], none⟩,
 ⟨some 3, .mv, [.t 7], none⟩] [5, 6, 7])
 (.seq
 (.seq
 (.region false [⟨some 4, .mv, [.c (.i 0)], none⟩] [])
 (.block 0
 F_laws_toIntS_W0))
 (.seq
 (.region false [⟨some 21, .mv, [.t 3], none⟩,
 ⟨some 2, .mv, [.t 21], none⟩] [0, 3, 4, 21])
 .ret)))) }
/-- laws.eqTest -/
def F_laws_eqTest : LF :=
 { nparams := 2, results := [.t 4], body :=
 (.seq
 (.region false [⟨some 2, .box 1040, [.t 0], none⟩,
 ⟨some 3, .box 1552, [.t 1], none⟩,
 ⟨some 4, .mv, [.c (.b false)], none⟩] [0, 1, 4])
 (.seq
 (.seq
 (.region false [⟨some 5, .fld 0 1 false, [.t 2], none⟩,
 ⟨some 6, .load 1 false, [.t 5], none⟩,
 ⟨some 7, .fld 0 1 false, [.t 3], none⟩,
 ⟨some 8, .load 1 false, [.t 7], none⟩,
 ⟨some 9, .bin .neq, [.t 6, .t 8], none⟩] [5, 6, 7, 8])
 (.cond (.t 9) [9]
 (.seq
 (.region false [⟨some 4, .mv, [.c (.b false)], none⟩] [2, 3])
 .ret)
 .skip))
 (.seq
 (.seq
 (.region false [⟨some 10, .fld 1 1 false, [.t 2], none⟩,
 ⟨some 11, .load 1 false, [.t 10], none⟩,
 ⟨some 12, .fld 1 1 false, [.t 3], none⟩,
 ⟨some 13, .load 1 false, [.t 12], none⟩,
 ⟨some 14, .bin .neq, [.t 11, .t 13], none⟩] [2, 3, 10, 11, 12, 13])
 (.cond (.t 14) [14]
 (.seq
 (.region false [⟨some 4, .mv, [.c (.b false)], none⟩] [])
 .ret)
 .skip))
 (.seq
 (.region false [⟨some 4, .mv, [.c (.b true)], none⟩] [])
 .ret)))) }
/-- slices.Backward[[][]int,[]int]$1 -/
def F_slices_Backward_int_int_1_L0 : LC :=
 (.seq
 (.seq
 (.region false [⟨some 7, .mv, [.t 3], none⟩,
 ⟨some 8, .bin .geq, [.t 7, .c (.i 0)], none⟩] [7])
 (.cond (.t 8) [8]
 .skip
 (.exit 0)))
 (.seq
 (.block 1
 (.seq
 (.region false [⟨some 11, .mv, [.t 0], none⟩,
 ⟨some 12, .mv, [.t 3], none⟩,
 ⟨some 13, .load 1 false, [.t 1], none⟩,
 ⟨some 14, .mv, [.t 3], none⟩,
 ⟨some 15, .idxa 1, [.t 13, .t 14], none⟩,
 ⟨some 16, .load 1 false, [.t 15], none⟩,
 ⟨some 17, .calld 8704, [.t 11, .t 12, .t 16], none⟩,
 ⟨some 18, .un .not, [.t 17], none⟩] [11, 12, 13, 14, 15, 16, 17])
 (.cond (.t 18) [18]
 .ret
 .skip)))
 (.region false [⟨some 9, .mv, [.t 3], none⟩,
 ⟨some 10, .bin .sub, [.t 9, .c (.i 1)], none⟩,
 ⟨some 3, .mv, [.t 10], none⟩] [9, 10])))
def F_slices_Backward_int_int_1_W0 : LC := .loop F_slices_Backward_int_int_1_L0
def F_slices_Backward_int_int_1 : LF :=
 { nparams := 2, results := [], body :=
 (.seq
 (.region false [⟨some 4, .load 1 false, [.t 1], none⟩,
 ⟨some 5, .len, [.t 4], none⟩,
 ⟨some 6, .bin .sub, [.t 5, .c (.i 1)], none⟩,
 ⟨some 3, .mv, [.t 6], none⟩] [4, 5, 6])
 (.block 0
 F_slices_Backward_int_int_1_W0)) }
/-- impl.hasTest -/
def F_impl_hasTest : LF :=
 { nparams := 2, results := [.t 4], body :=
 (.seq
 (.region false [⟨some 4, .mv, [.c (.b false)], none⟩] [4])
 (.seq
 (.region false [⟨some 5, .mv, [.t 0], none⟩,
 ⟨some 6, .mv, [.t 1], none⟩,
 ⟨some 7, .bin .shr, [.t 5, .t 6], none⟩,
 ⟨some 8, .bin .and, [.t 7, .c (.i 1)], none⟩,
 ⟨some 9, .bin .eql, [.t 8, .c (.i 1)], none⟩,
 ⟨some 4, .mv, [.t 9], none⟩] [0, 1, 5, 6, 7, 8, 9])
 .ret)) }
def lf : Nat → Option LF
 | 8 => some F_laws_FnExactRoundAverage
 | 15 => some F_impl_RoundAverage
 | 16 => some F_spec_RoundAverage
 | 25 => some F_impl_GroupsOk
 | 30 => some F_laws_szTestS
 | 31 => some F_laws_szIntSS
 | 32 => some F_laws_toTestS
 | 33 => some F_laws_toIntSS
 | 34 => some F_laws_eqTestS
 | 35 => some F_laws_eqIntSS
 | 48 => some F_laws_eqIntS
 | 54 => some F_impl_TestsOk
 | 55 => some F_impl_feeOk
 | 56 => some F_slices_Backward_int_int
 | 57 => some F_impl_averageOfRound
 | 58 => some F_impl_setOf
 | 59 => some F_spec_TestsOk
 | 60 => some F_spec_GroupsOk
 | 61 => some F_spec_l1In
 | 62 => some F_spec_l1Power
 | 63 => some F_impl_OrderOk
 | 65 => some F_impl_wholeOf
 | 74 => some F_impl_manyOk
 | 75 => some F_impl_isWithin
 | 81 => some F_laws_szIntS
 | 82 => some F_laws_toTest
 | 83 => some F_laws_toIntS
 | 84 => some F_laws_eqTest
 | 92 => some F_slices_Backward_int_int_1
 | 93 => some F_impl_hasTest
 | _ => none
theorem w_spec_RoundAverage_1 (S : LS) : ex lf F_spec_RoundAverage_W1 S = match ex lf F_spec_RoundAverage_L1 S with | some (.normal, S1) => ex lf F_spec_RoundAverage_W1 S1 | r => r := ex_loop lf F_spec_RoundAverage_L1 S
theorem w_spec_RoundAverage_0 (S : LS) : ex lf F_spec_RoundAverage_W0 S = match ex lf F_spec_RoundAverage_L0 S with | some (.normal, S1) => ex lf F_spec_RoundAverage_W0 S1 | r => r := ex_loop lf F_spec_RoundAverage_L0 S
theorem w_impl_GroupsOk_0 (S : LS) : ex lf F_impl_GroupsOk_W0 S = match ex lf F_impl_GroupsOk_L0 S with | some (.normal, S1) => ex lf F_impl_GroupsOk_W0 S1 | r => r := ex_loop lf F_impl_GroupsOk_L0 S
theorem w_laws_szIntSS_0 (S : LS) : ex lf F_laws_szIntSS_W0 S = match ex lf F_laws_szIntSS_L0 S with | some (.normal, S1) => ex lf F_laws_szIntSS_W0 S1 | r => r := ex_loop lf F_laws_szIntSS_L0 S
theorem w_laws_toTestS_0 (S : LS) : ex lf F_laws_toTestS_W0 S = match ex lf F_laws_toTestS_L0 S with | some (.normal, S1) => ex lf F_laws_toTestS_W0 S1 | r => r := ex_loop lf F_laws_toTestS_L0 S
theorem w_laws_toIntSS_0 (S : LS) : ex lf F_laws_toIntSS_W0 S = match ex lf F_laws_toIntSS_L0 S with | some (.normal, S1) => ex lf F_laws_toIntSS_W0 S1 | r => r := ex_loop lf F_laws_toIntSS_L0 S
theorem w_laws_eqTestS_0 (S : LS) : ex lf F_laws_eqTestS_W0 S = match ex lf F_laws_eqTestS_L0 S with | some (.normal, S1) => ex lf F_laws_eqTestS_W0 S1 | r => r := ex_loop lf F_laws_eqTestS_L0 S
theorem w_laws_eqIntSS_0 (S : LS) : ex lf F_laws_eqIntSS_W0 S = match ex lf F_laws_eqIntSS_L0 S with | some (.normal, S1) => ex lf F_laws_eqIntSS_W0 S1 | r => r := ex_loop lf F_laws_eqIntSS_L0 S
theorem w_laws_eqIntS_0 (S : LS) : ex lf F_laws_eqIntS_W0 S = match ex lf F_laws_eqIntS_L0 S with | some (.normal, S1) => ex lf F_laws_eqIntS_W0 S1 | r => r := ex_loop lf F_laws_eqIntS_L0 S
theorem w_impl_TestsOk_0 (S : LS) : ex lf F_impl_TestsOk_W0 S = match ex lf F_impl_TestsOk_L0 S with | some (.normal, S1) => ex lf F_impl_TestsOk_W0 S1 | r => r := ex_loop lf F_impl_TestsOk_L0 S
theorem w_impl_averageOfRound_0 (S : LS) : ex lf F_impl_averageOfRound_W0 S = match ex lf F_impl_averageOfRound_L0 S with | some (.normal, S1) => ex lf F_impl_averageOfRound_W0 S1 | r => r := ex_loop lf F_impl_averageOfRound_L0 S
theorem w_impl_setOf_0 (S : LS) : ex lf F_impl_setOf_W0 S = match ex lf F_impl_setOf_L0 S with | some (.normal, S1) => ex lf F_impl_setOf_W0 S1 | r => r := ex_loop lf F_impl_setOf_L0 S
theorem w_spec_TestsOk_0 (S : LS) : ex lf F_spec_TestsOk_W0 S = match ex lf F_spec_TestsOk_L0 S with | some (.normal, S1) => ex lf F_spec_TestsOk_W0 S1 | r => r := ex_loop lf F_spec_TestsOk_L0 S
theorem w_spec_GroupsOk_1 (S : LS) : ex lf F_spec_GroupsOk_W1 S = match ex lf F_spec_GroupsOk_L1 S with | some (.normal, S1) => ex lf F_spec_GroupsOk_W1 S1 | r => r := ex_loop lf F_spec_GroupsOk_L1 S
theorem w_spec_GroupsOk_0 (S : LS) : ex lf F_spec_GroupsOk_W0 S = match ex lf F_spec_GroupsOk_L0 S with | some (.normal, S1) => ex lf F_spec_GroupsOk_W0 S1 | r => r := ex_loop lf F_spec_GroupsOk_L0 S
theorem w_spec_l1Power_0 (S : LS) : ex lf F_spec_l1Power_W0 S = match ex lf F_spec_l1Power_L0 S with | some (.normal, S1) => ex lf F_spec_l1Power_W0 S1 | r => r := ex_loop lf F_spec_l1Power_L0 S
theorem w_impl_OrderOk_0 (S : LS) : ex lf F_impl_OrderOk_W0 S = match ex lf F_impl_OrderOk_L0 S with | some (.normal, S1) => ex lf F_impl_OrderOk_W0 S1 | r => r := ex_loop lf F_impl_OrderOk_L0 S
theorem w_impl_wholeOf_0 (S : LS) : ex lf F_impl_wholeOf_W0 S = match ex lf F_impl_wholeOf_L0 S with | some (.normal, S1) => ex lf F_impl_wholeOf_W0 S1 | r => r := ex_loop lf F_impl_wholeOf_L0 S
theorem w_laws_toIntS_0 (S : LS) : ex lf F_laws_toIntS_W0 S = match ex lf F_laws_toIntS_L0 S with | some (.normal, S1) => ex lf F_laws_toIntS_W0 S1 | r => r := ex_loop lf F_laws_toIntS_L0 S
theorem w_slices_Backward_int_int_1_0 (S : LS) : ex lf F_slices_Backward_int_int_1_W0 S = match ex lf F_slices_Backward_int_int_1_L0 S with | some (.normal, S1) => ex lf F_slices_Backward_int_int_1_W0 S1 | r => r := ex_loop lf F_slices_Backward_int_int_1_L0 S
end Zz
