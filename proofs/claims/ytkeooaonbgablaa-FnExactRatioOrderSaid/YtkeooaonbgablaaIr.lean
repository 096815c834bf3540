/- The functions of the program, read as data. No conditions. -/
import Derived.Test.YtkeooaonbgablaaLgE
set_option linter.unusedSectionVars false
set_option linter.unusedVariables false
set_option linter.unusedSimpArgs false
namespace Zz
open Go.Lg
instance : GL := ⟨[], [26, 32, 33], ["l4_orders.go:82"], [], [(54, [0]), (67, [0, 2])], [(28, 67, 6)]⟩
def n_laws_FnSwapGain : Nat := 4
def n_laws_FnRatioSwaps : Nat := 5
def n_laws_FnExactRatioOrder : Nat := 7
def n_laws_FnExactSwapGain : Nat := 9
def n_laws_alive : Nat := 14
def n_spec_DrawSwapGain : Nat := 19
def n_impl_SwapGain : Nat := 20
def n_spec_SwapGain : Nat := 21
def n_spec_DrawRatioOrder : Nat := 22
def n_impl_RatioOrder : Nat := 23
def n_spec_RatioOrder : Nat := 24
def n_laws_szTestS : Nat := 28
def n_laws_toTestS : Nat := 29
def n_laws_eqIntS : Nat := 30
def n_laws_eqTestS : Nat := 31
def n_laws_markTestS : Nat := 32
def n_laws_markIntS : Nat := 33
def n_laws_heldIntS : Nat := 34
def n_spec_RowAverage : Nat := 35
def n_laws_toIntS : Nat := 36
def n_impl_RowAverage : Nat := 37
def n_spec_l20Open : Nat := 38
def n_spec_l20Rd_pick : Nat := 39
def n_impl_manyOk : Nat := 40
def n_impl_rowOk : Nat := 41
def n_spec_l1In : Nat := 42
def n_impl_TestsOk : Nat := 43
def n_impl_isWithin : Nat := 44
def n_spec_l20Tests : Nat := 47
def n_spec_l20Order : Nat := 48
def n_impl_SwappedOrder : Nat := 49
def n_spec_SwappedOrder : Nat := 50
def n_impl_RatioOrder_1 : Nat := 51
def n_impl_ratioOf : Nat := 52
def n_impl_ratio_isLess : Nat := 53
def n_impl_inserted_int : Nat := 54
def n_spec_TestsOk : Nat := 55
def n_spec_l5Ends : Nat := 56
def n_laws_toTest : Nat := 58
def n_laws_eqTest : Nat := 59
def n_spec_OrderOk : Nat := 60
def n_spec_l1Power : Nat := 61
def n_impl_OrderOk : Nat := 62
def n_impl_wholeOf : Nat := 63
def n_impl_endChance : Nat := 64
def n_spec_l20Rd_odd : Nat := 65
def n_slices_Clone_int_int : Nat := 66
def n_slices_Insert_int_int : Nat := 67
def n_impl_hasTest : Nat := 68
def n_slices_rotateRight_int : Nat := 70
def n_slices_rotateLeft_int : Nat := 71
def n_slices_Reverse_int_int : Nat := 72
/-- laws.FnSwapGain -/
def F_laws_FnSwapGain : LF :=
 { nparams := 1, results := [.t 2], body :=
 (.seq
 (.region false [⟨some 2, .mv, [.c (.b false)], none⟩] [2])
 (.seq
 (.seq
 (.region false [⟨some 15, .mv, [.t 0], none⟩,
 ⟨some 16, .len, [.t 15], none⟩,
 ⟨some 17, .bin .gtr, [.t 16, .c (.i 1048576)], none⟩] [15, 16])
 (.cond (.t 17) [17]
 (.seq
 (.region false [⟨some 2, .mv, [.c (.b true)], none⟩] [0])
 .ret)
 .skip))
 (.seq
 (.region false [⟨some 19, .mv, [.t 0], none⟩,
 ⟨some 20, .call n_spec_DrawSwapGain 10240, [.t 19], none⟩,
 ⟨some 18, .mv, [.t 20], none⟩,
 ⟨some 21, .ext 0, [.t 18], none⟩,
 ⟨some 22, .ext 1, [.t 18], none⟩,
 ⟨some 23, .ext 2, [.t 18], none⟩,
 ⟨some 24, .ext 3, [.t 18], none⟩,
 ⟨some 3, .mv, [.t 21], none⟩,
 ⟨some 4, .mv, [.t 22], none⟩,
 ⟨some 5, .mv, [.t 23], none⟩,
 ⟨some 6, .mv, [.t 24], none⟩] [0, 18, 19, 20, 21, 22, 23, 24])
 (.seq
 (.region false [⟨some 26, .mv, [.t 3], none⟩,
 ⟨some 27, .mv, [.t 4], none⟩,
 ⟨some 28, .mv, [.t 5], none⟩,
 ⟨some 29, .mv, [.t 6], none⟩,
 ⟨some 30, .call n_impl_SwapGain 15360, [.t 26, .t 27, .t 28, .t 29], none⟩,
 ⟨some 25, .mv, [.t 30], none⟩,
 ⟨some 31, .ext 0, [.t 25], none⟩,
 ⟨some 32, .ext 1, [.t 25], none⟩,
 ⟨some 7, .mv, [.t 31], none⟩,
 ⟨some 8, .mv, [.t 32], none⟩] [25, 26, 27, 28, 29, 30, 31, 32])
 (.seq
 (.region false [⟨some 34, .mv, [.t 3], none⟩,
 ⟨some 35, .mv, [.t 4], none⟩,
 ⟨some 36, .mv, [.t 5], none⟩,
 ⟨some 37, .mv, [.t 6], none⟩,
 ⟨some 38, .call n_spec_SwapGain 19456, [.t 34, .t 35, .t 36, .t 37], none⟩,
 ⟨some 33, .mv, [.t 38], none⟩,
 ⟨some 39, .ext 0, [.t 33], none⟩,
 ⟨some 40, .ext 1, [.t 33], none⟩,
 ⟨some 9, .mv, [.t 39], none⟩,
 ⟨some 10, .mv, [.t 40], none⟩] [33, 34, 35, 36, 37, 38, 39, 40])
 (.seq
 (.seq
 (.region false [⟨some 41, .mv, [.t 7], none⟩,
 ⟨some 42, .mv, [.t 9], none⟩,
 ⟨some 43, .bin .neq, [.t 41, .t 42], none⟩,
 ⟨some 44, .mv, [.t 43], none⟩,
 ⟨some 45, .mv, [.t 8], some (44, false)⟩,
 ⟨some 46, .mv, [.t 10], some (44, false)⟩,
 ⟨some 47, .eqb true, [.t 45, .t 46], some (44, false)⟩,
 ⟨some 48, .pick, [.t 44, .c (.b true), .t 47], none⟩] [9, 10, 41, 42, 43, 44, 45, 46, 47])
 (.cond (.t 48) [48]
 (.seq
 (.region false [⟨some 2, .mv, [.c (.b false)], none⟩] [3, 4, 5, 6, 7, 8])
 .ret)
 .skip))
 (.seq
 (.seq
 (.region false [⟨some 49, .mv, [.t 8], none⟩,
 ⟨some 50, .un .not, [.t 49], none⟩] [8, 49])
 (.cond (.t 50) [50]
 (.seq
 (.region false [⟨some 51, .mv, [.t 7], none⟩,
 ⟨some 52, .bin .eql, [.t 51, .c (.i 0)], none⟩,
 ⟨some 53, .mv, [.t 52], none⟩,
 ⟨some 54, .call n_laws_alive 27648, [], some (53, true)⟩,
 ⟨some 55, .pick, [.t 53, .t 54, .c (.b false)], none⟩,
 ⟨some 2, .mv, [.t 55], none⟩] [3, 4, 5, 6, 7, 51, 52, 53, 54, 55])
 .ret)
 .skip))
 (.seq
 (.region false [⟨some 56, .mv, [.t 3], none⟩,
 ⟨some 57, .mv, [.t 4], none⟩,
 ⟨some 58, .mv, [.t 5], none⟩,
 ⟨some 59, .idxa 1, [.t 57, .t 58], none⟩,
 ⟨some 60, .load 1 false, [.t 59], none⟩,
 ⟨some 61, .idxa 2, [.t 56, .t 60], none⟩,
 ⟨some 62, .load 2 true, [.t 61], none⟩,
 ⟨some 11, .alloc 5648 (.st [.i 0, .i 0]), [], none⟩,
 ⟨none, .store 2, [.t 11, .t 62], none⟩] [56, 57, 58, 59, 60, 61, 62])
 (.seq
 (.region false [⟨some 63, .mv, [.t 3], none⟩,
 ⟨some 64, .mv, [.t 4], none⟩,
 ⟨some 65, .mv, [.t 5], none⟩,
 ⟨some 66, .bin .add, [.t 65, .c (.i 1)], none⟩,
 ⟨some 67, .idxa 1, [.t 64, .t 66], none⟩,
 ⟨some 68, .load 1 false, [.t 67], none⟩,
 ⟨some 69, .idxa 2, [.t 63, .t 68], none⟩,
 ⟨some 70, .load 2 true, [.t 69], none⟩,
 ⟨some 12, .alloc 6160 (.st [.i 0, .i 0]), [], none⟩,
 ⟨none, .store 2, [.t 12, .t 70], none⟩] [3, 4, 5, 63, 64, 65, 66, 67, 68, 69, 70])
 (.seq
 (.region false [⟨some 71, .fld 1 1 false, [.t 11], none⟩,
 ⟨some 72, .load 1 false, [.t 71], none⟩,
 ⟨some 13, .mv, [.t 72], none⟩] [71, 72])
 (.seq
 (.region false [⟨some 73, .fld 1 1 false, [.t 12], none⟩,
 ⟨some 74, .load 1 false, [.t 73], none⟩,
 ⟨some 14, .mv, [.t 74], none⟩] [73, 74])
 (.seq
 (.seq
 (.region false [⟨some 75, .mv, [.t 6], none⟩,
 ⟨some 76, .bin .eql, [.t 75, .c (.i 0)], none⟩] [6, 75])
 (.cond (.t 76) [76]
 (.seq
 (.region false [⟨some 77, .mv, [.t 13], none⟩,
 ⟨some 78, .bin .sub, [.c (.i 6), .t 77], none⟩,
 ⟨some 13, .mv, [.t 78], none⟩] [77, 78])
 (.region false [⟨some 79, .mv, [.t 14], none⟩,
 ⟨some 80, .bin .sub, [.c (.i 6), .t 79], none⟩,
 ⟨some 14, .mv, [.t 80], none⟩] [79, 80]))
 .skip))
 (.seq
 (.region false [⟨some 81, .mv, [.t 7], none⟩,
 ⟨some 82, .bin .gtr, [.t 81, .c (.i 0)], none⟩,
 ⟨some 83, .fld 0 1 false, [.t 12], none⟩,
 ⟨some 84, .load 1 false, [.t 83], none⟩,
 ⟨some 85, .mv, [.t 13], none⟩,
 ⟨some 86, .bin .mul, [.t 84, .t 85], none⟩,
 ⟨some 87, .fld 0 1 false, [.t 11], none⟩,
 ⟨some 88, .load 1 false, [.t 87], none⟩,
 ⟨some 89, .mv, [.t 14], none⟩,
 ⟨some 90, .bin .mul, [.t 88, .t 89], none⟩,
 ⟨some 91, .bin .lss, [.t 86, .t 90], none⟩,
 ⟨some 92, .eqb false, [.t 82, .t 91], none⟩,
 ⟨some 93, .mv, [.t 92], none⟩,
 ⟨some 94, .mv, [.t 7], some (93, true)⟩,
 ⟨some 95, .bin .eql, [.t 94, .c (.i 0)], some (93, true)⟩,
 ⟨some 96, .fld 0 1 false, [.t 12], some (93, true)⟩,
 ⟨some 97, .load 1 false, [.t 96], some (93, true)⟩,
 ⟨some 98, .mv, [.t 13], some (93, true)⟩,
 ⟨some 99, .bin .mul, [.t 97, .t 98], some (93, true)⟩,
 ⟨some 100, .fld 0 1 false, [.t 11], some (93, true)⟩,
 ⟨some 101, .load 1 false, [.t 100], some (93, true)⟩,
 ⟨some 102, .mv, [.t 14], some (93, true)⟩,
 ⟨some 103, .bin .mul, [.t 101, .t 102], some (93, true)⟩,
 ⟨some 104, .bin .eql, [.t 99, .t 103], some (93, true)⟩,
 ⟨some 105, .eqb false, [.t 95, .t 104], some (93, true)⟩,
 ⟨some 106, .pick, [.t 93, .t 105, .c (.b false)], none⟩,
 ⟨some 2, .mv, [.t 106], none⟩] [7, 11, 12, 13, 14, 81, 82, 83, 84, 85, 86, 87, 88, 89, 90, 91, 92, 93, 94, 95, 96, 97, 98, 99, 100, 101, 102, 103, 104, 105, 106])
 .ret))))))))))))) }
/-- laws.FnRatioSwaps -/
def F_laws_FnRatioSwaps_L0 : LC :=
 (.seq
 (.seq
 (.region false [⟨some 31, .mv, [.t 6], none⟩,
 ⟨some 32, .bin .add, [.t 31, .c (.i 1)], none⟩,
 ⟨some 33, .mv, [.t 5], none⟩,
 ⟨some 34, .len, [.t 33], none⟩,
 ⟨some 35, .bin .lss, [.t 32, .t 34], none⟩] [31, 32, 33, 34])
 (.cond (.t 35) [35]
 .skip
 (.exit 0)))
 (.seq
 (.block 1
 (.seq
 (.region false [⟨some 39, .mv, [.t 3], none⟩,
 ⟨some 40, .mv, [.t 5], none⟩,
 ⟨some 41, .mv, [.t 6], none⟩,
 ⟨some 42, .mv, [.t 4], none⟩,
 ⟨some 43, .call n_impl_SwapGain 22016, [.t 39, .t 40, .t 41, .t 42], none⟩,
 ⟨some 38, .mv, [.t 43], none⟩,
 ⟨some 44, .ext 0, [.t 38], none⟩,
 ⟨some 45, .ext 1, [.t 38], none⟩,
 ⟨some 7, .mv, [.t 44], none⟩,
 ⟨some 8, .mv, [.t 45], none⟩] [38, 39, 40, 41, 42, 43, 44, 45])
 (.seq
 (.region false [⟨some 46, .mv, [.t 8], none⟩,
 ⟨some 47, .un .not, [.t 46], none⟩,
 ⟨some 48, .mv, [.t 47], none⟩,
 ⟨some 49, .mv, [.t 7], some (48, false)⟩,
 ⟨some 50, .bin .gtr, [.t 49, .c (.i 0)], some (48, false)⟩,
 ⟨some 51, .pick, [.t 48, .c (.b true), .t 50], none⟩] [7, 8, 46, 47, 48, 49, 50])
 (.cond (.t 51) [51]
 (.seq
 (.region false [⟨some 2, .mv, [.c (.b false)], none⟩] [3, 4, 5, 6])
 .ret)
 .skip))))
 (.region false [⟨some 36, .mv, [.t 6], none⟩,
 ⟨some 37, .bin .add, [.t 36, .c (.i 1)], none⟩,
 ⟨some 6, .mv, [.t 37], none⟩] [36, 37])))
def F_laws_FnRatioSwaps_W0 : LC := .loop F_laws_FnRatioSwaps_L0
def F_laws_FnRatioSwaps : LF :=
 { nparams := 1, results := [.t 2], body :=
 (.seq
 (.region false [⟨some 2, .mv, [.c (.b false)], none⟩] [2])
 (.seq
 (.seq
 (.region false [⟨some 9, .mv, [.t 0], none⟩,
 ⟨some 10, .len, [.t 9], none⟩,
 ⟨some 11, .bin .gtr, [.t 10, .c (.i 1048576)], none⟩] [9, 10])
 (.cond (.t 11) [11]
 (.seq
 (.region false [⟨some 2, .mv, [.c (.b true)], none⟩] [0])
 .ret)
 .skip))
 (.seq
 (.region false [⟨some 13, .mv, [.t 0], none⟩,
 ⟨some 14, .call n_spec_DrawRatioOrder 7168, [.t 13], none⟩,
 ⟨some 12, .mv, [.t 14], none⟩,
 ⟨some 15, .ext 0, [.t 12], none⟩,
 ⟨some 16, .ext 1, [.t 12], none⟩,
 ⟨some 3, .mv, [.t 15], none⟩,
 ⟨some 4, .mv, [.t 16], none⟩] [0, 12, 13, 14, 15, 16])
 (.seq
 (.region false [⟨some 17, .mv, [.t 3], none⟩,
 ⟨some 18, .mv, [.t 4], none⟩,
 ⟨some 19, .call n_impl_RatioOrder 9728, [.t 17, .t 18], none⟩,
 ⟨some 5, .mv, [.t 19], none⟩] [17, 18, 19])
 (.seq
 (.seq
 (.region false [⟨some 20, .mv, [.t 5], none⟩,
 ⟨some 21, .len, [.t 20], none⟩,
 ⟨some 22, .bin .eql, [.t 21, .c (.i 0)], none⟩] [20, 21])
 (.cond (.t 22) [22]
 (.seq
 (.region false [⟨some 23, .mv, [.t 3], none⟩,
 ⟨some 24, .mv, [.t 4], none⟩,
 ⟨some 25, .call n_spec_RatioOrder 12800, [.t 23, .t 24], none⟩,
 ⟨some 26, .len, [.t 25], none⟩,
 ⟨some 27, .bin .eql, [.t 26, .c (.i 0)], none⟩,
 ⟨some 28, .mv, [.t 27], none⟩,
 ⟨some 29, .call n_laws_alive 14848, [], some (28, true)⟩,
 ⟨some 30, .pick, [.t 28, .t 29, .c (.b false)], none⟩,
 ⟨some 2, .mv, [.t 30], none⟩] [3, 4, 5, 23, 24, 25, 26, 27, 28, 29, 30])
 .ret)
 .skip))
 (.seq
 (.seq
 (.region false [⟨some 6, .mv, [.c (.i 0)], none⟩] [])
 (.block 0
 F_laws_FnRatioSwaps_W0))
 (.seq
 (.region false [⟨some 52, .call n_laws_alive 26624, [], none⟩,
 ⟨some 53, .mv, [.t 52], none⟩,
 ⟨some 54, .mv, [.t 5], some (53, true)⟩,
 ⟨some 55, .len, [.t 54], some (53, true)⟩,
 ⟨some 56, .mv, [.t 3], some (53, true)⟩,
 ⟨some 57, .len, [.t 56], some (53, true)⟩,
 ⟨some 58, .bin .eql, [.t 55, .t 57], some (53, true)⟩,
 ⟨some 59, .pick, [.t 53, .t 58, .c (.b false)], none⟩,
 ⟨some 2, .mv, [.t 59], none⟩] [3, 4, 5, 6, 52, 53, 54, 55, 56, 57, 58, 59])
 .ret))))))) }
/-- laws.FnExactRatioOrder -/
def F_laws_FnExactRatioOrder : LF :=
 { nparams := 2, results := [.t 4], body :=
 (.seq
 (.region false [⟨some 4, .mv, [.c (.b false)], none⟩] [4])
 (.seq
 (.region false [⟨some 5, .mv, [.c (.i 1048576)], none⟩] [])
 (.seq
 (.region false [⟨some 13, .mv, [.t 0], none⟩,
 ⟨some 14, .mv, [.t 5], none⟩,
 ⟨some 15, .call n_laws_szTestS 7680, [.t 13, .t 14], none⟩,
 ⟨some 5, .mv, [.t 15], none⟩] [13, 14, 15])
 (.seq
 (.seq
 (.region false [⟨some 16, .mv, [.t 5], none⟩,
 ⟨some 17, .bin .lss, [.t 16, .c (.i 0)], none⟩] [5, 16])
 (.cond (.t 17) [17]
 (.seq
 (.region false [⟨some 4, .mv, [.c (.b true)], none⟩] [0, 1])
 .ret)
 .skip))
 (.seq
 (.region false [⟨some 18, .mv, [.t 0], none⟩,
 ⟨some 19, .call n_laws_toTestS 9728, [.t 18], none⟩,
 ⟨some 20, .mv, [.t 1], none⟩,
 ⟨some 21, .call n_spec_RatioOrder 10752, [.t 19, .t 20], none⟩,
 ⟨some 6, .mv, [.t 21], none⟩] [18, 19, 20, 21])
 (.seq
 (.region false [⟨some 22, .mv, [.t 0], none⟩,
 ⟨some 23, .call n_laws_toTestS 11776, [.t 22], none⟩,
 ⟨some 7, .mv, [.t 23], none⟩] [22, 23])
 (.seq
 (.region false [⟨some 24, .mv, [.t 7], none⟩,
 ⟨some 25, .mv, [.t 1], none⟩,
 ⟨some 26, .call n_impl_RatioOrder 13312, [.t 24, .t 25], none⟩,
 ⟨some 8, .mv, [.t 26], none⟩] [24, 25, 26])
 (.seq
 (.seq
 (.region false [⟨some 27, .mv, [.t 8], none⟩,
 ⟨some 28, .mv, [.t 6], none⟩,
 ⟨some 29, .call n_laws_eqIntS 14848, [.t 27, .t 28], none⟩,
 ⟨some 30, .un .not, [.t 29], none⟩] [27, 28, 29])
 (.cond (.t 30) [30]
 (.seq
 (.region false [⟨some 4, .mv, [.c (.b false)], none⟩] [0, 1, 6, 7, 8])
 .ret)
 .skip))
 (.seq
 (.seq
 (.region false [⟨some 31, .mv, [.t 7], none⟩,
 ⟨some 32, .mv, [.t 0], none⟩,
 ⟨some 33, .call n_laws_toTestS 16896, [.t 32], none⟩,
 ⟨some 34, .call n_laws_eqTestS 17408, [.t 31, .t 33], none⟩,
 ⟨some 35, .un .not, [.t 34], none⟩] [31, 32, 33, 34])
 (.cond (.t 35) [35]
 (.seq
 (.region false [⟨some 4, .mv, [.c (.b false)], none⟩] [0, 1, 6, 7, 8])
 .ret)
 .skip))
 (.seq
 (.region false [⟨some 9, .mv, [.c (.i 1)], none⟩] [])
 (.seq
 (.region false [⟨some 36, .mv, [.t 7], none⟩,
 ⟨some 37, .mv, [.t 9], none⟩,
 ⟨some 38, .call n_laws_markTestS 19460, [.t 36, .t 37], none⟩,
 ⟨some 9, .mv, [.t 38], none⟩] [7, 36, 37, 38])
 (.seq
 (.seq
 (.region false [⟨some 39, .mv, [.t 9], none⟩,
 ⟨some 40, .bin .lss, [.t 39, .c (.i 0)], none⟩,
 ⟨some 41, .mv, [.t 40], none⟩,
 ⟨some 42, .mv, [.t 8], some (41, false)⟩,
 ⟨some 43, .mv, [.t 6], some (41, false)⟩,
 ⟨some 44, .call n_laws_eqIntS 22528, [.t 42, .t 43], some (41, false)⟩,
 ⟨some 45, .un .not, [.t 44], some (41, false)⟩,
 ⟨some 46, .pick, [.t 41, .c (.b true), .t 45], none⟩] [9, 39, 40, 41, 42, 43, 44, 45])
 (.cond (.t 46) [46]
 (.seq
 (.region false [⟨some 4, .mv, [.c (.b false)], none⟩] [0, 1, 6, 8])
 .ret)
 .skip))
 (.seq
 (.region false [⟨some 10, .mv, [.c (.i 1)], none⟩] [])
 (.seq
 (.region false [⟨some 47, .mv, [.t 8], none⟩,
 ⟨some 48, .mv, [.t 10], none⟩,
 ⟨some 49, .call n_laws_markIntS 25092, [.t 47, .t 48], none⟩,
 ⟨some 10, .mv, [.t 49], none⟩] [47, 48, 49])
 (.seq
 (.region false [⟨some 11, .mv, [.c (.i 1)], none⟩] [])
 (.seq
 (.region false [⟨some 50, .mv, [.t 8], none⟩,
 ⟨some 51, .mv, [.t 11], none⟩,
 ⟨some 52, .call n_laws_heldIntS 26624, [.t 50, .t 51], none⟩,
 ⟨some 11, .mv, [.t 52], none⟩] [50, 51, 52])
 (.seq
 (.seq
 (.region false [⟨some 53, .mv, [.t 11], none⟩,
 ⟨some 54, .bin .lss, [.t 53, .c (.i 0)], none⟩] [53])
 (.cond (.t 54) [54]
 (.seq
 (.region false [⟨some 4, .mv, [.c (.b false)], none⟩] [0, 1, 6, 8, 10, 11])
 .ret)
 .skip))
 (.seq
 (.seq
 (.region false [⟨some 55, .mv, [.t 11], none⟩,
 ⟨some 56, .mv, [.t 10], none⟩,
 ⟨some 57, .bin .neq, [.t 55, .t 56], none⟩] [11, 55, 56])
 (.cond (.t 57) [57]
 (.seq
 (.region false [⟨some 4, .mv, [.c (.b false)], none⟩] [0, 1, 6, 8, 10])
 .ret)
 .skip))
 (.seq
 (.region false [⟨some 58, .mv, [.t 0], none⟩,
 ⟨some 59, .call n_laws_toTestS 30208, [.t 58], none⟩,
 ⟨some 60, .mv, [.t 1], none⟩,
 ⟨some 61, .call n_impl_RatioOrder 31232, [.t 59, .t 60], none⟩,
 ⟨some 12, .mv, [.t 61], none⟩] [0, 1, 58, 59, 60, 61])
 (.seq
 (.seq
 (.region false [⟨some 62, .mv, [.t 12], none⟩,
 ⟨some 63, .mv, [.t 6], none⟩,
 ⟨some 64, .call n_laws_eqIntS 32768, [.t 62, .t 63], none⟩,
 ⟨some 65, .un .not, [.t 64], none⟩] [6, 12, 62, 63, 64])
 (.cond (.t 65) [65]
 (.seq
 (.region false [⟨some 4, .mv, [.c (.b false)], none⟩] [8, 10])
 .ret)
 .skip))
 (.seq
 (.region false [⟨some 11, .mv, [.c (.i 1)], none⟩] [])
 (.seq
 (.region false [⟨some 66, .mv, [.t 8], none⟩,
 ⟨some 67, .mv, [.t 11], none⟩,
 ⟨some 68, .call n_laws_heldIntS 34816, [.t 66, .t 67], none⟩,
 ⟨some 11, .mv, [.t 68], none⟩] [8, 66, 67, 68])
 (.seq
 (.seq
 (.region false [⟨some 69, .mv, [.t 11], none⟩,
 ⟨some 70, .bin .lss, [.t 69, .c (.i 0)], none⟩] [69])
 (.cond (.t 70) [70]
 (.seq
 (.region false [⟨some 4, .mv, [.c (.b false)], none⟩] [10, 11])
 .ret)
 .skip))
 (.seq
 (.seq
 (.region false [⟨some 71, .mv, [.t 11], none⟩,
 ⟨some 72, .mv, [.t 10], none⟩,
 ⟨some 73, .bin .neq, [.t 71, .t 72], none⟩] [10, 11, 71, 72])
 (.cond (.t 73) [73]
 (.seq
 (.region false [⟨some 4, .mv, [.c (.b false)], none⟩] [])
 .ret)
 .skip))
 (.seq
 (.region false [⟨some 4, .mv, [.c (.b true)], none⟩] [])
 .ret))))))))))))))))))))))))) }
/-- laws.FnExactSwapGain -/
def F_laws_FnExactSwapGain : LF :=
 { nparams := 4, results := [.t 8], body :=
 (.seq
 (.region false [⟨some 8, .mv, [.c (.b false)], none⟩] [8])
 (.seq
 (.seq
 (.region false [⟨some 16, .mv, [.t 1], none⟩,
 ⟨some 17, .len, [.t 16], none⟩,
 ⟨some 18, .bin .gtr, [.t 17, .c (.i 1048576)], none⟩] [16, 17])
 (.cond (.t 18) [18]
 (.seq
 (.region false [⟨some 8, .mv, [.c (.b true)], none⟩] [0, 1, 2, 3])
 .ret)
 .skip))
 (.seq
 (.region false [⟨some 9, .mv, [.c (.i 1048576)], none⟩] [])
 (.seq
 (.region false [⟨some 19, .mv, [.t 0], none⟩,
 ⟨some 20, .mv, [.t 9], none⟩,
 ⟨some 21, .call n_laws_szTestS 10752, [.t 19, .t 20], none⟩,
 ⟨some 9, .mv, [.t 21], none⟩] [19, 20, 21])
 (.seq
 (.seq
 (.region false [⟨some 22, .mv, [.t 9], none⟩,
 ⟨some 23, .bin .lss, [.t 22, .c (.i 0)], none⟩] [9, 22])
 (.cond (.t 23) [23]
 (.seq
 (.region false [⟨some 8, .mv, [.c (.b true)], none⟩] [0, 1, 2, 3])
 .ret)
 .skip))
 (.seq
 (.region false [⟨some 25, .mv, [.t 0], none⟩,
 ⟨some 26, .call n_laws_toTestS 13312, [.t 25], none⟩,
 ⟨some 27, .mv, [.t 1], none⟩,
 ⟨some 28, .call n_laws_toIntS 14336, [.t 27], none⟩,
 ⟨some 29, .mv, [.t 2], none⟩,
 ⟨some 30, .mv, [.t 3], none⟩,
 ⟨some 31, .call n_spec_SwapGain 15872, [.t 26, .t 28, .t 29, .t 30], none⟩,
 ⟨some 24, .mv, [.t 31], none⟩,
 ⟨some 32, .ext 0, [.t 24], none⟩,
 ⟨some 33, .ext 1, [.t 24], none⟩,
 ⟨some 10, .mv, [.t 32], none⟩,
 ⟨some 11, .mv, [.t 33], none⟩] [24, 25, 26, 27, 28, 29, 30, 31, 32, 33])
 (.seq
 (.region false [⟨some 34, .mv, [.t 0], none⟩,
 ⟨some 35, .call n_laws_toTestS 17920, [.t 34], none⟩,
 ⟨some 12, .mv, [.t 35], none⟩] [34, 35])
 (.seq
 (.region false [⟨some 36, .mv, [.t 1], none⟩,
 ⟨some 37, .call n_laws_toIntS 18944, [.t 36], none⟩,
 ⟨some 13, .mv, [.t 37], none⟩] [36, 37])
 (.seq
 (.region false [⟨some 39, .mv, [.t 12], none⟩,
 ⟨some 40, .mv, [.t 13], none⟩,
 ⟨some 41, .mv, [.t 2], none⟩,
 ⟨some 42, .mv, [.t 3], none⟩,
 ⟨some 43, .call n_impl_SwapGain 22016, [.t 39, .t 40, .t 41, .t 42], none⟩,
 ⟨some 38, .mv, [.t 43], none⟩,
 ⟨some 44, .ext 0, [.t 38], none⟩,
 ⟨some 45, .ext 1, [.t 38], none⟩,
 ⟨some 14, .mv, [.t 44], none⟩,
 ⟨some 15, .mv, [.t 45], none⟩] [2, 3, 38, 39, 40, 41, 42, 43, 44, 45])
 (.seq
 (.seq
 (.region false [⟨some 46, .mv, [.t 14], none⟩,
 ⟨some 47, .mv, [.t 10], none⟩,
 ⟨some 48, .bin .neq, [.t 46, .t 47], none⟩,
 ⟨some 49, .mv, [.t 48], none⟩,
 ⟨some 50, .mv, [.t 15], some (49, false)⟩,
 ⟨some 51, .mv, [.t 11], some (49, false)⟩,
 ⟨some 52, .eqb true, [.t 50, .t 51], some (49, false)⟩,
 ⟨some 53, .pick, [.t 49, .c (.b true), .t 52], none⟩] [10, 11, 14, 15, 46, 47, 48, 49, 50, 51, 52])
 (.cond (.t 53) [53]
 (.seq
 (.region false [⟨some 8, .mv, [.c (.b false)], none⟩] [0, 1, 12, 13])
 .ret)
 .skip))
 (.seq
 (.seq
 (.region false [⟨some 54, .mv, [.t 12], none⟩,
 ⟨some 55, .mv, [.t 0], none⟩,
 ⟨some 56, .call n_laws_toTestS 28672, [.t 55], none⟩,
 ⟨some 57, .call n_laws_eqTestS 29184, [.t 54, .t 56], none⟩,
 ⟨some 58, .un .not, [.t 57], none⟩] [0, 12, 54, 55, 56, 57])
 (.cond (.t 58) [58]
 (.seq
 (.region false [⟨some 8, .mv, [.c (.b false)], none⟩] [1, 13])
 .ret)
 .skip))
 (.seq
 (.seq
 (.region false [⟨some 59, .mv, [.t 13], none⟩,
 ⟨some 60, .mv, [.t 1], none⟩,
 ⟨some 61, .call n_laws_toIntS 31232, [.t 60], none⟩,
 ⟨some 62, .call n_laws_eqIntS 31744, [.t 59, .t 61], none⟩,
 ⟨some 63, .un .not, [.t 62], none⟩] [1, 13, 59, 60, 61, 62])
 (.cond (.t 63) [63]
 (.seq
 (.region false [⟨some 8, .mv, [.c (.b false)], none⟩] [])
 .ret)
 .skip))
 (.seq
 (.region false [⟨some 8, .mv, [.c (.b true)], none⟩] [])
 .ret))))))))))))) }
/-- laws.alive -/
def F_laws_alive : LF :=
 { nparams := 0, results := [.t 0], body :=
 (.seq
 (.region false [⟨some 0, .mv, [.c (.b false)], none⟩] [0])
 (.seq
 (.region false [⟨some 1, .build [.i 0, .i 0] [(0, 1), (1, 1)], [.c (.i 1), .c (.i 1)], none⟩,
 ⟨some 2, .bslice 1040 1 2 (.st [.i 0, .i 0]) [0], [.t 1], none⟩,
 ⟨some 3, .call n_impl_TestsOk 1536, [.t 2], none⟩,
 ⟨some 4, .mv, [.t 3], none⟩,
 ⟨some 5, .build [.i 0, .i 0] [], [], some (4, true)⟩,
 ⟨some 6, .bslice 3088 1 2 (.st [.i 0, .i 0]) [0], [.t 5], some (4, true)⟩,
 ⟨some 7, .call n_impl_TestsOk 3584, [.t 6], some (4, true)⟩,
 ⟨some 8, .un .not, [.t 7], some (4, true)⟩,
 ⟨some 9, .pick, [.t 4, .t 8, .c (.b false)], none⟩,
 ⟨some 0, .mv, [.t 9], none⟩] [1, 2, 3, 4, 5, 6, 7, 8, 9])
 .ret)) }
/-- spec.DrawSwapGain -/
def F_spec_DrawSwapGain : LF :=
 { nparams := 1, results := [.t 2, .t 3, .t 4, .t 5], body :=
 (.seq
 (.region false [⟨some 2, .newnil 1040, [], none⟩,
 ⟨some 3, .newnil 1544, [], none⟩,
 ⟨some 4, .mv, [.c (.i 0)], none⟩,
 ⟨some 5, .mv, [.c (.i 0)], none⟩] [2, 3, 4, 5])
 (.seq
 (.region false [⟨some 8, .mv, [.t 0], none⟩,
 ⟨some 9, .call n_spec_l20Open 4608, [.t 8], none⟩,
 ⟨some 6, .mv, [.t 9], none⟩] [0, 8, 9])
 (.seq
 (.region false [⟨some 10, .mv, [.t 6], none⟩,
 ⟨some 11, .call n_spec_l20Tests 5632, [.t 10, .c (.i 14)], none⟩,
 ⟨some 7, .mv, [.t 11], none⟩] [10, 11])
 (.seq
 (.region false [⟨some 12, .mv, [.t 7], none⟩,
 ⟨some 13, .mv, [.t 6], none⟩,
 ⟨some 14, .mv, [.t 7], none⟩,
 ⟨some 15, .len, [.t 14], none⟩,
 ⟨some 16, .call n_spec_l20Order 8192, [.t 13, .t 15, .c (.i 14)], none⟩,
 ⟨some 17, .mv, [.t 6], none⟩,
 ⟨some 18, .mv, [.t 7], none⟩,
 ⟨some 19, .len, [.t 18], none⟩,
 ⟨some 20, .bin .sub, [.t 19, .c (.i 1)], none⟩,
 ⟨some 21, .mm true, [.t 20, .c (.i 1)], none⟩,
 ⟨some 22, .call n_spec_l20Rd_pick 11264, [.t 17, .t 21], none⟩,
 ⟨some 23, .mv, [.t 6], none⟩,
 ⟨some 24, .call n_spec_l20Rd_pick 12288, [.t 23, .c (.i 2)], none⟩,
 ⟨some 25, .mv, [.t 6], none⟩,
 ⟨some 26, .call n_spec_l20Rd_pick 13312, [.t 25, .c (.i 40)], none⟩,
 ⟨some 27, .bin .quo, [.t 26, .c (.i 39)], none⟩,
 ⟨some 28, .bin .add, [.t 24, .t 27], none⟩,
 ⟨some 2, .mv, [.t 12], none⟩,
 ⟨some 3, .mv, [.t 16], none⟩,
 ⟨some 4, .mv, [.t 22], none⟩,
 ⟨some 5, .mv, [.t 28], none⟩] [6, 7, 12, 13, 14, 15, 16, 17, 18, 19, 20, 21, 22, 23, 24, 25, 26, 27, 28])
 .ret)))) }
/-- impl.SwapGain -/
def F_impl_SwapGain : LF :=
 { nparams := 4, results := [.t 8, .t 9], body :=
 (.seq
 (.region false [⟨some 8, .mv, [.c (.i 0)], none⟩,
 ⟨some 9, .mv, [.c (.b false)], none⟩] [8, 9])
 (.seq
 (.region false [⟨some 13, .mv, [.t 0], none⟩,
 ⟨some 14, .len, [.t 13], none⟩,
 ⟨some 15, .mv, [.t 1], none⟩,
 ⟨some 16, .mv, [.t 2], none⟩,
 ⟨some 17, .call n_impl_SwappedOrder 8704, [.t 14, .t 15, .t 16], none⟩,
 ⟨some 12, .mv, [.t 17], none⟩,
 ⟨some 18, .ext 0, [.t 12], none⟩,
 ⟨some 19, .ext 1, [.t 12], none⟩,
 ⟨some 10, .mv, [.t 18], none⟩,
 ⟨some 11, .mv, [.t 19], none⟩] [2, 12, 13, 14, 15, 16, 17, 18, 19])
 (.seq
 (.seq
 (.region false [⟨some 20, .mv, [.t 11], none⟩,
 ⟨some 21, .un .not, [.t 20], none⟩,
 ⟨some 22, .mv, [.t 21], none⟩,
 ⟨some 23, .mv, [.t 0], some (22, false)⟩,
 ⟨some 24, .call n_impl_TestsOk 12288, [.t 23], some (22, false)⟩,
 ⟨some 25, .un .not, [.t 24], some (22, false)⟩,
 ⟨some 26, .pick, [.t 22, .c (.b true), .t 25], none⟩,
 ⟨some 27, .mv, [.t 26], none⟩,
 ⟨some 28, .mv, [.t 3], some (27, false)⟩,
 ⟨some 29, .call n_impl_rowOk 14848, [.t 28], some (27, false)⟩,
 ⟨some 30, .un .not, [.t 29], some (27, false)⟩,
 ⟨some 31, .pick, [.t 27, .c (.b true), .t 30], none⟩] [11, 20, 21, 22, 23, 24, 25, 26, 27, 28, 29, 30])
 (.cond (.t 31) [31]
 (.seq
 (.region false [⟨some 8, .mv, [.c (.i 0)], none⟩,
 ⟨some 9, .mv, [.c (.b false)], none⟩] [0, 1, 3, 10])
 .ret)
 .skip))
 (.seq
 (.region false [⟨some 32, .mv, [.t 0], none⟩,
 ⟨some 33, .mv, [.t 1], none⟩,
 ⟨some 34, .mv, [.t 3], none⟩,
 ⟨some 35, .call n_impl_RowAverage 17920, [.t 32, .t 33, .t 34], none⟩,
 ⟨some 36, .mv, [.t 0], none⟩,
 ⟨some 37, .mv, [.t 10], none⟩,
 ⟨some 38, .mv, [.t 3], none⟩,
 ⟨some 39, .call n_impl_RowAverage 19968, [.t 36, .t 37, .t 38], none⟩,
 ⟨some 40, .bin .sub, [.t 35, .t 39], none⟩,
 ⟨some 8, .mv, [.t 40], none⟩,
 ⟨some 9, .mv, [.c (.b true)], none⟩] [0, 1, 3, 10, 32, 33, 34, 35, 36, 37, 38, 39, 40])
 .ret)))) }
/-- spec.SwapGain -/
def F_spec_SwapGain : LF :=
 { nparams := 4, results := [.t 8, .t 9], body :=
 (.seq
 (.region false [⟨some 8, .mv, [.c (.i 0)], none⟩,
 ⟨some 9, .mv, [.c (.b false)], none⟩] [8, 9])
 (.seq
 (.region false [⟨some 14, .mv, [.t 0], none⟩,
 ⟨some 15, .len, [.t 14], none⟩,
 ⟨some 16, .mv, [.t 1], none⟩,
 ⟨some 17, .mv, [.t 2], none⟩,
 ⟨some 18, .call n_spec_SwappedOrder 9216, [.t 15, .t 16, .t 17], none⟩,
 ⟨some 13, .mv, [.t 18], none⟩,
 ⟨some 19, .ext 0, [.t 13], none⟩,
 ⟨some 20, .ext 1, [.t 13], none⟩,
 ⟨some 10, .mv, [.t 19], none⟩,
 ⟨some 11, .mv, [.t 20], none⟩] [2, 13, 14, 15, 16, 17, 18, 19, 20])
 (.seq
 (.region false [⟨some 21, .mv, [.t 0], none⟩,
 ⟨some 22, .mv, [.t 1], none⟩,
 ⟨some 23, .mv, [.t 3], none⟩,
 ⟨some 24, .call n_spec_RowAverage 12288, [.t 21, .t 22, .t 23], none⟩,
 ⟨some 12, .mv, [.t 24], none⟩] [1, 21, 22, 23, 24])
 (.seq
 (.seq
 (.region false [⟨some 25, .mv, [.t 11], none⟩,
 ⟨some 26, .un .not, [.t 25], none⟩,
 ⟨some 27, .mv, [.t 26], none⟩,
 ⟨some 28, .mv, [.t 12], some (27, false)⟩,
 ⟨some 29, .bin .lss, [.t 28, .c (.i 0)], some (27, false)⟩,
 ⟨some 30, .pick, [.t 27, .c (.b true), .t 29], none⟩] [11, 25, 26, 27, 28, 29])
 (.cond (.t 30) [30]
 (.seq
 (.region false [⟨some 8, .mv, [.c (.i 0)], none⟩,
 ⟨some 9, .mv, [.c (.b false)], none⟩] [0, 3, 10, 12])
 .ret)
 .skip))
 (.seq
 (.region false [⟨some 31, .mv, [.t 12], none⟩,
 ⟨some 32, .mv, [.t 0], none⟩,
 ⟨some 33, .mv, [.t 10], none⟩,
 ⟨some 34, .mv, [.t 3], none⟩,
 ⟨some 35, .call n_spec_RowAverage 17920, [.t 32, .t 33, .t 34], none⟩,
 ⟨some 36, .bin .sub, [.t 31, .t 35], none⟩,
 ⟨some 8, .mv, [.t 36], none⟩,
 ⟨some 9, .mv, [.c (.b true)], none⟩] [0, 3, 10, 12, 31, 32, 33, 34, 35, 36])
 .ret))))) }
/-- spec.DrawRatioOrder -/
def F_spec_DrawRatioOrder_L0 : LC :=
 (.seq
 (.seq
 (.region false [⟨some 14, .mv, [.t 6], none⟩,
 ⟨some 15, .mv, [.t 5], none⟩,
 ⟨some 16, .len, [.t 15], none⟩,
 ⟨some 17, .bin .lss, [.t 14, .t 16], none⟩] [14, 15, 16])
 (.cond (.t 17) [17]
 .skip
 (.exit 0)))
 (.seq
 (.block 1
 (.region false [⟨some 20, .mv, [.t 5], none⟩,
 ⟨some 21, .mv, [.t 6], none⟩,
 ⟨some 22, .mv, [.t 5], none⟩,
 ⟨some 23, .mv, [.t 6], none⟩,
 ⟨some 24, .idxa 2, [.t 22, .t 23], none⟩,
 ⟨some 25, .fld 0 1 false, [.t 24], none⟩,
 ⟨some 26, .load 1 false, [.t 25], none⟩,
 ⟨some 27, .bin .quo, [.t 26, .c (.i 4)], none⟩,
 ⟨some 28, .bin .add, [.c (.i 1), .t 27], none⟩,
 ⟨some 29, .idxa 2, [.t 20, .t 21], none⟩,
 ⟨some 30, .fld 0 1 false, [.t 29], none⟩,
 ⟨none, .store 1, [.t 30, .t 28], none⟩] [20, 21, 22, 23, 24, 25, 26, 27, 28, 29, 30]))
 (.region false [⟨some 18, .mv, [.t 6], none⟩,
 ⟨some 19, .bin .add, [.t 18, .c (.i 1)], none⟩,
 ⟨some 6, .mv, [.t 19], none⟩] [18, 19])))
def F_spec_DrawRatioOrder_W0 : LC := .loop F_spec_DrawRatioOrder_L0
def F_spec_DrawRatioOrder : LF :=
 { nparams := 1, results := [.t 2, .t 3], body :=
 (.seq
 (.region false [⟨some 2, .newnil 1040, [], none⟩,
 ⟨some 3, .mv, [.c (.i 0)], none⟩] [2, 3])
 (.seq
 (.region false [⟨some 7, .mv, [.t 0], none⟩,
 ⟨some 8, .call n_spec_l20Open 4096, [.t 7], none⟩,
 ⟨some 4, .mv, [.t 8], none⟩] [0, 7, 8])
 (.seq
 (.region false [⟨some 9, .mv, [.t 4], none⟩,
 ⟨some 10, .call n_spec_l20Tests 5120, [.t 9, .c (.i 12)], none⟩,
 ⟨some 5, .mv, [.t 10], none⟩] [9, 10])
 (.seq
 (.seq
 (.region false [⟨some 11, .mv, [.t 4], none⟩,
 ⟨some 12, .call n_spec_l20Rd_pick 6144, [.t 11, .c (.i 3)], none⟩,
 ⟨some 13, .bin .eql, [.t 12, .c (.i 0)], none⟩] [11, 12])
 (.cond (.t 13) [13]
 (.seq
 (.region false [⟨some 6, .mv, [.c (.i 0)], none⟩] [])
 (.block 0
 F_spec_DrawRatioOrder_W0))
 .skip))
 (.seq
 (.region false [⟨some 31, .mv, [.t 5], none⟩,
 ⟨some 32, .mv, [.t 4], none⟩,
 ⟨some 33, .call n_spec_l20Rd_pick 16896, [.t 32, .c (.i 2)], none⟩,
 ⟨some 34, .mv, [.t 4], none⟩,
 ⟨some 35, .call n_spec_l20Rd_pick 17920, [.t 34, .c (.i 40)], none⟩,
 ⟨some 36, .bin .quo, [.t 35, .c (.i 39)], none⟩,
 ⟨some 37, .bin .add, [.t 33, .t 36], none⟩,
 ⟨some 2, .mv, [.t 31], none⟩,
 ⟨some 3, .mv, [.t 37], none⟩] [4, 5, 6, 31, 32, 33, 34, 35, 36, 37])
 .ret))))) }
/-- impl.RatioOrder -/
def F_impl_RatioOrder_L0 : LC :=
 (.ghost (.rename 6 3080)
 (.seq
 (.region false [⟨some 20, .bin .lss, [.t 19, .t 18], none⟩] [])
 (.seq
 (.cond (.t 20) [20]
 .skip
 (.exit 0))
 (.seq
 (.block 1
 (.seq
 (.region false [⟨some 21, .mv, [.t 19], none⟩,
 ⟨some 7, .mv, [.t 21], none⟩] [21])
 (.region false [⟨some 22, .mv, [.t 6], none⟩,
 ⟨some 23, .mv, [.t 7], none⟩,
 ⟨some 24, .mv, [.t 5], none⟩,
 ⟨some 25, .callm n_impl_inserted_int [0] 12800, [.t 22, .t 23, .t 24], none⟩,
 ⟨some 6, .mv, [.t 25], none⟩] [7, 22, 23, 24, 25])))
 (.region false [⟨some 26, .bin .add, [.t 19, .c (.i 1)], none⟩,
 ⟨some 19, .mv, [.t 26], none⟩] [26])))))
def F_impl_RatioOrder_W0 : LC := .loop F_impl_RatioOrder_L0
def F_impl_RatioOrder : LF :=
 { nparams := 2, results := [.t 4], body :=
 (.seq
 (.region false [⟨some 2, .box 1032, [.t 0], none⟩,
 ⟨some 3, .box 1544, [.t 1], none⟩,
 ⟨some 4, .newnil 2056, [], none⟩] [0, 1, 4])
 (.ghost (.close_ 2)
(.ghost (.close_ 3)
 (.seq
 (.seq
 (.region false [⟨some 8, .load 1 false, [.t 2], none⟩,
 ⟨some 9, .call n_impl_TestsOk 4608, [.t 8], none⟩,
 ⟨some 10, .un .not, [.t 9], none⟩,
 ⟨some 11, .mv, [.t 10], none⟩,
 ⟨some 12, .load 1 false, [.t 3], some (11, false)⟩,
 ⟨some 13, .call n_impl_rowOk 6656, [.t 12], some (11, false)⟩,
 ⟨some 14, .un .not, [.t 13], some (11, false)⟩,
 ⟨some 15, .pick, [.t 11, .c (.b true), .t 14], none⟩] [8, 9, 10, 11, 12, 13, 14])
 (.cond (.t 15) [15]
 (.seq
 (.region false [⟨some 4, .newnil 2056, [], none⟩] [2, 3])
 .ret)
 .skip))
 (.seq
 (.region false [⟨some 16, .mkfn n_impl_RatioOrder_1, [.t 2, .t 3], none⟩,
 ⟨some 5, .mv, [.t 16], none⟩] [3, 16])
 (.seq
 (.region false [⟨some 6, .newnil 3080, [], none⟩] [])
 (.seq
 (.seq
 (.region false [⟨some 17, .load 1 false, [.t 2], none⟩,
 ⟨some 18, .len, [.t 17], none⟩,
 ⟨some 19, .mv, [.c (.i 0)], none⟩] [2, 17])
 (.block 0
 F_impl_RatioOrder_W0))
 (.seq
 (.region false [⟨some 27, .mv, [.t 6], none⟩,
 ⟨some 4, .mv, [.t 27], none⟩] [5, 6, 18, 19, 27])
 .ret)))))))) }
/-- spec.RatioOrder -/
def F_spec_RatioOrder_L1 : LC :=
 (.seq
 (.seq
 (.region true [⟨some 24, .mv, [.t 7], none⟩,
 ⟨some 25, .mv, [.t 5], none⟩,
 ⟨some 26, .len, [.t 25], none⟩,
 ⟨some 27, .bin .lss, [.t 24, .t 26], none⟩,
 ⟨some 28, .mv, [.t 27], none⟩,
 ⟨some 29, .mv, [.t 0], some (28, true)⟩,
 ⟨some 30, .mv, [.t 5], some (28, true)⟩,
 ⟨some 31, .mv, [.t 7], some (28, true)⟩,
 ⟨some 32, .idxa 1, [.t 30, .t 31], some (28, true)⟩,
 ⟨some 33, .load 1 false, [.t 32], some (28, true)⟩,
 ⟨some 34, .idxa 2, [.t 29, .t 33], some (28, true)⟩,
 ⟨some 35, .fld 0 1 false, [.t 34], some (28, true)⟩,
 ⟨some 36, .load 1 false, [.t 35], some (28, true)⟩,
 ⟨some 37, .mv, [.t 0], some (28, true)⟩,
 ⟨some 38, .mv, [.t 6], some (28, true)⟩,
 ⟨some 39, .idxa 2, [.t 37, .t 38], some (28, true)⟩,
 ⟨some 40, .load 2 true, [.t 39], some (28, true)⟩,
 ⟨some 41, .mv, [.t 1], some (28, true)⟩,
 ⟨some 42, .call n_spec_l5Ends 21504, [.t 40, .t 41], some (28, true)⟩,
 ⟨some 43, .bin .mul, [.t 36, .t 42], some (28, true)⟩,
 ⟨some 44, .mv, [.t 0], some (28, true)⟩,
 ⟨some 45, .mv, [.t 6], some (28, true)⟩,
 ⟨some 46, .idxa 2, [.t 44, .t 45], some (28, true)⟩,
 ⟨some 47, .fld 0 1 false, [.t 46], some (28, true)⟩,
 ⟨some 48, .load 1 false, [.t 47], some (28, true)⟩,
 ⟨some 49, .mv, [.t 0], some (28, true)⟩,
 ⟨some 50, .mv, [.t 5], some (28, true)⟩,
 ⟨some 51, .mv, [.t 7], some (28, true)⟩,
 ⟨some 52, .idxa 1, [.t 50, .t 51], some (28, true)⟩,
 ⟨some 53, .load 1 false, [.t 52], some (28, true)⟩,
 ⟨some 54, .idxa 2, [.t 49, .t 53], some (28, true)⟩,
 ⟨some 55, .load 2 true, [.t 54], some (28, true)⟩,
 ⟨some 56, .mv, [.t 1], some (28, true)⟩,
 ⟨some 57, .call n_spec_l5Ends 29184, [.t 55, .t 56], some (28, true)⟩,
 ⟨some 58, .bin .mul, [.t 48, .t 57], some (28, true)⟩,
 ⟨some 59, .bin .leq, [.t 43, .t 58], some (28, true)⟩,
 ⟨some 60, .pick, [.t 28, .t 59, .c (.b false)], none⟩] [24, 25, 26, 27, 28, 29, 30, 31, 32, 33, 34, 35, 36, 37, 38, 39, 40, 41, 42, 43, 44, 45, 46, 47, 48, 49, 50, 51, 52, 53, 54, 55, 56, 57, 58, 59])
 (.cond (.t 60) [60]
 .skip
 (.exit 2)))
 (.block 3
 (.region false [⟨some 61, .mv, [.t 7], none⟩,
 ⟨some 62, .bin .add, [.t 61, .c (.i 1)], none⟩,
 ⟨some 7, .mv, [.t 62], none⟩] [61, 62])))
def F_spec_RatioOrder_W1 : LC := .loop F_spec_RatioOrder_L1
def F_spec_RatioOrder_L0 : LC :=
 (.ghost (.rename 5 4616)
 (.seq
 (.seq
 (.region false [⟨some 10, .mv, [.t 6], none⟩,
 ⟨some 11, .mv, [.t 0], none⟩,
 ⟨some 12, .len, [.t 11], none⟩,
 ⟨some 13, .bin .lss, [.t 10, .t 12], none⟩,
 ⟨some 14, .mv, [.t 13], none⟩,
 ⟨some 15, .mv, [.t 0], some (14, true)⟩,
 ⟨some 16, .call n_spec_TestsOk 8192, [.t 15], some (14, true)⟩,
 ⟨some 17, .pick, [.t 14, .t 16, .c (.b false)], none⟩,
 ⟨some 18, .mv, [.t 17], none⟩,
 ⟨some 19, .mv, [.t 1], some (18, true)⟩,
 ⟨some 20, .call n_spec_l1In 10240, [.t 19, .c (.i 0), .c (.i 1)], some (18, true)⟩,
 ⟨some 21, .pick, [.t 18, .t 20, .c (.b false)], none⟩] [10, 11, 12, 13, 14, 15, 16, 17, 18, 19, 20])
 (.cond (.t 21) [21]
 .skip
 (.exit 0)))
 (.seq
 (.block 1
 (.seq
 (.region false [⟨some 7, .mv, [.c (.i 0)], none⟩] [])
 (.seq
 (.block 2
 F_spec_RatioOrder_W1)
 (.seq
 (.region false [⟨some 63, .bslice 32264 0 1 (.i 0) [], [], none⟩,
 ⟨some 64, .mv, [.t 5], none⟩,
 ⟨some 65, .mv, [.t 7], none⟩,
 ⟨some 66, .slice false true 1, [.t 64, .t 65], none⟩,
 ⟨some 67, .app 34312 1, [.t 63, .t 66], none⟩,
 ⟨some 8, .mv, [.t 67], none⟩] [63, 64, 65, 66, 67])
 (.seq
 (.region false [⟨some 68, .mv, [.t 8], none⟩,
 ⟨some 69, .mv, [.t 6], none⟩,
 ⟨some 70, .bslice 35848 1 1 (.i 0) [0], [.t 69], none⟩,
 ⟨some 71, .app 36360 1, [.t 68, .t 70], none⟩,
 ⟨some 8, .mv, [.t 71], none⟩] [68, 69, 70, 71])
 (.region false [⟨some 72, .mv, [.t 8], none⟩,
 ⟨some 73, .mv, [.t 5], none⟩,
 ⟨some 74, .mv, [.t 7], none⟩,
 ⟨some 75, .slice true false 1, [.t 73, .t 74], none⟩,
 ⟨some 76, .app 38920 1, [.t 72, .t 75], none⟩,
 ⟨some 5, .mv, [.t 76], none⟩] [7, 8, 72, 73, 74, 75, 76]))))))
 (.region false [⟨some 22, .mv, [.t 6], none⟩,
 ⟨some 23, .bin .add, [.t 22, .c (.i 1)], none⟩,
 ⟨some 6, .mv, [.t 23], none⟩] [22, 23]))))
def F_spec_RatioOrder_W0 : LC := .loop F_spec_RatioOrder_L0
def F_spec_RatioOrder : LF :=
 { nparams := 2, results := [.t 4], body :=
 (.seq
 (.region false [⟨some 4, .newnil 2056, [], none⟩] [4])
 (.seq
 (.region false [⟨some 9, .bslice 4616 0 1 (.i 0) [], [], none⟩,
 ⟨some 5, .mv, [.t 9], none⟩] [9])
 (.seq
 (.seq
 (.region false [⟨some 6, .mv, [.c (.i 0)], none⟩] [])
 (.block 0
 F_spec_RatioOrder_W0))
 (.seq
 (.region false [⟨some 77, .mv, [.t 5], none⟩,
 ⟨some 4, .mv, [.t 77], none⟩] [0, 1, 5, 6, 77])
 .ret)))) }
/-- laws.szTestS -/
def F_laws_szTestS : LF :=
 { nparams := 2, results := [.t 4], body :=
 (.seq
 (.region false [⟨some 4, .mv, [.c (.i 0)], none⟩] [4])
 (.seq
 (.region false [⟨some 5, .mv, [.t 1], none⟩,
 ⟨some 6, .mv, [.t 0], none⟩,
 ⟨some 7, .len, [.t 6], none⟩,
 ⟨some 8, .bin .sub, [.t 5, .t 7], none⟩,
 ⟨some 1, .mv, [.t 8], none⟩] [0, 5, 6, 7, 8])
 (.seq
 (.seq
 (.region false [⟨some 9, .mv, [.t 1], none⟩,
 ⟨some 10, .bin .lss, [.t 9, .c (.i 0)], none⟩] [9])
 (.cond (.t 10) [10]
 (.seq
 (.region false [⟨some 4, .mv, [.c (.i (-1))], none⟩] [1])
 .ret)
 .skip))
 (.seq
 (.region false [⟨some 11, .mv, [.t 1], none⟩,
 ⟨some 4, .mv, [.t 11], none⟩] [1, 11])
 .ret)))) }
/-- laws.toTestS -/
def F_laws_toTestS_L0 : LC :=
 (.seq
 (.seq
 (.region false [⟨some 8, .mv, [.t 4], none⟩,
 ⟨some 9, .mv, [.t 0], none⟩,
 ⟨some 10, .len, [.t 9], none⟩,
 ⟨some 11, .bin .lss, [.t 8, .t 10], none⟩] [8, 9, 10])
 (.cond (.t 11) [11]
 .skip
 (.exit 0)))
 (.seq
 (.block 1
 (.region false [⟨some 14, .mv, [.t 3], none⟩,
 ⟨some 15, .mv, [.t 4], none⟩,
 ⟨some 16, .mv, [.t 0], none⟩,
 ⟨some 17, .mv, [.t 4], none⟩,
 ⟨some 18, .idxa 2, [.t 16, .t 17], none⟩,
 ⟨some 19, .load 2 true, [.t 18], none⟩,
 ⟨some 20, .call n_laws_toTest 10240, [.t 19], none⟩,
 ⟨some 21, .idxa 2, [.t 14, .t 15], none⟩,
 ⟨none, .store 2, [.t 21, .t 20], none⟩] [14, 15, 16, 17, 18, 19, 20, 21]))
 (.region false [⟨some 12, .mv, [.t 4], none⟩,
 ⟨some 13, .bin .add, [.t 12, .c (.i 1)], none⟩,
 ⟨some 4, .mv, [.t 13], none⟩] [12, 13])))
def F_laws_toTestS_W0 : LC := .loop F_laws_toTestS_L0
def F_laws_toTestS : LF :=
 { nparams := 1, results := [.t 2], body :=
 (.seq
 (.region false [⟨some 2, .newnil 1040, [], none⟩] [2])
 (.seq
 (.region false [⟨some 5, .mv, [.t 0], none⟩,
 ⟨some 6, .len, [.t 5], none⟩,
 ⟨some 7, .make 3600 2 (.st [.i 0, .i 0]), [.t 6, .t 6], none⟩,
 ⟨some 3, .mv, [.t 7], none⟩] [5, 6, 7])
 (.seq
 (.seq
 (.region false [⟨some 4, .mv, [.c (.i 0)], none⟩] [])
 (.block 0
 F_laws_toTestS_W0))
 (.seq
 (.region false [⟨some 22, .mv, [.t 3], none⟩,
 ⟨some 2, .mv, [.t 22], none⟩] [0, 3, 4, 22])
 .ret)))) }
/-- laws.eqIntS -/
def F_laws_eqIntS_L0 : LC :=
 (.seq
 (.seq
 (.region false [⟨some 11, .mv, [.t 5], none⟩,
 ⟨some 12, .mv, [.t 0], none⟩,
 ⟨some 13, .len, [.t 12], none⟩,
 ⟨some 14, .bin .lss, [.t 11, .t 13], none⟩] [11, 12, 13])
 (.cond (.t 14) [14]
 .skip
 (.exit 0)))
 (.seq
 (.block 1
 (.seq
 (.region true [⟨some 17, .mv, [.t 0], none⟩,
 ⟨some 18, .mv, [.t 5], none⟩,
 ⟨some 19, .idxa 1, [.t 17, .t 18], none⟩,
 ⟨some 20, .load 1 false, [.t 19], none⟩,
 ⟨some 21, .mv, [.t 1], none⟩,
 ⟨some 22, .mv, [.t 5], none⟩,
 ⟨some 23, .idxa 1, [.t 21, .t 22], none⟩,
 ⟨some 24, .load 1 false, [.t 23], none⟩,
 ⟨some 25, .bin .neq, [.t 20, .t 24], none⟩] [17, 18, 19, 20, 21, 22, 23, 24])
 (.cond (.t 25) [25]
 (.seq
 (.region false [⟨some 4, .mv, [.c (.b false)], none⟩] [0, 1, 5])
 .ret)
 .skip)))
 (.region false [⟨some 15, .mv, [.t 5], none⟩,
 ⟨some 16, .bin .add, [.t 15, .c (.i 1)], none⟩,
 ⟨some 5, .mv, [.t 16], none⟩] [15, 16])))
def F_laws_eqIntS_W0 : LC := .loop F_laws_eqIntS_L0
def F_laws_eqIntS : LF :=
 { nparams := 2, results := [.t 4], body :=
 (.seq
 (.region false [⟨some 4, .mv, [.c (.b false)], none⟩] [4])
 (.seq
 (.seq
 (.region false [⟨some 6, .mv, [.t 0], none⟩,
 ⟨some 7, .len, [.t 6], none⟩,
 ⟨some 8, .mv, [.t 1], none⟩,
 ⟨some 9, .len, [.t 8], none⟩,
 ⟨some 10, .bin .neq, [.t 7, .t 9], none⟩] [6, 7, 8, 9])
 (.cond (.t 10) [10]
 (.seq
 (.region false [⟨some 4, .mv, [.c (.b false)], none⟩] [0, 1])
 .ret)
 .skip))
 (.seq
 (.seq
 (.region false [⟨some 5, .mv, [.c (.i 0)], none⟩] [])
 (.block 0
 F_laws_eqIntS_W0))
 (.seq
 (.region false [⟨some 4, .mv, [.c (.b true)], none⟩] [0, 1, 5])
 .ret)))) }
/-- laws.eqTestS -/
def F_laws_eqTestS_L0 : LC :=
 (.seq
 (.seq
 (.region false [⟨some 11, .mv, [.t 5], none⟩,
 ⟨some 12, .mv, [.t 0], none⟩,
 ⟨some 13, .len, [.t 12], none⟩,
 ⟨some 14, .bin .lss, [.t 11, .t 13], none⟩] [11, 12, 13])
 (.cond (.t 14) [14]
 .skip
 (.exit 0)))
 (.seq
 (.block 1
 (.seq
 (.region true [⟨some 17, .mv, [.t 0], none⟩,
 ⟨some 18, .mv, [.t 5], none⟩,
 ⟨some 19, .idxa 2, [.t 17, .t 18], none⟩,
 ⟨some 20, .load 2 true, [.t 19], none⟩,
 ⟨some 21, .mv, [.t 1], none⟩,
 ⟨some 22, .mv, [.t 5], none⟩,
 ⟨some 23, .idxa 2, [.t 21, .t 22], none⟩,
 ⟨some 24, .load 2 true, [.t 23], none⟩,
 ⟨some 25, .call n_laws_eqTest 12800, [.t 20, .t 24], none⟩,
 ⟨some 26, .un .not, [.t 25], none⟩] [17, 18, 19, 20, 21, 22, 23, 24, 25])
 (.cond (.t 26) [26]
 (.seq
 (.region false [⟨some 4, .mv, [.c (.b false)], none⟩] [0, 1, 5])
 .ret)
 .skip)))
 (.region false [⟨some 15, .mv, [.t 5], none⟩,
 ⟨some 16, .bin .add, [.t 15, .c (.i 1)], none⟩,
 ⟨some 5, .mv, [.t 16], none⟩] [15, 16])))
def F_laws_eqTestS_W0 : LC := .loop F_laws_eqTestS_L0
def F_laws_eqTestS : LF :=
 { nparams := 2, results := [.t 4], body :=
 (.seq
 (.region false [⟨some 4, .mv, [.c (.b false)], none⟩] [4])
 (.seq
 (.seq
 (.region false [⟨some 6, .mv, [.t 0], none⟩,
 ⟨some 7, .len, [.t 6], none⟩,
 ⟨some 8, .mv, [.t 1], none⟩,
 ⟨some 9, .len, [.t 8], none⟩,
 ⟨some 10, .bin .neq, [.t 7, .t 9], none⟩] [6, 7, 8, 9])
 (.cond (.t 10) [10]
 (.seq
 (.region false [⟨some 4, .mv, [.c (.b false)], none⟩] [0, 1])
 .ret)
 .skip))
 (.seq
 (.seq
 (.region false [⟨some 5, .mv, [.c (.i 0)], none⟩] [])
 (.block 0
 F_laws_eqTestS_W0))
 (.seq
 (.region false [⟨some 4, .mv, [.c (.b true)], none⟩] [0, 1, 5])
 .ret)))) }
/-- laws.markTestS -/
def F_laws_markTestS_L0 : LC :=
 (.seq
 (.seq
 (.region false [⟨some 6, .mv, [.t 5], none⟩,
 ⟨some 7, .mv, [.t 0], none⟩,
 ⟨some 8, .len, [.t 7], none⟩,
 ⟨some 9, .bin .lss, [.t 6, .t 8], none⟩] [6, 7, 8])
 (.cond (.t 9) [9]
 .skip
 (.exit 0)))
 (.seq
 (.block 1
 (.seq
 (.region false [⟨some 12, .mv, [.t 0], none⟩,
 ⟨some 13, .mv, [.t 5], none⟩,
 ⟨some 14, .mv, [.t 1], none⟩,
 ⟨some 15, .idxa 2, [.t 12, .t 13], none⟩,
 ⟨some 16, .fld 0 1 false, [.t 15], none⟩,
 ⟨none, .store 1, [.t 16, .t 14], none⟩] [12, 13, 14, 15, 16])
 (.seq
 (.region false [⟨some 17, .mv, [.t 1], none⟩,
 ⟨some 18, .bin .add, [.t 17, .c (.i 1)], none⟩,
 ⟨some 1, .mv, [.t 18], none⟩] [17, 18])
 (.seq
 (.region false [⟨some 19, .mv, [.t 0], none⟩,
 ⟨some 20, .mv, [.t 5], none⟩,
 ⟨some 21, .mv, [.t 1], none⟩,
 ⟨some 22, .idxa 2, [.t 19, .t 20], none⟩,
 ⟨some 23, .fld 1 1 false, [.t 22], none⟩,
 ⟨none, .store 1, [.t 23, .t 21], none⟩] [19, 20, 21, 22, 23])
 (.region false [⟨some 24, .mv, [.t 1], none⟩,
 ⟨some 25, .bin .add, [.t 24, .c (.i 1)], none⟩,
 ⟨some 1, .mv, [.t 25], none⟩] [24, 25])))))
 (.region false [⟨some 10, .mv, [.t 5], none⟩,
 ⟨some 11, .bin .add, [.t 10, .c (.i 1)], none⟩,
 ⟨some 5, .mv, [.t 11], none⟩] [10, 11])))
def F_laws_markTestS_W0 : LC := .loop F_laws_markTestS_L0
def F_laws_markTestS : LF :=
 { nparams := 2, results := [.t 4], body :=
 (.seq
 (.region false [⟨some 4, .mv, [.c (.i 0)], none⟩] [4])
 (.seq
 (.seq
 (.region false [⟨some 5, .mv, [.c (.i 0)], none⟩] [])
 (.block 0
 F_laws_markTestS_W0))
 (.seq
 (.region false [⟨some 26, .mv, [.t 1], none⟩,
 ⟨some 4, .mv, [.t 26], none⟩] [1, 5, 26])
 .ret))) }
/-- laws.markIntS -/
def F_laws_markIntS_L0 : LC :=
 (.seq
 (.seq
 (.region false [⟨some 6, .mv, [.t 5], none⟩,
 ⟨some 7, .mv, [.t 0], none⟩,
 ⟨some 8, .len, [.t 7], none⟩,
 ⟨some 9, .bin .lss, [.t 6, .t 8], none⟩] [6, 7, 8])
 (.cond (.t 9) [9]
 .skip
 (.exit 0)))
 (.seq
 (.block 1
 (.seq
 (.region false [⟨some 12, .mv, [.t 0], none⟩,
 ⟨some 13, .mv, [.t 5], none⟩,
 ⟨some 14, .mv, [.t 1], none⟩,
 ⟨some 15, .idxa 1, [.t 12, .t 13], none⟩,
 ⟨none, .store 1, [.t 15, .t 14], none⟩] [12, 13, 14, 15])
 (.region false [⟨some 16, .mv, [.t 1], none⟩,
 ⟨some 17, .bin .add, [.t 16, .c (.i 1)], none⟩,
 ⟨some 1, .mv, [.t 17], none⟩] [16, 17])))
 (.region false [⟨some 10, .mv, [.t 5], none⟩,
 ⟨some 11, .bin .add, [.t 10, .c (.i 1)], none⟩,
 ⟨some 5, .mv, [.t 11], none⟩] [10, 11])))
def F_laws_markIntS_W0 : LC := .loop F_laws_markIntS_L0
def F_laws_markIntS : LF :=
 { nparams := 2, results := [.t 4], body :=
 (.seq
 (.region false [⟨some 4, .mv, [.c (.i 0)], none⟩] [4])
 (.seq
 (.seq
 (.region false [⟨some 5, .mv, [.c (.i 0)], none⟩] [])
 (.block 0
 F_laws_markIntS_W0))
 (.seq
 (.region false [⟨some 18, .mv, [.t 1], none⟩,
 ⟨some 4, .mv, [.t 18], none⟩] [1, 5, 18])
 .ret))) }
/-- laws.heldIntS -/
def F_laws_heldIntS_L0 : LC :=
 (.seq
 (.seq
 (.region false [⟨some 6, .mv, [.t 5], none⟩,
 ⟨some 7, .mv, [.t 0], none⟩,
 ⟨some 8, .len, [.t 7], none⟩,
 ⟨some 9, .bin .lss, [.t 6, .t 8], none⟩] [6, 7, 8])
 (.cond (.t 9) [9]
 .skip
 (.exit 0)))
 (.seq
 (.block 1
 (.seq
 (.seq
 (.region false [⟨some 12, .mv, [.t 0], none⟩,
 ⟨some 13, .mv, [.t 5], none⟩,
 ⟨some 14, .idxa 1, [.t 12, .t 13], none⟩,
 ⟨some 15, .load 1 false, [.t 14], none⟩,
 ⟨some 16, .mv, [.t 1], none⟩,
 ⟨some 17, .bin .neq, [.t 15, .t 16], none⟩] [12, 13, 14, 15, 16])
 (.cond (.t 17) [17]
 (.seq
 (.region false [⟨some 4, .mv, [.c (.i (-1))], none⟩] [0, 1, 5])
 .ret)
 .skip))
 (.region false [⟨some 18, .mv, [.t 1], none⟩,
 ⟨some 19, .bin .add, [.t 18, .c (.i 1)], none⟩,
 ⟨some 1, .mv, [.t 19], none⟩] [18, 19])))
 (.region false [⟨some 10, .mv, [.t 5], none⟩,
 ⟨some 11, .bin .add, [.t 10, .c (.i 1)], none⟩,
 ⟨some 5, .mv, [.t 11], none⟩] [10, 11])))
def F_laws_heldIntS_W0 : LC := .loop F_laws_heldIntS_L0
def F_laws_heldIntS : LF :=
 { nparams := 2, results := [.t 4], body :=
 (.seq
 (.region false [⟨some 4, .mv, [.c (.i 0)], none⟩] [4])
 (.seq
 (.seq
 (.region false [⟨some 5, .mv, [.c (.i 0)], none⟩] [])
 (.block 0
 F_laws_heldIntS_W0))
 (.seq
 (.region false [⟨some 20, .mv, [.t 1], none⟩,
 ⟨some 4, .mv, [.t 20], none⟩] [0, 1, 5, 20])
 .ret))) }
/-- spec.RowAverage -/
def F_spec_RowAverage_L0 : LC :=
 (.seq
 (.seq
 (.region false [⟨some 25, .mv, [.t 9], none⟩,
 ⟨some 26, .mv, [.t 1], none⟩,
 ⟨some 27, .len, [.t 26], none⟩,
 ⟨some 28, .bin .lss, [.t 25, .t 27], none⟩] [25, 26, 27])
 (.cond (.t 28) [28]
 .skip
 (.exit 0)))
 (.seq
 (.block 1
 (.seq
 (.region true [⟨some 31, .mv, [.t 7], none⟩,
 ⟨some 32, .mv, [.t 0], none⟩,
 ⟨some 33, .mv, [.t 1], none⟩,
 ⟨some 34, .mv, [.t 9], none⟩,
 ⟨some 35, .idxa 1, [.t 33, .t 34], none⟩,
 ⟨some 36, .load 1 false, [.t 35], none⟩,
 ⟨some 37, .idxa 2, [.t 32, .t 36], none⟩,
 ⟨some 38, .fld 0 1 false, [.t 37], none⟩,
 ⟨some 39, .load 1 false, [.t 38], none⟩,
 ⟨some 40, .mv, [.t 8], none⟩,
 ⟨some 41, .bin .mul, [.t 39, .t 40], none⟩,
 ⟨some 42, .mv, [.t 1], none⟩,
 ⟨some 43, .len, [.t 42], none⟩,
 ⟨some 44, .mv, [.t 9], none⟩,
 ⟨some 45, .bin .sub, [.t 43, .t 44], none⟩,
 ⟨some 46, .call n_spec_l1Power 23552, [.t 45], none⟩,
 ⟨some 47, .bin .mul, [.t 41, .t 46], none⟩,
 ⟨some 48, .bin .add, [.t 31, .t 47], none⟩,
 ⟨some 7, .mv, [.t 48], none⟩] [31, 32, 33, 34, 35, 36, 37, 38, 39, 40, 41, 42, 43, 44, 45, 46, 47, 48])
 (.region false [⟨some 49, .mv, [.t 8], none⟩,
 ⟨some 50, .mv, [.t 0], none⟩,
 ⟨some 51, .mv, [.t 1], none⟩,
 ⟨some 52, .mv, [.t 9], none⟩,
 ⟨some 53, .idxa 1, [.t 51, .t 52], none⟩,
 ⟨some 54, .load 1 false, [.t 53], none⟩,
 ⟨some 55, .idxa 2, [.t 50, .t 54], none⟩,
 ⟨some 56, .load 2 true, [.t 55], none⟩,
 ⟨some 57, .mv, [.t 2], none⟩,
 ⟨some 58, .call n_spec_l5Ends 29696, [.t 56, .t 57], none⟩,
 ⟨some 59, .bin .sub, [.c (.i 6), .t 58], none⟩,
 ⟨some 60, .bin .mul, [.t 49, .t 59], none⟩,
 ⟨some 8, .mv, [.t 60], none⟩] [49, 50, 51, 52, 53, 54, 55, 56, 57, 58, 59, 60])))
 (.region false [⟨some 29, .mv, [.t 9], none⟩,
 ⟨some 30, .bin .add, [.t 29, .c (.i 1)], none⟩,
 ⟨some 9, .mv, [.t 30], none⟩] [29, 30])))
def F_spec_RowAverage_W0 : LC := .loop F_spec_RowAverage_L0
def F_spec_RowAverage : LF :=
 { nparams := 3, results := [.t 6], body :=
 (.seq
 (.region false [⟨some 6, .mv, [.c (.i 0)], none⟩] [6])
 (.seq
 (.seq
 (.region false [⟨some 10, .mv, [.t 0], none⟩,
 ⟨some 11, .call n_spec_TestsOk 5632, [.t 10], none⟩,
 ⟨some 12, .un .not, [.t 11], none⟩,
 ⟨some 13, .mv, [.t 12], none⟩,
 ⟨some 14, .mv, [.t 0], some (13, false)⟩,
 ⟨some 15, .len, [.t 14], some (13, false)⟩,
 ⟨some 16, .mv, [.t 1], some (13, false)⟩,
 ⟨some 17, .call n_spec_OrderOk 8704, [.t 15, .t 16], some (13, false)⟩,
 ⟨some 18, .un .not, [.t 17], some (13, false)⟩,
 ⟨some 19, .pick, [.t 13, .c (.b true), .t 18], none⟩,
 ⟨some 20, .mv, [.t 19], none⟩,
 ⟨some 21, .mv, [.t 2], some (20, false)⟩,
 ⟨some 22, .call n_spec_l1In 11264, [.t 21, .c (.i 0), .c (.i 1)], some (20, false)⟩,
 ⟨some 23, .un .not, [.t 22], some (20, false)⟩,
 ⟨some 24, .pick, [.t 20, .c (.b true), .t 23], none⟩] [10, 11, 12, 13, 14, 15, 16, 17, 18, 19, 20, 21, 22, 23])
 (.cond (.t 24) [24]
 (.seq
 (.region false [⟨some 6, .mv, [.c (.i (-1))], none⟩] [0, 1, 2])
 .ret)
 .skip))
 (.seq
 (.region false [⟨some 7, .mv, [.c (.i 0)], none⟩] [])
 (.seq
 (.region false [⟨some 8, .mv, [.c (.i 1)], none⟩] [])
 (.seq
 (.seq
 (.region false [⟨some 9, .mv, [.c (.i 0)], none⟩] [])
 (.block 0
 F_spec_RowAverage_W0))
 (.seq
 (.region false [⟨some 61, .mv, [.t 7], none⟩,
 ⟨some 6, .mv, [.t 61], none⟩] [0, 1, 2, 7, 8, 9, 61])
 .ret)))))) }
/-- laws.toIntS -/
def F_laws_toIntS_L0 : LC :=
 (.seq
 (.seq
 (.region false [⟨some 8, .mv, [.t 4], none⟩,
 ⟨some 9, .mv, [.t 0], none⟩,
 ⟨some 10, .len, [.t 9], none⟩,
 ⟨some 11, .bin .lss, [.t 8, .t 10], none⟩] [8, 9, 10])
 (.cond (.t 11) [11]
 .skip
 (.exit 0)))
 (.seq
 (.block 1
 (.region false [⟨some 14, .mv, [.t 3], none⟩,
 ⟨some 15, .mv, [.t 4], none⟩,
 ⟨some 16, .mv, [.t 0], none⟩,
 ⟨some 17, .mv, [.t 4], none⟩,
 ⟨some 18, .idxa 1, [.t 16, .t 17], none⟩,
 ⟨some 19, .load 1 false, [.t 18], none⟩,
 ⟨some 20, .idxa 1, [.t 14, .t 15], none⟩,
 ⟨none, .store 1, [.t 20, .t 19], none⟩] [14, 15, 16, 17, 18, 19, 20]))
 (.region false [⟨some 12, .mv, [.t 4], none⟩,
 ⟨some 13, .bin .add, [.t 12, .c (.i 1)], none⟩,
 ⟨some 4, .mv, [.t 13], none⟩] [12, 13])))
def F_laws_toIntS_W0 : LC := .loop F_laws_toIntS_L0
def F_laws_toIntS : LF :=
 { nparams := 1, results := [.t 2], body :=
 (.seq
 (.region false [⟨some 2, .newnil 1032, [], none⟩] [2])
 (.seq
 (.region false [⟨some 5, .mv, [.t 0], none⟩,
 ⟨some 6, .len, [.t 5], none⟩,
 ⟨some 7, .make 3592 1 (.i 0), [.t 6, .t 6], none⟩,
 ⟨some 3, .mv, [.t 7], none⟩] [5, 6, 7])
 (.seq
 (.seq
 (.region false [⟨some 4, .mv, [.c (.i 0)], none⟩] [])
 (.block 0
 F_laws_toIntS_W0))
 (.seq
 (.region false [⟨some 21, .mv, [.t 3], none⟩,
 ⟨some 2, .mv, [.t 21], none⟩] [0, 3, 4, 21])
 .ret)))) }
/-- impl.RowAverage -/
def F_impl_RowAverage_L0 : LC :=
 (.seq
 (.region false [⟨some 33, .bin .lss, [.t 32, .t 31], none⟩] [])
 (.seq
 (.cond (.t 33) [33]
 .skip
 (.exit 0))
 (.seq
 (.block 1
 (.seq
 (.region false [⟨some 34, .idxa 1, [.t 30, .t 32], none⟩,
 ⟨some 35, .load 1 false, [.t 34], none⟩,
 ⟨some 11, .mv, [.t 35], none⟩] [34, 35])
 (.seq
 (.region false [⟨some 36, .mv, [.t 8], none⟩,
 ⟨some 37, .mv, [.t 0], none⟩,
 ⟨some 38, .mv, [.t 11], none⟩,
 ⟨some 39, .idxa 2, [.t 37, .t 38], none⟩,
 ⟨some 40, .fld 0 1 false, [.t 39], none⟩,
 ⟨some 41, .load 1 false, [.t 40], none⟩,
 ⟨some 42, .mv, [.t 9], none⟩,
 ⟨some 43, .bin .mul, [.t 41, .t 42], none⟩,
 ⟨some 44, .bin .add, [.t 36, .t 43], none⟩,
 ⟨some 8, .mv, [.t 44], none⟩] [36, 37, 38, 39, 40, 41, 42, 43, 44])
 (.region false [⟨some 45, .mv, [.t 9], none⟩,
 ⟨some 46, .bin .quo, [.t 45, .c (.i 6)], none⟩,
 ⟨some 47, .mv, [.t 0], none⟩,
 ⟨some 48, .mv, [.t 11], none⟩,
 ⟨some 49, .idxa 2, [.t 47, .t 48], none⟩,
 ⟨some 50, .load 2 true, [.t 49], none⟩,
 ⟨some 51, .mv, [.t 2], none⟩,
 ⟨some 52, .call n_impl_endChance 26624, [.t 50, .t 51], none⟩,
 ⟨some 53, .bin .sub, [.c (.i 6), .t 52], none⟩,
 ⟨some 54, .bin .mul, [.t 46, .t 53], none⟩,
 ⟨some 9, .mv, [.t 54], none⟩] [11, 45, 46, 47, 48, 49, 50, 51, 52, 53, 54]))))
 (.region false [⟨some 55, .bin .add, [.t 32, .c (.i 1)], none⟩,
 ⟨some 32, .mv, [.t 55], none⟩] [55]))))
def F_impl_RowAverage_W0 : LC := .loop F_impl_RowAverage_L0
def F_impl_RowAverage : LF :=
 { nparams := 3, results := [.t 6], body :=
 (.seq
 (.region false [⟨some 6, .mv, [.c (.i 0)], none⟩] [6])
 (.seq
 (.region false [⟨some 12, .mv, [.t 0], none⟩,
 ⟨some 13, .len, [.t 12], none⟩,
 ⟨some 7, .mv, [.t 13], none⟩] [12, 13])
 (.seq
 (.seq
 (.region false [⟨some 14, .mv, [.t 0], none⟩,
 ⟨some 15, .call n_impl_TestsOk 7680, [.t 14], none⟩,
 ⟨some 16, .un .not, [.t 15], none⟩,
 ⟨some 17, .mv, [.t 16], none⟩,
 ⟨some 18, .mv, [.t 7], some (17, false)⟩,
 ⟨some 19, .mv, [.t 1], some (17, false)⟩,
 ⟨some 20, .call n_impl_OrderOk 10240, [.t 18, .t 19], some (17, false)⟩,
 ⟨some 21, .un .not, [.t 20], some (17, false)⟩,
 ⟨some 22, .pick, [.t 17, .c (.b true), .t 21], none⟩,
 ⟨some 23, .mv, [.t 22], none⟩,
 ⟨some 24, .mv, [.t 2], some (23, false)⟩,
 ⟨some 25, .call n_impl_rowOk 12800, [.t 24], some (23, false)⟩,
 ⟨some 26, .un .not, [.t 25], some (23, false)⟩,
 ⟨some 27, .pick, [.t 23, .c (.b true), .t 26], none⟩] [14, 15, 16, 17, 18, 19, 20, 21, 22, 23, 24, 25, 26])
 (.cond (.t 27) [27]
 (.seq
 (.region false [⟨some 6, .mv, [.c (.i (-1))], none⟩] [0, 1, 2, 7])
 .ret)
 .skip))
 (.seq
 (.region false [⟨some 28, .mv, [.t 7], none⟩,
 ⟨some 29, .call n_impl_wholeOf 14848, [.t 28], none⟩,
 ⟨some 8, .mv, [.c (.i 0)], none⟩,
 ⟨some 9, .mv, [.t 29], none⟩] [7, 28, 29])
 (.seq
 (.seq
 (.region false [⟨some 30, .mv, [.t 1], none⟩,
 ⟨some 31, .len, [.t 30], none⟩,
 ⟨some 32, .mv, [.c (.i 0)], none⟩] [1])
 (.block 0
 F_impl_RowAverage_W0))
 (.seq
 (.region false [⟨some 56, .mv, [.t 8], none⟩,
 ⟨some 6, .mv, [.t 56], none⟩] [0, 2, 8, 9, 30, 31, 32, 56])
 .ret)))))) }
/-- spec.l20Open -/
def F_spec_l20Open : LF :=
 { nparams := 1, results := [.t 2], body :=
 (.seq
 (.region false [⟨some 2, .mv, [.c (.np)], none⟩] [2])
 (.seq
 (.seq
 (.region false [⟨some 3, .mv, [.t 0], none⟩,
 ⟨some 4, .len, [.t 3], none⟩,
 ⟨some 5, .bin .gtr, [.t 4, .c (.i 2000)], none⟩] [3, 4])
 (.cond (.t 5) [5]
 (.region false [⟨some 6, .mv, [.t 0], none⟩,
 ⟨some 7, .slice false true 1, [.t 6, .c (.i 2000)], none⟩,
 ⟨some 0, .mv, [.t 7], none⟩] [6, 7])
 .skip))
 (.seq
 (.region false [⟨some 8, .mv, [.t 0], none⟩,
 ⟨some 9, .build [.sl 1 [], .i 0] [(0, 1)], [.t 8], none⟩,
 ⟨some 10, .box 5136, [.t 9], none⟩,
 ⟨some 2, .mv, [.t 10], none⟩] [0, 8, 9, 10])
 .ret))) }
/-- spec.l20Rd).pick -/
def F_spec_l20Rd_pick : LF :=
 { nparams := 2, results := [.t 4], body :=
 (.seq
 (.region false [⟨some 4, .mv, [.c (.i 0)], none⟩] [4])
 (.seq
 (.region false [⟨some 7, .mv, [.t 0], none⟩,
 ⟨some 8, .mv, [.t 0], none⟩,
 ⟨some 9, .chk, [.t 8], none⟩,
 ⟨some 10, .fld 1 1 false, [.t 9], none⟩,
 ⟨some 11, .load 1 false, [.t 10], none⟩,
 ⟨some 12, .bin .add, [.t 11, .c (.i 1)], none⟩,
 ⟨some 13, .chk, [.t 7], none⟩,
 ⟨some 14, .fld 1 1 false, [.t 13], none⟩,
 ⟨none, .store 1, [.t 14, .t 12], none⟩] [7, 8, 9, 10, 11, 12, 13, 14])
 (.seq
 (.seq
 (.region false [⟨some 15, .mv, [.t 1], none⟩,
 ⟨some 16, .bin .lss, [.t 15, .c (.i 1)], none⟩,
 ⟨some 17, .mv, [.t 16], none⟩,
 ⟨some 18, .mv, [.t 0], some (17, false)⟩,
 ⟨some 19, .chk, [.t 18], some (17, false)⟩,
 ⟨some 20, .fld 0 1 false, [.t 19], some (17, false)⟩,
 ⟨some 21, .load 1 false, [.t 20], some (17, false)⟩,
 ⟨some 22, .len, [.t 21], some (17, false)⟩,
 ⟨some 23, .bin .eql, [.t 22, .c (.i 0)], some (17, false)⟩,
 ⟨some 24, .pick, [.t 17, .c (.b true), .t 23], none⟩] [15, 16, 17, 18, 19, 20, 21, 22, 23])
 (.cond (.t 24) [24]
 (.seq
 (.region false [⟨some 4, .mv, [.c (.i 0)], none⟩] [1])
 .ret)
 .skip))
 (.seq
 (.region false [⟨some 25, .mv, [.t 0], none⟩,
 ⟨some 26, .chk, [.t 25], none⟩,
 ⟨some 27, .fld 1 1 false, [.t 26], none⟩,
 ⟨some 28, .load 1 false, [.t 27], none⟩,
 ⟨some 29, .bin .sub, [.t 28, .c (.i 1)], none⟩,
 ⟨some 5, .mv, [.t 29], none⟩] [25, 26, 27, 28, 29])
 (.seq
 (.seq
 (.region false [⟨some 30, .mv, [.t 5], none⟩,
 ⟨some 31, .mv, [.t 0], none⟩,
 ⟨some 32, .chk, [.t 31], none⟩,
 ⟨some 33, .fld 0 1 false, [.t 32], none⟩,
 ⟨some 34, .load 1 false, [.t 33], none⟩,
 ⟨some 35, .len, [.t 34], none⟩,
 ⟨some 36, .bin .lss, [.t 30, .t 35], none⟩] [30, 31, 32, 33, 34, 35])
 (.cond (.t 36) [36]
 (.seq
 (.region false [⟨some 37, .mv, [.t 0], none⟩,
 ⟨some 38, .chk, [.t 37], none⟩,
 ⟨some 39, .fld 0 1 false, [.t 38], none⟩,
 ⟨some 40, .load 1 false, [.t 39], none⟩,
 ⟨some 41, .mv, [.t 5], none⟩,
 ⟨some 42, .idxa 1, [.t 40, .t 41], none⟩,
 ⟨some 43, .load 1 false, [.t 42], none⟩,
 ⟨some 44, .conv .b2i 22528, [.t 43], none⟩,
 ⟨some 45, .mv, [.t 1], none⟩,
 ⟨some 46, .bin .rem, [.t 44, .t 45], none⟩,
 ⟨some 4, .mv, [.t 46], none⟩] [1, 5, 37, 38, 39, 40, 41, 42, 43, 44, 45, 46])
 .ret)
 .skip))
 (.seq
 (.region true [⟨some 47, .mv, [.t 0], none⟩,
 ⟨some 48, .chk, [.t 47], none⟩,
 ⟨some 49, .fld 0 1 false, [.t 48], none⟩,
 ⟨some 50, .load 1 false, [.t 49], none⟩,
 ⟨some 51, .mv, [.t 5], none⟩,
 ⟨some 52, .mv, [.t 0], none⟩,
 ⟨some 53, .chk, [.t 52], none⟩,
 ⟨some 54, .fld 0 1 false, [.t 53], none⟩,
 ⟨some 55, .load 1 false, [.t 54], none⟩,
 ⟨some 56, .len, [.t 55], none⟩,
 ⟨some 57, .bin .rem, [.t 51, .t 56], none⟩,
 ⟨some 58, .idxa 1, [.t 50, .t 57], none⟩,
 ⟨some 59, .load 1 false, [.t 58], none⟩,
 ⟨some 60, .conv .b2i 30720, [.t 59], none⟩,
 ⟨some 61, .bin .mul, [.t 60, .c (.i 131)], none⟩,
 ⟨some 62, .mv, [.t 0], none⟩,
 ⟨some 63, .chk, [.t 62], none⟩,
 ⟨some 64, .fld 0 1 false, [.t 63], none⟩,
 ⟨some 65, .load 1 false, [.t 64], none⟩,
 ⟨some 66, .mv, [.t 5], none⟩,
 ⟨some 67, .bin .mul, [.t 66, .c (.i 7)], none⟩,
 ⟨some 68, .bin .add, [.t 67, .c (.i 3)], none⟩,
 ⟨some 69, .mv, [.t 0], none⟩,
 ⟨some 70, .chk, [.t 69], none⟩,
 ⟨some 71, .fld 0 1 false, [.t 70], none⟩,
 ⟨some 72, .load 1 false, [.t 71], none⟩,
 ⟨some 73, .len, [.t 72], none⟩,
 ⟨some 74, .bin .rem, [.t 68, .t 73], none⟩,
 ⟨some 75, .idxa 1, [.t 65, .t 74], none⟩,
 ⟨some 76, .load 1 false, [.t 75], none⟩,
 ⟨some 77, .conv .b2i 39424, [.t 76], none⟩,
 ⟨some 78, .bin .mul, [.t 77, .c (.i 1117)], none⟩,
 ⟨some 79, .bin .add, [.t 61, .t 78], none⟩,
 ⟨some 80, .mv, [.t 5], none⟩,
 ⟨some 81, .bin .mul, [.t 80, .c (.i 29)], none⟩,
 ⟨some 82, .bin .add, [.t 79, .t 81], none⟩,
 ⟨some 83, .mv, [.t 5], none⟩,
 ⟨some 84, .mv, [.t 0], none⟩,
 ⟨some 85, .chk, [.t 84], none⟩,
 ⟨some 86, .fld 0 1 false, [.t 85], none⟩,
 ⟨some 87, .load 1 false, [.t 86], none⟩,
 ⟨some 88, .len, [.t 87], none⟩,
 ⟨some 89, .bin .quo, [.t 83, .t 88], none⟩,
 ⟨some 90, .bin .mul, [.t 89, .c (.i 53)], none⟩,
 ⟨some 91, .bin .add, [.t 82, .t 90], none⟩,
 ⟨some 6, .mv, [.t 91], none⟩] [5, 47, 48, 49, 50, 51, 52, 53, 54, 55, 56, 57, 58, 59, 60, 61, 62, 63, 64, 65, 66, 67, 68, 69, 70, 71, 72, 73, 74, 75, 76, 77, 78, 79, 80, 81, 82, 83, 84, 85, 86, 87, 88, 89, 90, 91])
 (.seq
 (.region false [⟨some 92, .mv, [.t 6], none⟩,
 ⟨some 93, .mv, [.t 6], none⟩,
 ⟨some 94, .bin .quo, [.t 93, .c (.i 64)], none⟩,
 ⟨some 95, .bin .xor, [.t 92, .t 94], none⟩,
 ⟨some 6, .mv, [.t 95], none⟩] [92, 93, 94, 95])
 (.seq
 (.region false [⟨some 96, .mv, [.t 6], none⟩,
 ⟨some 97, .mv, [.t 1], none⟩,
 ⟨some 98, .bin .rem, [.t 96, .t 97], none⟩,
 ⟨some 4, .mv, [.t 98], none⟩] [1, 6, 96, 97, 98])
 .ret)))))))) }
/-- impl.manyOk -/
def F_impl_manyOk : LF :=
 { nparams := 1, results := [.t 2], body :=
 (.seq
 (.region false [⟨some 2, .mv, [.c (.b false)], none⟩] [2])
 (.seq
 (.region false [⟨some 3, .mv, [.t 0], none⟩,
 ⟨some 4, .call n_impl_isWithin 2048, [.t 3, .c (.i 1), .c (.i 5)], none⟩,
 ⟨some 2, .mv, [.t 4], none⟩] [0, 3, 4])
 .ret)) }
/-- impl.rowOk -/
def F_impl_rowOk : LF :=
 { nparams := 1, results := [.t 2], body :=
 (.seq
 (.region false [⟨some 2, .mv, [.c (.b false)], none⟩] [2])
 (.seq
 (.region false [⟨some 3, .mv, [.t 0], none⟩,
 ⟨some 4, .bin .eql, [.t 3, .c (.i 0)], none⟩,
 ⟨some 5, .mv, [.t 4], none⟩,
 ⟨some 6, .mv, [.t 0], some (5, false)⟩,
 ⟨some 7, .bin .eql, [.t 6, .c (.i 1)], some (5, false)⟩,
 ⟨some 8, .pick, [.t 5, .c (.b true), .t 7], none⟩,
 ⟨some 2, .mv, [.t 8], none⟩] [0, 3, 4, 5, 6, 7, 8])
 .ret)) }
/-- spec.l1In -/
def F_spec_l1In : LF :=
 { nparams := 3, results := [.t 6], body :=
 (.seq
 (.region false [⟨some 6, .mv, [.c (.b false)], none⟩] [6])
 (.seq
 (.region false [⟨some 7, .mv, [.t 0], none⟩,
 ⟨some 8, .mv, [.t 1], none⟩,
 ⟨some 9, .bin .geq, [.t 7, .t 8], none⟩,
 ⟨some 10, .mv, [.t 9], none⟩,
 ⟨some 11, .mv, [.t 0], some (10, true)⟩,
 ⟨some 12, .mv, [.t 2], some (10, true)⟩,
 ⟨some 13, .bin .leq, [.t 11, .t 12], some (10, true)⟩,
 ⟨some 14, .pick, [.t 10, .t 13, .c (.b false)], none⟩,
 ⟨some 6, .mv, [.t 14], none⟩] [0, 1, 2, 7, 8, 9, 10, 11, 12, 13, 14])
 .ret)) }
/-- impl.TestsOk -/
def F_impl_TestsOk_L0 : LC :=
 (.seq
 (.region false [⟨some 12, .bin .lss, [.t 11, .t 10], none⟩] [])
 (.seq
 (.cond (.t 12) [12]
 .skip
 (.exit 0))
 (.seq
 (.block 1
 (.seq
 (.region false [⟨some 13, .idxa 2, [.t 9, .t 11], none⟩,
 ⟨some 14, .load 2 true, [.t 13], none⟩,
 ⟨some 4, .alloc 2064 (.st [.i 0, .i 0]), [], none⟩,
 ⟨none, .store 2, [.t 4, .t 14], none⟩] [13, 14])
 (.seq
 (.region false [⟨some 15, .fld 0 1 false, [.t 4], none⟩,
 ⟨some 16, .load 1 false, [.t 15], none⟩,
 ⟨some 17, .call n_impl_isWithin 8704, [.t 16, .c (.i 1), .c (.i 9)], none⟩,
 ⟨some 18, .un .not, [.t 17], none⟩,
 ⟨some 19, .mv, [.t 18], none⟩,
 ⟨some 20, .fld 1 1 false, [.t 4], some (19, false)⟩,
 ⟨some 21, .load 1 false, [.t 20], some (19, false)⟩,
 ⟨some 22, .call n_impl_isWithin 11264, [.t 21, .c (.i 1), .c (.i 5)], some (19, false)⟩,
 ⟨some 23, .un .not, [.t 22], some (19, false)⟩,
 ⟨some 24, .pick, [.t 19, .c (.b true), .t 23], none⟩] [4, 15, 16, 17, 18, 19, 20, 21, 22, 23])
 (.cond (.t 24) [24]
 (.seq
 (.region false [⟨some 2, .mv, [.c (.b false)], none⟩] [9, 10, 11])
 .ret)
 .skip))))
 (.region false [⟨some 25, .bin .add, [.t 11, .c (.i 1)], none⟩,
 ⟨some 11, .mv, [.t 25], none⟩] [25]))))
def F_impl_TestsOk_W0 : LC := .loop F_impl_TestsOk_L0
def F_impl_TestsOk : LF :=
 { nparams := 1, results := [.t 2], body :=
 (.seq
 (.region false [⟨some 2, .mv, [.c (.b false)], none⟩] [2])
 (.seq
 (.seq
 (.region false [⟨some 5, .mv, [.t 0], none⟩,
 ⟨some 6, .len, [.t 5], none⟩,
 ⟨some 7, .call n_impl_manyOk 3584, [.t 6], none⟩,
 ⟨some 8, .un .not, [.t 7], none⟩] [5, 6, 7])
 (.cond (.t 8) [8]
 (.seq
 (.region false [⟨some 2, .mv, [.c (.b false)], none⟩] [0])
 .ret)
 .skip))
 (.seq
 (.seq
 (.region false [⟨some 9, .mv, [.t 0], none⟩,
 ⟨some 10, .len, [.t 9], none⟩,
 ⟨some 11, .mv, [.c (.i 0)], none⟩] [0])
 (.block 0
 F_impl_TestsOk_W0))
 (.seq
 (.region false [⟨some 2, .mv, [.c (.b true)], none⟩] [9, 10, 11])
 .ret)))) }
/-- impl.isWithin -/
def F_impl_isWithin : LF :=
 { nparams := 3, results := [.t 6], body :=
 (.seq
 (.region false [⟨some 6, .mv, [.c (.b false)], none⟩] [6])
 (.seq
 (.region false [⟨some 7, .mv, [.t 1], none⟩,
 ⟨some 8, .mv, [.t 0], none⟩,
 ⟨some 9, .bin .leq, [.t 7, .t 8], none⟩,
 ⟨some 10, .mv, [.t 9], none⟩,
 ⟨some 11, .mv, [.t 0], some (10, true)⟩,
 ⟨some 12, .mv, [.t 2], some (10, true)⟩,
 ⟨some 13, .bin .leq, [.t 11, .t 12], some (10, true)⟩,
 ⟨some 14, .pick, [.t 10, .t 13, .c (.b false)], none⟩,
 ⟨some 6, .mv, [.t 14], none⟩] [0, 1, 2, 7, 8, 9, 10, 11, 12, 13, 14])
 .ret)) }
/-- spec.l20Tests -/
def F_spec_l20Tests_L0 : LC :=
 (.seq
 (.seq
 (.region false [⟨some 11, .mv, [.t 6], none⟩,
 ⟨some 12, .bin .gtr, [.t 11, .c (.i 0)], none⟩] [11])
 (.cond (.t 12) [12]
 .skip
 (.exit 0)))
 (.seq
 (.block 1
 (.region false [⟨some 15, .mv, [.t 5], none⟩,
 ⟨some 16, .mv, [.t 0], none⟩,
 ⟨some 17, .call n_spec_l20Rd_pick 8704, [.t 16, .c (.i 9)], none⟩,
 ⟨some 18, .bin .add, [.c (.i 1), .t 17], none⟩,
 ⟨some 19, .mv, [.t 0], none⟩,
 ⟨some 20, .call n_spec_l20Rd_pick 10240, [.t 19, .c (.i 5)], none⟩,
 ⟨some 21, .bin .add, [.c (.i 1), .t 20], none⟩,
 ⟨some 22, .build [.i 0, .i 0] [(0, 1), (1, 1)], [.t 18, .t 21], none⟩,
 ⟨some 23, .bslice 11792 1 2 (.st [.i 0, .i 0]) [0], [.t 22], none⟩,
 ⟨some 24, .app 12304 2, [.t 15, .t 23], none⟩,
 ⟨some 5, .mv, [.t 24], none⟩] [15, 16, 17, 18, 19, 20, 21, 22, 23, 24]))
 (.region false [⟨some 13, .mv, [.t 6], none⟩,
 ⟨some 14, .bin .sub, [.t 13, .c (.i 1)], none⟩,
 ⟨some 6, .mv, [.t 14], none⟩] [13, 14])))
def F_spec_l20Tests_W0 : LC := .loop F_spec_l20Tests_L0
def F_spec_l20Tests : LF :=
 { nparams := 2, results := [.t 4], body :=
 (.seq
 (.region false [⟨some 4, .newnil 2064, [], none⟩] [4])
 (.seq
 (.region false [⟨some 7, .bslice 3600 0 2 (.st [.i 0, .i 0]) [], [], none⟩,
 ⟨some 5, .mv, [.t 7], none⟩] [7])
 (.seq
 (.seq
 (.region false [⟨some 8, .mv, [.t 0], none⟩,
 ⟨some 9, .call n_spec_l20Rd_pick 4608, [.t 8, .c (.i 5)], none⟩,
 ⟨some 10, .bin .add, [.c (.i 1), .t 9], none⟩,
 ⟨some 6, .mv, [.t 10], none⟩] [8, 9, 10])
 (.block 0
 F_spec_l20Tests_W0))
 (.seq
 (.seq
 (.region false [⟨some 25, .mv, [.t 0], none⟩,
 ⟨some 26, .mv, [.t 1], none⟩,
 ⟨some 27, .call n_spec_l20Rd_odd 13824, [.t 25, .t 26], none⟩] [1, 6, 25, 26])
 (.cond (.t 27) [27]
 (.seq
 (.region false [⟨some 28, .mv, [.t 0], none⟩,
 ⟨some 29, .call n_spec_l20Rd_pick 14848, [.t 28, .c (.i 3)], none⟩] [28])
 (.block 2
 (.seq
 (.region false [⟨some 39, .bin .eql, [.t 29, .c (.i 0)], none⟩,
 ⟨some 38, .mv, [.t 39], none⟩] [39])
 (.cond (.t 38) [38]
 (.seq
 (.region false [⟨some 40, .bslice 20496 0 2 (.st [.i 0, .i 0]) [], [], none⟩,
 ⟨some 4, .mv, [.t 40], none⟩] [5, 29, 40])
 .ret)
 (.seq
 (.region false [⟨some 42, .bin .eql, [.t 29, .c (.i 1)], none⟩,
 ⟨some 41, .mv, [.t 42], none⟩] [29, 42])
 (.cond (.t 41) [41]
 (.region false [⟨some 43, .mv, [.t 5], none⟩,
 ⟨some 44, .bslice 22536 2 1 (.i 0) [0, 1], [.c (.i 0), .c (.i 10)], none⟩,
 ⟨some 45, .mv, [.t 0], none⟩,
 ⟨some 46, .call n_spec_l20Rd_pick 23552, [.t 45, .c (.i 2)], none⟩,
 ⟨some 47, .idxa 1, [.t 44, .t 46], none⟩,
 ⟨some 48, .load 1 false, [.t 47], none⟩,
 ⟨some 49, .idxa 2, [.t 43, .c (.i 0)], none⟩,
 ⟨some 50, .fld 0 1 false, [.t 49], none⟩,
 ⟨none, .store 1, [.t 50, .t 48], none⟩] [43, 44, 45, 46, 47, 48, 49, 50])
 (.region false [⟨some 30, .mv, [.t 5], none⟩,
 ⟨some 31, .bslice 15880 2 1 (.i 0) [0, 1], [.c (.i 0), .c (.i 6)], none⟩,
 ⟨some 32, .mv, [.t 0], none⟩,
 ⟨some 33, .call n_spec_l20Rd_pick 16896, [.t 32, .c (.i 2)], none⟩,
 ⟨some 34, .idxa 1, [.t 31, .t 33], none⟩,
 ⟨some 35, .load 1 false, [.t 34], none⟩,
 ⟨some 36, .idxa 2, [.t 30, .c (.i 0)], none⟩,
 ⟨some 37, .fld 1 1 false, [.t 36], none⟩,
 ⟨none, .store 1, [.t 37, .t 35], none⟩] [30, 31, 32, 33, 34, 35, 36, 37])))))))
 .skip))
 (.seq
 (.region false [⟨some 51, .mv, [.t 5], none⟩,
 ⟨some 4, .mv, [.t 51], none⟩] [5, 51])
 .ret))))) }
/-- spec.l20Order -/
def F_spec_l20Order_L0 : LC :=
 (.ghost (.rename 7 5640)
 (.seq
 (.seq
 (.region false [⟨some 12, .mv, [.t 8], none⟩,
 ⟨some 13, .mv, [.t 1], none⟩,
 ⟨some 14, .bin .lss, [.t 12, .t 13], none⟩] [12, 13])
 (.cond (.t 14) [14]
 .skip
 (.exit 0)))
 (.seq
 (.block 1
 (.seq
 (.region false [⟨some 17, .mv, [.t 0], none⟩,
 ⟨some 18, .mv, [.t 7], none⟩,
 ⟨some 19, .len, [.t 18], none⟩,
 ⟨some 20, .bin .add, [.t 19, .c (.i 1)], none⟩,
 ⟨some 21, .call n_spec_l20Rd_pick 10752, [.t 17, .t 20], none⟩,
 ⟨some 9, .mv, [.t 21], none⟩] [17, 18, 19, 20, 21])
 (.seq
 (.region false [⟨some 22, .bslice 11272 0 1 (.i 0) [], [], none⟩,
 ⟨some 23, .mv, [.t 7], none⟩,
 ⟨some 24, .mv, [.t 9], none⟩,
 ⟨some 25, .slice false true 1, [.t 23, .t 24], none⟩,
 ⟨some 26, .app 13320 1, [.t 22, .t 25], none⟩,
 ⟨some 10, .mv, [.t 26], none⟩] [22, 23, 24, 25, 26])
 (.seq
 (.region false [⟨some 27, .mv, [.t 10], none⟩,
 ⟨some 28, .mv, [.t 8], none⟩,
 ⟨some 29, .bslice 14856 1 1 (.i 0) [0], [.t 28], none⟩,
 ⟨some 30, .app 15368 1, [.t 27, .t 29], none⟩,
 ⟨some 10, .mv, [.t 30], none⟩] [27, 28, 29, 30])
 (.region false [⟨some 31, .mv, [.t 10], none⟩,
 ⟨some 32, .mv, [.t 7], none⟩,
 ⟨some 33, .mv, [.t 9], none⟩,
 ⟨some 34, .slice true false 1, [.t 32, .t 33], none⟩,
 ⟨some 35, .app 17928 1, [.t 31, .t 34], none⟩,
 ⟨some 7, .mv, [.t 35], none⟩] [9, 10, 31, 32, 33, 34, 35])))))
 (.region false [⟨some 15, .mv, [.t 8], none⟩,
 ⟨some 16, .bin .add, [.t 15, .c (.i 1)], none⟩,
 ⟨some 8, .mv, [.t 16], none⟩] [15, 16]))))
def F_spec_l20Order_W0 : LC := .loop F_spec_l20Order_L0
def F_spec_l20Order : LF :=
 { nparams := 3, results := [.t 6], body :=
 (.seq
 (.region false [⟨some 6, .newnil 3080, [], none⟩] [6])
 (.seq
 (.region false [⟨some 11, .bslice 5640 0 1 (.i 0) [], [], none⟩,
 ⟨some 7, .mv, [.t 11], none⟩] [11])
 (.seq
 (.seq
 (.region false [⟨some 8, .mv, [.c (.i 0)], none⟩] [])
 (.block 0
 F_spec_l20Order_W0))
 (.seq
 (.seq
 (.region false [⟨some 36, .mv, [.t 0], none⟩,
 ⟨some 37, .mv, [.t 2], none⟩,
 ⟨some 38, .call n_spec_l20Rd_odd 19456, [.t 36, .t 37], none⟩] [1, 2, 8, 36, 37])
 (.cond (.t 38) [38]
 (.seq
 (.region false [⟨some 39, .mv, [.t 0], none⟩,
 ⟨some 40, .call n_spec_l20Rd_pick 20480, [.t 39, .c (.i 2)], none⟩] [39])
 (.block 2
 (.seq
 (.region false [⟨some 52, .bin .eql, [.t 40, .c (.i 0)], none⟩,
 ⟨some 51, .mv, [.t 52], none⟩] [40, 52])
 (.cond (.t 51) [51]
 (.seq
 (.region false [⟨some 53, .mv, [.t 7], none⟩,
 ⟨some 54, .bslice 27656 1 1 (.i 0) [0], [.c (.i 0)], none⟩,
 ⟨some 55, .app 28168 1, [.t 53, .t 54], none⟩,
 ⟨some 6, .mv, [.t 55], none⟩] [7, 53, 54, 55])
 .ret)
 (.seq
 (.region false [⟨some 41, .mv, [.t 7], none⟩,
 ⟨some 42, .len, [.t 41], none⟩,
 ⟨some 43, .bin .gtr, [.t 42, .c (.i 0)], none⟩] [41, 42])
 (.cond (.t 43) [43]
 (.region false [⟨some 44, .mv, [.t 7], none⟩,
 ⟨some 45, .bslice 23048 2 1 (.i 0) [0, 1], [.c (.i 5), .c (.i (-1))], none⟩,
 ⟨some 46, .mv, [.t 0], none⟩,
 ⟨some 47, .call n_spec_l20Rd_pick 24064, [.t 46, .c (.i 2)], none⟩,
 ⟨some 48, .idxa 1, [.t 45, .t 47], none⟩,
 ⟨some 49, .load 1 false, [.t 48], none⟩,
 ⟨some 50, .idxa 1, [.t 44, .c (.i 0)], none⟩,
 ⟨none, .store 1, [.t 50, .t 49], none⟩] [44, 45, 46, 47, 48, 49, 50])
 .skip))))))
 .skip))
 (.seq
 (.region false [⟨some 56, .mv, [.t 7], none⟩,
 ⟨some 6, .mv, [.t 56], none⟩] [7, 56])
 .ret))))) }
/-- impl.SwappedOrder -/
def F_impl_SwappedOrder : LF :=
 { nparams := 3, results := [.t 6, .t 7], body :=
 (.seq
 (.region false [⟨some 6, .newnil 3080, [], none⟩,
 ⟨some 7, .mv, [.c (.b false)], none⟩] [6, 7])
 (.seq
 (.seq
 (.region false [⟨some 9, .mv, [.t 0], none⟩,
 ⟨some 10, .mv, [.t 1], none⟩,
 ⟨some 11, .call n_impl_OrderOk 5632, [.t 9, .t 10], none⟩,
 ⟨some 12, .un .not, [.t 11], none⟩,
 ⟨some 13, .mv, [.t 12], none⟩,
 ⟨some 14, .mv, [.t 2], some (13, false)⟩,
 ⟨some 15, .mv, [.t 0], some (13, false)⟩,
 ⟨some 16, .bin .sub, [.t 15, .c (.i 2)], some (13, false)⟩,
 ⟨some 17, .call n_impl_isWithin 8704, [.t 14, .c (.i 0), .t 16], some (13, false)⟩,
 ⟨some 18, .un .not, [.t 17], some (13, false)⟩,
 ⟨some 19, .pick, [.t 13, .c (.b true), .t 18], none⟩] [0, 9, 10, 11, 12, 13, 14, 15, 16, 17, 18])
 (.cond (.t 19) [19]
 (.seq
 (.region false [⟨some 6, .newnil 3080, [], none⟩,
 ⟨some 7, .mv, [.c (.b false)], none⟩] [1, 2])
 .ret)
 .skip))
 (.seq
 (.region false [⟨some 20, .mv, [.t 1], none⟩,
 ⟨some 21, .call n_slices_Clone_int_int 10752, [.t 20], none⟩,
 ⟨some 8, .mv, [.t 21], none⟩] [1, 20, 21])
 (.seq
 (.region true [⟨some 22, .mv, [.t 8], none⟩,
 ⟨some 23, .mv, [.t 2], none⟩,
 ⟨some 24, .mv, [.t 8], none⟩,
 ⟨some 25, .mv, [.t 2], none⟩,
 ⟨some 26, .bin .add, [.t 25, .c (.i 1)], none⟩,
 ⟨some 27, .mv, [.t 8], none⟩,
 ⟨some 28, .mv, [.t 2], none⟩,
 ⟨some 29, .bin .add, [.t 28, .c (.i 1)], none⟩,
 ⟨some 30, .idxa 1, [.t 27, .t 29], none⟩,
 ⟨some 31, .load 1 false, [.t 30], none⟩,
 ⟨some 32, .mv, [.t 8], none⟩,
 ⟨some 33, .mv, [.t 2], none⟩,
 ⟨some 34, .idxa 1, [.t 32, .t 33], none⟩,
 ⟨some 35, .load 1 false, [.t 34], none⟩,
 ⟨some 36, .idxa 1, [.t 22, .t 23], none⟩,
 ⟨none, .store 1, [.t 36, .t 31], none⟩,
 ⟨some 37, .idxa 1, [.t 24, .t 26], none⟩,
 ⟨none, .store 1, [.t 37, .t 35], none⟩] [2, 22, 23, 24, 25, 26, 27, 28, 29, 30, 31, 32, 33, 34, 35, 36, 37])
 (.seq
 (.region false [⟨some 38, .mv, [.t 8], none⟩,
 ⟨some 6, .mv, [.t 38], none⟩,
 ⟨some 7, .mv, [.c (.b true)], none⟩] [8, 38])
 .ret))))) }
/-- spec.SwappedOrder -/
def F_spec_SwappedOrder : LF :=
 { nparams := 3, results := [.t 6, .t 7], body :=
 (.seq
 (.region false [⟨some 6, .newnil 3080, [], none⟩,
 ⟨some 7, .mv, [.c (.b false)], none⟩] [6, 7])
 (.seq
 (.seq
 (.region false [⟨some 9, .mv, [.t 0], none⟩,
 ⟨some 10, .mv, [.t 1], none⟩,
 ⟨some 11, .call n_spec_OrderOk 5632, [.t 9, .t 10], none⟩,
 ⟨some 12, .un .not, [.t 11], none⟩,
 ⟨some 13, .mv, [.t 12], none⟩,
 ⟨some 14, .mv, [.t 2], some (13, false)⟩,
 ⟨some 15, .mv, [.t 0], some (13, false)⟩,
 ⟨some 16, .bin .sub, [.t 15, .c (.i 2)], some (13, false)⟩,
 ⟨some 17, .call n_spec_l1In 8704, [.t 14, .c (.i 0), .t 16], some (13, false)⟩,
 ⟨some 18, .un .not, [.t 17], some (13, false)⟩,
 ⟨some 19, .pick, [.t 13, .c (.b true), .t 18], none⟩] [0, 9, 10, 11, 12, 13, 14, 15, 16, 17, 18])
 (.cond (.t 19) [19]
 (.seq
 (.region false [⟨some 20, .bslice 10248 0 1 (.i 0) [], [], none⟩,
 ⟨some 6, .mv, [.t 20], none⟩,
 ⟨some 7, .mv, [.c (.b false)], none⟩] [1, 2, 20])
 .ret)
 .skip))
 (.seq
 (.region false [⟨some 21, .bslice 10760 0 1 (.i 0) [], [], none⟩,
 ⟨some 22, .mv, [.t 1], none⟩,
 ⟨some 23, .mv, [.t 2], none⟩,
 ⟨some 24, .slice false true 1, [.t 22, .t 23], none⟩,
 ⟨some 25, .app 12808 1, [.t 21, .t 24], none⟩,
 ⟨some 8, .mv, [.t 25], none⟩] [21, 22, 23, 24, 25])
 (.seq
 (.region true [⟨some 26, .mv, [.t 8], none⟩,
 ⟨some 27, .mv, [.t 1], none⟩,
 ⟨some 28, .mv, [.t 2], none⟩,
 ⟨some 29, .bin .add, [.t 28, .c (.i 1)], none⟩,
 ⟨some 30, .idxa 1, [.t 27, .t 29], none⟩,
 ⟨some 31, .load 1 false, [.t 30], none⟩,
 ⟨some 32, .mv, [.t 1], none⟩,
 ⟨some 33, .mv, [.t 2], none⟩,
 ⟨some 34, .idxa 1, [.t 32, .t 33], none⟩,
 ⟨some 35, .load 1 false, [.t 34], none⟩,
 ⟨some 36, .bslice 18440 2 1 (.i 0) [0, 1], [.t 31, .t 35], none⟩,
 ⟨some 37, .app 18952 1, [.t 26, .t 36], none⟩,
 ⟨some 8, .mv, [.t 37], none⟩] [26, 27, 28, 29, 30, 31, 32, 33, 34, 35, 36, 37])
 (.seq
 (.region false [⟨some 38, .mv, [.t 8], none⟩,
 ⟨some 39, .mv, [.t 1], none⟩,
 ⟨some 40, .mv, [.t 2], none⟩,
 ⟨some 41, .bin .add, [.t 40, .c (.i 2)], none⟩,
 ⟨some 42, .slice true false 1, [.t 39, .t 41], none⟩,
 ⟨some 43, .app 22024 1, [.t 38, .t 42], none⟩,
 ⟨some 6, .mv, [.t 43], none⟩,
 ⟨some 7, .mv, [.c (.b true)], none⟩] [1, 2, 8, 38, 39, 40, 41, 42, 43])
 .ret))))) }
/-- impl.RatioOrder$1 -/
def F_impl_RatioOrder_1 : LF :=
 { nparams := 4, results := [.t 6], body :=
 (.seq
 (.region false [⟨some 6, .mv, [.c (.b false)], none⟩] [6])
 (.seq
 (.region true [⟨some 7, .load 1 false, [.t 2], none⟩,
 ⟨some 8, .mv, [.t 0], none⟩,
 ⟨some 9, .idxa 2, [.t 7, .t 8], none⟩,
 ⟨some 10, .load 2 true, [.t 9], none⟩,
 ⟨some 11, .load 1 false, [.t 3], none⟩,
 ⟨some 12, .call n_impl_ratioOf 6144, [.t 10, .t 11], none⟩,
 ⟨some 13, .load 1 false, [.t 2], none⟩,
 ⟨some 14, .mv, [.t 1], none⟩,
 ⟨some 15, .idxa 2, [.t 13, .t 14], none⟩,
 ⟨some 16, .load 2 true, [.t 15], none⟩,
 ⟨some 17, .load 1 false, [.t 3], none⟩,
 ⟨some 18, .call n_impl_ratioOf 9216, [.t 16, .t 17], none⟩,
 ⟨some 19, .call n_impl_ratio_isLess 9728, [.t 12, .t 18], none⟩,
 ⟨some 6, .mv, [.t 19], none⟩] [0, 1, 2, 3, 7, 8, 9, 10, 11, 12, 13, 14, 15, 16, 17, 18, 19])
 .ret)) }
/-- impl.ratioOf -/
def F_impl_ratioOf : LF :=
 { nparams := 2, results := [.c 4 2 true], body :=
 (.seq
 (.region false [⟨some 2, .box 1040, [.t 0], none⟩,
 ⟨some 4, .alloc 2064 (.st [.i 0, .i 0]), [], none⟩] [0])
 (.seq
 (.region true [⟨some 5, .fld 0 1 false, [.t 2], none⟩,
 ⟨some 6, .load 1 false, [.t 5], none⟩,
 ⟨some 7, .load 2 true, [.t 2], none⟩,
 ⟨some 8, .mv, [.t 1], none⟩,
 ⟨some 9, .call n_impl_endChance 4608, [.t 7, .t 8], none⟩,
 ⟨some 10, .build [.i 0, .i 0] [(0, 1), (1, 1)], [.t 6, .t 9], none⟩,
 ⟨none, .store 2, [.t 4, .t 10], none⟩] [1, 2, 5, 6, 7, 8, 9, 10])
 .ret)) }
/-- impl.ratio).isLess -/
def F_impl_ratio_isLess : LF :=
 { nparams := 2, results := [.t 4], body :=
 (.seq
 (.region false [⟨some 2, .box 1040, [.t 0], none⟩,
 ⟨some 3, .box 1552, [.t 1], none⟩,
 ⟨some 4, .mv, [.c (.b false)], none⟩] [0, 1, 4])
 (.seq
 (.region false [⟨some 5, .fld 0 1 false, [.t 2], none⟩,
 ⟨some 6, .load 1 false, [.t 5], none⟩,
 ⟨some 7, .fld 1 1 false, [.t 3], none⟩,
 ⟨some 8, .load 1 false, [.t 7], none⟩,
 ⟨some 9, .bin .mul, [.t 6, .t 8], none⟩,
 ⟨some 10, .fld 0 1 false, [.t 3], none⟩,
 ⟨some 11, .load 1 false, [.t 10], none⟩,
 ⟨some 12, .fld 1 1 false, [.t 2], none⟩,
 ⟨some 13, .load 1 false, [.t 12], none⟩,
 ⟨some 14, .bin .mul, [.t 11, .t 13], none⟩,
 ⟨some 15, .bin .lss, [.t 9, .t 14], none⟩,
 ⟨some 4, .mv, [.t 15], none⟩] [2, 3, 5, 6, 7, 8, 9, 10, 11, 12, 13, 14, 15])
 .ret)) }
/-- impl.inserted[int] -/
def F_impl_inserted_int_L0 : LC :=
 (.seq
 (.seq
 (.region false [⟨some 10, .mv, [.t 7], none⟩,
 ⟨some 11, .bin .gtr, [.t 10, .c (.i 0)], none⟩,
 ⟨some 12, .mv, [.t 11], none⟩,
 ⟨some 13, .mv, [.t 2], some (12, true)⟩,
 ⟨some 14, .mv, [.t 1], some (12, true)⟩,
 ⟨some 15, .mv, [.t 0], some (12, true)⟩,
 ⟨some 16, .mv, [.t 7], some (12, true)⟩,
 ⟨some 17, .bin .sub, [.t 16, .c (.i 1)], some (12, true)⟩,
 ⟨some 18, .idxa 1, [.t 15, .t 17], some (12, true)⟩,
 ⟨some 19, .load 1 false, [.t 18], some (12, true)⟩,
 ⟨some 20, .calld 10240, [.t 13, .t 14, .t 19], some (12, true)⟩,
 ⟨some 21, .pick, [.t 12, .t 20, .c (.b false)], none⟩] [10, 11, 12, 13, 14, 15, 16, 17, 18, 19, 20])
 (.cond (.t 21) [21]
 .skip
 (.exit 0)))
 (.block 1
 (.region false [⟨some 22, .mv, [.t 7], none⟩,
 ⟨some 23, .bin .sub, [.t 22, .c (.i 1)], none⟩,
 ⟨some 7, .mv, [.t 23], none⟩] [22, 23])))
def F_impl_inserted_int_W0 : LC := .loop F_impl_inserted_int_L0
def F_impl_inserted_int : LF :=
 { nparams := 3, results := [.t 6], body :=
 (.seq
 (.region false [⟨some 6, .newnil 3080, [], none⟩] [6])
 (.seq
 (.region false [⟨some 8, .mv, [.t 0], none⟩,
 ⟨some 9, .len, [.t 8], none⟩,
 ⟨some 7, .mv, [.t 9], none⟩] [8, 9])
 (.seq
 (.block 0
 F_impl_inserted_int_W0)
 (.seq
 (.region false [⟨some 24, .mv, [.t 0], none⟩,
 ⟨some 25, .mv, [.t 7], none⟩,
 ⟨some 26, .mv, [.t 1], none⟩,
 ⟨some 27, .bslice 13832 1 1 (.i 0) [0], [.t 26], none⟩,
 ⟨some 28, .callm n_slices_Insert_int_int [0, 2] 14342, [.t 24, .t 25, .t 27], none⟩,
 ⟨some 6, .mv, [.t 28], none⟩] [0, 1, 2, 7, 24, 25, 26, 27, 28])
 .ret)))) }
/-- spec.TestsOk -/
def F_spec_TestsOk_L0 : LC :=
 (.seq
 (.seq
 (.region false [⟨some 4, .mv, [.t 3], none⟩,
 ⟨some 5, .mv, [.t 0], none⟩,
 ⟨some 6, .len, [.t 5], none⟩,
 ⟨some 7, .bin .lss, [.t 4, .t 6], none⟩] [4, 5, 6])
 (.cond (.t 7) [7]
 .skip
 (.exit 0)))
 (.seq
 (.block 1
 (.seq
 (.region false [⟨some 10, .mv, [.t 0], none⟩,
 ⟨some 11, .mv, [.t 3], none⟩,
 ⟨some 12, .idxa 2, [.t 10, .t 11], none⟩,
 ⟨some 13, .fld 0 1 false, [.t 12], none⟩,
 ⟨some 14, .load 1 false, [.t 13], none⟩,
 ⟨some 15, .call n_spec_l1In 7680, [.t 14, .c (.i 1), .c (.i 9)], none⟩,
 ⟨some 16, .un .not, [.t 15], none⟩,
 ⟨some 17, .mv, [.t 16], none⟩,
 ⟨some 18, .mv, [.t 0], some (17, false)⟩,
 ⟨some 19, .mv, [.t 3], some (17, false)⟩,
 ⟨some 20, .idxa 2, [.t 18, .t 19], some (17, false)⟩,
 ⟨some 21, .fld 1 1 false, [.t 20], some (17, false)⟩,
 ⟨some 22, .load 1 false, [.t 21], some (17, false)⟩,
 ⟨some 23, .call n_spec_l1In 11776, [.t 22, .c (.i 1), .c (.i 5)], some (17, false)⟩,
 ⟨some 24, .un .not, [.t 23], some (17, false)⟩,
 ⟨some 25, .pick, [.t 17, .c (.b true), .t 24], none⟩] [10, 11, 12, 13, 14, 15, 16, 17, 18, 19, 20, 21, 22, 23, 24])
 (.cond (.t 25) [25]
 (.seq
 (.region false [⟨some 2, .mv, [.c (.b false)], none⟩] [0, 3])
 .ret)
 .skip)))
 (.region false [⟨some 8, .mv, [.t 3], none⟩,
 ⟨some 9, .bin .add, [.t 8, .c (.i 1)], none⟩,
 ⟨some 3, .mv, [.t 9], none⟩] [8, 9])))
def F_spec_TestsOk_W0 : LC := .loop F_spec_TestsOk_L0
def F_spec_TestsOk : LF :=
 { nparams := 1, results := [.t 2], body :=
 (.seq
 (.region false [⟨some 2, .mv, [.c (.b false)], none⟩] [2])
 (.seq
 (.seq
 (.region false [⟨some 3, .mv, [.c (.i 0)], none⟩] [])
 (.block 0
 F_spec_TestsOk_W0))
 (.seq
 (.region false [⟨some 26, .mv, [.t 0], none⟩,
 ⟨some 27, .len, [.t 26], none⟩,
 ⟨some 28, .call n_spec_l1In 14336, [.t 27, .c (.i 1), .c (.i 5)], none⟩,
 ⟨some 2, .mv, [.t 28], none⟩] [0, 3, 26, 27, 28])
 .ret))) }
/-- spec.l5Ends -/
def F_spec_l5Ends : LF :=
 { nparams := 2, results := [.t 4], body :=
 (.seq
 (.region false [⟨some 2, .box 1040, [.t 0], none⟩,
 ⟨some 4, .mv, [.c (.i 0)], none⟩] [0, 4])
 (.seq
 (.seq
 (.region false [⟨some 5, .mv, [.t 1], none⟩,
 ⟨some 6, .bin .eql, [.t 5, .c (.i 0)], none⟩] [1, 5])
 (.cond (.t 6) [6]
 (.seq
 (.region false [⟨some 7, .fld 1 1 false, [.t 2], none⟩,
 ⟨some 8, .load 1 false, [.t 7], none⟩,
 ⟨some 9, .bin .sub, [.c (.i 6), .t 8], none⟩,
 ⟨some 4, .mv, [.t 9], none⟩] [2, 7, 8, 9])
 .ret)
 .skip))
 (.seq
 (.region false [⟨some 10, .fld 1 1 false, [.t 2], none⟩,
 ⟨some 11, .load 1 false, [.t 10], none⟩,
 ⟨some 4, .mv, [.t 11], none⟩] [2, 10, 11])
 .ret))) }
/-- laws.toTest -/
def F_laws_toTest : LF :=
 { nparams := 1, results := [.c 2 2 true], body :=
 (.seq
 (.region false [⟨some 1, .box 528, [.t 0], none⟩,
 ⟨some 2, .alloc 1040 (.st [.i 0, .i 0]), [], none⟩] [0])
 (.seq
 (.region false [⟨some 3, .alloc 1552 (.st [.i 0, .i 0]), [], none⟩] [])
 (.seq
 (.region false [⟨some 4, .fld 0 1 false, [.t 1], none⟩,
 ⟨some 5, .load 1 false, [.t 4], none⟩,
 ⟨some 6, .fld 0 1 false, [.t 3], none⟩,
 ⟨none, .store 1, [.t 6, .t 5], none⟩] [4, 5, 6])
 (.seq
 (.region false [⟨some 7, .fld 1 1 false, [.t 1], none⟩,
 ⟨some 8, .load 1 false, [.t 7], none⟩,
 ⟨some 9, .fld 1 1 false, [.t 3], none⟩,
 ⟨none, .store 1, [.t 9, .t 8], none⟩] [1, 7, 8, 9])
 (.seq
 (.region false [⟨some 10, .load 2 true, [.t 3], none⟩,
 ⟨none, .store 2, [.t 2, .t 10], none⟩] [3, 10])
 .ret))))) }
/-- laws.eqTest -/
def F_laws_eqTest : LF :=
 { nparams := 2, results := [.t 4], body :=
 (.seq
 (.region false [⟨some 2, .box 1040, [.t 0], none⟩,
 ⟨some 3, .box 1552, [.t 1], none⟩,
 ⟨some 4, .mv, [.c (.b false)], none⟩] [0, 1, 4])
 (.seq
 (.seq
 (.region false [⟨some 5, .fld 0 1 false, [.t 2], none⟩,
 ⟨some 6, .load 1 false, [.t 5], none⟩,
 ⟨some 7, .fld 0 1 false, [.t 3], none⟩,
 ⟨some 8, .load 1 false, [.t 7], none⟩,
 ⟨some 9, .bin .neq, [.t 6, .t 8], none⟩] [5, 6, 7, 8])
 (.cond (.t 9) [9]
 (.seq
 (.region false [⟨some 4, .mv, [.c (.b false)], none⟩] [2, 3])
 .ret)
 .skip))
 (.seq
 (.seq
 (.region false [⟨some 10, .fld 1 1 false, [.t 2], none⟩,
 ⟨some 11, .load 1 false, [.t 10], none⟩,
 ⟨some 12, .fld 1 1 false, [.t 3], none⟩,
 ⟨some 13, .load 1 false, [.t 12], none⟩,
 ⟨some 14, .bin .neq, [.t 11, .t 13], none⟩] [2, 3, 10, 11, 12, 13])
 (.cond (.t 14) [14]
 (.seq
 (.region false [⟨some 4, .mv, [.c (.b false)], none⟩] [])
 .ret)
 .skip))
 (.seq
 (.region false [⟨some 4, .mv, [.c (.b true)], none⟩] [])
 .ret)))) }
/-- spec.OrderOk -/
def F_spec_OrderOk_L0 : LC :=
 (.seq
 (.seq
 (.region false [⟨some 7, .mv, [.t 6], none⟩,
 ⟨some 8, .mv, [.t 1], none⟩,
 ⟨some 9, .len, [.t 8], none⟩,
 ⟨some 10, .bin .lss, [.t 7, .t 9], none⟩] [7, 8, 9])
 (.cond (.t 10) [10]
 .skip
 (.exit 0)))
 (.seq
 (.block 1
 (.seq
 (.seq
 (.region false [⟨some 13, .mv, [.t 1], none⟩,
 ⟨some 14, .mv, [.t 6], none⟩,
 ⟨some 15, .idxa 1, [.t 13, .t 14], none⟩,
 ⟨some 16, .load 1 false, [.t 15], none⟩,
 ⟨some 17, .bin .lss, [.t 16, .c (.i 0)], none⟩,
 ⟨some 18, .mv, [.t 17], none⟩,
 ⟨some 19, .mv, [.t 1], some (18, false)⟩,
 ⟨some 20, .mv, [.t 6], some (18, false)⟩,
 ⟨some 21, .idxa 1, [.t 19, .t 20], some (18, false)⟩,
 ⟨some 22, .load 1 false, [.t 21], some (18, false)⟩,
 ⟨some 23, .mv, [.t 0], some (18, false)⟩,
 ⟨some 24, .bin .geq, [.t 22, .t 23], some (18, false)⟩,
 ⟨some 25, .pick, [.t 18, .c (.b true), .t 24], none⟩,
 ⟨some 26, .mv, [.t 25], none⟩,
 ⟨some 27, .mv, [.t 1], some (26, false)⟩,
 ⟨some 28, .mv, [.t 6], some (26, false)⟩,
 ⟨some 29, .idxa 1, [.t 27, .t 28], some (26, false)⟩,
 ⟨some 30, .load 1 false, [.t 29], some (26, false)⟩,
 ⟨some 31, .bin .geq, [.t 30, .c (.i 5)], some (26, false)⟩,
 ⟨some 32, .pick, [.t 26, .c (.b true), .t 31], none⟩,
 ⟨some 33, .mv, [.t 32], none⟩,
 ⟨some 34, .mv, [.t 5], some (33, false)⟩,
 ⟨some 35, .mv, [.t 1], some (33, false)⟩,
 ⟨some 36, .mv, [.t 6], some (33, false)⟩,
 ⟨some 37, .idxa 1, [.t 35, .t 36], some (33, false)⟩,
 ⟨some 38, .load 1 false, [.t 37], some (33, false)⟩,
 ⟨some 39, .bin .shr, [.t 34, .t 38], some (33, false)⟩,
 ⟨some 40, .bin .rem, [.t 39, .c (.i 2)], some (33, false)⟩,
 ⟨some 41, .bin .eql, [.t 40, .c (.i 1)], some (33, false)⟩,
 ⟨some 42, .pick, [.t 33, .c (.b true), .t 41], none⟩] [13, 14, 15, 16, 17, 18, 19, 20, 21, 22, 23, 24, 25, 26, 27, 28, 29, 30, 31, 32, 33, 34, 35, 36, 37, 38, 39, 40, 41])
 (.cond (.t 42) [42]
 (.seq
 (.region false [⟨some 4, .mv, [.c (.b false)], none⟩] [0, 1, 5, 6])
 .ret)
 .skip))
 (.region false [⟨some 43, .mv, [.t 5], none⟩,
 ⟨some 44, .mv, [.t 1], none⟩,
 ⟨some 45, .mv, [.t 6], none⟩,
 ⟨some 46, .idxa 1, [.t 44, .t 45], none⟩,
 ⟨some 47, .load 1 false, [.t 46], none⟩,
 ⟨some 48, .bin .shl, [.c (.i 1), .t 47], none⟩,
 ⟨some 49, .bin .or, [.t 43, .t 48], none⟩,
 ⟨some 5, .mv, [.t 49], none⟩] [43, 44, 45, 46, 47, 48, 49])))
 (.region false [⟨some 11, .mv, [.t 6], none⟩,
 ⟨some 12, .bin .add, [.t 11, .c (.i 1)], none⟩,
 ⟨some 6, .mv, [.t 12], none⟩] [11, 12])))
def F_spec_OrderOk_W0 : LC := .loop F_spec_OrderOk_L0
def F_spec_OrderOk : LF :=
 { nparams := 2, results := [.t 4], body :=
 (.seq
 (.region false [⟨some 4, .mv, [.c (.b false)], none⟩] [4])
 (.seq
 (.region false [⟨some 5, .mv, [.c (.i 0)], none⟩] [])
 (.seq
 (.seq
 (.region false [⟨some 6, .mv, [.c (.i 0)], none⟩] [])
 (.block 0
 F_spec_OrderOk_W0))
 (.seq
 (.region false [⟨some 50, .mv, [.t 0], none⟩,
 ⟨some 51, .call n_spec_l1In 26112, [.t 50, .c (.i 1), .c (.i 5)], none⟩,
 ⟨some 52, .mv, [.t 51], none⟩,
 ⟨some 53, .mv, [.t 1], some (52, true)⟩,
 ⟨some 54, .len, [.t 53], some (52, true)⟩,
 ⟨some 55, .mv, [.t 0], some (52, true)⟩,
 ⟨some 56, .bin .eql, [.t 54, .t 55], some (52, true)⟩,
 ⟨some 57, .pick, [.t 52, .t 56, .c (.b false)], none⟩,
 ⟨some 4, .mv, [.t 57], none⟩] [0, 1, 5, 6, 50, 51, 52, 53, 54, 55, 56, 57])
 .ret)))) }
/-- spec.l1Power -/
def F_spec_l1Power_L0 : LC :=
 (.seq
 (.seq
 (.region false [⟨some 5, .mv, [.t 4], none⟩,
 ⟨some 6, .mv, [.t 0], none⟩,
 ⟨some 7, .bin .lss, [.t 5, .t 6], none⟩] [5, 6])
 (.cond (.t 7) [7]
 .skip
 (.exit 0)))
 (.seq
 (.block 1
 (.region false [⟨some 10, .mv, [.t 3], none⟩,
 ⟨some 11, .bin .mul, [.t 10, .c (.i 6)], none⟩,
 ⟨some 3, .mv, [.t 11], none⟩] [10, 11]))
 (.region false [⟨some 8, .mv, [.t 4], none⟩,
 ⟨some 9, .bin .add, [.t 8, .c (.i 1)], none⟩,
 ⟨some 4, .mv, [.t 9], none⟩] [8, 9])))
def F_spec_l1Power_W0 : LC := .loop F_spec_l1Power_L0
def F_spec_l1Power : LF :=
 { nparams := 1, results := [.t 2], body :=
 (.seq
 (.region false [⟨some 2, .mv, [.c (.i 0)], none⟩] [2])
 (.seq
 (.region false [⟨some 3, .mv, [.c (.i 1)], none⟩] [])
 (.seq
 (.seq
 (.region false [⟨some 4, .mv, [.c (.i 0)], none⟩] [])
 (.block 0
 F_spec_l1Power_W0))
 (.seq
 (.region false [⟨some 12, .mv, [.t 3], none⟩,
 ⟨some 2, .mv, [.t 12], none⟩] [0, 3, 4, 12])
 .ret)))) }
/-- impl.OrderOk -/
def F_impl_OrderOk_L0 : LC :=
 (.seq
 (.region false [⟨some 20, .bin .lss, [.t 19, .t 18], none⟩] [])
 (.seq
 (.cond (.t 20) [20]
 .skip
 (.exit 0))
 (.seq
 (.block 1
 (.seq
 (.region false [⟨some 21, .idxa 1, [.t 17, .t 19], none⟩,
 ⟨some 22, .load 1 false, [.t 21], none⟩,
 ⟨some 7, .mv, [.t 22], none⟩] [21, 22])
 (.seq
 (.seq
 (.region false [⟨some 23, .mv, [.t 7], none⟩,
 ⟨some 24, .mv, [.t 0], none⟩,
 ⟨some 25, .bin .sub, [.t 24, .c (.i 1)], none⟩,
 ⟨some 26, .call n_impl_isWithin 13312, [.t 23, .c (.i 0), .t 25], none⟩,
 ⟨some 27, .un .not, [.t 26], none⟩,
 ⟨some 28, .mv, [.t 27], none⟩,
 ⟨some 29, .mv, [.t 5], some (28, false)⟩,
 ⟨some 30, .mv, [.t 7], some (28, false)⟩,
 ⟨some 31, .call n_impl_hasTest 15872, [.t 29, .t 30], some (28, false)⟩,
 ⟨some 32, .pick, [.t 28, .c (.b true), .t 31], none⟩] [23, 24, 25, 26, 27, 28, 29, 30, 31])
 (.cond (.t 32) [32]
 (.seq
 (.region false [⟨some 4, .mv, [.c (.b false)], none⟩] [0, 5, 7, 17, 18, 19])
 .ret)
 .skip))
 (.region false [⟨some 33, .mv, [.t 5], none⟩,
 ⟨some 34, .mv, [.t 7], none⟩,
 ⟨some 35, .bin .shl, [.c (.i 1), .t 34], none⟩,
 ⟨some 36, .bin .or, [.t 33, .t 35], none⟩,
 ⟨some 5, .mv, [.t 36], none⟩] [7, 33, 34, 35, 36]))))
 (.region false [⟨some 37, .bin .add, [.t 19, .c (.i 1)], none⟩,
 ⟨some 19, .mv, [.t 37], none⟩] [37]))))
def F_impl_OrderOk_W0 : LC := .loop F_impl_OrderOk_L0
def F_impl_OrderOk : LF :=
 { nparams := 2, results := [.t 4], body :=
 (.seq
 (.region false [⟨some 4, .mv, [.c (.b false)], none⟩] [4])
 (.seq
 (.seq
 (.region false [⟨some 8, .mv, [.t 0], none⟩,
 ⟨some 9, .call n_impl_manyOk 4608, [.t 8], none⟩,
 ⟨some 10, .un .not, [.t 9], none⟩,
 ⟨some 11, .mv, [.t 10], none⟩,
 ⟨some 12, .mv, [.t 1], some (11, false)⟩,
 ⟨some 13, .len, [.t 12], some (11, false)⟩,
 ⟨some 14, .mv, [.t 0], some (11, false)⟩,
 ⟨some 15, .bin .neq, [.t 13, .t 14], some (11, false)⟩,
 ⟨some 16, .pick, [.t 11, .c (.b true), .t 15], none⟩] [8, 9, 10, 11, 12, 13, 14, 15])
 (.cond (.t 16) [16]
 (.seq
 (.region false [⟨some 4, .mv, [.c (.b false)], none⟩] [0, 1])
 .ret)
 .skip))
 (.seq
 (.region false [⟨some 5, .mv, [.c (.i 0)], none⟩] [])
 (.seq
 (.seq
 (.region false [⟨some 17, .mv, [.t 1], none⟩,
 ⟨some 18, .len, [.t 17], none⟩,
 ⟨some 19, .mv, [.c (.i 0)], none⟩] [1])
 (.block 0
 F_impl_OrderOk_W0))
 (.seq
 (.region false [⟨some 4, .mv, [.c (.b true)], none⟩] [0, 5, 17, 18, 19])
 .ret))))) }
/-- impl.wholeOf -/
def F_impl_wholeOf_L0 : LC :=
 (.seq
 (.region false [⟨some 6, .bin .lss, [.t 5, .t 4], none⟩] [])
 (.seq
 (.cond (.t 6) [6]
 .skip
 (.exit 0))
 (.seq
 (.block 1
 (.region false [⟨some 7, .mv, [.t 3], none⟩,
 ⟨some 8, .bin .mul, [.t 7, .c (.i 6)], none⟩,
 ⟨some 3, .mv, [.t 8], none⟩] [7, 8]))
 (.region false [⟨some 9, .bin .add, [.t 5, .c (.i 1)], none⟩,
 ⟨some 5, .mv, [.t 9], none⟩] [9]))))
def F_impl_wholeOf_W0 : LC := .loop F_impl_wholeOf_L0
def F_impl_wholeOf : LF :=
 { nparams := 1, results := [.t 2], body :=
 (.seq
 (.region false [⟨some 2, .mv, [.c (.i 0)], none⟩] [2])
 (.seq
 (.region false [⟨some 3, .mv, [.c (.i 1)], none⟩] [])
 (.seq
 (.seq
 (.region false [⟨some 4, .mv, [.t 0], none⟩,
 ⟨some 5, .mv, [.c (.i 0)], none⟩] [0])
 (.block 0
 F_impl_wholeOf_W0))
 (.seq
 (.region false [⟨some 10, .mv, [.t 3], none⟩,
 ⟨some 2, .mv, [.t 10], none⟩] [3, 4, 5, 10])
 .ret)))) }
/-- impl.endChance -/
def F_impl_endChance : LF :=
 { nparams := 2, results := [.t 4], body :=
 (.seq
 (.region false [⟨some 2, .box 1040, [.t 0], none⟩,
 ⟨some 4, .mv, [.c (.i 0)], none⟩] [0, 4])
 (.seq
 (.seq
 (.region false [⟨some 5, .mv, [.t 1], none⟩,
 ⟨some 6, .bin .eql, [.t 5, .c (.i 0)], none⟩] [1, 5])
 (.cond (.t 6) [6]
 (.seq
 (.region false [⟨some 7, .fld 1 1 false, [.t 2], none⟩,
 ⟨some 8, .load 1 false, [.t 7], none⟩,
 ⟨some 9, .bin .sub, [.c (.i 6), .t 8], none⟩,
 ⟨some 4, .mv, [.t 9], none⟩] [2, 7, 8, 9])
 .ret)
 .skip))
 (.seq
 (.region false [⟨some 10, .fld 1 1 false, [.t 2], none⟩,
 ⟨some 11, .load 1 false, [.t 10], none⟩,
 ⟨some 4, .mv, [.t 11], none⟩] [2, 10, 11])
 .ret))) }
/-- spec.l20Rd).odd -/
def F_spec_l20Rd_odd : LF :=
 { nparams := 2, results := [.t 4], body :=
 (.seq
 (.region false [⟨some 4, .mv, [.c (.b false)], none⟩] [4])
 (.seq
 (.region false [⟨some 5, .mv, [.t 1], none⟩,
 ⟨some 6, .bin .gtr, [.t 5, .c (.i 0)], none⟩,
 ⟨some 7, .mv, [.t 6], none⟩,
 ⟨some 8, .mv, [.t 0], some (7, true)⟩,
 ⟨some 9, .mv, [.t 1], some (7, true)⟩,
 ⟨some 10, .call n_spec_l20Rd_pick 5120, [.t 8, .t 9], some (7, true)⟩,
 ⟨some 11, .mv, [.t 1], some (7, true)⟩,
 ⟨some 12, .bin .sub, [.t 11, .c (.i 1)], some (7, true)⟩,
 ⟨some 13, .bin .eql, [.t 10, .t 12], some (7, true)⟩,
 ⟨some 14, .pick, [.t 7, .t 13, .c (.b false)], none⟩,
 ⟨some 4, .mv, [.t 14], none⟩] [1, 5, 6, 7, 8, 9, 10, 11, 12, 13, 14])
 .ret)) }
/-- slices.Clone[[]int,int] -/
def F_slices_Clone_int_int : LF :=
 { nparams := 1, results := [.t 2], body :=
 (.seq
 (.region false [⟨some 2, .newnil 1032, [], none⟩] [2])
 (.seq
 (.seq
 (.region false [⟨some 3, .mv, [.t 0], none⟩,
 ⟨some 4, .eqn false, [.t 3], none⟩] [3])
 (.cond (.t 4) [4]
 (.seq
 (.region false [⟨some 2, .newnil 1032, [], none⟩] [0])
 .ret)
 .skip))
 (.seq
 (.region false [⟨some 5, .bslice 2568 0 1 (.i 0) [], [], none⟩,
 ⟨some 6, .mv, [.t 0], none⟩,
 ⟨some 7, .app 3592 1, [.t 5, .t 6], none⟩,
 ⟨some 2, .mv, [.t 7], none⟩] [0, 5, 6, 7])
 .ret))) }
/-- slices.Insert[[]int,int] -/
def F_slices_Insert_int_int : LF :=
 { nparams := 3, results := [], body := .skip, prim := some insP }
/-- impl.hasTest -/
def F_impl_hasTest : LF :=
 { nparams := 2, results := [.t 4], body :=
 (.seq
 (.region false [⟨some 4, .mv, [.c (.b false)], none⟩] [4])
 (.seq
 (.region false [⟨some 5, .mv, [.t 0], none⟩,
 ⟨some 6, .mv, [.t 1], none⟩,
 ⟨some 7, .bin .shr, [.t 5, .t 6], none⟩,
 ⟨some 8, .bin .and, [.t 7, .c (.i 1)], none⟩,
 ⟨some 9, .bin .eql, [.t 8, .c (.i 1)], none⟩,
 ⟨some 4, .mv, [.t 9], none⟩] [0, 1, 5, 6, 7, 8, 9])
 .ret)) }
/-- slices.rotateRight[int] -/
def F_slices_rotateRight_int : LF :=
 { nparams := 2, results := [], body :=
 (.region false [⟨some 4, .mv, [.t 0], none⟩,
 ⟨some 5, .mv, [.t 0], none⟩,
 ⟨some 6, .len, [.t 5], none⟩,
 ⟨some 7, .mv, [.t 1], none⟩,
 ⟨some 8, .bin .sub, [.t 6, .t 7], none⟩,
 ⟨some 9, .call n_slices_rotateLeft_int 4608, [.t 4, .t 8], none⟩] [0, 1, 4, 5, 6, 7, 8, 9]) }
/-- slices.rotateLeft[int] -/
def F_slices_rotateLeft_int : LF :=
 { nparams := 2, results := [], body :=
 (.seq
 (.region false [⟨some 4, .mv, [.t 0], none⟩,
 ⟨some 5, .mv, [.t 1], none⟩,
 ⟨some 6, .slice false true 1, [.t 4, .t 5], none⟩,
 ⟨some 7, .call n_slices_Reverse_int_int 3584, [.t 6], none⟩] [4, 5, 6, 7])
 (.seq
 (.region false [⟨some 8, .mv, [.t 0], none⟩,
 ⟨some 9, .mv, [.t 1], none⟩,
 ⟨some 10, .slice true false 1, [.t 8, .t 9], none⟩,
 ⟨some 11, .call n_slices_Reverse_int_int 5632, [.t 10], none⟩] [1, 8, 9, 10, 11])
 (.region false [⟨some 12, .mv, [.t 0], none⟩,
 ⟨some 13, .call n_slices_Reverse_int_int 6656, [.t 12], none⟩] [0, 12, 13]))) }
/-- slices.Reverse[[]int,int] -/
def F_slices_Reverse_int_int_L0 : LC :=
 (.seq
 (.seq
 (.region false [⟨some 7, .mv, [.t 2], none⟩,
 ⟨some 8, .mv, [.t 3], none⟩,
 ⟨some 9, .bin .lss, [.t 7, .t 8], none⟩] [7, 8])
 (.cond (.t 9) [9]
 .skip
 (.exit 0)))
 (.seq
 (.block 1
 (.region true [⟨some 14, .mv, [.t 0], none⟩,
 ⟨some 15, .mv, [.t 2], none⟩,
 ⟨some 16, .mv, [.t 0], none⟩,
 ⟨some 17, .mv, [.t 3], none⟩,
 ⟨some 18, .mv, [.t 0], none⟩,
 ⟨some 19, .mv, [.t 3], none⟩,
 ⟨some 20, .idxa 1, [.t 18, .t 19], none⟩,
 ⟨some 21, .load 1 false, [.t 20], none⟩,
 ⟨some 22, .mv, [.t 0], none⟩,
 ⟨some 23, .mv, [.t 2], none⟩,
 ⟨some 24, .idxa 1, [.t 22, .t 23], none⟩,
 ⟨some 25, .load 1 false, [.t 24], none⟩,
 ⟨some 26, .idxa 1, [.t 14, .t 15], none⟩,
 ⟨none, .store 1, [.t 26, .t 21], none⟩,
 ⟨some 27, .idxa 1, [.t 16, .t 17], none⟩,
 ⟨none, .store 1, [.t 27, .t 25], none⟩] [14, 15, 16, 17, 18, 19, 20, 21, 22, 23, 24, 25, 26, 27]))
 (.region false [⟨some 10, .mv, [.t 2], none⟩,
 ⟨some 11, .bin .add, [.t 10, .c (.i 1)], none⟩,
 ⟨some 12, .mv, [.t 3], none⟩,
 ⟨some 13, .bin .sub, [.t 12, .c (.i 1)], none⟩,
 ⟨some 2, .mv, [.t 11], none⟩,
 ⟨some 3, .mv, [.t 13], none⟩] [10, 11, 12, 13])))
def F_slices_Reverse_int_int_W0 : LC := .loop F_slices_Reverse_int_int_L0
def F_slices_Reverse_int_int : LF :=
 { nparams := 1, results := [], body :=
 (.seq
 (.region false [⟨some 4, .mv, [.t 0], none⟩,
 ⟨some 5, .len, [.t 4], none⟩,
 ⟨some 6, .bin .sub, [.t 5, .c (.i 1)], none⟩,
 ⟨some 2, .mv, [.c (.i 0)], none⟩,
 ⟨some 3, .mv, [.t 6], none⟩] [4, 5, 6])
 (.block 0
 F_slices_Reverse_int_int_W0)) }
def lf : Nat → Option LF
 | 4 => some F_laws_FnSwapGain
 | 5 => some F_laws_FnRatioSwaps
 | 7 => some F_laws_FnExactRatioOrder
 | 9 => some F_laws_FnExactSwapGain
 | 14 => some F_laws_alive
 | 19 => some F_spec_DrawSwapGain
 | 20 => some F_impl_SwapGain
 | 21 => some F_spec_SwapGain
 | 22 => some F_spec_DrawRatioOrder
 | 23 => some F_impl_RatioOrder
 | 24 => some F_spec_RatioOrder
 | 28 => some F_laws_szTestS
 | 29 => some F_laws_toTestS
 | 30 => some F_laws_eqIntS
 | 31 => some F_laws_eqTestS
 | 32 => some F_laws_markTestS
 | 33 => some F_laws_markIntS
 | 34 => some F_laws_heldIntS
 | 35 => some F_spec_RowAverage
 | 36 => some F_laws_toIntS
 | 37 => some F_impl_RowAverage
 | 38 => some F_spec_l20Open
 | 39 => some F_spec_l20Rd_pick
 | 40 => some F_impl_manyOk
 | 41 => some F_impl_rowOk
 | 42 => some F_spec_l1In
 | 43 => some F_impl_TestsOk
 | 44 => some F_impl_isWithin
 | 47 => some F_spec_l20Tests
 | 48 => some F_spec_l20Order
 | 49 => some F_impl_SwappedOrder
 | 50 => some F_spec_SwappedOrder
 | 51 => some F_impl_RatioOrder_1
 | 52 => some F_impl_ratioOf
 | 53 => some F_impl_ratio_isLess
 | 54 => some F_impl_inserted_int
 | 55 => some F_spec_TestsOk
 | 56 => some F_spec_l5Ends
 | 58 => some F_laws_toTest
 | 59 => some F_laws_eqTest
 | 60 => some F_spec_OrderOk
 | 61 => some F_spec_l1Power
 | 62 => some F_impl_OrderOk
 | 63 => some F_impl_wholeOf
 | 64 => some F_impl_endChance
 | 65 => some F_spec_l20Rd_odd
 | 66 => some F_slices_Clone_int_int
 | 67 => some F_slices_Insert_int_int
 | 68 => some F_impl_hasTest
 | 70 => some F_slices_rotateRight_int
 | 71 => some F_slices_rotateLeft_int
 | 72 => some F_slices_Reverse_int_int
 | _ => none
theorem w_laws_FnRatioSwaps_0 (S : LS) : ex lf F_laws_FnRatioSwaps_W0 S = match ex lf F_laws_FnRatioSwaps_L0 S with | some (.normal, S1) => ex lf F_laws_FnRatioSwaps_W0 S1 | r => r := ex_loop lf F_laws_FnRatioSwaps_L0 S
theorem w_spec_DrawRatioOrder_0 (S : LS) : ex lf F_spec_DrawRatioOrder_W0 S = match ex lf F_spec_DrawRatioOrder_L0 S with | some (.normal, S1) => ex lf F_spec_DrawRatioOrder_W0 S1 | r => r := ex_loop lf F_spec_DrawRatioOrder_L0 S
theorem w_impl_RatioOrder_0 (S : LS) : ex lf F_impl_RatioOrder_W0 S = match ex lf F_impl_RatioOrder_L0 S with | some (.normal, S1) => ex lf F_impl_RatioOrder_W0 S1 | r => r := ex_loop lf F_impl_RatioOrder_L0 S
theorem w_spec_RatioOrder_1 (S : LS) : ex lf F_spec_RatioOrder_W1 S = match ex lf F_spec_RatioOrder_L1 S with | some (.normal, S1) => ex lf F_spec_RatioOrder_W1 S1 | r => r := ex_loop lf F_spec_RatioOrder_L1 S
theorem w_spec_RatioOrder_0 (S : LS) : ex lf F_spec_RatioOrder_W0 S = match ex lf F_spec_RatioOrder_L0 S with | some (.normal, S1) => ex lf F_spec_RatioOrder_W0 S1 | r => r := ex_loop lf F_spec_RatioOrder_L0 S
theorem w_laws_toTestS_0 (S : LS) : ex lf F_laws_toTestS_W0 S = match ex lf F_laws_toTestS_L0 S with | some (.normal, S1) => ex lf F_laws_toTestS_W0 S1 | r => r := ex_loop lf F_laws_toTestS_L0 S
theorem w_laws_eqIntS_0 (S : LS) : ex lf F_laws_eqIntS_W0 S = match ex lf F_laws_eqIntS_L0 S with | some (.normal, S1) => ex lf F_laws_eqIntS_W0 S1 | r => r := ex_loop lf F_laws_eqIntS_L0 S
theorem w_laws_eqTestS_0 (S : LS) : ex lf F_laws_eqTestS_W0 S = match ex lf F_laws_eqTestS_L0 S with | some (.normal, S1) => ex lf F_laws_eqTestS_W0 S1 | r => r := ex_loop lf F_laws_eqTestS_L0 S
theorem w_laws_markTestS_0 (S : LS) : ex lf F_laws_markTestS_W0 S = match ex lf F_laws_markTestS_L0 S with | some (.normal, S1) => ex lf F_laws_markTestS_W0 S1 | r => r := ex_loop lf F_laws_markTestS_L0 S
theorem w_laws_markIntS_0 (S : LS) : ex lf F_laws_markIntS_W0 S = match ex lf F_laws_markIntS_L0 S with | some (.normal, S1) => ex lf F_laws_markIntS_W0 S1 | r => r := ex_loop lf F_laws_markIntS_L0 S
theorem w_laws_heldIntS_0 (S : LS) : ex lf F_laws_heldIntS_W0 S = match ex lf F_laws_heldIntS_L0 S with | some (.normal, S1) => ex lf F_laws_heldIntS_W0 S1 | r => r := ex_loop lf F_laws_heldIntS_L0 S
theorem w_spec_RowAverage_0 (S : LS) : ex lf F_spec_RowAverage_W0 S = match ex lf F_spec_RowAverage_L0 S with | some (.normal, S1) => ex lf F_spec_RowAverage_W0 S1 | r => r := ex_loop lf F_spec_RowAverage_L0 S
theorem w_laws_toIntS_0 (S : LS) : ex lf F_laws_toIntS_W0 S = match ex lf F_laws_toIntS_L0 S with | some (.normal, S1) => ex lf F_laws_toIntS_W0 S1 | r => r := ex_loop lf F_laws_toIntS_L0 S
theorem w_impl_RowAverage_0 (S : LS) : ex lf F_impl_RowAverage_W0 S = match ex lf F_impl_RowAverage_L0 S with | some (.normal, S1) => ex lf F_impl_RowAverage_W0 S1 | r => r := ex_loop lf F_impl_RowAverage_L0 S
theorem w_impl_TestsOk_0 (S : LS) : ex lf F_impl_TestsOk_W0 S = match ex lf F_impl_TestsOk_L0 S with | some (.normal, S1) => ex lf F_impl_TestsOk_W0 S1 | r => r := ex_loop lf F_impl_TestsOk_L0 S
theorem w_spec_l20Tests_0 (S : LS) : ex lf F_spec_l20Tests_W0 S = match ex lf F_spec_l20Tests_L0 S with | some (.normal, S1) => ex lf F_spec_l20Tests_W0 S1 | r => r := ex_loop lf F_spec_l20Tests_L0 S
theorem w_spec_l20Order_0 (S : LS) : ex lf F_spec_l20Order_W0 S = match ex lf F_spec_l20Order_L0 S with | some (.normal, S1) => ex lf F_spec_l20Order_W0 S1 | r => r := ex_loop lf F_spec_l20Order_L0 S
theorem w_impl_inserted_int_0 (S : LS) : ex lf F_impl_inserted_int_W0 S = match ex lf F_impl_inserted_int_L0 S with | some (.normal, S1) => ex lf F_impl_inserted_int_W0 S1 | r => r := ex_loop lf F_impl_inserted_int_L0 S
theorem w_spec_TestsOk_0 (S : LS) : ex lf F_spec_TestsOk_W0 S = match ex lf F_spec_TestsOk_L0 S with | some (.normal, S1) => ex lf F_spec_TestsOk_W0 S1 | r => r := ex_loop lf F_spec_TestsOk_L0 S
theorem w_spec_OrderOk_0 (S : LS) : ex lf F_spec_OrderOk_W0 S = match ex lf F_spec_OrderOk_L0 S with | some (.normal, S1) => ex lf F_spec_OrderOk_W0 S1 | r => r := ex_loop lf F_spec_OrderOk_L0 S
theorem w_spec_l1Power_0 (S : LS) : ex lf F_spec_l1Power_W0 S = match ex lf F_spec_l1Power_L0 S with | some (.normal, S1) => ex lf F_spec_l1Power_W0 S1 | r => r := ex_loop lf F_spec_l1Power_L0 S
theorem w_impl_OrderOk_0 (S : LS) : ex lf F_impl_OrderOk_W0 S = match ex lf F_impl_OrderOk_L0 S with | some (.normal, S1) => ex lf F_impl_OrderOk_W0 S1 | r => r := ex_loop lf F_impl_OrderOk_L0 S
theorem w_impl_wholeOf_0 (S : LS) : ex lf F_impl_wholeOf_W0 S = match ex lf F_impl_wholeOf_L0 S with | some (.normal, S1) => ex lf F_impl_wholeOf_W0 S1 | r => r := ex_loop lf F_impl_wholeOf_L0 S
theorem w_slices_Reverse_int_int_0 (S : LS) : ex lf F_slices_Reverse_int_int_W0 S = match ex lf F_slices_Reverse_int_int_L0 S with | some (.normal, S1) => ex lf F_slices_Reverse_int_int_W0 S1 | r => r := ex_loop lf F_slices_Reverse_int_int_L0 S
end Zz
