/- The functions of the program, read as data. No conditions. -/
import Derived.Test.YtahkmbihhkjebabDoorLgEzr
set_option linter.unusedSectionVars false
set_option linter.unusedVariables false
set_option linter.unusedSimpArgs false
namespace Zz
open Go.Lg
instance : GL := ⟨[(1, .st [.y 0, .y 1, .y 56, .y 2, .y 57, .y 49, .y 28, .y 3, .y 61, .y 58, .y 42, .y 50, .y 38, .y 29, .y 17, .y 4, .y 62, .y 47, .y 59, .y 36, .y 45, .y 43, .y 51, .y 22, .y 53, .y 39, .y 33, .y 30, .y 24, .y 18, .y 12, .y 5, .y 63, .y 55, .y 48, .y 27, .y 60, .y 41, .y 37, .y 16, .y 46, .y 35, .y 44, .y 21, .y 52, .y 32, .y 23, .y 11, .y 54, .y 26, .y 40, .y 15, .y 34, .y 20, .y 31, .y 10, .y 25, .y 14, .y 19, .y 9, .y 13, .y 8, .y 7, .y 6])], [142], ["l4_orders.go:82"], [], [(75, [0]), (95, [3]), (114, [0, 2]), (132, [0]), (158, [0, 2]), (160, [0])], [(28, 114, 6)], ["l20_draw.go:447"]⟩
theorem gEnv_1 : gEnv [1] = [(1048577, .adr (.st [.y 0, .y 1, .y 56, .y 2, .y 57, .y 49, .y 28, .y 3, .y 61, .y 58, .y 42, .y 50, .y 38, .y 29, .y 17, .y 4, .y 62, .y 47, .y 59, .y 36, .y 45, .y 43, .y 51, .y 22, .y 53, .y 39, .y 33, .y 30, .y 24, .y 18, .y 12, .y 5, .y 63, .y 55, .y 48, .y 27, .y 60, .y 41, .y 37, .y 16, .y 46, .y 35, .y 44, .y 21, .y 52, .y 32, .y 23, .y 11, .y 54, .y 26, .y 40, .y 15, .y 34, .y 20, .y 31, .y 10, .y 25, .y 14, .y 19, .y 9, .y 13, .y 8, .y 7, .y 6]))] := rfl
def n_laws_FnNextInCount : Nat := 3
def n_laws_FnCountAverage : Nat := 4
def n_spec_DrawNextInCount : Nat := 12
def n_impl_NextInCount : Nat := 13
def n_spec_NextInCount : Nat := 14
def n_laws_alive : Nat := 15
def n_impl_OtherTests : Nat := 16
def n_spec_DrawCountAverage : Nat := 17
def n_impl_CountAverage : Nat := 18
def n_spec_CountAverage : Nat := 19
def n_impl_RowAverage : Nat := 20
def n_impl_RatioOrder : Nat := 21
def n_impl_CountBest : Nat := 22
def n_spec_TestsOk : Nat := 29
def n_spec_l20Open : Nat := 47
def n_spec_l20Tests : Nat := 48
def n_spec_l20Rd_pick : Nat := 49
def n_spec_l8Heads : Nat := 50
def n_impl_TestsOk : Nat := 51
def n_impl_StateOk : Nat := 52
def n_impl_isWithin : Nat := 53
def n_impl_sizeOf : Nat := 54
def n_impl_firstLeft : Nat := 55
def n_math_bits_TrailingZeros : Nat := 56
def n_spec_StateOk : Nat := 57
def n_spec_l1In : Nat := 58
def n_spec_l8First : Nat := 59
def n_spec_l20Count : Nat := 60
def n_impl_CountOk : Nat := 61
def n_impl_leastToCount : Nat := 62
def n_impl_allOf : Nat := 63
def n_impl_CountAverage_1 : Nat := 64
def n_spec_CountOk : Nat := 65
def n_spec_l8Rule : Nat := 66
def n_spec_l1Power : Nat := 67
def n_impl_OrderOk : Nat := 68
def n_impl_rowOk : Nat := 69
def n_impl_wholeOf : Nat := 70
def n_impl_endChance : Nat := 71
def n_impl_RatioOrder_1 : Nat := 72
def n_impl_ratioOf : Nat := 73
def n_impl_ratio_isLess : Nat := 74
def n_impl_inserted_int : Nat := 75
def n_impl_CountBest_1 : Nat := 76
def n_impl_manyOk : Nat := 82
def n_impl_statesOf : Nat := 87
def n_spec_l20Rd_odd : Nat := 107
def n_math_bits_OnesCount : Nat := 108
def n_impl_hasTest : Nat := 109
def n_math_bits_TrailingZeros32 : Nat := 110
def n_math_bits_TrailingZeros64 : Nat := 111
def n_spec_RatioOrder : Nat := 112
def n_impl_averageAsking : Nat := 113
def n_slices_Insert_int_int : Nat := 114
def n_math_bits_OnesCount32 : Nat := 149
def n_math_bits_OnesCount64 : Nat := 150
def n_spec_l5Ends : Nat := 151
def n_slices_rotateRight_int : Nat := 153
def n_slices_rotateLeft_int : Nat := 165
def n_slices_Reverse_int_int : Nat := 170
/-- laws.FnNextInCount -/
def F_laws_FnNextInCount_L0 : LC :=
 (.seq
 (.seq
 (.region false [⟨some 35, .mv, [.t 8], none⟩,
 ⟨some 36, .mv, [.t 3], none⟩,
 ⟨some 37, .len, [.t 36], none⟩,
 ⟨some 38, .bin .lss, [.t 35, .t 37], none⟩] [35, 36, 37])
 (.cond (.t 38) [38]
 .skip
 (.exit 0)))
 (.seq
 (.block 1
 (.region false [⟨some 41, .mv, [.t 7], none⟩,
 ⟨some 42, .mv, [.t 4], none⟩,
 ⟨some 43, .mv, [.t 8], none⟩,
 ⟨some 44, .bin .shr, [.t 42, .t 43], none⟩,
 ⟨some 45, .bin .rem, [.t 44, .c (.i 2)], none⟩,
 ⟨some 46, .bin .add, [.t 41, .t 45], none⟩,
 ⟨some 7, .mv, [.t 46], none⟩] [41, 42, 43, 44, 45, 46]))
 (.region false [⟨some 39, .mv, [.t 8], none⟩,
 ⟨some 40, .bin .add, [.t 39, .c (.i 1)], none⟩,
 ⟨some 8, .mv, [.t 40], none⟩] [39, 40])))
def F_laws_FnNextInCount_W0 : LC := .loop F_laws_FnNextInCount_L0
def F_laws_FnNextInCount : LF :=
 { nparams := 1, results := [.t 2], body :=
 (.seq
 (.region false [⟨some 2, .mv, [.c (.b false)], none⟩] [2])
 (.seq
 (.seq
 (.region false [⟨some 9, .mv, [.t 0], none⟩,
 ⟨some 10, .len, [.t 9], none⟩,
 ⟨some 11, .bin .gtr, [.t 10, .c (.i 1048576)], none⟩] [9, 10])
 (.cond (.t 11) [11]
 (.seq
 (.region false [⟨some 2, .mv, [.c (.b true)], none⟩] [0])
 .ret)
 .skip))
 (.seq
 (.region false [⟨some 13, .mv, [.t 0], none⟩,
 ⟨some 14, .call n_spec_DrawNextInCount 7168, [.t 13], none⟩,
 ⟨some 12, .mv, [.t 14], none⟩,
 ⟨some 15, .ext 0, [.t 12], none⟩,
 ⟨some 16, .ext 1, [.t 12], none⟩,
 ⟨some 17, .ext 2, [.t 12], none⟩,
 ⟨some 3, .mv, [.t 15], none⟩,
 ⟨some 4, .mv, [.t 16], none⟩,
 ⟨some 5, .mv, [.t 17], none⟩] [0, 12, 13, 14, 15, 16, 17])
 (.seq
 (.region false [⟨some 18, .mv, [.t 3], none⟩,
 ⟨some 19, .mv, [.t 4], none⟩,
 ⟨some 20, .mv, [.t 5], none⟩,
 ⟨some 21, .call n_impl_NextInCount 10752, [.t 18, .t 19, .t 20], none⟩,
 ⟨some 6, .mv, [.t 21], none⟩] [18, 19, 20, 21])
 (.seq
 (.seq
 (.region false [⟨some 22, .mv, [.t 6], none⟩,
 ⟨some 23, .mv, [.t 3], none⟩,
 ⟨some 24, .mv, [.t 4], none⟩,
 ⟨some 25, .mv, [.t 5], none⟩,
 ⟨some 26, .call n_spec_NextInCount 13312, [.t 23, .t 24, .t 25], none⟩,
 ⟨some 27, .bin .neq, [.t 22, .t 26], none⟩] [22, 23, 24, 25, 26])
 (.cond (.t 27) [27]
 (.seq
 (.region false [⟨some 2, .mv, [.c (.b false)], none⟩] [3, 4, 5, 6])
 .ret)
 .skip))
 (.seq
 (.seq
 (.region false [⟨some 28, .mv, [.t 6], none⟩,
 ⟨some 29, .bin .lss, [.t 28, .c (.i 0)], none⟩] [28])
 (.cond (.t 29) [29]
 (.seq
 (.region false [⟨some 30, .mv, [.t 6], none⟩,
 ⟨some 31, .bin .eql, [.t 30, .c (.i (-1))], none⟩,
 ⟨some 32, .mv, [.t 31], none⟩,
 ⟨some 33, .call n_laws_alive 16896, [], some (32, true)⟩,
 ⟨some 34, .pick, [.t 32, .t 33, .c (.b false)], none⟩,
 ⟨some 2, .mv, [.t 34], none⟩] [3, 4, 5, 6, 30, 31, 32, 33, 34])
 .ret)
 .skip))
 (.seq
 (.region false [⟨some 7, .mv, [.c (.i 0)], none⟩] [])
 (.seq
 (.seq
 (.region false [⟨some 8, .mv, [.c (.i 0)], none⟩] [])
 (.block 0
 F_laws_FnNextInCount_W0))
 (.seq
 (.region false [⟨some 47, .mv, [.t 4], none⟩,
 ⟨some 48, .mv, [.t 6], none⟩,
 ⟨some 49, .bin .shr, [.t 47, .t 48], none⟩,
 ⟨some 50, .bin .rem, [.t 49, .c (.i 2)], none⟩,
 ⟨some 51, .bin .eql, [.t 50, .c (.i 1)], none⟩,
 ⟨some 52, .mv, [.t 51], none⟩,
 ⟨some 53, .mv, [.t 3], some (52, true)⟩,
 ⟨some 54, .call n_impl_OtherTests 27648, [.t 53], some (52, true)⟩,
 ⟨some 55, .mv, [.t 4], some (52, true)⟩,
 ⟨some 56, .mv, [.t 7], some (52, true)⟩,
 ⟨some 57, .mv, [.t 5], some (52, true)⟩,
 ⟨some 58, .bin .sub, [.t 56, .t 57], some (52, true)⟩,
 ⟨some 59, .bin .add, [.t 58, .c (.i 1)], some (52, true)⟩,
 ⟨some 60, .call n_impl_NextInCount 30720, [.t 54, .t 55, .t 59], some (52, true)⟩,
 ⟨some 61, .mv, [.t 6], some (52, true)⟩,
 ⟨some 62, .bin .eql, [.t 60, .t 61], some (52, true)⟩,
 ⟨some 63, .pick, [.t 52, .t 62, .c (.b false)], none⟩,
 ⟨some 2, .mv, [.t 63], none⟩] [3, 4, 5, 6, 7, 8, 47, 48, 49, 50, 51, 52, 53, 54, 55, 56, 57, 58, 59, 60, 61, 62, 63])
 .ret))))))))) }
/-- laws.FnCountAverage -/
def F_laws_FnCountAverage : LF :=
 { nparams := 1, results := [.t 2], body :=
 (.seq
 (.region false [⟨some 2, .mv, [.c (.b false)], none⟩] [2])
 (.seq
 (.seq
 (.region false [⟨some 8, .mv, [.t 0], none⟩,
 ⟨some 9, .len, [.t 8], none⟩,
 ⟨some 10, .bin .gtr, [.t 9, .c (.i 1048576)], none⟩] [8, 9])
 (.cond (.t 10) [10]
 (.seq
 (.region false [⟨some 2, .mv, [.c (.b true)], none⟩] [0])
 .ret)
 .skip))
 (.seq
 (.region false [⟨some 12, .mv, [.t 0], none⟩,
 ⟨some 13, .call n_spec_DrawCountAverage 6656, [.t 12], none⟩,
 ⟨some 11, .mv, [.t 13], none⟩,
 ⟨some 14, .ext 0, [.t 11], none⟩,
 ⟨some 15, .ext 1, [.t 11], none⟩,
 ⟨some 3, .mv, [.t 14], none⟩,
 ⟨some 4, .mv, [.t 15], none⟩] [0, 11, 12, 13, 14, 15])
 (.seq
 (.region false [⟨some 16, .mv, [.t 3], none⟩,
 ⟨some 17, .mv, [.t 4], none⟩,
 ⟨some 18, .call n_impl_CountAverage 9216, [.t 16, .t 17], none⟩,
 ⟨some 5, .mv, [.t 18], none⟩] [16, 17, 18])
 (.seq
 (.seq
 (.region false [⟨some 19, .mv, [.t 5], none⟩,
 ⟨some 20, .mv, [.t 3], none⟩,
 ⟨some 21, .mv, [.t 4], none⟩,
 ⟨some 22, .call n_spec_CountAverage 11264, [.t 20, .t 21], none⟩,
 ⟨some 23, .bin .neq, [.t 19, .t 22], none⟩] [19, 20, 21, 22])
 (.cond (.t 23) [23]
 (.seq
 (.region false [⟨some 2, .mv, [.c (.b false)], none⟩] [3, 4, 5])
 .ret)
 .skip))
 (.seq
 (.seq
 (.region false [⟨some 24, .mv, [.t 5], none⟩,
 ⟨some 25, .bin .lss, [.t 24, .c (.i 0)], none⟩] [24])
 (.cond (.t 25) [25]
 (.seq
 (.region false [⟨some 26, .mv, [.t 5], none⟩,
 ⟨some 27, .bin .eql, [.t 26, .c (.i (-1))], none⟩,
 ⟨some 28, .mv, [.t 27], none⟩,
 ⟨some 29, .call n_laws_alive 14848, [], some (28, true)⟩,
 ⟨some 30, .pick, [.t 28, .t 29, .c (.b false)], none⟩,
 ⟨some 2, .mv, [.t 30], none⟩] [3, 4, 5, 26, 27, 28, 29, 30])
 .ret)
 .skip))
 (.seq
 (.region false [⟨some 31, .mv, [.t 3], none⟩,
 ⟨some 32, .mv, [.t 3], none⟩,
 ⟨some 33, .call n_impl_RatioOrder 16896, [.t 32, .c (.i 1)], none⟩,
 ⟨some 34, .call n_impl_RowAverage 17408, [.t 31, .t 33, .c (.i 1)], none⟩,
 ⟨some 6, .mv, [.t 34], none⟩] [31, 32, 33, 34])
 (.seq
 (.region false [⟨some 35, .mv, [.t 3], none⟩,
 ⟨some 36, .mv, [.t 3], none⟩,
 ⟨some 37, .call n_impl_RatioOrder 18944, [.t 36, .c (.i 0)], none⟩,
 ⟨some 38, .call n_impl_RowAverage 19456, [.t 35, .t 37, .c (.i 0)], none⟩,
 ⟨some 7, .mv, [.t 38], none⟩] [35, 36, 37, 38])
 (.seq
 (.region false [⟨some 39, .mv, [.t 3], none⟩,
 ⟨some 40, .mv, [.t 4], none⟩,
 ⟨some 41, .call n_impl_CountBest 20992, [.t 39, .t 40], none⟩,
 ⟨some 42, .mv, [.t 5], none⟩,
 ⟨some 43, .bin .eql, [.t 41, .t 42], none⟩,
 ⟨some 44, .mv, [.t 43], none⟩,
 ⟨some 45, .mv, [.t 3], some (44, true)⟩,
 ⟨some 46, .call n_impl_CountAverage 23552, [.t 45, .c (.i 1)], some (44, true)⟩,
 ⟨some 47, .mv, [.t 6], some (44, true)⟩,
 ⟨some 48, .bin .eql, [.t 46, .t 47], some (44, true)⟩,
 ⟨some 49, .pick, [.t 44, .t 48, .c (.b false)], none⟩,
 ⟨some 50, .mv, [.t 49], none⟩,
 ⟨some 51, .mv, [.t 3], some (50, true)⟩,
 ⟨some 52, .mv, [.t 3], some (50, true)⟩,
 ⟨some 53, .len, [.t 52], some (50, true)⟩,
 ⟨some 54, .call n_impl_CountAverage 27648, [.t 51, .t 53], some (50, true)⟩,
 ⟨some 55, .mv, [.t 7], some (50, true)⟩,
 ⟨some 56, .bin .eql, [.t 54, .t 55], some (50, true)⟩,
 ⟨some 57, .pick, [.t 50, .t 56, .c (.b false)], none⟩,
 ⟨some 2, .mv, [.t 57], none⟩] [3, 4, 5, 6, 7, 39, 40, 41, 42, 43, 44, 45, 46, 47, 48, 49, 50, 51, 52, 53, 54, 55, 56, 57])
 .ret))))))))) }
/-- spec.DrawNextInCount -/
def F_spec_DrawNextInCount : LF :=
 { nparams := 1, results := [.t 2, .t 3, .t 4], body :=
 (.seq
 (.region false [⟨some 2, .newnil 1040, [], none⟩,
 ⟨some 3, .mv, [.c (.i 0)], none⟩,
 ⟨some 4, .mv, [.c (.i 0)], none⟩] [2, 3, 4])
 (.seq
 (.region false [⟨some 8, .mv, [.t 0], none⟩,
 ⟨some 9, .call n_spec_l20Open 4608, [.t 8], none⟩,
 ⟨some 5, .mv, [.t 9], none⟩] [0, 8, 9])
 (.seq
 (.region false [⟨some 10, .mv, [.t 5], none⟩,
 ⟨some 11, .call n_spec_l20Tests 5632, [.t 10, .c (.i 14)], none⟩,
 ⟨some 6, .mv, [.t 11], none⟩] [10, 11])
 (.seq
 (.region true [⟨some 12, .mv, [.t 5], none⟩,
 ⟨some 13, .mv, [.t 6], none⟩,
 ⟨some 14, .len, [.t 13], none⟩,
 ⟨some 15, .bin .shl, [.c (.i 1), .t 14], none⟩,
 ⟨some 16, .call n_spec_l20Rd_pick 8192, [.t 12, .t 15], none⟩,
 ⟨some 17, .mv, [.t 5], none⟩,
 ⟨some 18, .mv, [.t 6], none⟩,
 ⟨some 19, .len, [.t 18], none⟩,
 ⟨some 20, .bin .shl, [.c (.i 1), .t 19], none⟩,
 ⟨some 21, .call n_spec_l20Rd_pick 10752, [.t 17, .t 20], none⟩,
 ⟨some 22, .bin .or, [.t 16, .t 21], none⟩,
 ⟨some 7, .mv, [.t 22], none⟩] [12, 13, 14, 15, 16, 17, 18, 19, 20, 21, 22])
 (.seq
 (.region false [⟨some 23, .mv, [.t 6], none⟩,
 ⟨some 24, .mv, [.t 7], none⟩,
 ⟨some 25, .mv, [.t 5], none⟩,
 ⟨some 26, .mv, [.t 7], none⟩,
 ⟨some 27, .call n_spec_l8Heads 13824, [.t 26], none⟩,
 ⟨some 28, .mm true, [.t 27, .c (.i 1)], none⟩,
 ⟨some 29, .call n_spec_l20Rd_pick 14848, [.t 25, .t 28], none⟩,
 ⟨some 30, .bin .add, [.c (.i 1), .t 29], none⟩,
 ⟨some 31, .mv, [.t 5], none⟩,
 ⟨some 32, .call n_spec_l20Rd_pick 16384, [.t 31, .c (.i 30)], none⟩,
 ⟨some 33, .bin .quo, [.t 32, .c (.i 29)], none⟩,
 ⟨some 34, .bin .add, [.t 30, .t 33], none⟩,
 ⟨some 2, .mv, [.t 23], none⟩,
 ⟨some 3, .mv, [.t 24], none⟩,
 ⟨some 4, .mv, [.t 34], none⟩] [5, 6, 7, 23, 24, 25, 26, 27, 28, 29, 30, 31, 32, 33, 34])
 .ret))))) }
/-- impl.NextInCount -/
def F_impl_NextInCount : LF :=
 { nparams := 3, results := [.t 6], body :=
 (.seq
 (.region false [⟨some 6, .mv, [.c (.i 0)], none⟩] [6])
 (.seq
 (.seq
 (.region false [⟨some 9, .mv, [.t 0], none⟩,
 ⟨some 10, .call n_impl_TestsOk 5120, [.t 9], none⟩,
 ⟨some 11, .un .not, [.t 10], none⟩,
 ⟨some 12, .mv, [.t 11], none⟩,
 ⟨some 13, .mv, [.t 0], some (12, false)⟩,
 ⟨some 14, .len, [.t 13], some (12, false)⟩,
 ⟨some 15, .mv, [.t 1], some (12, false)⟩,
 ⟨some 16, .call n_impl_StateOk 8192, [.t 14, .t 15], some (12, false)⟩,
 ⟨some 17, .un .not, [.t 16], some (12, false)⟩,
 ⟨some 18, .pick, [.t 12, .c (.b true), .t 17], none⟩,
 ⟨some 19, .mv, [.t 18], none⟩,
 ⟨some 20, .mv, [.t 2], some (19, false)⟩,
 ⟨some 21, .mv, [.t 1], some (19, false)⟩,
 ⟨some 22, .call n_impl_sizeOf 11264, [.t 21], some (19, false)⟩,
 ⟨some 23, .call n_impl_isWithin 11776, [.t 20, .c (.i 1), .t 22], some (19, false)⟩,
 ⟨some 24, .un .not, [.t 23], some (19, false)⟩,
 ⟨some 25, .pick, [.t 19, .c (.b true), .t 24], none⟩] [9, 10, 11, 12, 13, 14, 15, 16, 17, 18, 19, 20, 21, 22, 23, 24])
 (.cond (.t 25) [25]
 (.seq
 (.region false [⟨some 6, .mv, [.c (.i (-1))], none⟩] [0, 1, 2])
 .ret)
 .skip))
 (.seq
 (.region false [⟨some 26, .mv, [.t 0], none⟩,
 ⟨some 27, .call n_impl_RatioOrder 13824, [.t 26, .c (.i 1)], none⟩,
 ⟨some 28, .mv, [.t 1], none⟩,
 ⟨some 29, .mv, [.t 2], none⟩,
 ⟨some 30, .call n_impl_firstLeft 15360, [.t 27, .t 28, .t 29], none⟩,
 ⟨some 7, .mv, [.t 30], none⟩] [26, 27, 28, 29, 30])
 (.seq
 (.region false [⟨some 31, .mv, [.t 0], none⟩,
 ⟨some 32, .call n_impl_RatioOrder 16384, [.t 31, .c (.i 0)], none⟩,
 ⟨some 33, .mv, [.t 1], none⟩,
 ⟨some 34, .mv, [.t 1], none⟩,
 ⟨some 35, .call n_impl_sizeOf 17920, [.t 34], none⟩,
 ⟨some 36, .mv, [.t 2], none⟩,
 ⟨some 37, .bin .sub, [.t 35, .t 36], none⟩,
 ⟨some 38, .bin .add, [.t 37, .c (.i 1)], none⟩,
 ⟨some 39, .call n_impl_firstLeft 19968, [.t 32, .t 33, .t 38], none⟩,
 ⟨some 8, .mv, [.t 39], none⟩] [0, 1, 2, 31, 32, 33, 34, 35, 36, 37, 38, 39])
 (.seq
 (.region false [⟨some 40, .mv, [.t 7], none⟩,
 ⟨some 41, .mv, [.t 8], none⟩,
 ⟨some 42, .bin .and, [.t 40, .t 41], none⟩,
 ⟨some 43, .conv .i2q 22016, [.t 42], none⟩,
 ⟨some 44, .call n_math_bits_TrailingZeros 22528, [.t 43], none⟩,
 ⟨some 6, .mv, [.t 44], none⟩] [7, 8, 40, 41, 42, 43, 44])
 .ret))))) }
/-- spec.NextInCount -/
def F_spec_NextInCount_L0 : LC :=
 (.seq
 (.seq
 (.region false [⟨some 39, .mv, [.t 8], none⟩,
 ⟨some 40, .mv, [.t 0], none⟩,
 ⟨some 41, .len, [.t 40], none⟩,
 ⟨some 42, .bin .lss, [.t 39, .t 41], none⟩] [39, 40, 41])
 (.cond (.t 42) [42]
 .skip
 (.exit 0)))
 (.seq
 (.block 1
 (.seq
 (.region false [⟨some 45, .mv, [.t 7], none⟩,
 ⟨some 46, .mv, [.t 8], none⟩,
 ⟨some 47, .bin .shr, [.t 45, .t 46], none⟩,
 ⟨some 48, .bin .rem, [.t 47, .c (.i 2)], none⟩,
 ⟨some 49, .bin .eql, [.t 48, .c (.i 1)], none⟩] [45, 46, 47, 48])
 (.cond (.t 49) [49]
 (.seq
 (.region false [⟨some 50, .mv, [.t 8], none⟩,
 ⟨some 6, .mv, [.t 50], none⟩] [0, 7, 8, 50])
 .ret)
 .skip)))
 (.region false [⟨some 43, .mv, [.t 8], none⟩,
 ⟨some 44, .bin .add, [.t 43, .c (.i 1)], none⟩,
 ⟨some 8, .mv, [.t 44], none⟩] [43, 44])))
def F_spec_NextInCount_W0 : LC := .loop F_spec_NextInCount_L0
def F_spec_NextInCount : LF :=
 { nparams := 3, results := [.t 6], body :=
 (.seq
 (.region false [⟨some 6, .mv, [.c (.i 0)], none⟩] [6])
 (.seq
 (.seq
 (.region false [⟨some 9, .mv, [.t 0], none⟩,
 ⟨some 10, .call n_spec_TestsOk 5120, [.t 9], none⟩,
 ⟨some 11, .un .not, [.t 10], none⟩,
 ⟨some 12, .mv, [.t 11], none⟩,
 ⟨some 13, .mv, [.t 0], some (12, false)⟩,
 ⟨some 14, .len, [.t 13], some (12, false)⟩,
 ⟨some 15, .mv, [.t 1], some (12, false)⟩,
 ⟨some 16, .call n_spec_StateOk 8192, [.t 14, .t 15], some (12, false)⟩,
 ⟨some 17, .un .not, [.t 16], some (12, false)⟩,
 ⟨some 18, .pick, [.t 12, .c (.b true), .t 17], none⟩,
 ⟨some 19, .mv, [.t 18], none⟩,
 ⟨some 20, .mv, [.t 2], some (19, false)⟩,
 ⟨some 21, .mv, [.t 1], some (19, false)⟩,
 ⟨some 22, .call n_spec_l8Heads 11264, [.t 21], some (19, false)⟩,
 ⟨some 23, .call n_spec_l1In 11776, [.t 20, .c (.i 1), .t 22], some (19, false)⟩,
 ⟨some 24, .un .not, [.t 23], some (19, false)⟩,
 ⟨some 25, .pick, [.t 19, .c (.b true), .t 24], none⟩] [9, 10, 11, 12, 13, 14, 15, 16, 17, 18, 19, 20, 21, 22, 23, 24])
 (.cond (.t 25) [25]
 (.seq
 (.region false [⟨some 6, .mv, [.c (.i (-1))], none⟩] [0, 1, 2])
 .ret)
 .skip))
 (.seq
 (.region false [⟨some 26, .mv, [.t 0], none⟩,
 ⟨some 27, .mv, [.t 1], none⟩,
 ⟨some 28, .mv, [.t 2], none⟩,
 ⟨some 29, .call n_spec_l8First 14848, [.t 26, .t 27, .c (.i 1), .t 28], none⟩,
 ⟨some 30, .mv, [.t 0], none⟩,
 ⟨some 31, .mv, [.t 1], none⟩,
 ⟨some 32, .mv, [.t 1], none⟩,
 ⟨some 33, .call n_spec_l8Heads 16896, [.t 32], none⟩,
 ⟨some 34, .mv, [.t 2], none⟩,
 ⟨some 35, .bin .sub, [.t 33, .t 34], none⟩,
 ⟨some 36, .bin .add, [.t 35, .c (.i 1)], none⟩,
 ⟨some 37, .call n_spec_l8First 18944, [.t 30, .t 31, .c (.i 0), .t 36], none⟩,
 ⟨some 38, .bin .and, [.t 29, .t 37], none⟩,
 ⟨some 7, .mv, [.t 38], none⟩] [1, 2, 26, 27, 28, 29, 30, 31, 32, 33, 34, 35, 36, 37, 38])
 (.seq
 (.seq
 (.region false [⟨some 8, .mv, [.c (.i 0)], none⟩] [])
 (.block 0
 F_spec_NextInCount_W0))
 (.seq
 (.region false [⟨some 6, .mv, [.c (.i (-1))], none⟩] [0, 7, 8])
 .ret))))) }
/-- laws.alive -/
def F_laws_alive : LF :=
 { nparams := 0, results := [.t 0], body :=
 (.seq
 (.region false [⟨some 0, .mv, [.c (.b false)], none⟩] [0])
 (.seq
 (.region false [⟨some 1, .build [.i 0, .i 0] [(0, 1), (1, 1)], [.c (.i 1), .c (.i 1)], none⟩,
 ⟨some 2, .bslice 1040 1 2 (.st [.i 0, .i 0]) [0], [.t 1], none⟩,
 ⟨some 3, .call n_impl_TestsOk 1536, [.t 2], none⟩,
 ⟨some 4, .mv, [.t 3], none⟩,
 ⟨some 5, .build [.i 0, .i 0] [], [], some (4, true)⟩,
 ⟨some 6, .bslice 3088 1 2 (.st [.i 0, .i 0]) [0], [.t 5], some (4, true)⟩,
 ⟨some 7, .call n_impl_TestsOk 3584, [.t 6], some (4, true)⟩,
 ⟨some 8, .un .not, [.t 7], some (4, true)⟩,
 ⟨some 9, .pick, [.t 4, .t 8, .c (.b false)], none⟩,
 ⟨some 0, .mv, [.t 9], none⟩] [1, 2, 3, 4, 5, 6, 7, 8, 9])
 .ret)) }
/-- impl.OtherTests -/
def F_impl_OtherTests_L0 : LC :=
 (.seq
 (.region false [⟨some 15, .bin .lss, [.t 14, .t 13], none⟩] [])
 (.seq
 (.cond (.t 15) [15]
 .skip
 (.exit 0))
 (.seq
 (.block 1
 (.seq
 (.region false [⟨some 16, .mv, [.t 14], none⟩,
 ⟨some 17, .idxa 2, [.t 12, .t 14], none⟩,
 ⟨some 18, .load 2 true, [.t 17], none⟩,
 ⟨some 5, .alloc 2576 (.st [.i 0, .i 0]), [], none⟩,
 ⟨some 4, .mv, [.t 16], none⟩,
 ⟨none, .store 2, [.t 5, .t 18], none⟩] [16, 17, 18])
 (.region false [⟨some 19, .mv, [.t 3], none⟩,
 ⟨some 20, .mv, [.t 4], none⟩,
 ⟨some 21, .fld 0 1 false, [.t 5], none⟩,
 ⟨some 22, .load 1 false, [.t 21], none⟩,
 ⟨some 23, .fld 1 1 false, [.t 5], none⟩,
 ⟨some 24, .load 1 false, [.t 23], none⟩,
 ⟨some 25, .bin .sub, [.c (.i 6), .t 24], none⟩,
 ⟨some 26, .build [.i 0, .i 0] [(0, 1), (1, 1)], [.t 22, .t 25], none⟩,
 ⟨some 27, .idxa 2, [.t 19, .t 20], none⟩,
 ⟨none, .store 2, [.t 27, .t 26], none⟩] [4, 5, 19, 20, 21, 22, 23, 24, 25, 26, 27])))
 (.region false [⟨some 28, .bin .add, [.t 14, .c (.i 1)], none⟩,
 ⟨some 14, .mv, [.t 28], none⟩] [28]))))
def F_impl_OtherTests_W0 : LC := .loop F_impl_OtherTests_L0
def F_impl_OtherTests : LF :=
 { nparams := 1, results := [.t 2], body :=
 (.seq
 (.region false [⟨some 2, .newnil 1040, [], none⟩] [2])
 (.seq
 (.seq
 (.region false [⟨some 6, .mv, [.t 0], none⟩,
 ⟨some 7, .call n_impl_TestsOk 3584, [.t 6], none⟩,
 ⟨some 8, .un .not, [.t 7], none⟩] [6, 7])
 (.cond (.t 8) [8]
 (.seq
 (.region false [⟨some 2, .newnil 1040, [], none⟩] [0])
 .ret)
 .skip))
 (.seq
 (.region false [⟨some 9, .mv, [.t 0], none⟩,
 ⟨some 10, .len, [.t 9], none⟩,
 ⟨some 11, .make 5648 2 (.st [.i 0, .i 0]), [.t 10, .t 10], none⟩,
 ⟨some 3, .mv, [.t 11], none⟩] [9, 10, 11])
 (.seq
 (.seq
 (.region false [⟨some 12, .mv, [.t 0], none⟩,
 ⟨some 13, .len, [.t 12], none⟩,
 ⟨some 14, .mv, [.c (.i 0)], none⟩] [0])
 (.block 0
 F_impl_OtherTests_W0))
 (.seq
 (.region false [⟨some 29, .mv, [.t 3], none⟩,
 ⟨some 2, .mv, [.t 29], none⟩] [3, 12, 13, 14, 29])
 .ret))))) }
/-- spec.DrawCountAverage -/
def F_spec_DrawCountAverage : LF :=
 { nparams := 1, results := [.t 2, .t 3], body :=
 (.seq
 (.region false [⟨some 2, .newnil 1040, [], none⟩,
 ⟨some 3, .mv, [.c (.i 0)], none⟩] [2, 3])
 (.seq
 (.region false [⟨some 4, .mv, [.t 0], none⟩,
 ⟨some 5, .call n_spec_l20Open 2560, [.t 4], none⟩,
 ⟨some 6, .call n_spec_l20Count 3072, [.t 5], none⟩,
 ⟨some 7, .ext 0, [.t 6], none⟩,
 ⟨some 8, .ext 1, [.t 6], none⟩,
 ⟨some 2, .mv, [.t 7], none⟩,
 ⟨some 3, .mv, [.t 8], none⟩] [0, 4, 5, 6, 7, 8])
 .ret)) }
/-- impl.CountAverage -/
def F_impl_CountAverage : LF :=
 { nparams := 2, results := [.t 4], body :=
 (.seq
 (.region false [⟨some 2, .box 1032, [.t 0], none⟩,
 ⟨some 4, .mv, [.c (.i 0)], none⟩] [0, 4])
 (.ghost (.close_ 2)
 (.seq
 (.seq
 (.region false [⟨some 5, .load 1 false, [.t 2], none⟩,
 ⟨some 6, .mv, [.t 1], none⟩,
 ⟨some 7, .call n_impl_CountOk 3584, [.t 5, .t 6], none⟩,
 ⟨some 8, .un .not, [.t 7], none⟩] [5, 6, 7])
 (.cond (.t 8) [8]
 (.seq
 (.region false [⟨some 4, .mv, [.c (.i (-1))], none⟩] [1, 2])
 .ret)
 .skip))
 (.seq
 (.region true [⟨some 9, .load 1 false, [.t 2], none⟩,
 ⟨some 10, .load 1 false, [.t 2], none⟩,
 ⟨some 11, .call n_impl_allOf 5632, [.t 10], none⟩,
 ⟨some 12, .mv, [.t 1], none⟩,
 ⟨some 13, .mkfn (mkNo n_impl_CountAverage_1 0), [.t 2], none⟩,
 ⟨some 14, .call n_impl_leastToCount 7168, [.t 9, .t 11, .t 12, .t 13], none⟩,
 ⟨some 4, .mv, [.t 14], none⟩] [1, 2, 9, 10, 11, 12, 13, 14])
 .ret)))) }
/-- spec.CountAverage -/
def F_spec_CountAverage : LF :=
 { nparams := 2, results := [.t 4], body :=
 (.seq
 (.region false [⟨some 4, .mv, [.c (.i 0)], none⟩] [4])
 (.seq
 (.seq
 (.region false [⟨some 5, .mv, [.t 0], none⟩,
 ⟨some 6, .mv, [.t 1], none⟩,
 ⟨some 7, .call n_spec_CountOk 3584, [.t 5, .t 6], none⟩,
 ⟨some 8, .un .not, [.t 7], none⟩] [5, 6, 7])
 (.cond (.t 8) [8]
 (.seq
 (.region false [⟨some 4, .mv, [.c (.i (-1))], none⟩] [0, 1])
 .ret)
 .skip))
 (.seq
 (.region true [⟨some 9, .mv, [.t 0], none⟩,
 ⟨some 10, .mv, [.t 0], none⟩,
 ⟨some 11, .len, [.t 10], none⟩,
 ⟨some 12, .bin .shl, [.c (.i 1), .t 11], none⟩,
 ⟨some 13, .bin .sub, [.t 12, .c (.i 1)], none⟩,
 ⟨some 14, .mv, [.t 1], none⟩,
 ⟨some 15, .mv, [.t 0], none⟩,
 ⟨some 16, .len, [.t 15], none⟩,
 ⟨some 17, .call n_spec_l1Power 8704, [.t 16], none⟩,
 ⟨some 18, .call n_spec_l8Rule 9216, [.t 9, .t 13, .t 14, .t 17], none⟩,
 ⟨some 4, .mv, [.t 18], none⟩] [0, 1, 9, 10, 11, 12, 13, 14, 15, 16, 17, 18])
 .ret))) }
/-- impl.RowAverage -/
def F_impl_RowAverage_L0 : LC :=
 (.seq
 (.region false [⟨some 33, .bin .lss, [.t 32, .t 31], none⟩] [])
 (.seq
 (.cond (.t 33) [33]
 .skip
 (.exit 0))
 (.seq
 (.block 1
 (.seq
 (.region false [⟨some 34, .idxa 1, [.t 30, .t 32], none⟩,
 ⟨some 35, .load 1 false, [.t 34], none⟩,
 ⟨some 11, .mv, [.t 35], none⟩] [34, 35])
 (.seq
 (.region false [⟨some 36, .mv, [.t 8], none⟩,
 ⟨some 37, .mv, [.t 0], none⟩,
 ⟨some 38, .mv, [.t 11], none⟩,
 ⟨some 39, .idxa 2, [.t 37, .t 38], none⟩,
 ⟨some 40, .fld 0 1 false, [.t 39], none⟩,
 ⟨some 41, .load 1 false, [.t 40], none⟩,
 ⟨some 42, .mv, [.t 9], none⟩,
 ⟨some 43, .bin .mul, [.t 41, .t 42], none⟩,
 ⟨some 44, .bin .add, [.t 36, .t 43], none⟩,
 ⟨some 8, .mv, [.t 44], none⟩] [36, 37, 38, 39, 40, 41, 42, 43, 44])
 (.region false [⟨some 45, .mv, [.t 9], none⟩,
 ⟨some 46, .bin .quo, [.t 45, .c (.i 6)], none⟩,
 ⟨some 47, .mv, [.t 0], none⟩,
 ⟨some 48, .mv, [.t 11], none⟩,
 ⟨some 49, .idxa 2, [.t 47, .t 48], none⟩,
 ⟨some 50, .load 2 true, [.t 49], none⟩,
 ⟨some 51, .mv, [.t 2], none⟩,
 ⟨some 52, .call n_impl_endChance 26624, [.t 50, .t 51], none⟩,
 ⟨some 53, .bin .sub, [.c (.i 6), .t 52], none⟩,
 ⟨some 54, .bin .mul, [.t 46, .t 53], none⟩,
 ⟨some 9, .mv, [.t 54], none⟩] [11, 45, 46, 47, 48, 49, 50, 51, 52, 53, 54]))))
 (.region false [⟨some 55, .bin .add, [.t 32, .c (.i 1)], none⟩,
 ⟨some 32, .mv, [.t 55], none⟩] [55]))))
def F_impl_RowAverage_W0 : LC := .loop F_impl_RowAverage_L0
def F_impl_RowAverage : LF :=
 { nparams := 3, results := [.t 6], body :=
 (.seq
 (.region false [⟨some 6, .mv, [.c (.i 0)], none⟩] [6])
 (.seq
 (.region false [⟨some 12, .mv, [.t 0], none⟩,
 ⟨some 13, .len, [.t 12], none⟩,
 ⟨some 7, .mv, [.t 13], none⟩] [12, 13])
 (.seq
 (.seq
 (.region false [⟨some 14, .mv, [.t 0], none⟩,
 ⟨some 15, .call n_impl_TestsOk 7680, [.t 14], none⟩,
 ⟨some 16, .un .not, [.t 15], none⟩,
 ⟨some 17, .mv, [.t 16], none⟩,
 ⟨some 18, .mv, [.t 7], some (17, false)⟩,
 ⟨some 19, .mv, [.t 1], some (17, false)⟩,
 ⟨some 20, .call n_impl_OrderOk 10240, [.t 18, .t 19], some (17, false)⟩,
 ⟨some 21, .un .not, [.t 20], some (17, false)⟩,
 ⟨some 22, .pick, [.t 17, .c (.b true), .t 21], none⟩,
 ⟨some 23, .mv, [.t 22], none⟩,
 ⟨some 24, .mv, [.t 2], some (23, false)⟩,
 ⟨some 25, .call n_impl_rowOk 12800, [.t 24], some (23, false)⟩,
 ⟨some 26, .un .not, [.t 25], some (23, false)⟩,
 ⟨some 27, .pick, [.t 23, .c (.b true), .t 26], none⟩] [14, 15, 16, 17, 18, 19, 20, 21, 22, 23, 24, 25, 26])
 (.cond (.t 27) [27]
 (.seq
 (.region false [⟨some 6, .mv, [.c (.i (-1))], none⟩] [0, 1, 2, 7])
 .ret)
 .skip))
 (.seq
 (.region false [⟨some 28, .mv, [.t 7], none⟩,
 ⟨some 29, .call n_impl_wholeOf 14848, [.t 28], none⟩,
 ⟨some 8, .mv, [.c (.i 0)], none⟩,
 ⟨some 9, .mv, [.t 29], none⟩] [7, 28, 29])
 (.seq
 (.seq
 (.region false [⟨some 30, .mv, [.t 1], none⟩,
 ⟨some 31, .len, [.t 30], none⟩,
 ⟨some 32, .mv, [.c (.i 0)], none⟩] [1])
 (.block 0
 F_impl_RowAverage_W0))
 (.seq
 (.region false [⟨some 56, .mv, [.t 8], none⟩,
 ⟨some 6, .mv, [.t 56], none⟩] [0, 2, 8, 9, 30, 31, 32, 56])
 .ret)))))) }
/-- impl.RatioOrder -/
def F_impl_RatioOrder_L0 : LC :=
 (.ghost (.rename 6 3080)
 (.seq
 (.region false [⟨some 20, .bin .lss, [.t 19, .t 18], none⟩] [])
 (.seq
 (.cond (.t 20) [20]
 .skip
 (.exit 0))
 (.seq
 (.block 1
 (.seq
 (.region false [⟨some 21, .mv, [.t 19], none⟩,
 ⟨some 7, .mv, [.t 21], none⟩] [21])
 (.region false [⟨some 22, .mv, [.t 6], none⟩,
 ⟨some 23, .mv, [.t 7], none⟩,
 ⟨some 24, .mv, [.t 5], none⟩,
 ⟨some 25, .callm n_impl_inserted_int [0] 12800, [.t 22, .t 23, .t 24], none⟩,
 ⟨some 6, .mv, [.t 25], none⟩] [7, 22, 23, 24, 25])))
 (.region false [⟨some 26, .bin .add, [.t 19, .c (.i 1)], none⟩,
 ⟨some 19, .mv, [.t 26], none⟩] [26])))))
def F_impl_RatioOrder_W0 : LC := .loop F_impl_RatioOrder_L0
def F_impl_RatioOrder : LF :=
 { nparams := 2, results := [.t 4], body :=
 (.seq
 (.region false [⟨some 2, .box 1032, [.t 0], none⟩,
 ⟨some 3, .box 1544, [.t 1], none⟩,
 ⟨some 4, .newnil 2056, [], none⟩] [0, 1, 4])
 (.ghost (.close_ 2)
(.ghost (.close_ 3)
 (.seq
 (.seq
 (.region false [⟨some 8, .load 1 false, [.t 2], none⟩,
 ⟨some 9, .call n_impl_TestsOk 4608, [.t 8], none⟩,
 ⟨some 10, .un .not, [.t 9], none⟩,
 ⟨some 11, .mv, [.t 10], none⟩,
 ⟨some 12, .load 1 false, [.t 3], some (11, false)⟩,
 ⟨some 13, .call n_impl_rowOk 6656, [.t 12], some (11, false)⟩,
 ⟨some 14, .un .not, [.t 13], some (11, false)⟩,
 ⟨some 15, .pick, [.t 11, .c (.b true), .t 14], none⟩] [8, 9, 10, 11, 12, 13, 14])
 (.cond (.t 15) [15]
 (.seq
 (.region false [⟨some 4, .newnil 2056, [], none⟩] [2, 3])
 .ret)
 .skip))
 (.seq
 (.region false [⟨some 16, .mkfn (mkNo n_impl_RatioOrder_1 0), [.t 2, .t 3], none⟩,
 ⟨some 5, .mv, [.t 16], none⟩] [3, 16])
 (.seq
 (.region false [⟨some 6, .newnil 3080, [], none⟩] [])
 (.seq
 (.seq
 (.region false [⟨some 17, .load 1 false, [.t 2], none⟩,
 ⟨some 18, .len, [.t 17], none⟩,
 ⟨some 19, .mv, [.c (.i 0)], none⟩] [2, 17])
 (.block 0
 F_impl_RatioOrder_W0))
 (.seq
 (.region false [⟨some 27, .mv, [.t 6], none⟩,
 ⟨some 4, .mv, [.t 27], none⟩] [5, 6, 18, 19, 27])
 .ret)))))))) }
/-- impl.CountBest -/
def F_impl_CountBest : LF :=
 { nparams := 2, results := [.t 4], body :=
 (.seq
 (.region false [⟨some 4, .mv, [.c (.i 0)], none⟩] [4])
 (.seq
 (.seq
 (.region false [⟨some 5, .mv, [.t 0], none⟩,
 ⟨some 6, .mv, [.t 1], none⟩,
 ⟨some 7, .call n_impl_CountOk 3584, [.t 5, .t 6], none⟩,
 ⟨some 8, .un .not, [.t 7], none⟩] [5, 6, 7])
 (.cond (.t 8) [8]
 (.seq
 (.region false [⟨some 4, .mv, [.c (.i (-1))], none⟩] [0, 1])
 .ret)
 .skip))
 (.seq
 (.region false [⟨some 9, .mv, [.t 0], none⟩,
 ⟨some 10, .mv, [.t 0], none⟩,
 ⟨some 11, .call n_impl_allOf 5632, [.t 10], none⟩,
 ⟨some 12, .mv, [.t 1], none⟩,
 ⟨some 13, .call n_impl_leastToCount 6656, [.t 9, .t 11, .t 12, .c (.fn n_impl_CountBest_1 [])], none⟩,
 ⟨some 4, .mv, [.t 13], none⟩] [0, 1, 9, 10, 11, 12, 13])
 .ret))) }
/-- spec.TestsOk -/
def F_spec_TestsOk_L0 : LC :=
 (.seq
 (.seq
 (.region false [⟨some 4, .mv, [.t 3], none⟩,
 ⟨some 5, .mv, [.t 0], none⟩,
 ⟨some 6, .len, [.t 5], none⟩,
 ⟨some 7, .bin .lss, [.t 4, .t 6], none⟩] [4, 5, 6])
 (.cond (.t 7) [7]
 .skip
 (.exit 0)))
 (.seq
 (.block 1
 (.seq
 (.region false [⟨some 10, .mv, [.t 0], none⟩,
 ⟨some 11, .mv, [.t 3], none⟩,
 ⟨some 12, .idxa 2, [.t 10, .t 11], none⟩,
 ⟨some 13, .fld 0 1 false, [.t 12], none⟩,
 ⟨some 14, .load 1 false, [.t 13], none⟩,
 ⟨some 15, .call n_spec_l1In 7680, [.t 14, .c (.i 1), .c (.i 9)], none⟩,
 ⟨some 16, .un .not, [.t 15], none⟩,
 ⟨some 17, .mv, [.t 16], none⟩,
 ⟨some 18, .mv, [.t 0], some (17, false)⟩,
 ⟨some 19, .mv, [.t 3], some (17, false)⟩,
 ⟨some 20, .idxa 2, [.t 18, .t 19], some (17, false)⟩,
 ⟨some 21, .fld 1 1 false, [.t 20], some (17, false)⟩,
 ⟨some 22, .load 1 false, [.t 21], some (17, false)⟩,
 ⟨some 23, .call n_spec_l1In 11776, [.t 22, .c (.i 1), .c (.i 5)], some (17, false)⟩,
 ⟨some 24, .un .not, [.t 23], some (17, false)⟩,
 ⟨some 25, .pick, [.t 17, .c (.b true), .t 24], none⟩] [10, 11, 12, 13, 14, 15, 16, 17, 18, 19, 20, 21, 22, 23, 24])
 (.cond (.t 25) [25]
 (.seq
 (.region false [⟨some 2, .mv, [.c (.b false)], none⟩] [0, 3])
 .ret)
 .skip)))
 (.region false [⟨some 8, .mv, [.t 3], none⟩,
 ⟨some 9, .bin .add, [.t 8, .c (.i 1)], none⟩,
 ⟨some 3, .mv, [.t 9], none⟩] [8, 9])))
def F_spec_TestsOk_W0 : LC := .loop F_spec_TestsOk_L0
def F_spec_TestsOk : LF :=
 { nparams := 1, results := [.t 2], body :=
 (.seq
 (.region false [⟨some 2, .mv, [.c (.b false)], none⟩] [2])
 (.seq
 (.seq
 (.region false [⟨some 3, .mv, [.c (.i 0)], none⟩] [])
 (.block 0
 F_spec_TestsOk_W0))
 (.seq
 (.region false [⟨some 26, .mv, [.t 0], none⟩,
 ⟨some 27, .len, [.t 26], none⟩,
 ⟨some 28, .call n_spec_l1In 14336, [.t 27, .c (.i 1), .c (.i 5)], none⟩,
 ⟨some 2, .mv, [.t 28], none⟩] [0, 3, 26, 27, 28])
 .ret))) }
/-- spec.l20Open -/
def F_spec_l20Open : LF :=
 { nparams := 1, results := [.t 2], body :=
 (.seq
 (.region false [⟨some 2, .mv, [.c (.np)], none⟩] [2])
 (.seq
 (.seq
 (.region false [⟨some 3, .mv, [.t 0], none⟩,
 ⟨some 4, .len, [.t 3], none⟩,
 ⟨some 5, .bin .gtr, [.t 4, .c (.i 2000)], none⟩] [3, 4])
 (.cond (.t 5) [5]
 (.region false [⟨some 6, .mv, [.t 0], none⟩,
 ⟨some 7, .slice false true 1, [.t 6, .c (.i 2000)], none⟩,
 ⟨some 0, .mv, [.t 7], none⟩] [6, 7])
 .skip))
 (.seq
 (.region false [⟨some 8, .mv, [.t 0], none⟩,
 ⟨some 9, .build [.sl 1 [], .i 0] [(0, 1)], [.t 8], none⟩,
 ⟨some 10, .box 5136, [.t 9], none⟩,
 ⟨some 2, .mv, [.t 10], none⟩] [0, 8, 9, 10])
 .ret))) }
/-- spec.l20Tests -/
def F_spec_l20Tests_L0 : LC :=
 (.seq
 (.seq
 (.region false [⟨some 11, .mv, [.t 6], none⟩,
 ⟨some 12, .bin .gtr, [.t 11, .c (.i 0)], none⟩] [11])
 (.cond (.t 12) [12]
 .skip
 (.exit 0)))
 (.seq
 (.block 1
 (.region false [⟨some 15, .mv, [.t 5], none⟩,
 ⟨some 16, .mv, [.t 0], none⟩,
 ⟨some 17, .call n_spec_l20Rd_pick 8704, [.t 16, .c (.i 9)], none⟩,
 ⟨some 18, .bin .add, [.c (.i 1), .t 17], none⟩,
 ⟨some 19, .mv, [.t 0], none⟩,
 ⟨some 20, .call n_spec_l20Rd_pick 10240, [.t 19, .c (.i 5)], none⟩,
 ⟨some 21, .bin .add, [.c (.i 1), .t 20], none⟩,
 ⟨some 22, .build [.i 0, .i 0] [(0, 1), (1, 1)], [.t 18, .t 21], none⟩,
 ⟨some 23, .bslice 11792 1 2 (.st [.i 0, .i 0]) [0], [.t 22], none⟩,
 ⟨some 24, .app 12304 2, [.t 15, .t 23], none⟩,
 ⟨some 5, .mv, [.t 24], none⟩] [15, 16, 17, 18, 19, 20, 21, 22, 23, 24]))
 (.region false [⟨some 13, .mv, [.t 6], none⟩,
 ⟨some 14, .bin .sub, [.t 13, .c (.i 1)], none⟩,
 ⟨some 6, .mv, [.t 14], none⟩] [13, 14])))
def F_spec_l20Tests_W0 : LC := .loop F_spec_l20Tests_L0
def F_spec_l20Tests : LF :=
 { nparams := 2, results := [.t 4], body :=
 (.seq
 (.region false [⟨some 4, .newnil 2064, [], none⟩] [4])
 (.seq
 (.region false [⟨some 7, .bslice 3600 0 2 (.st [.i 0, .i 0]) [], [], none⟩,
 ⟨some 5, .mv, [.t 7], none⟩] [7])
 (.seq
 (.seq
 (.region false [⟨some 8, .mv, [.t 0], none⟩,
 ⟨some 9, .call n_spec_l20Rd_pick 4608, [.t 8, .c (.i 5)], none⟩,
 ⟨some 10, .bin .add, [.c (.i 1), .t 9], none⟩,
 ⟨some 6, .mv, [.t 10], none⟩] [8, 9, 10])
 (.block 0
 F_spec_l20Tests_W0))
 (.seq
 (.seq
 (.region false [⟨some 25, .mv, [.t 0], none⟩,
 ⟨some 26, .mv, [.t 1], none⟩,
 ⟨some 27, .call n_spec_l20Rd_odd 13824, [.t 25, .t 26], none⟩] [1, 6, 25, 26])
 (.cond (.t 27) [27]
 (.seq
 (.region false [⟨some 28, .mv, [.t 0], none⟩,
 ⟨some 29, .call n_spec_l20Rd_pick 14848, [.t 28, .c (.i 3)], none⟩] [28])
 (.block 2
 (.seq
 (.region false [⟨some 39, .bin .eql, [.t 29, .c (.i 0)], none⟩,
 ⟨some 38, .mv, [.t 39], none⟩] [39])
 (.cond (.t 38) [38]
 (.seq
 (.region false [⟨some 40, .bslice 20496 0 2 (.st [.i 0, .i 0]) [], [], none⟩,
 ⟨some 4, .mv, [.t 40], none⟩] [5, 29, 40])
 .ret)
 (.seq
 (.region false [⟨some 42, .bin .eql, [.t 29, .c (.i 1)], none⟩,
 ⟨some 41, .mv, [.t 42], none⟩] [29, 42])
 (.cond (.t 41) [41]
 (.region false [⟨some 43, .mv, [.t 5], none⟩,
 ⟨some 44, .bslice 22536 2 1 (.i 0) [0, 1], [.c (.i 0), .c (.i 10)], none⟩,
 ⟨some 45, .mv, [.t 0], none⟩,
 ⟨some 46, .call n_spec_l20Rd_pick 23552, [.t 45, .c (.i 2)], none⟩,
 ⟨some 47, .idxa 1, [.t 44, .t 46], none⟩,
 ⟨some 48, .load 1 false, [.t 47], none⟩,
 ⟨some 49, .idxa 2, [.t 43, .c (.i 0)], none⟩,
 ⟨some 50, .fld 0 1 false, [.t 49], none⟩,
 ⟨none, .store 1, [.t 50, .t 48], none⟩] [43, 44, 45, 46, 47, 48, 49, 50])
 (.region false [⟨some 30, .mv, [.t 5], none⟩,
 ⟨some 31, .bslice 15880 2 1 (.i 0) [0, 1], [.c (.i 0), .c (.i 6)], none⟩,
 ⟨some 32, .mv, [.t 0], none⟩,
 ⟨some 33, .call n_spec_l20Rd_pick 16896, [.t 32, .c (.i 2)], none⟩,
 ⟨some 34, .idxa 1, [.t 31, .t 33], none⟩,
 ⟨some 35, .load 1 false, [.t 34], none⟩,
 ⟨some 36, .idxa 2, [.t 30, .c (.i 0)], none⟩,
 ⟨some 37, .fld 1 1 false, [.t 36], none⟩,
 ⟨none, .store 1, [.t 37, .t 35], none⟩] [30, 31, 32, 33, 34, 35, 36, 37])))))))
 .skip))
 (.seq
 (.region false [⟨some 51, .mv, [.t 5], none⟩,
 ⟨some 4, .mv, [.t 51], none⟩] [5, 51])
 .ret))))) }
/-- spec.l20Rd).pick -/
def F_spec_l20Rd_pick : LF :=
 { nparams := 2, results := [.t 4], body :=
 (.seq
 (.region false [⟨some 4, .mv, [.c (.i 0)], none⟩] [4])
 (.seq
 (.region false [⟨some 7, .mv, [.t 0], none⟩,
 ⟨some 8, .mv, [.t 0], none⟩,
 ⟨some 9, .chk, [.t 8], none⟩,
 ⟨some 10, .fld 1 1 false, [.t 9], none⟩,
 ⟨some 11, .load 1 false, [.t 10], none⟩,
 ⟨some 12, .bin .add, [.t 11, .c (.i 1)], none⟩,
 ⟨some 13, .chk, [.t 7], none⟩,
 ⟨some 14, .fld 1 1 false, [.t 13], none⟩,
 ⟨none, .store 1, [.t 14, .t 12], none⟩] [7, 8, 9, 10, 11, 12, 13, 14])
 (.seq
 (.seq
 (.region false [⟨some 15, .mv, [.t 1], none⟩,
 ⟨some 16, .bin .lss, [.t 15, .c (.i 1)], none⟩,
 ⟨some 17, .mv, [.t 16], none⟩,
 ⟨some 18, .mv, [.t 0], some (17, false)⟩,
 ⟨some 19, .chk, [.t 18], some (17, false)⟩,
 ⟨some 20, .fld 0 1 false, [.t 19], some (17, false)⟩,
 ⟨some 21, .load 1 false, [.t 20], some (17, false)⟩,
 ⟨some 22, .len, [.t 21], some (17, false)⟩,
 ⟨some 23, .bin .eql, [.t 22, .c (.i 0)], some (17, false)⟩,
 ⟨some 24, .pick, [.t 17, .c (.b true), .t 23], none⟩] [15, 16, 17, 18, 19, 20, 21, 22, 23])
 (.cond (.t 24) [24]
 (.seq
 (.region false [⟨some 4, .mv, [.c (.i 0)], none⟩] [1])
 .ret)
 .skip))
 (.seq
 (.region false [⟨some 25, .mv, [.t 0], none⟩,
 ⟨some 26, .chk, [.t 25], none⟩,
 ⟨some 27, .fld 1 1 false, [.t 26], none⟩,
 ⟨some 28, .load 1 false, [.t 27], none⟩,
 ⟨some 29, .bin .sub, [.t 28, .c (.i 1)], none⟩,
 ⟨some 5, .mv, [.t 29], none⟩] [25, 26, 27, 28, 29])
 (.seq
 (.seq
 (.region false [⟨some 30, .mv, [.t 5], none⟩,
 ⟨some 31, .mv, [.t 0], none⟩,
 ⟨some 32, .chk, [.t 31], none⟩,
 ⟨some 33, .fld 0 1 false, [.t 32], none⟩,
 ⟨some 34, .load 1 false, [.t 33], none⟩,
 ⟨some 35, .len, [.t 34], none⟩,
 ⟨some 36, .bin .lss, [.t 30, .t 35], none⟩] [30, 31, 32, 33, 34, 35])
 (.cond (.t 36) [36]
 (.seq
 (.region false [⟨some 37, .mv, [.t 0], none⟩,
 ⟨some 38, .chk, [.t 37], none⟩,
 ⟨some 39, .fld 0 1 false, [.t 38], none⟩,
 ⟨some 40, .load 1 false, [.t 39], none⟩,
 ⟨some 41, .mv, [.t 5], none⟩,
 ⟨some 42, .idxa 1, [.t 40, .t 41], none⟩,
 ⟨some 43, .load 1 false, [.t 42], none⟩,
 ⟨some 44, .conv .b2i 22528, [.t 43], none⟩,
 ⟨some 45, .mv, [.t 1], none⟩,
 ⟨some 46, .bin .rem, [.t 44, .t 45], none⟩,
 ⟨some 4, .mv, [.t 46], none⟩] [1, 5, 37, 38, 39, 40, 41, 42, 43, 44, 45, 46])
 .ret)
 .skip))
 (.seq
 (.region true [⟨some 47, .mv, [.t 0], none⟩,
 ⟨some 48, .chk, [.t 47], none⟩,
 ⟨some 49, .fld 0 1 false, [.t 48], none⟩,
 ⟨some 50, .load 1 false, [.t 49], none⟩,
 ⟨some 51, .mv, [.t 5], none⟩,
 ⟨some 52, .mv, [.t 0], none⟩,
 ⟨some 53, .chk, [.t 52], none⟩,
 ⟨some 54, .fld 0 1 false, [.t 53], none⟩,
 ⟨some 55, .load 1 false, [.t 54], none⟩,
 ⟨some 56, .len, [.t 55], none⟩,
 ⟨some 57, .bin .rem, [.t 51, .t 56], none⟩,
 ⟨some 58, .idxa 1, [.t 50, .t 57], none⟩,
 ⟨some 59, .load 1 false, [.t 58], none⟩,
 ⟨some 60, .conv .b2i 30720, [.t 59], none⟩,
 ⟨some 61, .bin .mul, [.t 60, .c (.i 131)], none⟩,
 ⟨some 62, .mv, [.t 0], none⟩,
 ⟨some 63, .chk, [.t 62], none⟩,
 ⟨some 64, .fld 0 1 false, [.t 63], none⟩,
 ⟨some 65, .load 1 false, [.t 64], none⟩,
 ⟨some 66, .mv, [.t 5], none⟩,
 ⟨some 67, .bin .mul, [.t 66, .c (.i 7)], none⟩,
 ⟨some 68, .bin .add, [.t 67, .c (.i 3)], none⟩,
 ⟨some 69, .mv, [.t 0], none⟩,
 ⟨some 70, .chk, [.t 69], none⟩,
 ⟨some 71, .fld 0 1 false, [.t 70], none⟩,
 ⟨some 72, .load 1 false, [.t 71], none⟩,
 ⟨some 73, .len, [.t 72], none⟩,
 ⟨some 74, .bin .rem, [.t 68, .t 73], none⟩,
 ⟨some 75, .idxa 1, [.t 65, .t 74], none⟩,
 ⟨some 76, .load 1 false, [.t 75], none⟩,
 ⟨some 77, .conv .b2i 39424, [.t 76], none⟩,
 ⟨some 78, .bin .mul, [.t 77, .c (.i 1117)], none⟩,
 ⟨some 79, .bin .add, [.t 61, .t 78], none⟩,
 ⟨some 80, .mv, [.t 5], none⟩,
 ⟨some 81, .bin .mul, [.t 80, .c (.i 29)], none⟩,
 ⟨some 82, .bin .add, [.t 79, .t 81], none⟩,
 ⟨some 83, .mv, [.t 5], none⟩,
 ⟨some 84, .mv, [.t 0], none⟩,
 ⟨some 85, .chk, [.t 84], none⟩,
 ⟨some 86, .fld 0 1 false, [.t 85], none⟩,
 ⟨some 87, .load 1 false, [.t 86], none⟩,
 ⟨some 88, .len, [.t 87], none⟩,
 ⟨some 89, .bin .quo, [.t 83, .t 88], none⟩,
 ⟨some 90, .bin .mul, [.t 89, .c (.i 53)], none⟩,
 ⟨some 91, .bin .add, [.t 82, .t 90], none⟩,
 ⟨some 6, .mv, [.t 91], none⟩] [5, 47, 48, 49, 50, 51, 52, 53, 54, 55, 56, 57, 58, 59, 60, 61, 62, 63, 64, 65, 66, 67, 68, 69, 70, 71, 72, 73, 74, 75, 76, 77, 78, 79, 80, 81, 82, 83, 84, 85, 86, 87, 88, 89, 90, 91])
 (.seq
 (.region false [⟨some 92, .mv, [.t 6], none⟩,
 ⟨some 93, .mv, [.t 6], none⟩,
 ⟨some 94, .bin .quo, [.t 93, .c (.i 64)], none⟩,
 ⟨some 95, .bin .xor, [.t 92, .t 94], none⟩,
 ⟨some 6, .mv, [.t 95], none⟩] [92, 93, 94, 95])
 (.seq
 (.region false [⟨some 96, .mv, [.t 6], none⟩,
 ⟨some 97, .mv, [.t 1], none⟩,
 ⟨some 98, .bin .rem, [.t 96, .t 97], none⟩,
 ⟨some 4, .mv, [.t 98], none⟩] [1, 6, 96, 97, 98])
 .ret)))))))) }
/-- spec.l8Heads -/
def F_spec_l8Heads_L0 : LC :=
 (.seq
 (.seq
 (.region false [⟨some 4, .mv, [.t 0], none⟩,
 ⟨some 5, .bin .gtr, [.t 4, .c (.i 0)], none⟩] [4])
 (.cond (.t 5) [5]
 .skip
 (.exit 0)))
 (.block 1
 (.seq
 (.region false [⟨some 6, .mv, [.t 3], none⟩,
 ⟨some 7, .mv, [.t 0], none⟩,
 ⟨some 8, .bin .rem, [.t 7, .c (.i 2)], none⟩,
 ⟨some 9, .bin .add, [.t 6, .t 8], none⟩,
 ⟨some 3, .mv, [.t 9], none⟩] [6, 7, 8, 9])
 (.region false [⟨some 10, .mv, [.t 0], none⟩,
 ⟨some 11, .bin .quo, [.t 10, .c (.i 2)], none⟩,
 ⟨some 0, .mv, [.t 11], none⟩] [10, 11]))))
def F_spec_l8Heads_W0 : LC := .loop F_spec_l8Heads_L0
def F_spec_l8Heads : LF :=
 { nparams := 1, results := [.t 2], body :=
 (.seq
 (.region false [⟨some 2, .mv, [.c (.i 0)], none⟩] [2])
 (.seq
 (.region false [⟨some 3, .mv, [.c (.i 0)], none⟩] [])
 (.seq
 (.block 0
 F_spec_l8Heads_W0)
 (.seq
 (.region false [⟨some 12, .mv, [.t 3], none⟩,
 ⟨some 2, .mv, [.t 12], none⟩] [0, 3, 12])
 .ret)))) }
/-- impl.TestsOk -/
def F_impl_TestsOk_L0 : LC :=
 (.seq
 (.region false [⟨some 12, .bin .lss, [.t 11, .t 10], none⟩] [])
 (.seq
 (.cond (.t 12) [12]
 .skip
 (.exit 0))
 (.seq
 (.block 1
 (.seq
 (.region false [⟨some 13, .idxa 2, [.t 9, .t 11], none⟩,
 ⟨some 14, .load 2 true, [.t 13], none⟩,
 ⟨some 4, .alloc 2064 (.st [.i 0, .i 0]), [], none⟩,
 ⟨none, .store 2, [.t 4, .t 14], none⟩] [13, 14])
 (.seq
 (.region false [⟨some 15, .fld 0 1 false, [.t 4], none⟩,
 ⟨some 16, .load 1 false, [.t 15], none⟩,
 ⟨some 17, .call n_impl_isWithin 8704, [.t 16, .c (.i 1), .c (.i 9)], none⟩,
 ⟨some 18, .un .not, [.t 17], none⟩,
 ⟨some 19, .mv, [.t 18], none⟩,
 ⟨some 20, .fld 1 1 false, [.t 4], some (19, false)⟩,
 ⟨some 21, .load 1 false, [.t 20], some (19, false)⟩,
 ⟨some 22, .call n_impl_isWithin 11264, [.t 21, .c (.i 1), .c (.i 5)], some (19, false)⟩,
 ⟨some 23, .un .not, [.t 22], some (19, false)⟩,
 ⟨some 24, .pick, [.t 19, .c (.b true), .t 23], none⟩] [4, 15, 16, 17, 18, 19, 20, 21, 22, 23])
 (.cond (.t 24) [24]
 (.seq
 (.region false [⟨some 2, .mv, [.c (.b false)], none⟩] [9, 10, 11])
 .ret)
 .skip))))
 (.region false [⟨some 25, .bin .add, [.t 11, .c (.i 1)], none⟩,
 ⟨some 11, .mv, [.t 25], none⟩] [25]))))
def F_impl_TestsOk_W0 : LC := .loop F_impl_TestsOk_L0
def F_impl_TestsOk : LF :=
 { nparams := 1, results := [.t 2], body :=
 (.seq
 (.region false [⟨some 2, .mv, [.c (.b false)], none⟩] [2])
 (.seq
 (.seq
 (.region false [⟨some 5, .mv, [.t 0], none⟩,
 ⟨some 6, .len, [.t 5], none⟩,
 ⟨some 7, .call n_impl_manyOk 3584, [.t 6], none⟩,
 ⟨some 8, .un .not, [.t 7], none⟩] [5, 6, 7])
 (.cond (.t 8) [8]
 (.seq
 (.region false [⟨some 2, .mv, [.c (.b false)], none⟩] [0])
 .ret)
 .skip))
 (.seq
 (.seq
 (.region false [⟨some 9, .mv, [.t 0], none⟩,
 ⟨some 10, .len, [.t 9], none⟩,
 ⟨some 11, .mv, [.c (.i 0)], none⟩] [0])
 (.block 0
 F_impl_TestsOk_W0))
 (.seq
 (.region false [⟨some 2, .mv, [.c (.b true)], none⟩] [9, 10, 11])
 .ret)))) }
/-- impl.StateOk -/
def F_impl_StateOk : LF :=
 { nparams := 2, results := [.t 4], body :=
 (.seq
 (.region false [⟨some 4, .mv, [.c (.b false)], none⟩] [4])
 (.seq
 (.region false [⟨some 5, .mv, [.t 0], none⟩,
 ⟨some 6, .call n_impl_manyOk 3072, [.t 5], none⟩,
 ⟨some 7, .mv, [.t 6], none⟩,
 ⟨some 8, .mv, [.t 1], some (7, true)⟩,
 ⟨some 9, .mv, [.t 0], some (7, true)⟩,
 ⟨some 10, .call n_impl_statesOf 5120, [.t 9], some (7, true)⟩,
 ⟨some 11, .bin .sub, [.t 10, .c (.i 1)], some (7, true)⟩,
 ⟨some 12, .call n_impl_isWithin 6144, [.t 8, .c (.i 0), .t 11], some (7, true)⟩,
 ⟨some 13, .pick, [.t 7, .t 12, .c (.b false)], none⟩,
 ⟨some 4, .mv, [.t 13], none⟩] [0, 1, 5, 6, 7, 8, 9, 10, 11, 12, 13])
 .ret)) }
/-- impl.isWithin -/
def F_impl_isWithin : LF :=
 { nparams := 3, results := [.t 6], body :=
 (.seq
 (.region false [⟨some 6, .mv, [.c (.b false)], none⟩] [6])
 (.seq
 (.region false [⟨some 7, .mv, [.t 1], none⟩,
 ⟨some 8, .mv, [.t 0], none⟩,
 ⟨some 9, .bin .leq, [.t 7, .t 8], none⟩,
 ⟨some 10, .mv, [.t 9], none⟩,
 ⟨some 11, .mv, [.t 0], some (10, true)⟩,
 ⟨some 12, .mv, [.t 2], some (10, true)⟩,
 ⟨some 13, .bin .leq, [.t 11, .t 12], some (10, true)⟩,
 ⟨some 14, .pick, [.t 10, .t 13, .c (.b false)], none⟩,
 ⟨some 6, .mv, [.t 14], none⟩] [0, 1, 2, 7, 8, 9, 10, 11, 12, 13, 14])
 .ret)) }
/-- impl.sizeOf -/
def F_impl_sizeOf : LF :=
 { nparams := 1, results := [.t 2], body :=
 (.seq
 (.region false [⟨some 2, .mv, [.c (.i 0)], none⟩] [2])
 (.seq
 (.region false [⟨some 3, .mv, [.t 0], none⟩,
 ⟨some 4, .conv .i2q 2048, [.t 3], none⟩,
 ⟨some 5, .call n_math_bits_OnesCount 2560, [.t 4], none⟩,
 ⟨some 2, .mv, [.t 5], none⟩] [0, 3, 4, 5])
 .ret)) }
/-- impl.firstLeft -/
def F_impl_firstLeft_L0 : LC :=
 (.seq
 (.region false [⟨some 13, .bin .lss, [.t 12, .t 11], none⟩] [])
 (.seq
 (.cond (.t 13) [13]
 .skip
 (.exit 0))
 (.seq
 (.block 1
 (.seq
 (.region false [⟨some 14, .idxa 1, [.t 10, .t 12], none⟩,
 ⟨some 15, .load 1 false, [.t 14], none⟩,
 ⟨some 9, .mv, [.t 15], none⟩] [14, 15])
 (.seq
 (.region false [⟨some 16, .mv, [.t 7], none⟩,
 ⟨some 17, .call n_impl_sizeOf 8704, [.t 16], none⟩,
 ⟨some 18, .mv, [.t 2], none⟩,
 ⟨some 19, .bin .lss, [.t 17, .t 18], none⟩,
 ⟨some 20, .mv, [.t 19], none⟩,
 ⟨some 21, .mv, [.t 1], some (20, true)⟩,
 ⟨some 22, .mv, [.t 9], some (20, true)⟩,
 ⟨some 23, .call n_impl_hasTest 11776, [.t 21, .t 22], some (20, true)⟩,
 ⟨some 24, .pick, [.t 20, .t 23, .c (.b false)], none⟩] [16, 17, 18, 19, 20, 21, 22, 23])
 (.cond (.t 24) [24]
 (.region false [⟨some 25, .mv, [.t 7], none⟩,
 ⟨some 26, .mv, [.t 9], none⟩,
 ⟨some 27, .bin .shl, [.c (.i 1), .t 26], none⟩,
 ⟨some 28, .bin .or, [.t 25, .t 27], none⟩,
 ⟨some 7, .mv, [.t 28], none⟩] [9, 25, 26, 27, 28])
 .skip))))
 (.region false [⟨some 29, .bin .add, [.t 12, .c (.i 1)], none⟩,
 ⟨some 12, .mv, [.t 29], none⟩] [9, 29]))))
def F_impl_firstLeft_W0 : LC := .loop F_impl_firstLeft_L0
def F_impl_firstLeft : LF :=
 { nparams := 3, results := [.t 6], body :=
 (.seq
 (.region false [⟨some 6, .mv, [.c (.i 0)], none⟩] [6])
 (.seq
 (.region false [⟨some 7, .mv, [.c (.i 0)], none⟩] [])
 (.seq
 (.seq
 (.region false [⟨some 10, .mv, [.t 0], none⟩,
 ⟨some 11, .len, [.t 10], none⟩,
 ⟨some 12, .mv, [.c (.i 0)], none⟩] [0])
 (.block 0
 F_impl_firstLeft_W0))
 (.seq
 (.region false [⟨some 30, .mv, [.t 7], none⟩,
 ⟨some 6, .mv, [.t 30], none⟩] [1, 2, 7, 10, 11, 12, 30])
 .ret)))) }
/-- bits.TrailingZeros -/
def F_math_bits_TrailingZeros : LF :=
 { nparams := 1, results := [.t 2], body :=
 (.seq
 (.region false [⟨some 2, .mv, [.c (.i 0)], none⟩] [2])
 (.seq
 (.cond (.c (.b false)) []
 (.seq
 .void
 .ret)
 .skip)
 (.seq
 (.region false [⟨some 6, .mv, [.t 0], none⟩,
 ⟨some 7, .call n_math_bits_TrailingZeros64 3584, [.t 6], none⟩,
 ⟨some 2, .mv, [.t 7], none⟩] [0, 6, 7])
 .ret))) }
/-- spec.StateOk -/
def F_spec_StateOk : LF :=
 { nparams := 2, results := [.t 4], body :=
 (.seq
 (.region false [⟨some 4, .mv, [.c (.b false)], none⟩] [4])
 (.seq
 (.region false [⟨some 5, .mv, [.t 0], none⟩,
 ⟨some 6, .call n_spec_l1In 3072, [.t 5, .c (.i 1), .c (.i 5)], none⟩,
 ⟨some 7, .mv, [.t 6], none⟩,
 ⟨some 8, .mv, [.t 1], some (7, true)⟩,
 ⟨some 9, .mv, [.t 0], some (7, true)⟩,
 ⟨some 10, .bin .shl, [.c (.i 1), .t 9], some (7, true)⟩,
 ⟨some 11, .bin .sub, [.t 10, .c (.i 1)], some (7, true)⟩,
 ⟨some 12, .call n_spec_l1In 6144, [.t 8, .c (.i 0), .t 11], some (7, true)⟩,
 ⟨some 13, .pick, [.t 7, .t 12, .c (.b false)], none⟩,
 ⟨some 4, .mv, [.t 13], none⟩] [0, 1, 5, 6, 7, 8, 9, 10, 11, 12, 13])
 .ret)) }
/-- spec.l1In -/
def F_spec_l1In : LF :=
 { nparams := 3, results := [.t 6], body :=
 (.seq
 (.region false [⟨some 6, .mv, [.c (.b false)], none⟩] [6])
 (.seq
 (.region false [⟨some 7, .mv, [.t 0], none⟩,
 ⟨some 8, .mv, [.t 1], none⟩,
 ⟨some 9, .bin .geq, [.t 7, .t 8], none⟩,
 ⟨some 10, .mv, [.t 9], none⟩,
 ⟨some 11, .mv, [.t 0], some (10, true)⟩,
 ⟨some 12, .mv, [.t 2], some (10, true)⟩,
 ⟨some 13, .bin .leq, [.t 11, .t 12], some (10, true)⟩,
 ⟨some 14, .pick, [.t 10, .t 13, .c (.b false)], none⟩,
 ⟨some 6, .mv, [.t 14], none⟩] [0, 1, 2, 7, 8, 9, 10, 11, 12, 13, 14])
 .ret)) }
/-- spec.l8First -/
def F_spec_l8First_L0 : LC :=
 (.seq
 (.seq
 (.region false [⟨some 16, .mv, [.t 12], none⟩,
 ⟨some 17, .mv, [.t 10], none⟩,
 ⟨some 18, .len, [.t 17], none⟩,
 ⟨some 19, .bin .lss, [.t 16, .t 18], none⟩] [16, 17, 18])
 (.cond (.t 19) [19]
 .skip
 (.exit 0)))
 (.seq
 (.block 1
 (.seq
 (.region false [⟨some 22, .mv, [.t 1], none⟩,
 ⟨some 23, .mv, [.t 10], none⟩,
 ⟨some 24, .mv, [.t 12], none⟩,
 ⟨some 25, .idxa 1, [.t 23, .t 24], none⟩,
 ⟨some 26, .load 1 false, [.t 25], none⟩,
 ⟨some 27, .bin .shr, [.t 22, .t 26], none⟩,
 ⟨some 28, .bin .rem, [.t 27, .c (.i 2)], none⟩,
 ⟨some 29, .bin .eql, [.t 28, .c (.i 1)], none⟩,
 ⟨some 30, .mv, [.t 29], none⟩,
 ⟨some 31, .mv, [.t 11], some (30, true)⟩,
 ⟨some 32, .mv, [.t 3], some (30, true)⟩,
 ⟨some 33, .bin .lss, [.t 31, .t 32], some (30, true)⟩,
 ⟨some 34, .pick, [.t 30, .t 33, .c (.b false)], none⟩] [22, 23, 24, 25, 26, 27, 28, 29, 30, 31, 32, 33])
 (.cond (.t 34) [34]
 (.seq
 (.region false [⟨some 35, .mv, [.t 9], none⟩,
 ⟨some 36, .mv, [.t 10], none⟩,
 ⟨some 37, .mv, [.t 12], none⟩,
 ⟨some 38, .idxa 1, [.t 36, .t 37], none⟩,
 ⟨some 39, .load 1 false, [.t 38], none⟩,
 ⟨some 40, .bin .shl, [.c (.i 1), .t 39], none⟩,
 ⟨some 41, .bin .or, [.t 35, .t 40], none⟩,
 ⟨some 9, .mv, [.t 41], none⟩] [35, 36, 37, 38, 39, 40, 41])
 (.region false [⟨some 42, .mv, [.t 11], none⟩,
 ⟨some 43, .bin .add, [.t 42, .c (.i 1)], none⟩,
 ⟨some 11, .mv, [.t 43], none⟩] [42, 43]))
 .skip)))
 (.region false [⟨some 20, .mv, [.t 12], none⟩,
 ⟨some 21, .bin .add, [.t 20, .c (.i 1)], none⟩,
 ⟨some 12, .mv, [.t 21], none⟩] [20, 21])))
def F_spec_l8First_W0 : LC := .loop F_spec_l8First_L0
def F_spec_l8First : LF :=
 { nparams := 4, results := [.t 8], body :=
 (.seq
 (.region false [⟨some 8, .mv, [.c (.i 0)], none⟩] [8])
 (.seq
 (.region false [⟨some 9, .mv, [.c (.i 0)], none⟩] [])
 (.seq
 (.region false [⟨some 13, .mv, [.t 0], none⟩,
 ⟨some 14, .mv, [.t 2], none⟩,
 ⟨some 15, .call n_spec_RatioOrder 7680, [.t 13, .t 14], none⟩,
 ⟨some 10, .mv, [.t 15], none⟩] [0, 2, 13, 14, 15])
 (.seq
 (.region false [⟨some 11, .mv, [.c (.i 0)], none⟩] [])
 (.seq
 (.seq
 (.region false [⟨some 12, .mv, [.c (.i 0)], none⟩] [])
 (.block 0
 F_spec_l8First_W0))
 (.seq
 (.region false [⟨some 44, .mv, [.t 9], none⟩,
 ⟨some 8, .mv, [.t 44], none⟩] [1, 3, 9, 10, 11, 12, 44])
 .ret)))))) }
/-- spec.l20Count -/
def F_spec_l20Count : LF :=
 { nparams := 1, results := [.t 2, .t 3], body :=
 (.seq
 (.region false [⟨some 2, .newnil 1040, [], none⟩,
 ⟨some 3, .mv, [.c (.i 0)], none⟩] [2, 3])
 (.seq
 (.region false [⟨some 5, .mv, [.t 0], none⟩,
 ⟨some 6, .call n_spec_l20Tests 3072, [.t 5, .c (.i 14)], none⟩,
 ⟨some 4, .mv, [.t 6], none⟩] [5, 6])
 (.seq
 (.region false [⟨some 7, .mv, [.t 4], none⟩,
 ⟨some 8, .mv, [.t 0], none⟩,
 ⟨some 9, .mv, [.t 4], none⟩,
 ⟨some 10, .len, [.t 9], none⟩,
 ⟨some 11, .mm true, [.t 10, .c (.i 1)], none⟩,
 ⟨some 12, .call n_spec_l20Rd_pick 6144, [.t 8, .t 11], none⟩,
 ⟨some 13, .bin .add, [.c (.i 1), .t 12], none⟩,
 ⟨some 14, .mv, [.t 0], none⟩,
 ⟨some 15, .call n_spec_l20Rd_pick 7680, [.t 14, .c (.i 30)], none⟩,
 ⟨some 16, .bin .quo, [.t 15, .c (.i 29)], none⟩,
 ⟨some 17, .bin .add, [.t 13, .t 16], none⟩,
 ⟨some 18, .mv, [.t 0], none⟩,
 ⟨some 19, .call n_spec_l20Rd_pick 9728, [.t 18, .c (.i 40)], none⟩,
 ⟨some 20, .bin .quo, [.t 19, .c (.i 39)], none⟩,
 ⟨some 21, .bin .mul, [.t 20, .c (.i 2)], none⟩,
 ⟨some 22, .bin .sub, [.t 17, .t 21], none⟩,
 ⟨some 2, .mv, [.t 7], none⟩,
 ⟨some 3, .mv, [.t 22], none⟩] [4, 7, 8, 9, 10, 11, 12, 13, 14, 15, 16, 17, 18, 19, 20, 21, 22])
 .ret))) }
/-- impl.CountOk -/
def F_impl_CountOk : LF :=
 { nparams := 2, results := [.t 4], body :=
 (.seq
 (.region false [⟨some 4, .mv, [.c (.b false)], none⟩] [4])
 (.seq
 (.region false [⟨some 5, .mv, [.t 0], none⟩,
 ⟨some 6, .call n_impl_TestsOk 3072, [.t 5], none⟩,
 ⟨some 7, .mv, [.t 6], none⟩,
 ⟨some 8, .mv, [.t 1], some (7, true)⟩,
 ⟨some 9, .mv, [.t 0], some (7, true)⟩,
 ⟨some 10, .len, [.t 9], some (7, true)⟩,
 ⟨some 11, .call n_impl_isWithin 5632, [.t 8, .c (.i 1), .t 10], some (7, true)⟩,
 ⟨some 12, .pick, [.t 7, .t 11, .c (.b false)], none⟩,
 ⟨some 4, .mv, [.t 12], none⟩] [0, 1, 5, 6, 7, 8, 9, 10, 11, 12])
 .ret)) }
/-- impl.leastToCount -/
def F_impl_leastToCount_L0 : LC :=
 (.seq
 (.region false [⟨some 32, .bin .lss, [.t 31, .t 30], none⟩] [])
 (.seq
 (.cond (.t 32) [32]
 .skip
 (.exit 0))
 (.seq
 (.block 1
 (.seq
 (.region false [⟨some 33, .mv, [.t 31], none⟩,
 ⟨some 34, .idxa 2, [.t 29, .t 31], none⟩,
 ⟨some 35, .load 2 true, [.t 34], none⟩,
 ⟨some 12, .alloc 6160 (.st [.i 0, .i 0]), [], none⟩,
 ⟨some 11, .mv, [.t 33], none⟩,
 ⟨none, .store 2, [.t 12, .t 35], none⟩] [33, 34, 35])
 (.seq
 (.seq
 (.region false [⟨some 36, .mv, [.t 9], none⟩,
 ⟨some 37, .mv, [.t 11], none⟩,
 ⟨some 38, .call n_impl_hasTest 19456, [.t 36, .t 37], none⟩,
 ⟨some 39, .un .not, [.t 38], none⟩] [36, 37, 38])
 (.cond (.t 39) [39]
 (.exit 1)
 .skip))
 (.seq
 (.region false [⟨some 40, .mv, [.t 1], none⟩,
 ⟨some 41, .mv, [.t 11], none⟩,
 ⟨some 42, .bin .shl, [.c (.i 1), .t 41], none⟩,
 ⟨some 43, .bin .andNot, [.t 40, .t 42], none⟩,
 ⟨some 13, .mv, [.t 43], none⟩] [11, 40, 41, 42, 43])
 (.seq
 (.region false [⟨some 44, .mv, [.t 0], none⟩,
 ⟨some 45, .mv, [.t 13], none⟩,
 ⟨some 46, .mv, [.t 2], none⟩,
 ⟨some 47, .mv, [.t 3], none⟩,
 ⟨some 48, .call n_impl_leastToCount 24576, [.t 44, .t 45, .t 46, .t 47], none⟩,
 ⟨some 14, .mv, [.t 48], none⟩] [44, 45, 46, 47, 48])
 (.seq
 (.region false [⟨some 49, .mv, [.t 0], none⟩,
 ⟨some 50, .mv, [.t 13], none⟩,
 ⟨some 51, .mv, [.t 2], none⟩,
 ⟨some 52, .bin .sub, [.t 51, .c (.i 1)], none⟩,
 ⟨some 53, .mv, [.t 3], none⟩,
 ⟨some 54, .call n_impl_leastToCount 27648, [.t 49, .t 50, .t 52, .t 53], none⟩,
 ⟨some 15, .mv, [.t 54], none⟩] [13, 49, 50, 51, 52, 53, 54])
 (.seq
 (.region true [⟨some 55, .load 2 true, [.t 12], none⟩,
 ⟨some 56, .mv, [.t 1], none⟩,
 ⟨some 57, .call n_impl_sizeOf 29184, [.t 56], none⟩,
 ⟨some 58, .mv, [.t 14], none⟩,
 ⟨some 59, .mv, [.t 15], none⟩,
 ⟨some 60, .call n_impl_averageAsking 30720, [.t 55, .t 57, .t 58, .t 59], none⟩,
 ⟨some 16, .mv, [.t 60], none⟩] [12, 14, 15, 55, 56, 57, 58, 59, 60])
 (.seq
 (.region false [⟨some 61, .mv, [.t 10], none⟩,
 ⟨some 62, .bin .eql, [.t 61, .c (.i (-1))], none⟩,
 ⟨some 63, .mv, [.t 62], none⟩,
 ⟨some 64, .mv, [.t 16], some (63, false)⟩,
 ⟨some 65, .mv, [.t 10], some (63, false)⟩,
 ⟨some 66, .bin .lss, [.t 64, .t 65], some (63, false)⟩,
 ⟨some 67, .pick, [.t 63, .c (.b true), .t 66], none⟩] [61, 62, 63, 64, 65, 66])
 (.cond (.t 67) [67]
 (.region false [⟨some 68, .mv, [.t 16], none⟩,
 ⟨some 10, .mv, [.t 68], none⟩] [16, 68])
 .skip)))))))))
 (.region false [⟨some 69, .bin .add, [.t 31, .c (.i 1)], none⟩,
 ⟨some 31, .mv, [.t 69], none⟩] [11, 12, 16, 69]))))
def F_impl_leastToCount_W0 : LC := .loop F_impl_leastToCount_L0
def F_impl_leastToCount : LF :=
 { nparams := 4, results := [.t 8], body :=
 (.seq
 (.region false [⟨some 8, .mv, [.c (.i 0)], none⟩] [8])
 (.seq
 (.seq
 (.region false [⟨some 17, .mv, [.t 2], none⟩,
 ⟨some 18, .bin .eql, [.t 17, .c (.i 0)], none⟩,
 ⟨some 19, .mv, [.t 18], none⟩,
 ⟨some 20, .mv, [.t 1], some (19, false)⟩,
 ⟨some 21, .call n_impl_sizeOf 10752, [.t 20], some (19, false)⟩,
 ⟨some 22, .mv, [.t 2], some (19, false)⟩,
 ⟨some 23, .bin .lss, [.t 21, .t 22], some (19, false)⟩,
 ⟨some 24, .pick, [.t 19, .c (.b true), .t 23], none⟩] [17, 18, 19, 20, 21, 22, 23])
 (.cond (.t 24) [24]
 (.seq
 (.region false [⟨some 8, .mv, [.c (.i 0)], none⟩] [0, 1, 2, 3])
 .ret)
 .skip))
 (.seq
 (.region false [⟨some 25, .mv, [.t 3], none⟩,
 ⟨some 26, .mv, [.t 1], none⟩,
 ⟨some 27, .mv, [.t 2], none⟩,
 ⟨some 28, .calld 14336, [.t 25, .t 26, .t 27], none⟩,
 ⟨some 9, .mv, [.t 28], none⟩,
 ⟨some 10, .mv, [.c (.i (-1))], none⟩] [25, 26, 27, 28])
 (.seq
 (.seq
 (.region false [⟨some 29, .mv, [.t 0], none⟩,
 ⟨some 30, .len, [.t 29], none⟩,
 ⟨some 31, .mv, [.c (.i 0)], none⟩] [])
 (.block 0
 F_impl_leastToCount_W0))
 (.seq
 (.region false [⟨some 70, .mv, [.t 10], none⟩,
 ⟨some 8, .mv, [.t 70], none⟩] [0, 1, 2, 3, 9, 10, 29, 30, 31, 70])
 .ret))))) }
/-- impl.allOf -/
def F_impl_allOf : LF :=
 { nparams := 1, results := [.t 2], body :=
 (.seq
 (.region false [⟨some 2, .mv, [.c (.i 0)], none⟩] [2])
 (.seq
 (.region false [⟨some 3, .mv, [.t 0], none⟩,
 ⟨some 4, .len, [.t 3], none⟩,
 ⟨some 5, .call n_impl_statesOf 2560, [.t 4], none⟩,
 ⟨some 6, .bin .sub, [.t 5, .c (.i 1)], none⟩,
 ⟨some 2, .mv, [.t 6], none⟩] [0, 3, 4, 5, 6])
 .ret)) }
/-- impl.CountAverage$1 -/
def F_impl_CountAverage_1 : LF :=
 { nparams := 3, results := [.t 5], body :=
 (.seq
 (.region false [⟨some 5, .mv, [.c (.i 0)], none⟩] [5])
 (.seq
 (.region false [⟨some 6, .load 1 false, [.t 2], none⟩,
 ⟨some 7, .mv, [.t 0], none⟩,
 ⟨some 8, .mv, [.t 1], none⟩,
 ⟨some 9, .call n_impl_NextInCount 4608, [.t 6, .t 7, .t 8], none⟩,
 ⟨some 10, .bin .shl, [.c (.i 1), .t 9], none⟩,
 ⟨some 5, .mv, [.t 10], none⟩] [0, 1, 2, 6, 7, 8, 9, 10])
 .ret)) }
/-- spec.CountOk -/
def F_spec_CountOk : LF :=
 { nparams := 2, results := [.t 4], body :=
 (.seq
 (.region false [⟨some 4, .mv, [.c (.b false)], none⟩] [4])
 (.seq
 (.region false [⟨some 5, .mv, [.t 0], none⟩,
 ⟨some 6, .call n_spec_TestsOk 3072, [.t 5], none⟩,
 ⟨some 7, .mv, [.t 6], none⟩,
 ⟨some 8, .mv, [.t 1], some (7, true)⟩,
 ⟨some 9, .mv, [.t 0], some (7, true)⟩,
 ⟨some 10, .len, [.t 9], some (7, true)⟩,
 ⟨some 11, .call n_spec_l1In 5632, [.t 8, .c (.i 1), .t 10], some (7, true)⟩,
 ⟨some 12, .pick, [.t 7, .t 11, .c (.b false)], none⟩,
 ⟨some 4, .mv, [.t 12], none⟩] [0, 1, 5, 6, 7, 8, 9, 10, 11, 12])
 .ret)) }
/-- spec.l8Rule -/
def F_spec_l8Rule : LF :=
 { nparams := 4, results := [.t 8], body :=
 (.seq
 (.region false [⟨some 8, .mv, [.c (.i 0)], none⟩] [8])
 (.seq
 (.seq
 (.region false [⟨some 11, .mv, [.t 2], none⟩,
 ⟨some 12, .bin .eql, [.t 11, .c (.i 0)], none⟩,
 ⟨some 13, .mv, [.t 12], none⟩,
 ⟨some 14, .mv, [.t 2], some (13, false)⟩,
 ⟨some 15, .mv, [.t 1], some (13, false)⟩,
 ⟨some 16, .call n_spec_l8Heads 8192, [.t 15], some (13, false)⟩,
 ⟨some 17, .bin .gtr, [.t 14, .t 16], some (13, false)⟩,
 ⟨some 18, .pick, [.t 13, .c (.b true), .t 17], none⟩] [11, 12, 13, 14, 15, 16, 17])
 (.cond (.t 18) [18]
 (.seq
 (.region false [⟨some 8, .mv, [.c (.i 0)], none⟩] [0, 1, 2, 3])
 .ret)
 .skip))
 (.seq
 (.region false [⟨some 19, .mv, [.t 0], none⟩,
 ⟨some 20, .mv, [.t 1], none⟩,
 ⟨some 21, .mv, [.t 2], none⟩,
 ⟨some 22, .call n_spec_NextInCount 11264, [.t 19, .t 20, .t 21], none⟩,
 ⟨some 9, .mv, [.t 22], none⟩] [19, 20, 21, 22])
 (.seq
 (.region false [⟨some 23, .mv, [.t 3], none⟩,
 ⟨some 24, .mv, [.t 0], none⟩,
 ⟨some 25, .mv, [.t 9], none⟩,
 ⟨some 26, .idxa 2, [.t 24, .t 25], none⟩,
 ⟨some 27, .fld 0 1 false, [.t 26], none⟩,
 ⟨some 28, .load 1 false, [.t 27], none⟩,
 ⟨some 29, .bin .mul, [.t 23, .t 28], none⟩,
 ⟨some 10, .mv, [.t 29], none⟩] [23, 24, 25, 26, 27, 28, 29])
 (.seq
 (.region true [⟨some 30, .mv, [.t 10], none⟩,
 ⟨some 31, .mv, [.t 0], none⟩,
 ⟨some 32, .mv, [.t 1], none⟩,
 ⟨some 33, .mv, [.t 9], none⟩,
 ⟨some 34, .bin .shl, [.c (.i 1), .t 33], none⟩,
 ⟨some 35, .bin .sub, [.t 32, .t 34], none⟩,
 ⟨some 36, .mv, [.t 2], none⟩,
 ⟨some 37, .bin .sub, [.t 36, .c (.i 1)], none⟩,
 ⟨some 38, .mv, [.t 3], none⟩,
 ⟨some 39, .bin .quo, [.t 38, .c (.i 6)], none⟩,
 ⟨some 40, .mv, [.t 0], none⟩,
 ⟨some 41, .mv, [.t 9], none⟩,
 ⟨some 42, .idxa 2, [.t 40, .t 41], none⟩,
 ⟨some 43, .fld 1 1 false, [.t 42], none⟩,
 ⟨some 44, .load 1 false, [.t 43], none⟩,
 ⟨some 45, .bin .mul, [.t 39, .t 44], none⟩,
 ⟨some 46, .call n_spec_l8Rule 23552, [.t 31, .t 35, .t 37, .t 45], none⟩,
 ⟨some 47, .bin .add, [.t 30, .t 46], none⟩,
 ⟨some 10, .mv, [.t 47], none⟩] [30, 31, 32, 33, 34, 35, 36, 37, 38, 39, 40, 41, 42, 43, 44, 45, 46, 47])
 (.seq
 (.region true [⟨some 48, .mv, [.t 10], none⟩,
 ⟨some 49, .mv, [.t 0], none⟩,
 ⟨some 50, .mv, [.t 1], none⟩,
 ⟨some 51, .mv, [.t 9], none⟩,
 ⟨some 52, .bin .shl, [.c (.i 1), .t 51], none⟩,
 ⟨some 53, .bin .sub, [.t 50, .t 52], none⟩,
 ⟨some 54, .mv, [.t 2], none⟩,
 ⟨some 55, .mv, [.t 3], none⟩,
 ⟨some 56, .bin .quo, [.t 55, .c (.i 6)], none⟩,
 ⟨some 57, .mv, [.t 0], none⟩,
 ⟨some 58, .mv, [.t 9], none⟩,
 ⟨some 59, .idxa 2, [.t 57, .t 58], none⟩,
 ⟨some 60, .fld 1 1 false, [.t 59], none⟩,
 ⟨some 61, .load 1 false, [.t 60], none⟩,
 ⟨some 62, .bin .sub, [.c (.i 6), .t 61], none⟩,
 ⟨some 63, .bin .mul, [.t 56, .t 62], none⟩,
 ⟨some 64, .call n_spec_l8Rule 32768, [.t 49, .t 53, .t 54, .t 63], none⟩,
 ⟨some 65, .bin .add, [.t 48, .t 64], none⟩,
 ⟨some 8, .mv, [.t 65], none⟩] [0, 1, 2, 3, 9, 10, 48, 49, 50, 51, 52, 53, 54, 55, 56, 57, 58, 59, 60, 61, 62, 63, 64, 65])
 .ret)))))) }
/-- spec.l1Power -/
def F_spec_l1Power_L0 : LC :=
 (.seq
 (.seq
 (.region false [⟨some 5, .mv, [.t 4], none⟩,
 ⟨some 6, .mv, [.t 0], none⟩,
 ⟨some 7, .bin .lss, [.t 5, .t 6], none⟩] [5, 6])
 (.cond (.t 7) [7]
 .skip
 (.exit 0)))
 (.seq
 (.block 1
 (.region false [⟨some 10, .mv, [.t 3], none⟩,
 ⟨some 11, .bin .mul, [.t 10, .c (.i 6)], none⟩,
 ⟨some 3, .mv, [.t 11], none⟩] [10, 11]))
 (.region false [⟨some 8, .mv, [.t 4], none⟩,
 ⟨some 9, .bin .add, [.t 8, .c (.i 1)], none⟩,
 ⟨some 4, .mv, [.t 9], none⟩] [8, 9])))
def F_spec_l1Power_W0 : LC := .loop F_spec_l1Power_L0
def F_spec_l1Power : LF :=
 { nparams := 1, results := [.t 2], body :=
 (.seq
 (.region false [⟨some 2, .mv, [.c (.i 0)], none⟩] [2])
 (.seq
 (.region false [⟨some 3, .mv, [.c (.i 1)], none⟩] [])
 (.seq
 (.seq
 (.region false [⟨some 4, .mv, [.c (.i 0)], none⟩] [])
 (.block 0
 F_spec_l1Power_W0))
 (.seq
 (.region false [⟨some 12, .mv, [.t 3], none⟩,
 ⟨some 2, .mv, [.t 12], none⟩] [0, 3, 4, 12])
 .ret)))) }
/-- impl.OrderOk -/
def F_impl_OrderOk_L0 : LC :=
 (.seq
 (.region false [⟨some 20, .bin .lss, [.t 19, .t 18], none⟩] [])
 (.seq
 (.cond (.t 20) [20]
 .skip
 (.exit 0))
 (.seq
 (.block 1
 (.seq
 (.region false [⟨some 21, .idxa 1, [.t 17, .t 19], none⟩,
 ⟨some 22, .load 1 false, [.t 21], none⟩,
 ⟨some 7, .mv, [.t 22], none⟩] [21, 22])
 (.seq
 (.seq
 (.region false [⟨some 23, .mv, [.t 7], none⟩,
 ⟨some 24, .mv, [.t 0], none⟩,
 ⟨some 25, .bin .sub, [.t 24, .c (.i 1)], none⟩,
 ⟨some 26, .call n_impl_isWithin 13312, [.t 23, .c (.i 0), .t 25], none⟩,
 ⟨some 27, .un .not, [.t 26], none⟩,
 ⟨some 28, .mv, [.t 27], none⟩,
 ⟨some 29, .mv, [.t 5], some (28, false)⟩,
 ⟨some 30, .mv, [.t 7], some (28, false)⟩,
 ⟨some 31, .call n_impl_hasTest 15872, [.t 29, .t 30], some (28, false)⟩,
 ⟨some 32, .pick, [.t 28, .c (.b true), .t 31], none⟩] [23, 24, 25, 26, 27, 28, 29, 30, 31])
 (.cond (.t 32) [32]
 (.seq
 (.region false [⟨some 4, .mv, [.c (.b false)], none⟩] [0, 5, 7, 17, 18, 19])
 .ret)
 .skip))
 (.region false [⟨some 33, .mv, [.t 5], none⟩,
 ⟨some 34, .mv, [.t 7], none⟩,
 ⟨some 35, .bin .shl, [.c (.i 1), .t 34], none⟩,
 ⟨some 36, .bin .or, [.t 33, .t 35], none⟩,
 ⟨some 5, .mv, [.t 36], none⟩] [7, 33, 34, 35, 36]))))
 (.region false [⟨some 37, .bin .add, [.t 19, .c (.i 1)], none⟩,
 ⟨some 19, .mv, [.t 37], none⟩] [37]))))
def F_impl_OrderOk_W0 : LC := .loop F_impl_OrderOk_L0
def F_impl_OrderOk : LF :=
 { nparams := 2, results := [.t 4], body :=
 (.seq
 (.region false [⟨some 4, .mv, [.c (.b false)], none⟩] [4])
 (.seq
 (.seq
 (.region false [⟨some 8, .mv, [.t 0], none⟩,
 ⟨some 9, .call n_impl_manyOk 4608, [.t 8], none⟩,
 ⟨some 10, .un .not, [.t 9], none⟩,
 ⟨some 11, .mv, [.t 10], none⟩,
 ⟨some 12, .mv, [.t 1], some (11, false)⟩,
 ⟨some 13, .len, [.t 12], some (11, false)⟩,
 ⟨some 14, .mv, [.t 0], some (11, false)⟩,
 ⟨some 15, .bin .neq, [.t 13, .t 14], some (11, false)⟩,
 ⟨some 16, .pick, [.t 11, .c (.b true), .t 15], none⟩] [8, 9, 10, 11, 12, 13, 14, 15])
 (.cond (.t 16) [16]
 (.seq
 (.region false [⟨some 4, .mv, [.c (.b false)], none⟩] [0, 1])
 .ret)
 .skip))
 (.seq
 (.region false [⟨some 5, .mv, [.c (.i 0)], none⟩] [])
 (.seq
 (.seq
 (.region false [⟨some 17, .mv, [.t 1], none⟩,
 ⟨some 18, .len, [.t 17], none⟩,
 ⟨some 19, .mv, [.c (.i 0)], none⟩] [1])
 (.block 0
 F_impl_OrderOk_W0))
 (.seq
 (.region false [⟨some 4, .mv, [.c (.b true)], none⟩] [0, 5, 17, 18, 19])
 .ret))))) }
/-- impl.rowOk -/
def F_impl_rowOk : LF :=
 { nparams := 1, results := [.t 2], body :=
 (.seq
 (.region false [⟨some 2, .mv, [.c (.b false)], none⟩] [2])
 (.seq
 (.region false [⟨some 3, .mv, [.t 0], none⟩,
 ⟨some 4, .bin .eql, [.t 3, .c (.i 0)], none⟩,
 ⟨some 5, .mv, [.t 4], none⟩,
 ⟨some 6, .mv, [.t 0], some (5, false)⟩,
 ⟨some 7, .bin .eql, [.t 6, .c (.i 1)], some (5, false)⟩,
 ⟨some 8, .pick, [.t 5, .c (.b true), .t 7], none⟩,
 ⟨some 2, .mv, [.t 8], none⟩] [0, 3, 4, 5, 6, 7, 8])
 .ret)) }
/-- impl.wholeOf -/
def F_impl_wholeOf_L0 : LC :=
 (.seq
 (.region false [⟨some 6, .bin .lss, [.t 5, .t 4], none⟩] [])
 (.seq
 (.cond (.t 6) [6]
 .skip
 (.exit 0))
 (.seq
 (.block 1
 (.region false [⟨some 7, .mv, [.t 3], none⟩,
 ⟨some 8, .bin .mul, [.t 7, .c (.i 6)], none⟩,
 ⟨some 3, .mv, [.t 8], none⟩] [7, 8]))
 (.region false [⟨some 9, .bin .add, [.t 5, .c (.i 1)], none⟩,
 ⟨some 5, .mv, [.t 9], none⟩] [9]))))
def F_impl_wholeOf_W0 : LC := .loop F_impl_wholeOf_L0
def F_impl_wholeOf : LF :=
 { nparams := 1, results := [.t 2], body :=
 (.seq
 (.region false [⟨some 2, .mv, [.c (.i 0)], none⟩] [2])
 (.seq
 (.region false [⟨some 3, .mv, [.c (.i 1)], none⟩] [])
 (.seq
 (.seq
 (.region false [⟨some 4, .mv, [.t 0], none⟩,
 ⟨some 5, .mv, [.c (.i 0)], none⟩] [0])
 (.block 0
 F_impl_wholeOf_W0))
 (.seq
 (.region false [⟨some 10, .mv, [.t 3], none⟩,
 ⟨some 2, .mv, [.t 10], none⟩] [3, 4, 5, 10])
 .ret)))) }
/-- impl.endChance -/
def F_impl_endChance : LF :=
 { nparams := 2, results := [.t 4], body :=
 (.seq
 (.region false [⟨some 2, .box 1040, [.t 0], none⟩,
 ⟨some 4, .mv, [.c (.i 0)], none⟩] [0, 4])
 (.seq
 (.seq
 (.region false [⟨some 5, .mv, [.t 1], none⟩,
 ⟨some 6, .bin .eql, [.t 5, .c (.i 0)], none⟩] [1, 5])
 (.cond (.t 6) [6]
 (.seq
 (.region false [⟨some 7, .fld 1 1 false, [.t 2], none⟩,
 ⟨some 8, .load 1 false, [.t 7], none⟩,
 ⟨some 9, .bin .sub, [.c (.i 6), .t 8], none⟩,
 ⟨some 4, .mv, [.t 9], none⟩] [2, 7, 8, 9])
 .ret)
 .skip))
 (.seq
 (.region false [⟨some 10, .fld 1 1 false, [.t 2], none⟩,
 ⟨some 11, .load 1 false, [.t 10], none⟩,
 ⟨some 4, .mv, [.t 11], none⟩] [2, 10, 11])
 .ret))) }
/-- impl.RatioOrder$1 -/
def F_impl_RatioOrder_1 : LF :=
 { nparams := 4, results := [.t 6], body :=
 (.seq
 (.region false [⟨some 6, .mv, [.c (.b false)], none⟩] [6])
 (.seq
 (.region true [⟨some 7, .load 1 false, [.t 2], none⟩,
 ⟨some 8, .mv, [.t 0], none⟩,
 ⟨some 9, .idxa 2, [.t 7, .t 8], none⟩,
 ⟨some 10, .load 2 true, [.t 9], none⟩,
 ⟨some 11, .load 1 false, [.t 3], none⟩,
 ⟨some 12, .call n_impl_ratioOf 6144, [.t 10, .t 11], none⟩,
 ⟨some 13, .load 1 false, [.t 2], none⟩,
 ⟨some 14, .mv, [.t 1], none⟩,
 ⟨some 15, .idxa 2, [.t 13, .t 14], none⟩,
 ⟨some 16, .load 2 true, [.t 15], none⟩,
 ⟨some 17, .load 1 false, [.t 3], none⟩,
 ⟨some 18, .call n_impl_ratioOf 9216, [.t 16, .t 17], none⟩,
 ⟨some 19, .call n_impl_ratio_isLess 9728, [.t 12, .t 18], none⟩,
 ⟨some 6, .mv, [.t 19], none⟩] [0, 1, 2, 3, 7, 8, 9, 10, 11, 12, 13, 14, 15, 16, 17, 18, 19])
 .ret)) }
/-- impl.ratioOf -/
def F_impl_ratioOf : LF :=
 { nparams := 2, results := [.c 4 2 true], body :=
 (.seq
 (.region false [⟨some 2, .box 1040, [.t 0], none⟩,
 ⟨some 4, .alloc 2064 (.st [.i 0, .i 0]), [], none⟩] [0])
 (.seq
 (.region true [⟨some 5, .fld 0 1 false, [.t 2], none⟩,
 ⟨some 6, .load 1 false, [.t 5], none⟩,
 ⟨some 7, .load 2 true, [.t 2], none⟩,
 ⟨some 8, .mv, [.t 1], none⟩,
 ⟨some 9, .call n_impl_endChance 4608, [.t 7, .t 8], none⟩,
 ⟨some 10, .build [.i 0, .i 0] [(0, 1), (1, 1)], [.t 6, .t 9], none⟩,
 ⟨none, .store 2, [.t 4, .t 10], none⟩] [1, 2, 5, 6, 7, 8, 9, 10])
 .ret)) }
/-- impl.ratio).isLess -/
def F_impl_ratio_isLess : LF :=
 { nparams := 2, results := [.t 4], body :=
 (.seq
 (.region false [⟨some 2, .box 1040, [.t 0], none⟩,
 ⟨some 3, .box 1552, [.t 1], none⟩,
 ⟨some 4, .mv, [.c (.b false)], none⟩] [0, 1, 4])
 (.seq
 (.region false [⟨some 5, .fld 0 1 false, [.t 2], none⟩,
 ⟨some 6, .load 1 false, [.t 5], none⟩,
 ⟨some 7, .fld 1 1 false, [.t 3], none⟩,
 ⟨some 8, .load 1 false, [.t 7], none⟩,
 ⟨some 9, .bin .mul, [.t 6, .t 8], none⟩,
 ⟨some 10, .fld 0 1 false, [.t 3], none⟩,
 ⟨some 11, .load 1 false, [.t 10], none⟩,
 ⟨some 12, .fld 1 1 false, [.t 2], none⟩,
 ⟨some 13, .load 1 false, [.t 12], none⟩,
 ⟨some 14, .bin .mul, [.t 11, .t 13], none⟩,
 ⟨some 15, .bin .lss, [.t 9, .t 14], none⟩,
 ⟨some 4, .mv, [.t 15], none⟩] [2, 3, 5, 6, 7, 8, 9, 10, 11, 12, 13, 14, 15])
 .ret)) }
/-- impl.inserted[int] -/
def F_impl_inserted_int_L0 : LC :=
 (.seq
 (.seq
 (.region false [⟨some 10, .mv, [.t 7], none⟩,
 ⟨some 11, .bin .gtr, [.t 10, .c (.i 0)], none⟩,
 ⟨some 12, .mv, [.t 11], none⟩,
 ⟨some 13, .mv, [.t 2], some (12, true)⟩,
 ⟨some 14, .mv, [.t 1], some (12, true)⟩,
 ⟨some 15, .mv, [.t 0], some (12, true)⟩,
 ⟨some 16, .mv, [.t 7], some (12, true)⟩,
 ⟨some 17, .bin .sub, [.t 16, .c (.i 1)], some (12, true)⟩,
 ⟨some 18, .idxa 1, [.t 15, .t 17], some (12, true)⟩,
 ⟨some 19, .load 1 false, [.t 18], some (12, true)⟩,
 ⟨some 20, .calld 10240, [.t 13, .t 14, .t 19], some (12, true)⟩,
 ⟨some 21, .pick, [.t 12, .t 20, .c (.b false)], none⟩] [10, 11, 12, 13, 14, 15, 16, 17, 18, 19, 20])
 (.cond (.t 21) [21]
 .skip
 (.exit 0)))
 (.block 1
 (.region false [⟨some 22, .mv, [.t 7], none⟩,
 ⟨some 23, .bin .sub, [.t 22, .c (.i 1)], none⟩,
 ⟨some 7, .mv, [.t 23], none⟩] [22, 23])))
def F_impl_inserted_int_W0 : LC := .loop F_impl_inserted_int_L0
def F_impl_inserted_int : LF :=
 { nparams := 3, results := [.t 6], body :=
 (.seq
 (.region false [⟨some 6, .newnil 3080, [], none⟩] [6])
 (.seq
 (.region false [⟨some 8, .mv, [.t 0], none⟩,
 ⟨some 9, .len, [.t 8], none⟩,
 ⟨some 7, .mv, [.t 9], none⟩] [8, 9])
 (.seq
 (.block 0
 F_impl_inserted_int_W0)
 (.seq
 (.region false [⟨some 24, .mv, [.t 0], none⟩,
 ⟨some 25, .mv, [.t 7], none⟩,
 ⟨some 26, .mv, [.t 1], none⟩,
 ⟨some 27, .bslice 13832 1 1 (.i 0) [0], [.t 26], none⟩,
 ⟨some 28, .callm n_slices_Insert_int_int [0, 2] 14342, [.t 24, .t 25, .t 27], none⟩,
 ⟨some 6, .mv, [.t 28], none⟩] [0, 1, 2, 7, 24, 25, 26, 27, 28])
 .ret)))) }
/-- impl.CountBest$1 -/
def F_impl_CountBest_1 : LF :=
 { nparams := 2, results := [.t 4], body :=
 (.seq
 (.region false [⟨some 4, .mv, [.c (.i 0)], none⟩] [1, 4])
 (.seq
 (.region false [⟨some 5, .mv, [.t 0], none⟩,
 ⟨some 4, .mv, [.t 5], none⟩] [0, 5])
 .ret)) }
/-- impl.manyOk -/
def F_impl_manyOk : LF :=
 { nparams := 1, results := [.t 2], body :=
 (.seq
 (.region false [⟨some 2, .mv, [.c (.b false)], none⟩] [2])
 (.seq
 (.region false [⟨some 3, .mv, [.t 0], none⟩,
 ⟨some 4, .call n_impl_isWithin 2048, [.t 3, .c (.i 1), .c (.i 5)], none⟩,
 ⟨some 2, .mv, [.t 4], none⟩] [0, 3, 4])
 .ret)) }
/-- impl.statesOf -/
def F_impl_statesOf : LF :=
 { nparams := 1, results := [.t 2], body :=
 (.seq
 (.region false [⟨some 2, .mv, [.c (.i 0)], none⟩] [2])
 (.seq
 (.region false [⟨some 3, .mv, [.t 0], none⟩,
 ⟨some 4, .bin .shl, [.c (.i 1), .t 3], none⟩,
 ⟨some 2, .mv, [.t 4], none⟩] [0, 3, 4])
 .ret)) }
/-- spec.l20Rd).odd -/
def F_spec_l20Rd_odd : LF :=
 { nparams := 2, results := [.t 4], body :=
 (.seq
 (.region false [⟨some 4, .mv, [.c (.b false)], none⟩] [4])
 (.seq
 (.region false [⟨some 5, .mv, [.t 1], none⟩,
 ⟨some 6, .bin .gtr, [.t 5, .c (.i 0)], none⟩,
 ⟨some 7, .mv, [.t 6], none⟩,
 ⟨some 8, .mv, [.t 0], some (7, true)⟩,
 ⟨some 9, .mv, [.t 1], some (7, true)⟩,
 ⟨some 10, .call n_spec_l20Rd_pick 5120, [.t 8, .t 9], some (7, true)⟩,
 ⟨some 11, .mv, [.t 1], some (7, true)⟩,
 ⟨some 12, .bin .sub, [.t 11, .c (.i 1)], some (7, true)⟩,
 ⟨some 13, .bin .eql, [.t 10, .t 12], some (7, true)⟩,
 ⟨some 14, .pick, [.t 7, .t 13, .c (.b false)], none⟩,
 ⟨some 4, .mv, [.t 14], none⟩] [1, 5, 6, 7, 8, 9, 10, 11, 12, 13, 14])
 .ret)) }
/-- bits.OnesCount -/
def F_math_bits_OnesCount : LF :=
 { nparams := 1, results := [.t 2], body :=
 (.seq
 (.region false [⟨some 2, .mv, [.c (.i 0)], none⟩] [2])
 (.seq
 (.cond (.c (.b false)) []
 (.seq
 .void
 .ret)
 .skip)
 (.seq
 (.region false [⟨some 6, .mv, [.t 0], none⟩,
 ⟨some 7, .call n_math_bits_OnesCount64 3584, [.t 6], none⟩,
 ⟨some 2, .mv, [.t 7], none⟩] [0, 6, 7])
 .ret))) }
/-- impl.hasTest -/
def F_impl_hasTest : LF :=
 { nparams := 2, results := [.t 4], body :=
 (.seq
 (.region false [⟨some 4, .mv, [.c (.b false)], none⟩] [4])
 (.seq
 (.region false [⟨some 5, .mv, [.t 0], none⟩,
 ⟨some 6, .mv, [.t 1], none⟩,
 ⟨some 7, .bin .shr, [.t 5, .t 6], none⟩,
 ⟨some 8, .bin .and, [.t 7, .c (.i 1)], none⟩,
 ⟨some 9, .bin .eql, [.t 8, .c (.i 1)], none⟩,
 ⟨some 4, .mv, [.t 9], none⟩] [0, 1, 5, 6, 7, 8, 9])
 .ret)) }
/-- bits.TrailingZeros64 -/
def F_math_bits_TrailingZeros64 : LF :=
 { gl := [1], nparams := 1, results := [.t 2], body :=
 (.seq
 (.region false [⟨some 2, .mv, [.c (.i 0)], none⟩] [2])
 (.seq
 (.seq
 (.region false [⟨some 3, .mv, [.t 0], none⟩,
 ⟨some 4, .bin .eql, [.t 3, .c (.q 0)], none⟩] [3])
 (.cond (.t 4) [4]
 (.seq
 (.region false [⟨some 2, .mv, [.c (.i 64)], none⟩] [0])
 .ret)
 .skip))
 (.seq
 (.region false [⟨some 5, .mv, [.t 0], none⟩,
 ⟨some 6, .mv, [.t 0], none⟩,
 ⟨some 7, .un .neg, [.t 6], none⟩,
 ⟨some 8, .bin .and, [.t 5, .t 7], none⟩,
 ⟨some 9, .bin .mul, [.t 8, .c (.q 285870213051353865)], none⟩,
 ⟨some 10, .bin .shr, [.t 9, .c (.q 58)], none⟩,
 ⟨some 11, .idxp 64 1, [.t 1048577, .t 10], none⟩,
 ⟨some 12, .load 1 false, [.t 11], none⟩,
 ⟨some 13, .conv .b2i 6656, [.t 12], none⟩,
 ⟨some 2, .mv, [.t 13], none⟩] [0, 5, 6, 7, 8, 9, 10, 11, 12, 13])
 .ret))) }
/-- spec.RatioOrder -/
def F_spec_RatioOrder_L1 : LC :=
 (.seq
 (.seq
 (.region true [⟨some 24, .mv, [.t 7], none⟩,
 ⟨some 25, .mv, [.t 5], none⟩,
 ⟨some 26, .len, [.t 25], none⟩,
 ⟨some 27, .bin .lss, [.t 24, .t 26], none⟩,
 ⟨some 28, .mv, [.t 27], none⟩,
 ⟨some 29, .mv, [.t 0], some (28, true)⟩,
 ⟨some 30, .mv, [.t 5], some (28, true)⟩,
 ⟨some 31, .mv, [.t 7], some (28, true)⟩,
 ⟨some 32, .idxa 1, [.t 30, .t 31], some (28, true)⟩,
 ⟨some 33, .load 1 false, [.t 32], some (28, true)⟩,
 ⟨some 34, .idxa 2, [.t 29, .t 33], some (28, true)⟩,
 ⟨some 35, .fld 0 1 false, [.t 34], some (28, true)⟩,
 ⟨some 36, .load 1 false, [.t 35], some (28, true)⟩,
 ⟨some 37, .mv, [.t 0], some (28, true)⟩,
 ⟨some 38, .mv, [.t 6], some (28, true)⟩,
 ⟨some 39, .idxa 2, [.t 37, .t 38], some (28, true)⟩,
 ⟨some 40, .load 2 true, [.t 39], some (28, true)⟩,
 ⟨some 41, .mv, [.t 1], some (28, true)⟩,
 ⟨some 42, .call n_spec_l5Ends 21504, [.t 40, .t 41], some (28, true)⟩,
 ⟨some 43, .bin .mul, [.t 36, .t 42], some (28, true)⟩,
 ⟨some 44, .mv, [.t 0], some (28, true)⟩,
 ⟨some 45, .mv, [.t 6], some (28, true)⟩,
 ⟨some 46, .idxa 2, [.t 44, .t 45], some (28, true)⟩,
 ⟨some 47, .fld 0 1 false, [.t 46], some (28, true)⟩,
 ⟨some 48, .load 1 false, [.t 47], some (28, true)⟩,
 ⟨some 49, .mv, [.t 0], some (28, true)⟩,
 ⟨some 50, .mv, [.t 5], some (28, true)⟩,
 ⟨some 51, .mv, [.t 7], some (28, true)⟩,
 ⟨some 52, .idxa 1, [.t 50, .t 51], some (28, true)⟩,
 ⟨some 53, .load 1 false, [.t 52], some (28, true)⟩,
 ⟨some 54, .idxa 2, [.t 49, .t 53], some (28, true)⟩,
 ⟨some 55, .load 2 true, [.t 54], some (28, true)⟩,
 ⟨some 56, .mv, [.t 1], some (28, true)⟩,
 ⟨some 57, .call n_spec_l5Ends 29184, [.t 55, .t 56], some (28, true)⟩,
 ⟨some 58, .bin .mul, [.t 48, .t 57], some (28, true)⟩,
 ⟨some 59, .bin .leq, [.t 43, .t 58], some (28, true)⟩,
 ⟨some 60, .pick, [.t 28, .t 59, .c (.b false)], none⟩] [24, 25, 26, 27, 28, 29, 30, 31, 32, 33, 34, 35, 36, 37, 38, 39, 40, 41, 42, 43, 44, 45, 46, 47, 48, 49, 50, 51, 52, 53, 54, 55, 56, 57, 58, 59])
 (.cond (.t 60) [60]
 .skip
 (.exit 2)))
 (.block 3
 (.region false [⟨some 61, .mv, [.t 7], none⟩,
 ⟨some 62, .bin .add, [.t 61, .c (.i 1)], none⟩,
 ⟨some 7, .mv, [.t 62], none⟩] [61, 62])))
def F_spec_RatioOrder_W1 : LC := .loop F_spec_RatioOrder_L1
def F_spec_RatioOrder_L0 : LC :=
 (.ghost (.rename 5 4616)
 (.seq
 (.seq
 (.region false [⟨some 10, .mv, [.t 6], none⟩,
 ⟨some 11, .mv, [.t 0], none⟩,
 ⟨some 12, .len, [.t 11], none⟩,
 ⟨some 13, .bin .lss, [.t 10, .t 12], none⟩,
 ⟨some 14, .mv, [.t 13], none⟩,
 ⟨some 15, .mv, [.t 0], some (14, true)⟩,
 ⟨some 16, .call n_spec_TestsOk 8192, [.t 15], some (14, true)⟩,
 ⟨some 17, .pick, [.t 14, .t 16, .c (.b false)], none⟩,
 ⟨some 18, .mv, [.t 17], none⟩,
 ⟨some 19, .mv, [.t 1], some (18, true)⟩,
 ⟨some 20, .call n_spec_l1In 10240, [.t 19, .c (.i 0), .c (.i 1)], some (18, true)⟩,
 ⟨some 21, .pick, [.t 18, .t 20, .c (.b false)], none⟩] [10, 11, 12, 13, 14, 15, 16, 17, 18, 19, 20])
 (.cond (.t 21) [21]
 .skip
 (.exit 0)))
 (.seq
 (.block 1
 (.seq
 (.region false [⟨some 7, .mv, [.c (.i 0)], none⟩] [])
 (.seq
 (.block 2
 F_spec_RatioOrder_W1)
 (.seq
 (.region false [⟨some 63, .bslice 32264 0 1 (.i 0) [], [], none⟩,
 ⟨some 64, .mv, [.t 5], none⟩,
 ⟨some 65, .mv, [.t 7], none⟩,
 ⟨some 66, .slice false true 1, [.t 64, .t 65], none⟩,
 ⟨some 67, .app 34312 1, [.t 63, .t 66], none⟩,
 ⟨some 8, .mv, [.t 67], none⟩] [63, 64, 65, 66, 67])
 (.seq
 (.region false [⟨some 68, .mv, [.t 8], none⟩,
 ⟨some 69, .mv, [.t 6], none⟩,
 ⟨some 70, .bslice 35848 1 1 (.i 0) [0], [.t 69], none⟩,
 ⟨some 71, .app 36360 1, [.t 68, .t 70], none⟩,
 ⟨some 8, .mv, [.t 71], none⟩] [68, 69, 70, 71])
 (.region false [⟨some 72, .mv, [.t 8], none⟩,
 ⟨some 73, .mv, [.t 5], none⟩,
 ⟨some 74, .mv, [.t 7], none⟩,
 ⟨some 75, .slice true false 1, [.t 73, .t 74], none⟩,
 ⟨some 76, .app 38920 1, [.t 72, .t 75], none⟩,
 ⟨some 5, .mv, [.t 76], none⟩] [7, 8, 72, 73, 74, 75, 76]))))))
 (.region false [⟨some 22, .mv, [.t 6], none⟩,
 ⟨some 23, .bin .add, [.t 22, .c (.i 1)], none⟩,
 ⟨some 6, .mv, [.t 23], none⟩] [22, 23]))))
def F_spec_RatioOrder_W0 : LC := .loop F_spec_RatioOrder_L0
def F_spec_RatioOrder : LF :=
 { nparams := 2, results := [.t 4], body :=
 (.seq
 (.region false [⟨some 4, .newnil 2056, [], none⟩] [4])
 (.seq
 (.region false [⟨some 9, .bslice 4616 0 1 (.i 0) [], [], none⟩,
 ⟨some 5, .mv, [.t 9], none⟩] [9])
 (.seq
 (.seq
 (.region false [⟨some 6, .mv, [.c (.i 0)], none⟩] [])
 (.block 0
 F_spec_RatioOrder_W0))
 (.seq
 (.region false [⟨some 77, .mv, [.t 5], none⟩,
 ⟨some 4, .mv, [.t 77], none⟩] [0, 1, 5, 6, 77])
 .ret)))) }
/-- impl.averageAsking -/
def F_impl_averageAsking : LF :=
 { nparams := 4, results := [.t 8], body :=
 (.seq
 (.region false [⟨some 4, .box 2064, [.t 0], none⟩,
 ⟨some 8, .mv, [.c (.i 0)], none⟩] [0, 8])
 (.seq
 (.region true [⟨some 9, .fld 0 1 false, [.t 4], none⟩,
 ⟨some 10, .load 1 false, [.t 9], none⟩,
 ⟨some 11, .mv, [.t 1], none⟩,
 ⟨some 12, .call n_impl_wholeOf 6144, [.t 11], none⟩,
 ⟨some 13, .bin .mul, [.t 10, .t 12], none⟩,
 ⟨some 14, .fld 1 1 false, [.t 4], none⟩,
 ⟨some 15, .load 1 false, [.t 14], none⟩,
 ⟨some 16, .bin .sub, [.c (.i 6), .t 15], none⟩,
 ⟨some 17, .mv, [.t 2], none⟩,
 ⟨some 18, .bin .mul, [.t 16, .t 17], none⟩,
 ⟨some 19, .bin .add, [.t 13, .t 18], none⟩,
 ⟨some 20, .fld 1 1 false, [.t 4], none⟩,
 ⟨some 21, .load 1 false, [.t 20], none⟩,
 ⟨some 22, .mv, [.t 3], none⟩,
 ⟨some 23, .bin .mul, [.t 21, .t 22], none⟩,
 ⟨some 24, .bin .add, [.t 19, .t 23], none⟩,
 ⟨some 8, .mv, [.t 24], none⟩] [1, 2, 3, 4, 9, 10, 11, 12, 13, 14, 15, 16, 17, 18, 19, 20, 21, 22, 23, 24])
 .ret)) }
/-- slices.Insert[[]int,int] -/
def F_slices_Insert_int_int : LF :=
 { nparams := 3, results := [], body := .skip, prim := some insP }
/-- bits.OnesCount64 -/
def F_math_bits_OnesCount64 : LF :=
 { nparams := 1, results := [.t 2], body :=
 (.seq
 (.region false [⟨some 2, .mv, [.c (.i 0)], none⟩] [2])
 (.seq
 (.region false [⟨some 3, .mv, [.t 0], none⟩,
 ⟨some 4, .bin .shr, [.t 3, .c (.q 1)], none⟩,
 ⟨some 5, .bin .and, [.t 4, .c (.q 6148914691236517205)], none⟩,
 ⟨some 6, .mv, [.t 0], none⟩,
 ⟨some 7, .bin .and, [.t 6, .c (.q 6148914691236517205)], none⟩,
 ⟨some 8, .bin .add, [.t 5, .t 7], none⟩,
 ⟨some 0, .mv, [.t 8], none⟩] [3, 4, 5, 6, 7, 8])
 (.seq
 (.region false [⟨some 9, .mv, [.t 0], none⟩,
 ⟨some 10, .bin .shr, [.t 9, .c (.q 2)], none⟩,
 ⟨some 11, .bin .and, [.t 10, .c (.q 3689348814741910323)], none⟩,
 ⟨some 12, .mv, [.t 0], none⟩,
 ⟨some 13, .bin .and, [.t 12, .c (.q 3689348814741910323)], none⟩,
 ⟨some 14, .bin .add, [.t 11, .t 13], none⟩,
 ⟨some 0, .mv, [.t 14], none⟩] [9, 10, 11, 12, 13, 14])
 (.seq
 (.region false [⟨some 15, .mv, [.t 0], none⟩,
 ⟨some 16, .bin .shr, [.t 15, .c (.q 4)], none⟩,
 ⟨some 17, .mv, [.t 0], none⟩,
 ⟨some 18, .bin .add, [.t 16, .t 17], none⟩,
 ⟨some 19, .bin .and, [.t 18, .c (.q 1085102592571150095)], none⟩,
 ⟨some 0, .mv, [.t 19], none⟩] [15, 16, 17, 18, 19])
 (.seq
 (.region false [⟨some 20, .mv, [.t 0], none⟩,
 ⟨some 21, .mv, [.t 0], none⟩,
 ⟨some 22, .bin .shr, [.t 21, .c (.q 8)], none⟩,
 ⟨some 23, .bin .add, [.t 20, .t 22], none⟩,
 ⟨some 0, .mv, [.t 23], none⟩] [20, 21, 22, 23])
 (.seq
 (.region false [⟨some 24, .mv, [.t 0], none⟩,
 ⟨some 25, .mv, [.t 0], none⟩,
 ⟨some 26, .bin .shr, [.t 25, .c (.q 16)], none⟩,
 ⟨some 27, .bin .add, [.t 24, .t 26], none⟩,
 ⟨some 0, .mv, [.t 27], none⟩] [24, 25, 26, 27])
 (.seq
 (.region false [⟨some 28, .mv, [.t 0], none⟩,
 ⟨some 29, .mv, [.t 0], none⟩,
 ⟨some 30, .bin .shr, [.t 29, .c (.q 32)], none⟩,
 ⟨some 31, .bin .add, [.t 28, .t 30], none⟩,
 ⟨some 0, .mv, [.t 31], none⟩] [28, 29, 30, 31])
 (.seq
 (.region false [⟨some 32, .mv, [.t 0], none⟩,
 ⟨some 33, .conv .q2i 16896, [.t 32], none⟩,
 ⟨some 34, .bin .and, [.t 33, .c (.i 127)], none⟩,
 ⟨some 2, .mv, [.t 34], none⟩] [0, 32, 33, 34])
 .ret)))))))) }
/-- spec.l5Ends -/
def F_spec_l5Ends : LF :=
 { nparams := 2, results := [.t 4], body :=
 (.seq
 (.region false [⟨some 2, .box 1040, [.t 0], none⟩,
 ⟨some 4, .mv, [.c (.i 0)], none⟩] [0, 4])
 (.seq
 (.seq
 (.region false [⟨some 5, .mv, [.t 1], none⟩,
 ⟨some 6, .bin .eql, [.t 5, .c (.i 0)], none⟩] [1, 5])
 (.cond (.t 6) [6]
 (.seq
 (.region false [⟨some 7, .fld 1 1 false, [.t 2], none⟩,
 ⟨some 8, .load 1 false, [.t 7], none⟩,
 ⟨some 9, .bin .sub, [.c (.i 6), .t 8], none⟩,
 ⟨some 4, .mv, [.t 9], none⟩] [2, 7, 8, 9])
 .ret)
 .skip))
 (.seq
 (.region false [⟨some 10, .fld 1 1 false, [.t 2], none⟩,
 ⟨some 11, .load 1 false, [.t 10], none⟩,
 ⟨some 4, .mv, [.t 11], none⟩] [2, 10, 11])
 .ret))) }
/-- slices.rotateRight[int] -/
def F_slices_rotateRight_int : LF :=
 { nparams := 2, results := [], body :=
 (.region false [⟨some 4, .mv, [.t 0], none⟩,
 ⟨some 5, .mv, [.t 0], none⟩,
 ⟨some 6, .len, [.t 5], none⟩,
 ⟨some 7, .mv, [.t 1], none⟩,
 ⟨some 8, .bin .sub, [.t 6, .t 7], none⟩,
 ⟨some 9, .call n_slices_rotateLeft_int 4608, [.t 4, .t 8], none⟩] [0, 1, 4, 5, 6, 7, 8, 9]) }
/-- slices.rotateLeft[int] -/
def F_slices_rotateLeft_int : LF :=
 { nparams := 2, results := [], body :=
 (.seq
 (.region false [⟨some 4, .mv, [.t 0], none⟩,
 ⟨some 5, .mv, [.t 1], none⟩,
 ⟨some 6, .slice false true 1, [.t 4, .t 5], none⟩,
 ⟨some 7, .call n_slices_Reverse_int_int 3584, [.t 6], none⟩] [4, 5, 6, 7])
 (.seq
 (.region false [⟨some 8, .mv, [.t 0], none⟩,
 ⟨some 9, .mv, [.t 1], none⟩,
 ⟨some 10, .slice true false 1, [.t 8, .t 9], none⟩,
 ⟨some 11, .call n_slices_Reverse_int_int 5632, [.t 10], none⟩] [1, 8, 9, 10, 11])
 (.region false [⟨some 12, .mv, [.t 0], none⟩,
 ⟨some 13, .call n_slices_Reverse_int_int 6656, [.t 12], none⟩] [0, 12, 13]))) }
/-- slices.Reverse[[]int,int] -/
def F_slices_Reverse_int_int_L0 : LC :=
 (.seq
 (.seq
 (.region false [⟨some 7, .mv, [.t 2], none⟩,
 ⟨some 8, .mv, [.t 3], none⟩,
 ⟨some 9, .bin .lss, [.t 7, .t 8], none⟩] [7, 8])
 (.cond (.t 9) [9]
 .skip
 (.exit 0)))
 (.seq
 (.block 1
 (.region true [⟨some 14, .mv, [.t 0], none⟩,
 ⟨some 15, .mv, [.t 2], none⟩,
 ⟨some 16, .mv, [.t 0], none⟩,
 ⟨some 17, .mv, [.t 3], none⟩,
 ⟨some 18, .mv, [.t 0], none⟩,
 ⟨some 19, .mv, [.t 3], none⟩,
 ⟨some 20, .idxa 1, [.t 18, .t 19], none⟩,
 ⟨some 21, .load 1 false, [.t 20], none⟩,
 ⟨some 22, .mv, [.t 0], none⟩,
 ⟨some 23, .mv, [.t 2], none⟩,
 ⟨some 24, .idxa 1, [.t 22, .t 23], none⟩,
 ⟨some 25, .load 1 false, [.t 24], none⟩,
 ⟨some 26, .idxa 1, [.t 14, .t 15], none⟩,
 ⟨none, .store 1, [.t 26, .t 21], none⟩,
 ⟨some 27, .idxa 1, [.t 16, .t 17], none⟩,
 ⟨none, .store 1, [.t 27, .t 25], none⟩] [14, 15, 16, 17, 18, 19, 20, 21, 22, 23, 24, 25, 26, 27]))
 (.region false [⟨some 10, .mv, [.t 2], none⟩,
 ⟨some 11, .bin .add, [.t 10, .c (.i 1)], none⟩,
 ⟨some 12, .mv, [.t 3], none⟩,
 ⟨some 13, .bin .sub, [.t 12, .c (.i 1)], none⟩,
 ⟨some 2, .mv, [.t 11], none⟩,
 ⟨some 3, .mv, [.t 13], none⟩] [10, 11, 12, 13])))
def F_slices_Reverse_int_int_W0 : LC := .loop F_slices_Reverse_int_int_L0
def F_slices_Reverse_int_int : LF :=
 { nparams := 1, results := [], body :=
 (.seq
 (.region false [⟨some 4, .mv, [.t 0], none⟩,
 ⟨some 5, .len, [.t 4], none⟩,
 ⟨some 6, .bin .sub, [.t 5, .c (.i 1)], none⟩,
 ⟨some 2, .mv, [.c (.i 0)], none⟩,
 ⟨some 3, .mv, [.t 6], none⟩] [4, 5, 6])
 (.block 0
 F_slices_Reverse_int_int_W0)) }
def lf : Nat → Option LF
 | 3 => some F_laws_FnNextInCount
 | 4 => some F_laws_FnCountAverage
 | 12 => some F_spec_DrawNextInCount
 | 13 => some F_impl_NextInCount
 | 14 => some F_spec_NextInCount
 | 15 => some F_laws_alive
 | 16 => some F_impl_OtherTests
 | 17 => some F_spec_DrawCountAverage
 | 18 => some F_impl_CountAverage
 | 19 => some F_spec_CountAverage
 | 20 => some F_impl_RowAverage
 | 21 => some F_impl_RatioOrder
 | 22 => some F_impl_CountBest
 | 29 => some F_spec_TestsOk
 | 47 => some F_spec_l20Open
 | 48 => some F_spec_l20Tests
 | 49 => some F_spec_l20Rd_pick
 | 50 => some F_spec_l8Heads
 | 51 => some F_impl_TestsOk
 | 52 => some F_impl_StateOk
 | 53 => some F_impl_isWithin
 | 54 => some F_impl_sizeOf
 | 55 => some F_impl_firstLeft
 | 56 => some F_math_bits_TrailingZeros
 | 57 => some F_spec_StateOk
 | 58 => some F_spec_l1In
 | 59 => some F_spec_l8First
 | 60 => some F_spec_l20Count
 | 61 => some F_impl_CountOk
 | 62 => some F_impl_leastToCount
 | 63 => some F_impl_allOf
 | 64 => some F_impl_CountAverage_1
 | 65 => some F_spec_CountOk
 | 66 => some F_spec_l8Rule
 | 67 => some F_spec_l1Power
 | 68 => some F_impl_OrderOk
 | 69 => some F_impl_rowOk
 | 70 => some F_impl_wholeOf
 | 71 => some F_impl_endChance
 | 72 => some F_impl_RatioOrder_1
 | 73 => some F_impl_ratioOf
 | 74 => some F_impl_ratio_isLess
 | 75 => some F_impl_inserted_int
 | 76 => some F_impl_CountBest_1
 | 82 => some F_impl_manyOk
 | 87 => some F_impl_statesOf
 | 107 => some F_spec_l20Rd_odd
 | 108 => some F_math_bits_OnesCount
 | 109 => some F_impl_hasTest
 | 111 => some F_math_bits_TrailingZeros64
 | 112 => some F_spec_RatioOrder
 | 113 => some F_impl_averageAsking
 | 114 => some F_slices_Insert_int_int
 | 150 => some F_math_bits_OnesCount64
 | 151 => some F_spec_l5Ends
 | 153 => some F_slices_rotateRight_int
 | 165 => some F_slices_rotateLeft_int
 | 170 => some F_slices_Reverse_int_int
 | _ => none
theorem w_laws_FnNextInCount_0 (S : LS) : ex lf F_laws_FnNextInCount_W0 S = match ex lf F_laws_FnNextInCount_L0 S with | some (.normal, S1) => ex lf F_laws_FnNextInCount_W0 S1 | r => r := ex_loop lf F_laws_FnNextInCount_L0 S
theorem w_spec_NextInCount_0 (S : LS) : ex lf F_spec_NextInCount_W0 S = match ex lf F_spec_NextInCount_L0 S with | some (.normal, S1) => ex lf F_spec_NextInCount_W0 S1 | r => r := ex_loop lf F_spec_NextInCount_L0 S
theorem w_impl_OtherTests_0 (S : LS) : ex lf F_impl_OtherTests_W0 S = match ex lf F_impl_OtherTests_L0 S with | some (.normal, S1) => ex lf F_impl_OtherTests_W0 S1 | r => r := ex_loop lf F_impl_OtherTests_L0 S
theorem w_impl_RowAverage_0 (S : LS) : ex lf F_impl_RowAverage_W0 S = match ex lf F_impl_RowAverage_L0 S with | some (.normal, S1) => ex lf F_impl_RowAverage_W0 S1 | r => r := ex_loop lf F_impl_RowAverage_L0 S
theorem w_impl_RatioOrder_0 (S : LS) : ex lf F_impl_RatioOrder_W0 S = match ex lf F_impl_RatioOrder_L0 S with | some (.normal, S1) => ex lf F_impl_RatioOrder_W0 S1 | r => r := ex_loop lf F_impl_RatioOrder_L0 S
theorem w_spec_TestsOk_0 (S : LS) : ex lf F_spec_TestsOk_W0 S = match ex lf F_spec_TestsOk_L0 S with | some (.normal, S1) => ex lf F_spec_TestsOk_W0 S1 | r => r := ex_loop lf F_spec_TestsOk_L0 S
theorem w_spec_l20Tests_0 (S : LS) : ex lf F_spec_l20Tests_W0 S = match ex lf F_spec_l20Tests_L0 S with | some (.normal, S1) => ex lf F_spec_l20Tests_W0 S1 | r => r := ex_loop lf F_spec_l20Tests_L0 S
theorem w_spec_l8Heads_0 (S : LS) : ex lf F_spec_l8Heads_W0 S = match ex lf F_spec_l8Heads_L0 S with | some (.normal, S1) => ex lf F_spec_l8Heads_W0 S1 | r => r := ex_loop lf F_spec_l8Heads_L0 S
theorem w_impl_TestsOk_0 (S : LS) : ex lf F_impl_TestsOk_W0 S = match ex lf F_impl_TestsOk_L0 S with | some (.normal, S1) => ex lf F_impl_TestsOk_W0 S1 | r => r := ex_loop lf F_impl_TestsOk_L0 S
theorem w_impl_firstLeft_0 (S : LS) : ex lf F_impl_firstLeft_W0 S = match ex lf F_impl_firstLeft_L0 S with | some (.normal, S1) => ex lf F_impl_firstLeft_W0 S1 | r => r := ex_loop lf F_impl_firstLeft_L0 S
theorem w_spec_l8First_0 (S : LS) : ex lf F_spec_l8First_W0 S = match ex lf F_spec_l8First_L0 S with | some (.normal, S1) => ex lf F_spec_l8First_W0 S1 | r => r := ex_loop lf F_spec_l8First_L0 S
theorem w_impl_leastToCount_0 (S : LS) : ex lf F_impl_leastToCount_W0 S = match ex lf F_impl_leastToCount_L0 S with | some (.normal, S1) => ex lf F_impl_leastToCount_W0 S1 | r => r := ex_loop lf F_impl_leastToCount_L0 S
theorem w_spec_l1Power_0 (S : LS) : ex lf F_spec_l1Power_W0 S = match ex lf F_spec_l1Power_L0 S with | some (.normal, S1) => ex lf F_spec_l1Power_W0 S1 | r => r := ex_loop lf F_spec_l1Power_L0 S
theorem w_impl_OrderOk_0 (S : LS) : ex lf F_impl_OrderOk_W0 S = match ex lf F_impl_OrderOk_L0 S with | some (.normal, S1) => ex lf F_impl_OrderOk_W0 S1 | r => r := ex_loop lf F_impl_OrderOk_L0 S
theorem w_impl_wholeOf_0 (S : LS) : ex lf F_impl_wholeOf_W0 S = match ex lf F_impl_wholeOf_L0 S with | some (.normal, S1) => ex lf F_impl_wholeOf_W0 S1 | r => r := ex_loop lf F_impl_wholeOf_L0 S
theorem w_impl_inserted_int_0 (S : LS) : ex lf F_impl_inserted_int_W0 S = match ex lf F_impl_inserted_int_L0 S with | some (.normal, S1) => ex lf F_impl_inserted_int_W0 S1 | r => r := ex_loop lf F_impl_inserted_int_L0 S
theorem w_spec_RatioOrder_1 (S : LS) : ex lf F_spec_RatioOrder_W1 S = match ex lf F_spec_RatioOrder_L1 S with | some (.normal, S1) => ex lf F_spec_RatioOrder_W1 S1 | r => r := ex_loop lf F_spec_RatioOrder_L1 S
theorem w_spec_RatioOrder_0 (S : LS) : ex lf F_spec_RatioOrder_W0 S = match ex lf F_spec_RatioOrder_L0 S with | some (.normal, S1) => ex lf F_spec_RatioOrder_W0 S1 | r => r := ex_loop lf F_spec_RatioOrder_L0 S
theorem w_slices_Reverse_int_int_0 (S : LS) : ex lf F_slices_Reverse_int_int_W0 S = match ex lf F_slices_Reverse_int_int_L0 S with | some (.normal, S1) => ex lf F_slices_Reverse_int_int_W0 S1 | r => r := ex_loop lf F_slices_Reverse_int_int_L0 S
end Zz
