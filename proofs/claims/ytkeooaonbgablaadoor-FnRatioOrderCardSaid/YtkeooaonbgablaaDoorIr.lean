/- The functions of the program, read as data. No conditions. -/
import Derived.Test.YtkeooaonbgablaaDoorLgE
set_option linter.unusedSectionVars false
set_option linter.unusedVariables false
set_option linter.unusedSimpArgs false
namespace Zz
open Go.Lg
instance : GL := ⟨[(0, .st [.w (2863311530#32), .w (3435973836#32), .w (4042322160#32), .w (4278255360#32), .w (4294901760#32)])], [], ["l4_orders.go:82"], [], [(31, [0]), (51, [0, 2])], [(28, 51, 6)]⟩
theorem gEnv_0 : gEnv [0] = [(1048576, .adr (.st [.w (2863311530#32), .w (3435973836#32), .w (4042322160#32), .w (4278255360#32), .w (4294901760#32)]))] := rfl
def n_laws_FnRatioOrder : Nat := 3
def n_spec_DrawRatioOrder : Nat := 6
def n_impl_RatioOrder : Nat := 7
def n_laws_sameInts : Nat := 8
def n_spec_RatioOrder : Nat := 9
def n_laws_alive : Nat := 10
def n_impl_BestOrder : Nat := 11
def n_impl_RowTerm : Nat := 12
def n_impl_OrderOk : Nat := 13
def n_impl_RowAverage : Nat := 14
def n_impl_OtherTests : Nat := 15
def n_spec_TestsOk : Nat := 20
def n_impl_TestsOk : Nat := 21
def n_spec_l20Open : Nat := 24
def n_spec_l20Tests : Nat := 25
def n_spec_l20Rd_pick : Nat := 26
def n_impl_rowOk : Nat := 27
def n_impl_RatioOrder_1 : Nat := 28
def n_impl_ratioOf : Nat := 29
def n_impl_ratio_isLess : Nat := 30
def n_impl_inserted_int : Nat := 31
def n_spec_l1In : Nat := 32
def n_spec_l5Ends : Nat := 33
def n_impl_TermOk : Nat := 34
def n_impl_bestBehind : Nat := 35
def n_impl_openWeights : Nat := 36
def n_impl_trueStates : Nat := 37
def n_impl_manyOk : Nat := 38
def n_impl_isWithin : Nat := 39
def n_impl_hasTest : Nat := 40
def n_impl_wholeOf : Nat := 41
def n_impl_endChance : Nat := 42
def n_impl_statesOf : Nat := 46
def n_impl_WeightOf : Nat := 47
def n_impl_hasState : Nat := 49
def n_spec_l20Rd_odd : Nat := 50
def n_slices_Insert_int_int : Nat := 51
def n_impl_partsTaken : Nat := 52
def n_impl_markOk : Nat := 53
def n_impl_openStates : Nat := 54
def n_impl_foldTerm_uint32 : Nat := 55
def n_impl_statesOfPart : Nat := 56
def n_impl_StateOk : Nat := 57
def n_impl_outcomeIn : Nat := 58
def n_slices_rotateRight_int : Nat := 61
def n_impl_turnedStates : Nat := 62
def n_slices_rotateLeft_int : Nat := 63
def n_slices_Reverse_int_int : Nat := 64
/-- laws.FnRatioOrder -/
def F_laws_FnRatioOrder : LF :=
 { nparams := 1, results := [.t 2], body :=
 (.seq
 (.region false [⟨some 2, .mv, [.c (.b false)], none⟩] [2])
 (.seq
 (.seq
 (.region false [⟨some 8, .mv, [.t 0], none⟩,
 ⟨some 9, .len, [.t 8], none⟩,
 ⟨some 10, .bin .gtr, [.t 9, .c (.i 1048576)], none⟩] [8, 9])
 (.cond (.t 10) [10]
 (.seq
 (.region false [⟨some 2, .mv, [.c (.b true)], none⟩] [0])
 .ret)
 .skip))
 (.seq
 (.region false [⟨some 12, .mv, [.t 0], none⟩,
 ⟨some 13, .call n_spec_DrawRatioOrder 6656, [.t 12], none⟩,
 ⟨some 11, .mv, [.t 13], none⟩,
 ⟨some 14, .ext 0, [.t 11], none⟩,
 ⟨some 15, .ext 1, [.t 11], none⟩,
 ⟨some 3, .mv, [.t 14], none⟩,
 ⟨some 4, .mv, [.t 15], none⟩] [0, 11, 12, 13, 14, 15])
 (.seq
 (.region false [⟨some 16, .mv, [.t 3], none⟩,
 ⟨some 17, .mv, [.t 4], none⟩,
 ⟨some 18, .call n_impl_RatioOrder 9216, [.t 16, .t 17], none⟩,
 ⟨some 5, .mv, [.t 18], none⟩] [16, 17, 18])
 (.seq
 (.seq
 (.region false [⟨some 19, .mv, [.t 5], none⟩,
 ⟨some 20, .mv, [.t 3], none⟩,
 ⟨some 21, .mv, [.t 4], none⟩,
 ⟨some 22, .call n_spec_RatioOrder 11264, [.t 20, .t 21], none⟩,
 ⟨some 23, .call n_laws_sameInts 11776, [.t 19, .t 22], none⟩,
 ⟨some 24, .un .not, [.t 23], none⟩] [19, 20, 21, 22, 23])
 (.cond (.t 24) [24]
 (.seq
 (.region false [⟨some 2, .mv, [.c (.b false)], none⟩] [3, 4, 5])
 .ret)
 .skip))
 (.seq
 (.seq
 (.region false [⟨some 25, .mv, [.t 5], none⟩,
 ⟨some 26, .len, [.t 25], none⟩,
 ⟨some 27, .bin .eql, [.t 26, .c (.i 0)], none⟩] [25, 26])
 (.cond (.t 27) [27]
 (.seq
 (.region false [⟨some 28, .call n_laws_alive 14336, [], none⟩,
 ⟨some 2, .mv, [.t 28], none⟩] [3, 4, 5, 28])
 .ret)
 .skip))
 (.seq
 (.region false [⟨some 30, .mv, [.t 3], none⟩,
 ⟨some 31, .mv, [.t 3], none⟩,
 ⟨some 32, .len, [.t 31], none⟩,
 ⟨some 33, .mv, [.t 4], none⟩,
 ⟨some 34, .call n_impl_RowTerm 17408, [.t 32, .t 33], none⟩,
 ⟨some 35, .call n_impl_BestOrder 17920, [.t 30, .t 34], none⟩,
 ⟨some 29, .mv, [.t 35], none⟩,
 ⟨some 36, .ext 0, [.t 29], none⟩,
 ⟨some 37, .ext 1, [.t 29], none⟩,
 ⟨some 6, .mv, [.t 36], none⟩,
 ⟨some 7, .mv, [.t 37], none⟩] [6, 29, 30, 31, 32, 33, 34, 35, 36, 37])
 (.seq
 (.region false [⟨some 38, .mv, [.t 3], none⟩,
 ⟨some 39, .len, [.t 38], none⟩,
 ⟨some 40, .mv, [.t 5], none⟩,
 ⟨some 41, .call n_impl_OrderOk 20992, [.t 39, .t 40], none⟩,
 ⟨some 42, .mv, [.t 41], none⟩,
 ⟨some 43, .mv, [.t 3], some (42, true)⟩,
 ⟨some 44, .mv, [.t 5], some (42, true)⟩,
 ⟨some 45, .mv, [.t 4], some (42, true)⟩,
 ⟨some 46, .call n_impl_RowAverage 23552, [.t 43, .t 44, .t 45], some (42, true)⟩,
 ⟨some 47, .mv, [.t 7], some (42, true)⟩,
 ⟨some 48, .bin .eql, [.t 46, .t 47], some (42, true)⟩,
 ⟨some 49, .pick, [.t 42, .t 48, .c (.b false)], none⟩,
 ⟨some 50, .mv, [.t 49], none⟩,
 ⟨some 51, .mv, [.t 3], some (50, true)⟩,
 ⟨some 52, .call n_impl_OtherTests 26624, [.t 51], some (50, true)⟩,
 ⟨some 53, .mv, [.t 4], some (50, true)⟩,
 ⟨some 54, .bin .sub, [.c (.i 1), .t 53], some (50, true)⟩,
 ⟨some 55, .call n_impl_RatioOrder 28160, [.t 52, .t 54], some (50, true)⟩,
 ⟨some 56, .mv, [.t 5], some (50, true)⟩,
 ⟨some 57, .call n_laws_sameInts 29184, [.t 55, .t 56], some (50, true)⟩,
 ⟨some 58, .pick, [.t 50, .t 57, .c (.b false)], none⟩,
 ⟨some 2, .mv, [.t 58], none⟩] [3, 4, 5, 7, 38, 39, 40, 41, 42, 43, 44, 45, 46, 47, 48, 49, 50, 51, 52, 53, 54, 55, 56, 57, 58])
 .ret)))))))) }
/-- spec.DrawRatioOrder -/
def F_spec_DrawRatioOrder_L0 : LC :=
 (.seq
 (.seq
 (.region false [⟨some 14, .mv, [.t 6], none⟩,
 ⟨some 15, .mv, [.t 5], none⟩,
 ⟨some 16, .len, [.t 15], none⟩,
 ⟨some 17, .bin .lss, [.t 14, .t 16], none⟩] [14, 15, 16])
 (.cond (.t 17) [17]
 .skip
 (.exit 0)))
 (.seq
 (.block 1
 (.region false [⟨some 20, .mv, [.t 5], none⟩,
 ⟨some 21, .mv, [.t 6], none⟩,
 ⟨some 22, .mv, [.t 5], none⟩,
 ⟨some 23, .mv, [.t 6], none⟩,
 ⟨some 24, .idxa 2, [.t 22, .t 23], none⟩,
 ⟨some 25, .fld 0 1 false, [.t 24], none⟩,
 ⟨some 26, .load 1 false, [.t 25], none⟩,
 ⟨some 27, .bin .quo, [.t 26, .c (.i 4)], none⟩,
 ⟨some 28, .bin .add, [.c (.i 1), .t 27], none⟩,
 ⟨some 29, .idxa 2, [.t 20, .t 21], none⟩,
 ⟨some 30, .fld 0 1 false, [.t 29], none⟩,
 ⟨none, .store 1, [.t 30, .t 28], none⟩] [20, 21, 22, 23, 24, 25, 26, 27, 28, 29, 30]))
 (.region false [⟨some 18, .mv, [.t 6], none⟩,
 ⟨some 19, .bin .add, [.t 18, .c (.i 1)], none⟩,
 ⟨some 6, .mv, [.t 19], none⟩] [18, 19])))
def F_spec_DrawRatioOrder_W0 : LC := .loop F_spec_DrawRatioOrder_L0
def F_spec_DrawRatioOrder : LF :=
 { nparams := 1, results := [.t 2, .t 3], body :=
 (.seq
 (.region false [⟨some 2, .newnil 1040, [], none⟩,
 ⟨some 3, .mv, [.c (.i 0)], none⟩] [2, 3])
 (.seq
 (.region false [⟨some 7, .mv, [.t 0], none⟩,
 ⟨some 8, .call n_spec_l20Open 4096, [.t 7], none⟩,
 ⟨some 4, .mv, [.t 8], none⟩] [0, 7, 8])
 (.seq
 (.region false [⟨some 9, .mv, [.t 4], none⟩,
 ⟨some 10, .call n_spec_l20Tests 5120, [.t 9, .c (.i 12)], none⟩,
 ⟨some 5, .mv, [.t 10], none⟩] [9, 10])
 (.seq
 (.seq
 (.region false [⟨some 11, .mv, [.t 4], none⟩,
 ⟨some 12, .call n_spec_l20Rd_pick 6144, [.t 11, .c (.i 3)], none⟩,
 ⟨some 13, .bin .eql, [.t 12, .c (.i 0)], none⟩] [11, 12])
 (.cond (.t 13) [13]
 (.seq
 (.region false [⟨some 6, .mv, [.c (.i 0)], none⟩] [])
 (.block 0
 F_spec_DrawRatioOrder_W0))
 .skip))
 (.seq
 (.region false [⟨some 31, .mv, [.t 5], none⟩,
 ⟨some 32, .mv, [.t 4], none⟩,
 ⟨some 33, .call n_spec_l20Rd_pick 16896, [.t 32, .c (.i 2)], none⟩,
 ⟨some 34, .mv, [.t 4], none⟩,
 ⟨some 35, .call n_spec_l20Rd_pick 17920, [.t 34, .c (.i 40)], none⟩,
 ⟨some 36, .bin .quo, [.t 35, .c (.i 39)], none⟩,
 ⟨some 37, .bin .add, [.t 33, .t 36], none⟩,
 ⟨some 2, .mv, [.t 31], none⟩,
 ⟨some 3, .mv, [.t 37], none⟩] [4, 5, 6, 31, 32, 33, 34, 35, 36, 37])
 .ret))))) }
/-- impl.RatioOrder -/
def F_impl_RatioOrder_L0 : LC :=
 (.ghost (.rename 6 3080)
 (.seq
 (.region false [⟨some 20, .bin .lss, [.t 19, .t 18], none⟩] [])
 (.seq
 (.cond (.t 20) [20]
 .skip
 (.exit 0))
 (.seq
 (.block 1
 (.seq
 (.region false [⟨some 21, .mv, [.t 19], none⟩,
 ⟨some 7, .mv, [.t 21], none⟩] [21])
 (.region false [⟨some 22, .mv, [.t 6], none⟩,
 ⟨some 23, .mv, [.t 7], none⟩,
 ⟨some 24, .mv, [.t 5], none⟩,
 ⟨some 25, .callm n_impl_inserted_int [0] 12800, [.t 22, .t 23, .t 24], none⟩,
 ⟨some 6, .mv, [.t 25], none⟩] [7, 22, 23, 24, 25])))
 (.region false [⟨some 26, .bin .add, [.t 19, .c (.i 1)], none⟩,
 ⟨some 19, .mv, [.t 26], none⟩] [26])))))
def F_impl_RatioOrder_W0 : LC := .loop F_impl_RatioOrder_L0
def F_impl_RatioOrder : LF :=
 { nparams := 2, results := [.t 4], body :=
 (.seq
 (.region false [⟨some 2, .box 1032, [.t 0], none⟩,
 ⟨some 3, .box 1544, [.t 1], none⟩,
 ⟨some 4, .newnil 2056, [], none⟩] [0, 1, 4])
 (.ghost (.close_ 2)
(.ghost (.close_ 3)
 (.seq
 (.seq
 (.region false [⟨some 8, .load 1 false, [.t 2], none⟩,
 ⟨some 9, .call n_impl_TestsOk 4608, [.t 8], none⟩,
 ⟨some 10, .un .not, [.t 9], none⟩,
 ⟨some 11, .mv, [.t 10], none⟩,
 ⟨some 12, .load 1 false, [.t 3], some (11, false)⟩,
 ⟨some 13, .call n_impl_rowOk 6656, [.t 12], some (11, false)⟩,
 ⟨some 14, .un .not, [.t 13], some (11, false)⟩,
 ⟨some 15, .pick, [.t 11, .c (.b true), .t 14], none⟩] [8, 9, 10, 11, 12, 13, 14])
 (.cond (.t 15) [15]
 (.seq
 (.region false [⟨some 4, .newnil 2056, [], none⟩] [2, 3])
 .ret)
 .skip))
 (.seq
 (.region false [⟨some 16, .mkfn n_impl_RatioOrder_1, [.t 2, .t 3], none⟩,
 ⟨some 5, .mv, [.t 16], none⟩] [3, 16])
 (.seq
 (.region false [⟨some 6, .newnil 3080, [], none⟩] [])
 (.seq
 (.seq
 (.region false [⟨some 17, .load 1 false, [.t 2], none⟩,
 ⟨some 18, .len, [.t 17], none⟩,
 ⟨some 19, .mv, [.c (.i 0)], none⟩] [2, 17])
 (.block 0
 F_impl_RatioOrder_W0))
 (.seq
 (.region false [⟨some 27, .mv, [.t 6], none⟩,
 ⟨some 4, .mv, [.t 27], none⟩] [5, 6, 18, 19, 27])
 .ret)))))))) }
/-- laws.sameInts -/
def F_laws_sameInts_L0 : LC :=
 (.seq
 (.seq
 (.region false [⟨some 11, .mv, [.t 5], none⟩,
 ⟨some 12, .mv, [.t 0], none⟩,
 ⟨some 13, .len, [.t 12], none⟩,
 ⟨some 14, .bin .lss, [.t 11, .t 13], none⟩] [11, 12, 13])
 (.cond (.t 14) [14]
 .skip
 (.exit 0)))
 (.seq
 (.block 1
 (.seq
 (.region true [⟨some 17, .mv, [.t 0], none⟩,
 ⟨some 18, .mv, [.t 5], none⟩,
 ⟨some 19, .idxa 1, [.t 17, .t 18], none⟩,
 ⟨some 20, .load 1 false, [.t 19], none⟩,
 ⟨some 21, .mv, [.t 1], none⟩,
 ⟨some 22, .mv, [.t 5], none⟩,
 ⟨some 23, .idxa 1, [.t 21, .t 22], none⟩,
 ⟨some 24, .load 1 false, [.t 23], none⟩,
 ⟨some 25, .bin .neq, [.t 20, .t 24], none⟩] [17, 18, 19, 20, 21, 22, 23, 24])
 (.cond (.t 25) [25]
 (.seq
 (.region false [⟨some 4, .mv, [.c (.b false)], none⟩] [0, 1, 5])
 .ret)
 .skip)))
 (.region false [⟨some 15, .mv, [.t 5], none⟩,
 ⟨some 16, .bin .add, [.t 15, .c (.i 1)], none⟩,
 ⟨some 5, .mv, [.t 16], none⟩] [15, 16])))
def F_laws_sameInts_W0 : LC := .loop F_laws_sameInts_L0
def F_laws_sameInts : LF :=
 { nparams := 2, results := [.t 4], body :=
 (.seq
 (.region false [⟨some 4, .mv, [.c (.b false)], none⟩] [4])
 (.seq
 (.seq
 (.region false [⟨some 6, .mv, [.t 0], none⟩,
 ⟨some 7, .len, [.t 6], none⟩,
 ⟨some 8, .mv, [.t 1], none⟩,
 ⟨some 9, .len, [.t 8], none⟩,
 ⟨some 10, .bin .neq, [.t 7, .t 9], none⟩] [6, 7, 8, 9])
 (.cond (.t 10) [10]
 (.seq
 (.region false [⟨some 4, .mv, [.c (.b false)], none⟩] [0, 1])
 .ret)
 .skip))
 (.seq
 (.seq
 (.region false [⟨some 5, .mv, [.c (.i 0)], none⟩] [])
 (.block 0
 F_laws_sameInts_W0))
 (.seq
 (.region false [⟨some 4, .mv, [.c (.b true)], none⟩] [0, 1, 5])
 .ret)))) }
/-- spec.RatioOrder -/
def F_spec_RatioOrder_L1 : LC :=
 (.seq
 (.seq
 (.region true [⟨some 24, .mv, [.t 7], none⟩,
 ⟨some 25, .mv, [.t 5], none⟩,
 ⟨some 26, .len, [.t 25], none⟩,
 ⟨some 27, .bin .lss, [.t 24, .t 26], none⟩,
 ⟨some 28, .mv, [.t 27], none⟩,
 ⟨some 29, .mv, [.t 0], some (28, true)⟩,
 ⟨some 30, .mv, [.t 5], some (28, true)⟩,
 ⟨some 31, .mv, [.t 7], some (28, true)⟩,
 ⟨some 32, .idxa 1, [.t 30, .t 31], some (28, true)⟩,
 ⟨some 33, .load 1 false, [.t 32], some (28, true)⟩,
 ⟨some 34, .idxa 2, [.t 29, .t 33], some (28, true)⟩,
 ⟨some 35, .fld 0 1 false, [.t 34], some (28, true)⟩,
 ⟨some 36, .load 1 false, [.t 35], some (28, true)⟩,
 ⟨some 37, .mv, [.t 0], some (28, true)⟩,
 ⟨some 38, .mv, [.t 6], some (28, true)⟩,
 ⟨some 39, .idxa 2, [.t 37, .t 38], some (28, true)⟩,
 ⟨some 40, .load 2 true, [.t 39], some (28, true)⟩,
 ⟨some 41, .mv, [.t 1], some (28, true)⟩,
 ⟨some 42, .call n_spec_l5Ends 21504, [.t 40, .t 41], some (28, true)⟩,
 ⟨some 43, .bin .mul, [.t 36, .t 42], some (28, true)⟩,
 ⟨some 44, .mv, [.t 0], some (28, true)⟩,
 ⟨some 45, .mv, [.t 6], some (28, true)⟩,
 ⟨some 46, .idxa 2, [.t 44, .t 45], some (28, true)⟩,
 ⟨some 47, .fld 0 1 false, [.t 46], some (28, true)⟩,
 ⟨some 48, .load 1 false, [.t 47], some (28, true)⟩,
 ⟨some 49, .mv, [.t 0], some (28, true)⟩,
 ⟨some 50, .mv, [.t 5], some (28, true)⟩,
 ⟨some 51, .mv, [.t 7], some (28, true)⟩,
 ⟨some 52, .idxa 1, [.t 50, .t 51], some (28, true)⟩,
 ⟨some 53, .load 1 false, [.t 52], some (28, true)⟩,
 ⟨some 54, .idxa 2, [.t 49, .t 53], some (28, true)⟩,
 ⟨some 55, .load 2 true, [.t 54], some (28, true)⟩,
 ⟨some 56, .mv, [.t 1], some (28, true)⟩,
 ⟨some 57, .call n_spec_l5Ends 29184, [.t 55, .t 56], some (28, true)⟩,
 ⟨some 58, .bin .mul, [.t 48, .t 57], some (28, true)⟩,
 ⟨some 59, .bin .leq, [.t 43, .t 58], some (28, true)⟩,
 ⟨some 60, .pick, [.t 28, .t 59, .c (.b false)], none⟩] [24, 25, 26, 27, 28, 29, 30, 31, 32, 33, 34, 35, 36, 37, 38, 39, 40, 41, 42, 43, 44, 45, 46, 47, 48, 49, 50, 51, 52, 53, 54, 55, 56, 57, 58, 59])
 (.cond (.t 60) [60]
 .skip
 (.exit 2)))
 (.block 3
 (.region false [⟨some 61, .mv, [.t 7], none⟩,
 ⟨some 62, .bin .add, [.t 61, .c (.i 1)], none⟩,
 ⟨some 7, .mv, [.t 62], none⟩] [61, 62])))
def F_spec_RatioOrder_W1 : LC := .loop F_spec_RatioOrder_L1
def F_spec_RatioOrder_L0 : LC :=
 (.ghost (.rename 5 4616)
 (.seq
 (.seq
 (.region false [⟨some 10, .mv, [.t 6], none⟩,
 ⟨some 11, .mv, [.t 0], none⟩,
 ⟨some 12, .len, [.t 11], none⟩,
 ⟨some 13, .bin .lss, [.t 10, .t 12], none⟩,
 ⟨some 14, .mv, [.t 13], none⟩,
 ⟨some 15, .mv, [.t 0], some (14, true)⟩,
 ⟨some 16, .call n_spec_TestsOk 8192, [.t 15], some (14, true)⟩,
 ⟨some 17, .pick, [.t 14, .t 16, .c (.b false)], none⟩,
 ⟨some 18, .mv, [.t 17], none⟩,
 ⟨some 19, .mv, [.t 1], some (18, true)⟩,
 ⟨some 20, .call n_spec_l1In 10240, [.t 19, .c (.i 0), .c (.i 1)], some (18, true)⟩,
 ⟨some 21, .pick, [.t 18, .t 20, .c (.b false)], none⟩] [10, 11, 12, 13, 14, 15, 16, 17, 18, 19, 20])
 (.cond (.t 21) [21]
 .skip
 (.exit 0)))
 (.seq
 (.block 1
 (.seq
 (.region false [⟨some 7, .mv, [.c (.i 0)], none⟩] [])
 (.seq
 (.block 2
 F_spec_RatioOrder_W1)
 (.seq
 (.region false [⟨some 63, .bslice 32264 0 1 (.i 0) [], [], none⟩,
 ⟨some 64, .mv, [.t 5], none⟩,
 ⟨some 65, .mv, [.t 7], none⟩,
 ⟨some 66, .slice false true 1, [.t 64, .t 65], none⟩,
 ⟨some 67, .app 34312 1, [.t 63, .t 66], none⟩,
 ⟨some 8, .mv, [.t 67], none⟩] [63, 64, 65, 66, 67])
 (.seq
 (.region false [⟨some 68, .mv, [.t 8], none⟩,
 ⟨some 69, .mv, [.t 6], none⟩,
 ⟨some 70, .bslice 35848 1 1 (.i 0) [0], [.t 69], none⟩,
 ⟨some 71, .app 36360 1, [.t 68, .t 70], none⟩,
 ⟨some 8, .mv, [.t 71], none⟩] [68, 69, 70, 71])
 (.region false [⟨some 72, .mv, [.t 8], none⟩,
 ⟨some 73, .mv, [.t 5], none⟩,
 ⟨some 74, .mv, [.t 7], none⟩,
 ⟨some 75, .slice true false 1, [.t 73, .t 74], none⟩,
 ⟨some 76, .app 38920 1, [.t 72, .t 75], none⟩,
 ⟨some 5, .mv, [.t 76], none⟩] [7, 8, 72, 73, 74, 75, 76]))))))
 (.region false [⟨some 22, .mv, [.t 6], none⟩,
 ⟨some 23, .bin .add, [.t 22, .c (.i 1)], none⟩,
 ⟨some 6, .mv, [.t 23], none⟩] [22, 23]))))
def F_spec_RatioOrder_W0 : LC := .loop F_spec_RatioOrder_L0
def F_spec_RatioOrder : LF :=
 { nparams := 2, results := [.t 4], body :=
 (.seq
 (.region false [⟨some 4, .newnil 2056, [], none⟩] [4])
 (.seq
 (.region false [⟨some 9, .bslice 4616 0 1 (.i 0) [], [], none⟩,
 ⟨some 5, .mv, [.t 9], none⟩] [9])
 (.seq
 (.seq
 (.region false [⟨some 6, .mv, [.c (.i 0)], none⟩] [])
 (.block 0
 F_spec_RatioOrder_W0))
 (.seq
 (.region false [⟨some 77, .mv, [.t 5], none⟩,
 ⟨some 4, .mv, [.t 77], none⟩] [0, 1, 5, 6, 77])
 .ret)))) }
/-- laws.alive -/
def F_laws_alive : LF :=
 { nparams := 0, results := [.t 0], body :=
 (.seq
 (.region false [⟨some 0, .mv, [.c (.b false)], none⟩] [0])
 (.seq
 (.region false [⟨some 1, .build [.i 0, .i 0] [(0, 1), (1, 1)], [.c (.i 1), .c (.i 1)], none⟩,
 ⟨some 2, .bslice 1040 1 2 (.st [.i 0, .i 0]) [0], [.t 1], none⟩,
 ⟨some 3, .call n_impl_TestsOk 1536, [.t 2], none⟩,
 ⟨some 4, .mv, [.t 3], none⟩,
 ⟨some 5, .build [.i 0, .i 0] [], [], some (4, true)⟩,
 ⟨some 6, .bslice 3088 1 2 (.st [.i 0, .i 0]) [0], [.t 5], some (4, true)⟩,
 ⟨some 7, .call n_impl_TestsOk 3584, [.t 6], some (4, true)⟩,
 ⟨some 8, .un .not, [.t 7], some (4, true)⟩,
 ⟨some 9, .pick, [.t 4, .t 8, .c (.b false)], none⟩,
 ⟨some 0, .mv, [.t 9], none⟩] [1, 2, 3, 4, 5, 6, 7, 8, 9])
 .ret)) }
/-- impl.BestOrder -/
def F_impl_BestOrder : LF :=
 { nparams := 2, results := [.t 4, .t 5], body :=
 (.seq
 (.region false [⟨some 4, .newnil 2056, [], none⟩,
 ⟨some 5, .mv, [.c (.i 0)], none⟩] [4, 5])
 (.seq
 (.seq
 (.region false [⟨some 6, .mv, [.t 0], none⟩,
 ⟨some 7, .call n_impl_TestsOk 3584, [.t 6], none⟩,
 ⟨some 8, .un .not, [.t 7], none⟩,
 ⟨some 9, .mv, [.t 8], none⟩,
 ⟨some 10, .mv, [.t 0], some (9, false)⟩,
 ⟨some 11, .len, [.t 10], some (9, false)⟩,
 ⟨some 12, .mv, [.t 1], some (9, false)⟩,
 ⟨some 13, .call n_impl_TermOk 6656, [.t 11, .t 12], some (9, false)⟩,
 ⟨some 14, .un .not, [.t 13], some (9, false)⟩,
 ⟨some 15, .pick, [.t 9, .c (.b true), .t 14], none⟩] [6, 7, 8, 9, 10, 11, 12, 13, 14])
 (.cond (.t 15) [15]
 (.seq
 (.region false [⟨some 4, .newnil 2056, [], none⟩,
 ⟨some 5, .mv, [.c (.i (-1))], none⟩] [0, 1])
 .ret)
 .skip))
 (.seq
 (.region false [⟨some 16, .mv, [.t 0], none⟩,
 ⟨some 17, .mv, [.t 0], none⟩,
 ⟨some 18, .mv, [.t 1], none⟩,
 ⟨some 19, .call n_impl_trueStates 9728, [.t 18], none⟩,
 ⟨some 20, .call n_impl_openWeights 10240, [.t 17, .t 19], none⟩,
 ⟨some 21, .call n_impl_bestBehind 10752, [.t 16, .t 20, .c (.i 0)], none⟩,
 ⟨some 22, .ext 0, [.t 21], none⟩,
 ⟨some 23, .ext 1, [.t 21], none⟩,
 ⟨some 4, .mv, [.t 22], none⟩,
 ⟨some 5, .mv, [.t 23], none⟩] [0, 1, 16, 17, 18, 19, 20, 21, 22, 23])
 .ret))) }
/-- impl.RowTerm -/
def F_impl_RowTerm_L0 : LC :=
 (.seq
 (.seq
 (.region false [⟨some 22, .mv, [.t 7], none⟩,
 ⟨some 23, .mv, [.t 0], none⟩,
 ⟨some 24, .bin .lss, [.t 22, .t 23], none⟩] [22, 23])
 (.cond (.t 24) [24]
 .skip
 (.exit 0)))
 (.seq
 (.block 1
 (.region false [⟨some 27, .mv, [.t 6], none⟩,
 ⟨some 28, .mv, [.t 7], none⟩,
 ⟨some 29, .build [.i 0, .i 0] [(0, 1), (1, 1)], [.c (.i 0), .t 28], none⟩,
 ⟨some 30, .load 2 true, [.t 5], none⟩,
 ⟨some 31, .bslice 15888 2 2 (.st [.i 0, .i 0]) [0, 1], [.t 29, .t 30], none⟩,
 ⟨some 32, .app 16400 2, [.t 27, .t 31], none⟩,
 ⟨some 6, .mv, [.t 32], none⟩] [27, 28, 29, 30, 31, 32]))
 (.region false [⟨some 25, .mv, [.t 7], none⟩,
 ⟨some 26, .bin .add, [.t 25, .c (.i 1)], none⟩,
 ⟨some 7, .mv, [.t 26], none⟩] [25, 26])))
def F_impl_RowTerm_W0 : LC := .loop F_impl_RowTerm_L0
def F_impl_RowTerm : LF :=
 { nparams := 2, results := [.t 4], body :=
 (.seq
 (.region false [⟨some 4, .newnil 2064, [], none⟩] [4])
 (.seq
 (.seq
 (.region false [⟨some 8, .mv, [.t 0], none⟩,
 ⟨some 9, .call n_impl_manyOk 4608, [.t 8], none⟩,
 ⟨some 10, .un .not, [.t 9], none⟩,
 ⟨some 11, .mv, [.t 10], none⟩,
 ⟨some 12, .mv, [.t 1], some (11, false)⟩,
 ⟨some 13, .call n_impl_rowOk 6656, [.t 12], some (11, false)⟩,
 ⟨some 14, .un .not, [.t 13], some (11, false)⟩,
 ⟨some 15, .pick, [.t 11, .c (.b true), .t 14], none⟩] [8, 9, 10, 11, 12, 13, 14])
 (.cond (.t 15) [15]
 (.seq
 (.region false [⟨some 4, .newnil 2064, [], none⟩] [0, 1])
 .ret)
 .skip))
 (.seq
 (.region false [⟨some 16, .build [.i 0, .i 0] [(0, 1)], [.c (.i 2)], none⟩,
 ⟨some 5, .alloc 2576 (.st [.i 0, .i 0]), [], none⟩,
 ⟨none, .store 2, [.t 5, .t 16], none⟩] [16])
 (.seq
 (.seq
 (.region false [⟨some 17, .mv, [.t 1], none⟩,
 ⟨some 18, .bin .eql, [.t 17, .c (.i 1)], none⟩] [1, 17])
 (.cond (.t 18) [18]
 (.region false [⟨some 19, .fld 0 1 false, [.t 5], none⟩,
 ⟨none, .store 1, [.t 19, .c (.i 3)], none⟩] [19])
 .skip))
 (.seq
 (.region false [⟨some 20, .build [.i 0, .i 0] [(0, 1), (1, 1)], [.c (.i 0), .c (.i 0)], none⟩,
 ⟨some 21, .bslice 10768 1 2 (.st [.i 0, .i 0]) [0], [.t 20], none⟩,
 ⟨some 6, .mv, [.t 21], none⟩] [20, 21])
 (.seq
 (.seq
 (.region false [⟨some 7, .mv, [.c (.i 1)], none⟩] [])
 (.block 0
 F_impl_RowTerm_W0))
 (.seq
 (.region false [⟨some 33, .mv, [.t 6], none⟩,
 ⟨some 4, .mv, [.t 33], none⟩] [0, 5, 6, 7, 33])
 .ret))))))) }
/-- impl.OrderOk -/
def F_impl_OrderOk_L0 : LC :=
 (.seq
 (.region false [⟨some 20, .bin .lss, [.t 19, .t 18], none⟩] [])
 (.seq
 (.cond (.t 20) [20]
 .skip
 (.exit 0))
 (.seq
 (.block 1
 (.seq
 (.region false [⟨some 21, .idxa 1, [.t 17, .t 19], none⟩,
 ⟨some 22, .load 1 false, [.t 21], none⟩,
 ⟨some 7, .mv, [.t 22], none⟩] [21, 22])
 (.seq
 (.seq
 (.region false [⟨some 23, .mv, [.t 7], none⟩,
 ⟨some 24, .mv, [.t 0], none⟩,
 ⟨some 25, .bin .sub, [.t 24, .c (.i 1)], none⟩,
 ⟨some 26, .call n_impl_isWithin 13312, [.t 23, .c (.i 0), .t 25], none⟩,
 ⟨some 27, .un .not, [.t 26], none⟩,
 ⟨some 28, .mv, [.t 27], none⟩,
 ⟨some 29, .mv, [.t 5], some (28, false)⟩,
 ⟨some 30, .mv, [.t 7], some (28, false)⟩,
 ⟨some 31, .call n_impl_hasTest 15872, [.t 29, .t 30], some (28, false)⟩,
 ⟨some 32, .pick, [.t 28, .c (.b true), .t 31], none⟩] [23, 24, 25, 26, 27, 28, 29, 30, 31])
 (.cond (.t 32) [32]
 (.seq
 (.region false [⟨some 4, .mv, [.c (.b false)], none⟩] [0, 5, 7, 17, 18, 19])
 .ret)
 .skip))
 (.region false [⟨some 33, .mv, [.t 5], none⟩,
 ⟨some 34, .mv, [.t 7], none⟩,
 ⟨some 35, .bin .shl, [.c (.i 1), .t 34], none⟩,
 ⟨some 36, .bin .or, [.t 33, .t 35], none⟩,
 ⟨some 5, .mv, [.t 36], none⟩] [7, 33, 34, 35, 36]))))
 (.region false [⟨some 37, .bin .add, [.t 19, .c (.i 1)], none⟩,
 ⟨some 19, .mv, [.t 37], none⟩] [37]))))
def F_impl_OrderOk_W0 : LC := .loop F_impl_OrderOk_L0
def F_impl_OrderOk : LF :=
 { nparams := 2, results := [.t 4], body :=
 (.seq
 (.region false [⟨some 4, .mv, [.c (.b false)], none⟩] [4])
 (.seq
 (.seq
 (.region false [⟨some 8, .mv, [.t 0], none⟩,
 ⟨some 9, .call n_impl_manyOk 4608, [.t 8], none⟩,
 ⟨some 10, .un .not, [.t 9], none⟩,
 ⟨some 11, .mv, [.t 10], none⟩,
 ⟨some 12, .mv, [.t 1], some (11, false)⟩,
 ⟨some 13, .len, [.t 12], some (11, false)⟩,
 ⟨some 14, .mv, [.t 0], some (11, false)⟩,
 ⟨some 15, .bin .neq, [.t 13, .t 14], some (11, false)⟩,
 ⟨some 16, .pick, [.t 11, .c (.b true), .t 15], none⟩] [8, 9, 10, 11, 12, 13, 14, 15])
 (.cond (.t 16) [16]
 (.seq
 (.region false [⟨some 4, .mv, [.c (.b false)], none⟩] [0, 1])
 .ret)
 .skip))
 (.seq
 (.region false [⟨some 5, .mv, [.c (.i 0)], none⟩] [])
 (.seq
 (.seq
 (.region false [⟨some 17, .mv, [.t 1], none⟩,
 ⟨some 18, .len, [.t 17], none⟩,
 ⟨some 19, .mv, [.c (.i 0)], none⟩] [1])
 (.block 0
 F_impl_OrderOk_W0))
 (.seq
 (.region false [⟨some 4, .mv, [.c (.b true)], none⟩] [0, 5, 17, 18, 19])
 .ret))))) }
/-- impl.RowAverage -/
def F_impl_RowAverage_L0 : LC :=
 (.seq
 (.region false [⟨some 33, .bin .lss, [.t 32, .t 31], none⟩] [])
 (.seq
 (.cond (.t 33) [33]
 .skip
 (.exit 0))
 (.seq
 (.block 1
 (.seq
 (.region false [⟨some 34, .idxa 1, [.t 30, .t 32], none⟩,
 ⟨some 35, .load 1 false, [.t 34], none⟩,
 ⟨some 11, .mv, [.t 35], none⟩] [34, 35])
 (.seq
 (.region false [⟨some 36, .mv, [.t 8], none⟩,
 ⟨some 37, .mv, [.t 0], none⟩,
 ⟨some 38, .mv, [.t 11], none⟩,
 ⟨some 39, .idxa 2, [.t 37, .t 38], none⟩,
 ⟨some 40, .fld 0 1 false, [.t 39], none⟩,
 ⟨some 41, .load 1 false, [.t 40], none⟩,
 ⟨some 42, .mv, [.t 9], none⟩,
 ⟨some 43, .bin .mul, [.t 41, .t 42], none⟩,
 ⟨some 44, .bin .add, [.t 36, .t 43], none⟩,
 ⟨some 8, .mv, [.t 44], none⟩] [36, 37, 38, 39, 40, 41, 42, 43, 44])
 (.region false [⟨some 45, .mv, [.t 9], none⟩,
 ⟨some 46, .bin .quo, [.t 45, .c (.i 6)], none⟩,
 ⟨some 47, .mv, [.t 0], none⟩,
 ⟨some 48, .mv, [.t 11], none⟩,
 ⟨some 49, .idxa 2, [.t 47, .t 48], none⟩,
 ⟨some 50, .load 2 true, [.t 49], none⟩,
 ⟨some 51, .mv, [.t 2], none⟩,
 ⟨some 52, .call n_impl_endChance 26624, [.t 50, .t 51], none⟩,
 ⟨some 53, .bin .sub, [.c (.i 6), .t 52], none⟩,
 ⟨some 54, .bin .mul, [.t 46, .t 53], none⟩,
 ⟨some 9, .mv, [.t 54], none⟩] [11, 45, 46, 47, 48, 49, 50, 51, 52, 53, 54]))))
 (.region false [⟨some 55, .bin .add, [.t 32, .c (.i 1)], none⟩,
 ⟨some 32, .mv, [.t 55], none⟩] [55]))))
def F_impl_RowAverage_W0 : LC := .loop F_impl_RowAverage_L0
def F_impl_RowAverage : LF :=
 { nparams := 3, results := [.t 6], body :=
 (.seq
 (.region false [⟨some 6, .mv, [.c (.i 0)], none⟩] [6])
 (.seq
 (.region false [⟨some 12, .mv, [.t 0], none⟩,
 ⟨some 13, .len, [.t 12], none⟩,
 ⟨some 7, .mv, [.t 13], none⟩] [12, 13])
 (.seq
 (.seq
 (.region false [⟨some 14, .mv, [.t 0], none⟩,
 ⟨some 15, .call n_impl_TestsOk 7680, [.t 14], none⟩,
 ⟨some 16, .un .not, [.t 15], none⟩,
 ⟨some 17, .mv, [.t 16], none⟩,
 ⟨some 18, .mv, [.t 7], some (17, false)⟩,
 ⟨some 19, .mv, [.t 1], some (17, false)⟩,
 ⟨some 20, .call n_impl_OrderOk 10240, [.t 18, .t 19], some (17, false)⟩,
 ⟨some 21, .un .not, [.t 20], some (17, false)⟩,
 ⟨some 22, .pick, [.t 17, .c (.b true), .t 21], none⟩,
 ⟨some 23, .mv, [.t 22], none⟩,
 ⟨some 24, .mv, [.t 2], some (23, false)⟩,
 ⟨some 25, .call n_impl_rowOk 12800, [.t 24], some (23, false)⟩,
 ⟨some 26, .un .not, [.t 25], some (23, false)⟩,
 ⟨some 27, .pick, [.t 23, .c (.b true), .t 26], none⟩] [14, 15, 16, 17, 18, 19, 20, 21, 22, 23, 24, 25, 26])
 (.cond (.t 27) [27]
 (.seq
 (.region false [⟨some 6, .mv, [.c (.i (-1))], none⟩] [0, 1, 2, 7])
 .ret)
 .skip))
 (.seq
 (.region false [⟨some 28, .mv, [.t 7], none⟩,
 ⟨some 29, .call n_impl_wholeOf 14848, [.t 28], none⟩,
 ⟨some 8, .mv, [.c (.i 0)], none⟩,
 ⟨some 9, .mv, [.t 29], none⟩] [7, 28, 29])
 (.seq
 (.seq
 (.region false [⟨some 30, .mv, [.t 1], none⟩,
 ⟨some 31, .len, [.t 30], none⟩,
 ⟨some 32, .mv, [.c (.i 0)], none⟩] [1])
 (.block 0
 F_impl_RowAverage_W0))
 (.seq
 (.region false [⟨some 56, .mv, [.t 8], none⟩,
 ⟨some 6, .mv, [.t 56], none⟩] [0, 2, 8, 9, 30, 31, 32, 56])
 .ret)))))) }
/-- impl.OtherTests -/
def F_impl_OtherTests_L0 : LC :=
 (.seq
 (.region false [⟨some 15, .bin .lss, [.t 14, .t 13], none⟩] [])
 (.seq
 (.cond (.t 15) [15]
 .skip
 (.exit 0))
 (.seq
 (.block 1
 (.seq
 (.region false [⟨some 16, .mv, [.t 14], none⟩,
 ⟨some 17, .idxa 2, [.t 12, .t 14], none⟩,
 ⟨some 18, .load 2 true, [.t 17], none⟩,
 ⟨some 5, .alloc 2576 (.st [.i 0, .i 0]), [], none⟩,
 ⟨some 4, .mv, [.t 16], none⟩,
 ⟨none, .store 2, [.t 5, .t 18], none⟩] [16, 17, 18])
 (.region false [⟨some 19, .mv, [.t 3], none⟩,
 ⟨some 20, .mv, [.t 4], none⟩,
 ⟨some 21, .fld 0 1 false, [.t 5], none⟩,
 ⟨some 22, .load 1 false, [.t 21], none⟩,
 ⟨some 23, .fld 1 1 false, [.t 5], none⟩,
 ⟨some 24, .load 1 false, [.t 23], none⟩,
 ⟨some 25, .bin .sub, [.c (.i 6), .t 24], none⟩,
 ⟨some 26, .build [.i 0, .i 0] [(0, 1), (1, 1)], [.t 22, .t 25], none⟩,
 ⟨some 27, .idxa 2, [.t 19, .t 20], none⟩,
 ⟨none, .store 2, [.t 27, .t 26], none⟩] [4, 5, 19, 20, 21, 22, 23, 24, 25, 26, 27])))
 (.region false [⟨some 28, .bin .add, [.t 14, .c (.i 1)], none⟩,
 ⟨some 14, .mv, [.t 28], none⟩] [28]))))
def F_impl_OtherTests_W0 : LC := .loop F_impl_OtherTests_L0
def F_impl_OtherTests : LF :=
 { nparams := 1, results := [.t 2], body :=
 (.seq
 (.region false [⟨some 2, .newnil 1040, [], none⟩] [2])
 (.seq
 (.seq
 (.region false [⟨some 6, .mv, [.t 0], none⟩,
 ⟨some 7, .call n_impl_TestsOk 3584, [.t 6], none⟩,
 ⟨some 8, .un .not, [.t 7], none⟩] [6, 7])
 (.cond (.t 8) [8]
 (.seq
 (.region false [⟨some 2, .newnil 1040, [], none⟩] [0])
 .ret)
 .skip))
 (.seq
 (.region false [⟨some 9, .mv, [.t 0], none⟩,
 ⟨some 10, .len, [.t 9], none⟩,
 ⟨some 11, .make 5648 2 (.st [.i 0, .i 0]), [.t 10, .t 10], none⟩,
 ⟨some 3, .mv, [.t 11], none⟩] [9, 10, 11])
 (.seq
 (.seq
 (.region false [⟨some 12, .mv, [.t 0], none⟩,
 ⟨some 13, .len, [.t 12], none⟩,
 ⟨some 14, .mv, [.c (.i 0)], none⟩] [0])
 (.block 0
 F_impl_OtherTests_W0))
 (.seq
 (.region false [⟨some 29, .mv, [.t 3], none⟩,
 ⟨some 2, .mv, [.t 29], none⟩] [3, 12, 13, 14, 29])
 .ret))))) }
/-- spec.TestsOk -/
def F_spec_TestsOk_L0 : LC :=
 (.seq
 (.seq
 (.region false [⟨some 4, .mv, [.t 3], none⟩,
 ⟨some 5, .mv, [.t 0], none⟩,
 ⟨some 6, .len, [.t 5], none⟩,
 ⟨some 7, .bin .lss, [.t 4, .t 6], none⟩] [4, 5, 6])
 (.cond (.t 7) [7]
 .skip
 (.exit 0)))
 (.seq
 (.block 1
 (.seq
 (.region false [⟨some 10, .mv, [.t 0], none⟩,
 ⟨some 11, .mv, [.t 3], none⟩,
 ⟨some 12, .idxa 2, [.t 10, .t 11], none⟩,
 ⟨some 13, .fld 0 1 false, [.t 12], none⟩,
 ⟨some 14, .load 1 false, [.t 13], none⟩,
 ⟨some 15, .call n_spec_l1In 7680, [.t 14, .c (.i 1), .c (.i 9)], none⟩,
 ⟨some 16, .un .not, [.t 15], none⟩,
 ⟨some 17, .mv, [.t 16], none⟩,
 ⟨some 18, .mv, [.t 0], some (17, false)⟩,
 ⟨some 19, .mv, [.t 3], some (17, false)⟩,
 ⟨some 20, .idxa 2, [.t 18, .t 19], some (17, false)⟩,
 ⟨some 21, .fld 1 1 false, [.t 20], some (17, false)⟩,
 ⟨some 22, .load 1 false, [.t 21], some (17, false)⟩,
 ⟨some 23, .call n_spec_l1In 11776, [.t 22, .c (.i 1), .c (.i 5)], some (17, false)⟩,
 ⟨some 24, .un .not, [.t 23], some (17, false)⟩,
 ⟨some 25, .pick, [.t 17, .c (.b true), .t 24], none⟩] [10, 11, 12, 13, 14, 15, 16, 17, 18, 19, 20, 21, 22, 23, 24])
 (.cond (.t 25) [25]
 (.seq
 (.region false [⟨some 2, .mv, [.c (.b false)], none⟩] [0, 3])
 .ret)
 .skip)))
 (.region false [⟨some 8, .mv, [.t 3], none⟩,
 ⟨some 9, .bin .add, [.t 8, .c (.i 1)], none⟩,
 ⟨some 3, .mv, [.t 9], none⟩] [8, 9])))
def F_spec_TestsOk_W0 : LC := .loop F_spec_TestsOk_L0
def F_spec_TestsOk : LF :=
 { nparams := 1, results := [.t 2], body :=
 (.seq
 (.region false [⟨some 2, .mv, [.c (.b false)], none⟩] [2])
 (.seq
 (.seq
 (.region false [⟨some 3, .mv, [.c (.i 0)], none⟩] [])
 (.block 0
 F_spec_TestsOk_W0))
 (.seq
 (.region false [⟨some 26, .mv, [.t 0], none⟩,
 ⟨some 27, .len, [.t 26], none⟩,
 ⟨some 28, .call n_spec_l1In 14336, [.t 27, .c (.i 1), .c (.i 5)], none⟩,
 ⟨some 2, .mv, [.t 28], none⟩] [0, 3, 26, 27, 28])
 .ret))) }
/-- impl.TestsOk -/
def F_impl_TestsOk_L0 : LC :=
 (.seq
 (.region false [⟨some 12, .bin .lss, [.t 11, .t 10], none⟩] [])
 (.seq
 (.cond (.t 12) [12]
 .skip
 (.exit 0))
 (.seq
 (.block 1
 (.seq
 (.region false [⟨some 13, .idxa 2, [.t 9, .t 11], none⟩,
 ⟨some 14, .load 2 true, [.t 13], none⟩,
 ⟨some 4, .alloc 2064 (.st [.i 0, .i 0]), [], none⟩,
 ⟨none, .store 2, [.t 4, .t 14], none⟩] [13, 14])
 (.seq
 (.region false [⟨some 15, .fld 0 1 false, [.t 4], none⟩,
 ⟨some 16, .load 1 false, [.t 15], none⟩,
 ⟨some 17, .call n_impl_isWithin 8704, [.t 16, .c (.i 1), .c (.i 9)], none⟩,
 ⟨some 18, .un .not, [.t 17], none⟩,
 ⟨some 19, .mv, [.t 18], none⟩,
 ⟨some 20, .fld 1 1 false, [.t 4], some (19, false)⟩,
 ⟨some 21, .load 1 false, [.t 20], some (19, false)⟩,
 ⟨some 22, .call n_impl_isWithin 11264, [.t 21, .c (.i 1), .c (.i 5)], some (19, false)⟩,
 ⟨some 23, .un .not, [.t 22], some (19, false)⟩,
 ⟨some 24, .pick, [.t 19, .c (.b true), .t 23], none⟩] [4, 15, 16, 17, 18, 19, 20, 21, 22, 23])
 (.cond (.t 24) [24]
 (.seq
 (.region false [⟨some 2, .mv, [.c (.b false)], none⟩] [9, 10, 11])
 .ret)
 .skip))))
 (.region false [⟨some 25, .bin .add, [.t 11, .c (.i 1)], none⟩,
 ⟨some 11, .mv, [.t 25], none⟩] [25]))))
def F_impl_TestsOk_W0 : LC := .loop F_impl_TestsOk_L0
def F_impl_TestsOk : LF :=
 { nparams := 1, results := [.t 2], body :=
 (.seq
 (.region false [⟨some 2, .mv, [.c (.b false)], none⟩] [2])
 (.seq
 (.seq
 (.region false [⟨some 5, .mv, [.t 0], none⟩,
 ⟨some 6, .len, [.t 5], none⟩,
 ⟨some 7, .call n_impl_manyOk 3584, [.t 6], none⟩,
 ⟨some 8, .un .not, [.t 7], none⟩] [5, 6, 7])
 (.cond (.t 8) [8]
 (.seq
 (.region false [⟨some 2, .mv, [.c (.b false)], none⟩] [0])
 .ret)
 .skip))
 (.seq
 (.seq
 (.region false [⟨some 9, .mv, [.t 0], none⟩,
 ⟨some 10, .len, [.t 9], none⟩,
 ⟨some 11, .mv, [.c (.i 0)], none⟩] [0])
 (.block 0
 F_impl_TestsOk_W0))
 (.seq
 (.region false [⟨some 2, .mv, [.c (.b true)], none⟩] [9, 10, 11])
 .ret)))) }
/-- spec.l20Open -/
def F_spec_l20Open : LF :=
 { nparams := 1, results := [.t 2], body :=
 (.seq
 (.region false [⟨some 2, .mv, [.c (.np)], none⟩] [2])
 (.seq
 (.seq
 (.region false [⟨some 3, .mv, [.t 0], none⟩,
 ⟨some 4, .len, [.t 3], none⟩,
 ⟨some 5, .bin .gtr, [.t 4, .c (.i 2000)], none⟩] [3, 4])
 (.cond (.t 5) [5]
 (.region false [⟨some 6, .mv, [.t 0], none⟩,
 ⟨some 7, .slice false true 1, [.t 6, .c (.i 2000)], none⟩,
 ⟨some 0, .mv, [.t 7], none⟩] [6, 7])
 .skip))
 (.seq
 (.region false [⟨some 8, .mv, [.t 0], none⟩,
 ⟨some 9, .build [.sl 1 [], .i 0] [(0, 1)], [.t 8], none⟩,
 ⟨some 10, .box 5136, [.t 9], none⟩,
 ⟨some 2, .mv, [.t 10], none⟩] [0, 8, 9, 10])
 .ret))) }
/-- spec.l20Tests -/
def F_spec_l20Tests_L0 : LC :=
 (.seq
 (.seq
 (.region false [⟨some 11, .mv, [.t 6], none⟩,
 ⟨some 12, .bin .gtr, [.t 11, .c (.i 0)], none⟩] [11])
 (.cond (.t 12) [12]
 .skip
 (.exit 0)))
 (.seq
 (.block 1
 (.region false [⟨some 15, .mv, [.t 5], none⟩,
 ⟨some 16, .mv, [.t 0], none⟩,
 ⟨some 17, .call n_spec_l20Rd_pick 8704, [.t 16, .c (.i 9)], none⟩,
 ⟨some 18, .bin .add, [.c (.i 1), .t 17], none⟩,
 ⟨some 19, .mv, [.t 0], none⟩,
 ⟨some 20, .call n_spec_l20Rd_pick 10240, [.t 19, .c (.i 5)], none⟩,
 ⟨some 21, .bin .add, [.c (.i 1), .t 20], none⟩,
 ⟨some 22, .build [.i 0, .i 0] [(0, 1), (1, 1)], [.t 18, .t 21], none⟩,
 ⟨some 23, .bslice 11792 1 2 (.st [.i 0, .i 0]) [0], [.t 22], none⟩,
 ⟨some 24, .app 12304 2, [.t 15, .t 23], none⟩,
 ⟨some 5, .mv, [.t 24], none⟩] [15, 16, 17, 18, 19, 20, 21, 22, 23, 24]))
 (.region false [⟨some 13, .mv, [.t 6], none⟩,
 ⟨some 14, .bin .sub, [.t 13, .c (.i 1)], none⟩,
 ⟨some 6, .mv, [.t 14], none⟩] [13, 14])))
def F_spec_l20Tests_W0 : LC := .loop F_spec_l20Tests_L0
def F_spec_l20Tests : LF :=
 { nparams := 2, results := [.t 4], body :=
 (.seq
 (.region false [⟨some 4, .newnil 2064, [], none⟩] [4])
 (.seq
 (.region false [⟨some 7, .bslice 3600 0 2 (.st [.i 0, .i 0]) [], [], none⟩,
 ⟨some 5, .mv, [.t 7], none⟩] [7])
 (.seq
 (.seq
 (.region false [⟨some 8, .mv, [.t 0], none⟩,
 ⟨some 9, .call n_spec_l20Rd_pick 4608, [.t 8, .c (.i 5)], none⟩,
 ⟨some 10, .bin .add, [.c (.i 1), .t 9], none⟩,
 ⟨some 6, .mv, [.t 10], none⟩] [8, 9, 10])
 (.block 0
 F_spec_l20Tests_W0))
 (.seq
 (.seq
 (.region false [⟨some 25, .mv, [.t 0], none⟩,
 ⟨some 26, .mv, [.t 1], none⟩,
 ⟨some 27, .call n_spec_l20Rd_odd 13824, [.t 25, .t 26], none⟩] [1, 6, 25, 26])
 (.cond (.t 27) [27]
 (.seq
 (.region false [⟨some 28, .mv, [.t 0], none⟩,
 ⟨some 29, .call n_spec_l20Rd_pick 14848, [.t 28, .c (.i 3)], none⟩] [28])
 (.block 2
 (.seq
 (.region false [⟨some 39, .bin .eql, [.t 29, .c (.i 0)], none⟩,
 ⟨some 38, .mv, [.t 39], none⟩] [39])
 (.cond (.t 38) [38]
 (.seq
 (.region false [⟨some 40, .bslice 20496 0 2 (.st [.i 0, .i 0]) [], [], none⟩,
 ⟨some 4, .mv, [.t 40], none⟩] [5, 29, 40])
 .ret)
 (.seq
 (.region false [⟨some 42, .bin .eql, [.t 29, .c (.i 1)], none⟩,
 ⟨some 41, .mv, [.t 42], none⟩] [29, 42])
 (.cond (.t 41) [41]
 (.region false [⟨some 43, .mv, [.t 5], none⟩,
 ⟨some 44, .bslice 22536 2 1 (.i 0) [0, 1], [.c (.i 0), .c (.i 10)], none⟩,
 ⟨some 45, .mv, [.t 0], none⟩,
 ⟨some 46, .call n_spec_l20Rd_pick 23552, [.t 45, .c (.i 2)], none⟩,
 ⟨some 47, .idxa 1, [.t 44, .t 46], none⟩,
 ⟨some 48, .load 1 false, [.t 47], none⟩,
 ⟨some 49, .idxa 2, [.t 43, .c (.i 0)], none⟩,
 ⟨some 50, .fld 0 1 false, [.t 49], none⟩,
 ⟨none, .store 1, [.t 50, .t 48], none⟩] [43, 44, 45, 46, 47, 48, 49, 50])
 (.region false [⟨some 30, .mv, [.t 5], none⟩,
 ⟨some 31, .bslice 15880 2 1 (.i 0) [0, 1], [.c (.i 0), .c (.i 6)], none⟩,
 ⟨some 32, .mv, [.t 0], none⟩,
 ⟨some 33, .call n_spec_l20Rd_pick 16896, [.t 32, .c (.i 2)], none⟩,
 ⟨some 34, .idxa 1, [.t 31, .t 33], none⟩,
 ⟨some 35, .load 1 false, [.t 34], none⟩,
 ⟨some 36, .idxa 2, [.t 30, .c (.i 0)], none⟩,
 ⟨some 37, .fld 1 1 false, [.t 36], none⟩,
 ⟨none, .store 1, [.t 37, .t 35], none⟩] [30, 31, 32, 33, 34, 35, 36, 37])))))))
 .skip))
 (.seq
 (.region false [⟨some 51, .mv, [.t 5], none⟩,
 ⟨some 4, .mv, [.t 51], none⟩] [5, 51])
 .ret))))) }
/-- spec.l20Rd).pick -/
def F_spec_l20Rd_pick : LF :=
 { nparams := 2, results := [.t 4], body :=
 (.seq
 (.region false [⟨some 4, .mv, [.c (.i 0)], none⟩] [4])
 (.seq
 (.region false [⟨some 7, .mv, [.t 0], none⟩,
 ⟨some 8, .mv, [.t 0], none⟩,
 ⟨some 9, .chk, [.t 8], none⟩,
 ⟨some 10, .fld 1 1 false, [.t 9], none⟩,
 ⟨some 11, .load 1 false, [.t 10], none⟩,
 ⟨some 12, .bin .add, [.t 11, .c (.i 1)], none⟩,
 ⟨some 13, .chk, [.t 7], none⟩,
 ⟨some 14, .fld 1 1 false, [.t 13], none⟩,
 ⟨none, .store 1, [.t 14, .t 12], none⟩] [7, 8, 9, 10, 11, 12, 13, 14])
 (.seq
 (.seq
 (.region false [⟨some 15, .mv, [.t 1], none⟩,
 ⟨some 16, .bin .lss, [.t 15, .c (.i 1)], none⟩,
 ⟨some 17, .mv, [.t 16], none⟩,
 ⟨some 18, .mv, [.t 0], some (17, false)⟩,
 ⟨some 19, .chk, [.t 18], some (17, false)⟩,
 ⟨some 20, .fld 0 1 false, [.t 19], some (17, false)⟩,
 ⟨some 21, .load 1 false, [.t 20], some (17, false)⟩,
 ⟨some 22, .len, [.t 21], some (17, false)⟩,
 ⟨some 23, .bin .eql, [.t 22, .c (.i 0)], some (17, false)⟩,
 ⟨some 24, .pick, [.t 17, .c (.b true), .t 23], none⟩] [15, 16, 17, 18, 19, 20, 21, 22, 23])
 (.cond (.t 24) [24]
 (.seq
 (.region false [⟨some 4, .mv, [.c (.i 0)], none⟩] [1])
 .ret)
 .skip))
 (.seq
 (.region false [⟨some 25, .mv, [.t 0], none⟩,
 ⟨some 26, .chk, [.t 25], none⟩,
 ⟨some 27, .fld 1 1 false, [.t 26], none⟩,
 ⟨some 28, .load 1 false, [.t 27], none⟩,
 ⟨some 29, .bin .sub, [.t 28, .c (.i 1)], none⟩,
 ⟨some 5, .mv, [.t 29], none⟩] [25, 26, 27, 28, 29])
 (.seq
 (.seq
 (.region false [⟨some 30, .mv, [.t 5], none⟩,
 ⟨some 31, .mv, [.t 0], none⟩,
 ⟨some 32, .chk, [.t 31], none⟩,
 ⟨some 33, .fld 0 1 false, [.t 32], none⟩,
 ⟨some 34, .load 1 false, [.t 33], none⟩,
 ⟨some 35, .len, [.t 34], none⟩,
 ⟨some 36, .bin .lss, [.t 30, .t 35], none⟩] [30, 31, 32, 33, 34, 35])
 (.cond (.t 36) [36]
 (.seq
 (.region false [⟨some 37, .mv, [.t 0], none⟩,
 ⟨some 38, .chk, [.t 37], none⟩,
 ⟨some 39, .fld 0 1 false, [.t 38], none⟩,
 ⟨some 40, .load 1 false, [.t 39], none⟩,
 ⟨some 41, .mv, [.t 5], none⟩,
 ⟨some 42, .idxa 1, [.t 40, .t 41], none⟩,
 ⟨some 43, .load 1 false, [.t 42], none⟩,
 ⟨some 44, .conv .b2i 22528, [.t 43], none⟩,
 ⟨some 45, .mv, [.t 1], none⟩,
 ⟨some 46, .bin .rem, [.t 44, .t 45], none⟩,
 ⟨some 4, .mv, [.t 46], none⟩] [1, 5, 37, 38, 39, 40, 41, 42, 43, 44, 45, 46])
 .ret)
 .skip))
 (.seq
 (.region true [⟨some 47, .mv, [.t 0], none⟩,
 ⟨some 48, .chk, [.t 47], none⟩,
 ⟨some 49, .fld 0 1 false, [.t 48], none⟩,
 ⟨some 50, .load 1 false, [.t 49], none⟩,
 ⟨some 51, .mv, [.t 5], none⟩,
 ⟨some 52, .mv, [.t 0], none⟩,
 ⟨some 53, .chk, [.t 52], none⟩,
 ⟨some 54, .fld 0 1 false, [.t 53], none⟩,
 ⟨some 55, .load 1 false, [.t 54], none⟩,
 ⟨some 56, .len, [.t 55], none⟩,
 ⟨some 57, .bin .rem, [.t 51, .t 56], none⟩,
 ⟨some 58, .idxa 1, [.t 50, .t 57], none⟩,
 ⟨some 59, .load 1 false, [.t 58], none⟩,
 ⟨some 60, .conv .b2i 30720, [.t 59], none⟩,
 ⟨some 61, .bin .mul, [.t 60, .c (.i 131)], none⟩,
 ⟨some 62, .mv, [.t 0], none⟩,
 ⟨some 63, .chk, [.t 62], none⟩,
 ⟨some 64, .fld 0 1 false, [.t 63], none⟩,
 ⟨some 65, .load 1 false, [.t 64], none⟩,
 ⟨some 66, .mv, [.t 5], none⟩,
 ⟨some 67, .bin .mul, [.t 66, .c (.i 7)], none⟩,
 ⟨some 68, .bin .add, [.t 67, .c (.i 3)], none⟩,
 ⟨some 69, .mv, [.t 0], none⟩,
 ⟨some 70, .chk, [.t 69], none⟩,
 ⟨some 71, .fld 0 1 false, [.t 70], none⟩,
 ⟨some 72, .load 1 false, [.t 71], none⟩,
 ⟨some 73, .len, [.t 72], none⟩,
 ⟨some 74, .bin .rem, [.t 68, .t 73], none⟩,
 ⟨some 75, .idxa 1, [.t 65, .t 74], none⟩,
 ⟨some 76, .load 1 false, [.t 75], none⟩,
 ⟨some 77, .conv .b2i 39424, [.t 76], none⟩,
 ⟨some 78, .bin .mul, [.t 77, .c (.i 1117)], none⟩,
 ⟨some 79, .bin .add, [.t 61, .t 78], none⟩,
 ⟨some 80, .mv, [.t 5], none⟩,
 ⟨some 81, .bin .mul, [.t 80, .c (.i 29)], none⟩,
 ⟨some 82, .bin .add, [.t 79, .t 81], none⟩,
 ⟨some 83, .mv, [.t 5], none⟩,
 ⟨some 84, .mv, [.t 0], none⟩,
 ⟨some 85, .chk, [.t 84], none⟩,
 ⟨some 86, .fld 0 1 false, [.t 85], none⟩,
 ⟨some 87, .load 1 false, [.t 86], none⟩,
 ⟨some 88, .len, [.t 87], none⟩,
 ⟨some 89, .bin .quo, [.t 83, .t 88], none⟩,
 ⟨some 90, .bin .mul, [.t 89, .c (.i 53)], none⟩,
 ⟨some 91, .bin .add, [.t 82, .t 90], none⟩,
 ⟨some 6, .mv, [.t 91], none⟩] [5, 47, 48, 49, 50, 51, 52, 53, 54, 55, 56, 57, 58, 59, 60, 61, 62, 63, 64, 65, 66, 67, 68, 69, 70, 71, 72, 73, 74, 75, 76, 77, 78, 79, 80, 81, 82, 83, 84, 85, 86, 87, 88, 89, 90, 91])
 (.seq
 (.region false [⟨some 92, .mv, [.t 6], none⟩,
 ⟨some 93, .mv, [.t 6], none⟩,
 ⟨some 94, .bin .quo, [.t 93, .c (.i 64)], none⟩,
 ⟨some 95, .bin .xor, [.t 92, .t 94], none⟩,
 ⟨some 6, .mv, [.t 95], none⟩] [92, 93, 94, 95])
 (.seq
 (.region false [⟨some 96, .mv, [.t 6], none⟩,
 ⟨some 97, .mv, [.t 1], none⟩,
 ⟨some 98, .bin .rem, [.t 96, .t 97], none⟩,
 ⟨some 4, .mv, [.t 98], none⟩] [1, 6, 96, 97, 98])
 .ret)))))))) }
/-- impl.rowOk -/
def F_impl_rowOk : LF :=
 { nparams := 1, results := [.t 2], body :=
 (.seq
 (.region false [⟨some 2, .mv, [.c (.b false)], none⟩] [2])
 (.seq
 (.region false [⟨some 3, .mv, [.t 0], none⟩,
 ⟨some 4, .bin .eql, [.t 3, .c (.i 0)], none⟩,
 ⟨some 5, .mv, [.t 4], none⟩,
 ⟨some 6, .mv, [.t 0], some (5, false)⟩,
 ⟨some 7, .bin .eql, [.t 6, .c (.i 1)], some (5, false)⟩,
 ⟨some 8, .pick, [.t 5, .c (.b true), .t 7], none⟩,
 ⟨some 2, .mv, [.t 8], none⟩] [0, 3, 4, 5, 6, 7, 8])
 .ret)) }
/-- impl.RatioOrder$1 -/
def F_impl_RatioOrder_1 : LF :=
 { nparams := 4, results := [.t 6], body :=
 (.seq
 (.region false [⟨some 6, .mv, [.c (.b false)], none⟩] [6])
 (.seq
 (.region true [⟨some 7, .load 1 false, [.t 2], none⟩,
 ⟨some 8, .mv, [.t 0], none⟩,
 ⟨some 9, .idxa 2, [.t 7, .t 8], none⟩,
 ⟨some 10, .load 2 true, [.t 9], none⟩,
 ⟨some 11, .load 1 false, [.t 3], none⟩,
 ⟨some 12, .call n_impl_ratioOf 6144, [.t 10, .t 11], none⟩,
 ⟨some 13, .load 1 false, [.t 2], none⟩,
 ⟨some 14, .mv, [.t 1], none⟩,
 ⟨some 15, .idxa 2, [.t 13, .t 14], none⟩,
 ⟨some 16, .load 2 true, [.t 15], none⟩,
 ⟨some 17, .load 1 false, [.t 3], none⟩,
 ⟨some 18, .call n_impl_ratioOf 9216, [.t 16, .t 17], none⟩,
 ⟨some 19, .call n_impl_ratio_isLess 9728, [.t 12, .t 18], none⟩,
 ⟨some 6, .mv, [.t 19], none⟩] [0, 1, 2, 3, 7, 8, 9, 10, 11, 12, 13, 14, 15, 16, 17, 18, 19])
 .ret)) }
/-- impl.ratioOf -/
def F_impl_ratioOf : LF :=
 { nparams := 2, results := [.c 4 2 true], body :=
 (.seq
 (.region false [⟨some 2, .box 1040, [.t 0], none⟩,
 ⟨some 4, .alloc 2064 (.st [.i 0, .i 0]), [], none⟩] [0])
 (.seq
 (.region true [⟨some 5, .fld 0 1 false, [.t 2], none⟩,
 ⟨some 6, .load 1 false, [.t 5], none⟩,
 ⟨some 7, .load 2 true, [.t 2], none⟩,
 ⟨some 8, .mv, [.t 1], none⟩,
 ⟨some 9, .call n_impl_endChance 4608, [.t 7, .t 8], none⟩,
 ⟨some 10, .build [.i 0, .i 0] [(0, 1), (1, 1)], [.t 6, .t 9], none⟩,
 ⟨none, .store 2, [.t 4, .t 10], none⟩] [1, 2, 5, 6, 7, 8, 9, 10])
 .ret)) }
/-- impl.ratio).isLess -/
def F_impl_ratio_isLess : LF :=
 { nparams := 2, results := [.t 4], body :=
 (.seq
 (.region false [⟨some 2, .box 1040, [.t 0], none⟩,
 ⟨some 3, .box 1552, [.t 1], none⟩,
 ⟨some 4, .mv, [.c (.b false)], none⟩] [0, 1, 4])
 (.seq
 (.region false [⟨some 5, .fld 0 1 false, [.t 2], none⟩,
 ⟨some 6, .load 1 false, [.t 5], none⟩,
 ⟨some 7, .fld 1 1 false, [.t 3], none⟩,
 ⟨some 8, .load 1 false, [.t 7], none⟩,
 ⟨some 9, .bin .mul, [.t 6, .t 8], none⟩,
 ⟨some 10, .fld 0 1 false, [.t 3], none⟩,
 ⟨some 11, .load 1 false, [.t 10], none⟩,
 ⟨some 12, .fld 1 1 false, [.t 2], none⟩,
 ⟨some 13, .load 1 false, [.t 12], none⟩,
 ⟨some 14, .bin .mul, [.t 11, .t 13], none⟩,
 ⟨some 15, .bin .lss, [.t 9, .t 14], none⟩,
 ⟨some 4, .mv, [.t 15], none⟩] [2, 3, 5, 6, 7, 8, 9, 10, 11, 12, 13, 14, 15])
 .ret)) }
/-- impl.inserted[int] -/
def F_impl_inserted_int_L0 : LC :=
 (.seq
 (.seq
 (.region false [⟨some 10, .mv, [.t 7], none⟩,
 ⟨some 11, .bin .gtr, [.t 10, .c (.i 0)], none⟩,
 ⟨some 12, .mv, [.t 11], none⟩,
 ⟨some 13, .mv, [.t 2], some (12, true)⟩,
 ⟨some 14, .mv, [.t 1], some (12, true)⟩,
 ⟨some 15, .mv, [.t 0], some (12, true)⟩,
 ⟨some 16, .mv, [.t 7], some (12, true)⟩,
 ⟨some 17, .bin .sub, [.t 16, .c (.i 1)], some (12, true)⟩,
 ⟨some 18, .idxa 1, [.t 15, .t 17], some (12, true)⟩,
 ⟨some 19, .load 1 false, [.t 18], some (12, true)⟩,
 ⟨some 20, .calld 10240, [.t 13, .t 14, .t 19], some (12, true)⟩,
 ⟨some 21, .pick, [.t 12, .t 20, .c (.b false)], none⟩] [10, 11, 12, 13, 14, 15, 16, 17, 18, 19, 20])
 (.cond (.t 21) [21]
 .skip
 (.exit 0)))
 (.block 1
 (.region false [⟨some 22, .mv, [.t 7], none⟩,
 ⟨some 23, .bin .sub, [.t 22, .c (.i 1)], none⟩,
 ⟨some 7, .mv, [.t 23], none⟩] [22, 23])))
def F_impl_inserted_int_W0 : LC := .loop F_impl_inserted_int_L0
def F_impl_inserted_int : LF :=
 { nparams := 3, results := [.t 6], body :=
 (.seq
 (.region false [⟨some 6, .newnil 3080, [], none⟩] [6])
 (.seq
 (.region false [⟨some 8, .mv, [.t 0], none⟩,
 ⟨some 9, .len, [.t 8], none⟩,
 ⟨some 7, .mv, [.t 9], none⟩] [8, 9])
 (.seq
 (.block 0
 F_impl_inserted_int_W0)
 (.seq
 (.region false [⟨some 24, .mv, [.t 0], none⟩,
 ⟨some 25, .mv, [.t 7], none⟩,
 ⟨some 26, .mv, [.t 1], none⟩,
 ⟨some 27, .bslice 13832 1 1 (.i 0) [0], [.t 26], none⟩,
 ⟨some 28, .callm n_slices_Insert_int_int [0, 2] 14342, [.t 24, .t 25, .t 27], none⟩,
 ⟨some 6, .mv, [.t 28], none⟩] [0, 1, 2, 7, 24, 25, 26, 27, 28])
 .ret)))) }
/-- spec.l1In -/
def F_spec_l1In : LF :=
 { nparams := 3, results := [.t 6], body :=
 (.seq
 (.region false [⟨some 6, .mv, [.c (.b false)], none⟩] [6])
 (.seq
 (.region false [⟨some 7, .mv, [.t 0], none⟩,
 ⟨some 8, .mv, [.t 1], none⟩,
 ⟨some 9, .bin .geq, [.t 7, .t 8], none⟩,
 ⟨some 10, .mv, [.t 9], none⟩,
 ⟨some 11, .mv, [.t 0], some (10, true)⟩,
 ⟨some 12, .mv, [.t 2], some (10, true)⟩,
 ⟨some 13, .bin .leq, [.t 11, .t 12], some (10, true)⟩,
 ⟨some 14, .pick, [.t 10, .t 13, .c (.b false)], none⟩,
 ⟨some 6, .mv, [.t 14], none⟩] [0, 1, 2, 7, 8, 9, 10, 11, 12, 13, 14])
 .ret)) }
/-- spec.l5Ends -/
def F_spec_l5Ends : LF :=
 { nparams := 2, results := [.t 4], body :=
 (.seq
 (.region false [⟨some 2, .box 1040, [.t 0], none⟩,
 ⟨some 4, .mv, [.c (.i 0)], none⟩] [0, 4])
 (.seq
 (.seq
 (.region false [⟨some 5, .mv, [.t 1], none⟩,
 ⟨some 6, .bin .eql, [.t 5, .c (.i 0)], none⟩] [1, 5])
 (.cond (.t 6) [6]
 (.seq
 (.region false [⟨some 7, .fld 1 1 false, [.t 2], none⟩,
 ⟨some 8, .load 1 false, [.t 7], none⟩,
 ⟨some 9, .bin .sub, [.c (.i 6), .t 8], none⟩,
 ⟨some 4, .mv, [.t 9], none⟩] [2, 7, 8, 9])
 .ret)
 .skip))
 (.seq
 (.region false [⟨some 10, .fld 1 1 false, [.t 2], none⟩,
 ⟨some 11, .load 1 false, [.t 10], none⟩,
 ⟨some 4, .mv, [.t 11], none⟩] [2, 10, 11])
 .ret))) }
/-- impl.TermOk -/
def F_impl_TermOk_L0 : LC :=
 (.seq
 (.region false [⟨some 21, .bin .lss, [.t 20, .t 19], none⟩] [])
 (.seq
 (.cond (.t 21) [21]
 .skip
 (.exit 0))
 (.seq
 (.block 1
 (.seq
 (.region false [⟨some 22, .idxa 2, [.t 18, .t 20], none⟩,
 ⟨some 23, .load 2 true, [.t 22], none⟩,
 ⟨some 7, .alloc 3600 (.st [.i 0, .i 0]), [], none⟩,
 ⟨none, .store 2, [.t 7, .t 23], none⟩] [22, 23])
 (.seq
 (.region false [⟨some 24, .fld 0 1 false, [.t 7], none⟩,
 ⟨some 25, .load 1 false, [.t 24], none⟩,
 ⟨some 26, .call n_impl_partsTaken 13312, [.t 25], none⟩,
 ⟨some 8, .mv, [.t 26], none⟩] [24, 25, 26])
 (.seq
 (.seq
 (.region false [⟨some 27, .mv, [.t 0], none⟩,
 ⟨some 28, .load 2 true, [.t 7], none⟩,
 ⟨some 29, .call n_impl_markOk 14848, [.t 27, .t 28], none⟩,
 ⟨some 30, .un .not, [.t 29], none⟩,
 ⟨some 31, .mv, [.t 30], none⟩,
 ⟨some 32, .mv, [.t 5], some (31, false)⟩,
 ⟨some 33, .mv, [.t 8], some (31, false)⟩,
 ⟨some 34, .bin .lss, [.t 32, .t 33], some (31, false)⟩,
 ⟨some 35, .pick, [.t 31, .c (.b true), .t 34], none⟩] [7, 27, 28, 29, 30, 31, 32, 33, 34])
 (.cond (.t 35) [35]
 (.seq
 (.region false [⟨some 4, .mv, [.c (.b false)], none⟩] [0, 5, 8, 18, 19, 20])
 .ret)
 .skip))
 (.region false [⟨some 36, .mv, [.t 5], none⟩,
 ⟨some 37, .mv, [.t 8], none⟩,
 ⟨some 38, .bin .sub, [.c (.i 1), .t 37], none⟩,
 ⟨some 39, .bin .add, [.t 36, .t 38], none⟩,
 ⟨some 5, .mv, [.t 39], none⟩] [8, 36, 37, 38, 39])))))
 (.region false [⟨some 40, .bin .add, [.t 20, .c (.i 1)], none⟩,
 ⟨some 20, .mv, [.t 40], none⟩] [40]))))
def F_impl_TermOk_W0 : LC := .loop F_impl_TermOk_L0
def F_impl_TermOk : LF :=
 { nparams := 2, results := [.t 4], body :=
 (.seq
 (.region false [⟨some 4, .mv, [.c (.b false)], none⟩] [4])
 (.seq
 (.seq
 (.region false [⟨some 9, .mv, [.t 0], none⟩,
 ⟨some 10, .call n_impl_manyOk 5120, [.t 9], none⟩,
 ⟨some 11, .un .not, [.t 10], none⟩,
 ⟨some 12, .mv, [.t 11], none⟩,
 ⟨some 13, .mv, [.t 1], some (12, false)⟩,
 ⟨some 14, .len, [.t 13], some (12, false)⟩,
 ⟨some 15, .call n_impl_isWithin 7680, [.t 14, .c (.i 1), .c (.i 13)], some (12, false)⟩,
 ⟨some 16, .un .not, [.t 15], some (12, false)⟩,
 ⟨some 17, .pick, [.t 12, .c (.b true), .t 16], none⟩] [9, 10, 11, 12, 13, 14, 15, 16])
 (.cond (.t 17) [17]
 (.seq
 (.region false [⟨some 4, .mv, [.c (.b false)], none⟩] [0, 1])
 .ret)
 .skip))
 (.seq
 (.region false [⟨some 5, .mv, [.c (.i 0)], none⟩] [])
 (.seq
 (.seq
 (.region false [⟨some 18, .mv, [.t 1], none⟩,
 ⟨some 19, .len, [.t 18], none⟩,
 ⟨some 20, .mv, [.c (.i 0)], none⟩] [1])
 (.block 0
 F_impl_TermOk_W0))
 (.seq
 (.region false [⟨some 41, .mv, [.t 5], none⟩,
 ⟨some 42, .bin .eql, [.t 41, .c (.i 1)], none⟩,
 ⟨some 4, .mv, [.t 42], none⟩] [0, 5, 18, 19, 20, 41, 42])
 .ret))))) }
/-- impl.bestBehind -/
def F_impl_bestBehind_L0 : LC :=
 (.ghost (.rename 8 4104)
 (.seq
 (.region false [⟨some 17, .bin .lss, [.t 16, .t 15], none⟩] [])
 (.seq
 (.cond (.t 17) [17]
 .skip
 (.exit 0))
 (.seq
 (.block 1
 (.seq
 (.region false [⟨some 18, .mv, [.t 16], none⟩,
 ⟨some 19, .idxa 2, [.t 14, .t 16], none⟩,
 ⟨some 20, .load 2 true, [.t 19], none⟩,
 ⟨some 11, .alloc 5648 (.st [.i 0, .i 0]), [], none⟩,
 ⟨some 10, .mv, [.t 18], none⟩,
 ⟨none, .store 2, [.t 11, .t 20], none⟩] [18, 19, 20])
 (.seq
 (.seq
 (.region false [⟨some 21, .mv, [.t 2], none⟩,
 ⟨some 22, .mv, [.t 10], none⟩,
 ⟨some 23, .call n_impl_hasTest 11776, [.t 21, .t 22], none⟩] [21, 22])
 (.cond (.t 23) [23]
 (.exit 1)
 .skip))
 (.seq
 (.region false [⟨some 25, .mv, [.t 0], none⟩,
 ⟨some 26, .mv, [.t 1], none⟩,
 ⟨some 27, .mv, [.t 2], none⟩,
 ⟨some 28, .mv, [.t 10], none⟩,
 ⟨some 29, .bin .shl, [.c (.i 1), .t 28], none⟩,
 ⟨some 30, .bin .or, [.t 27, .t 29], none⟩,
 ⟨some 31, .call n_impl_bestBehind 15872, [.t 25, .t 26, .t 30], none⟩,
 ⟨some 24, .mv, [.t 31], none⟩,
 ⟨some 32, .ext 0, [.t 24], none⟩,
 ⟨some 33, .ext 1, [.t 24], none⟩,
 ⟨some 12, .mv, [.t 32], none⟩,
 ⟨some 13, .mv, [.t 33], none⟩] [24, 25, 26, 27, 28, 29, 30, 31, 32, 33])
 (.seq
 (.region true [⟨some 34, .mv, [.t 13], none⟩,
 ⟨some 35, .fld 0 1 false, [.t 11], none⟩,
 ⟨some 36, .load 1 false, [.t 35], none⟩,
 ⟨some 37, .mv, [.t 1], none⟩,
 ⟨some 38, .mv, [.t 2], none⟩,
 ⟨some 39, .idxa 1, [.t 37, .t 38], none⟩,
 ⟨some 40, .load 1 false, [.t 39], none⟩,
 ⟨some 41, .bin .mul, [.t 36, .t 40], none⟩,
 ⟨some 42, .bin .add, [.t 34, .t 41], none⟩,
 ⟨some 13, .mv, [.t 42], none⟩] [11, 34, 35, 36, 37, 38, 39, 40, 41, 42])
 (.seq
 (.region false [⟨some 43, .mv, [.t 8], none⟩,
 ⟨some 44, .eqn false, [.t 43], none⟩,
 ⟨some 45, .mv, [.t 44], none⟩,
 ⟨some 46, .mv, [.t 13], some (45, false)⟩,
 ⟨some 47, .mv, [.t 9], some (45, false)⟩,
 ⟨some 48, .bin .lss, [.t 46, .t 47], some (45, false)⟩,
 ⟨some 49, .pick, [.t 45, .c (.b true), .t 48], none⟩] [43, 44, 45, 46, 47, 48])
 (.cond (.t 49) [49]
 (.region false [⟨some 50, .mv, [.t 10], none⟩,
 ⟨some 51, .bslice 26120 1 1 (.i 0) [0], [.t 50], none⟩,
 ⟨some 52, .mv, [.t 12], none⟩,
 ⟨some 53, .app 27144 1, [.t 51, .t 52], none⟩,
 ⟨some 54, .mv, [.t 13], none⟩,
 ⟨some 8, .mv, [.t 53], none⟩,
 ⟨some 9, .mv, [.t 54], none⟩] [10, 12, 13, 50, 51, 52, 53, 54])
 .skip)))))))
 (.region false [⟨some 55, .bin .add, [.t 16, .c (.i 1)], none⟩,
 ⟨some 16, .mv, [.t 55], none⟩] [10, 11, 12, 13, 55])))))
def F_impl_bestBehind_W0 : LC := .loop F_impl_bestBehind_L0
def F_impl_bestBehind : LF :=
 { nparams := 3, results := [.t 6, .t 7], body :=
 (.seq
 (.region false [⟨some 6, .newnil 3080, [], none⟩,
 ⟨some 7, .mv, [.c (.i 0)], none⟩] [6, 7])
 (.seq
 (.region false [⟨some 8, .mv, [.c (.nil)], none⟩] [])
 (.seq
 (.region false [⟨some 9, .mv, [.c (.i 0)], none⟩] [])
 (.seq
 (.seq
 (.region false [⟨some 14, .mv, [.t 0], none⟩,
 ⟨some 15, .len, [.t 14], none⟩,
 ⟨some 16, .mv, [.c (.i 0)], none⟩] [])
 (.block 0
 F_impl_bestBehind_W0))
 (.seq
 (.region false [⟨some 56, .mv, [.t 8], none⟩,
 ⟨some 57, .mv, [.t 9], none⟩,
 ⟨some 6, .mv, [.t 56], none⟩,
 ⟨some 7, .mv, [.t 57], none⟩] [0, 1, 2, 8, 9, 14, 15, 16, 56, 57])
 .ret))))) }
/-- impl.openWeights -/
def F_impl_openWeights_L1 : LC :=
 (.seq
 (.region false [⟨some 27, .bin .lss, [.t 26, .t 25], none⟩] [])
 (.seq
 (.cond (.t 27) [27]
 .skip
 (.exit 2))
 (.seq
 (.block 3
 (.seq
 (.region false [⟨some 28, .mv, [.t 26], none⟩,
 ⟨some 9, .mv, [.t 28], none⟩] [28])
 (.seq
 (.region false [⟨some 29, .mv, [.t 8], none⟩,
 ⟨some 30, .mv, [.t 9], none⟩,
 ⟨some 31, .call n_impl_hasState 15872, [.t 29, .t 30], none⟩] [29, 30])
 (.cond (.t 31) [31]
 (.region true [⟨some 32, .mv, [.t 6], none⟩,
 ⟨some 33, .mv, [.t 7], none⟩,
 ⟨some 34, .idxa 1, [.t 32, .t 33], none⟩,
 ⟨some 35, .load 1 false, [.t 34], none⟩,
 ⟨some 36, .mv, [.t 0], none⟩,
 ⟨some 37, .mv, [.t 9], none⟩,
 ⟨some 38, .call n_impl_WeightOf 19456, [.t 36, .t 37], none⟩,
 ⟨some 39, .bin .add, [.t 35, .t 38], none⟩,
 ⟨some 40, .idxa 1, [.t 32, .t 33], none⟩,
 ⟨none, .store 1, [.t 40, .t 39], none⟩] [9, 32, 33, 34, 35, 36, 37, 38, 39, 40])
 .skip))))
 (.region false [⟨some 41, .bin .add, [.t 26, .c (.i 1)], none⟩,
 ⟨some 26, .mv, [.t 41], none⟩] [9, 41]))))
def F_impl_openWeights_W1 : LC := .loop F_impl_openWeights_L1
def F_impl_openWeights_L0 : LC :=
 (.seq
 (.region false [⟨some 18, .bin .lss, [.t 17, .t 16], none⟩] [])
 (.seq
 (.cond (.t 18) [18]
 .skip
 (.exit 0))
 (.seq
 (.block 1
 (.seq
 (.region false [⟨some 19, .mv, [.t 17], none⟩,
 ⟨some 7, .mv, [.t 19], none⟩] [19])
 (.seq
 (.region false [⟨some 20, .mv, [.t 5], none⟩,
 ⟨some 21, .mv, [.t 1], none⟩,
 ⟨some 22, .mv, [.t 7], none⟩,
 ⟨some 23, .call n_impl_openStates 11776, [.t 20, .t 21, .t 22], none⟩,
 ⟨some 8, .mv, [.t 23], none⟩] [20, 21, 22, 23])
 (.seq
 (.region false [⟨some 24, .mv, [.t 5], none⟩,
 ⟨some 25, .call n_impl_statesOf 12800, [.t 24], none⟩,
 ⟨some 26, .mv, [.c (.i 0)], none⟩] [24])
 (.block 2
 F_impl_openWeights_W1)))))
 (.region false [⟨some 42, .bin .add, [.t 17, .c (.i 1)], none⟩,
 ⟨some 17, .mv, [.t 42], none⟩] [7, 8, 25, 26, 42]))))
def F_impl_openWeights_W0 : LC := .loop F_impl_openWeights_L0
def F_impl_openWeights : LF :=
 { nparams := 2, results := [.t 4], body :=
 (.seq
 (.region false [⟨some 4, .newnil 2056, [], none⟩] [4])
 (.seq
 (.region false [⟨some 10, .mv, [.t 0], none⟩,
 ⟨some 11, .len, [.t 10], none⟩,
 ⟨some 5, .mv, [.t 11], none⟩] [10, 11])
 (.seq
 (.region false [⟨some 12, .mv, [.t 5], none⟩,
 ⟨some 13, .call n_impl_statesOf 6656, [.t 12], none⟩,
 ⟨some 14, .make 7176 1 (.i 0), [.t 13, .t 13], none⟩,
 ⟨some 6, .mv, [.t 14], none⟩] [12, 13, 14])
 (.seq
 (.seq
 (.region false [⟨some 15, .mv, [.t 6], none⟩,
 ⟨some 16, .len, [.t 15], none⟩,
 ⟨some 17, .mv, [.c (.i 0)], none⟩] [15])
 (.block 0
 F_impl_openWeights_W0))
 (.seq
 (.region false [⟨some 43, .mv, [.t 6], none⟩,
 ⟨some 4, .mv, [.t 43], none⟩] [0, 1, 5, 6, 16, 17, 43])
 .ret))))) }
/-- impl.trueStates -/
def F_impl_trueStates : LF :=
 { nparams := 1, results := [.t 2], body :=
 (.seq
 (.region false [⟨some 2, .mv, [.c (.w (0#32))], none⟩] [2])
 (.seq
 (.region false [⟨some 3, .mv, [.t 0], none⟩,
 ⟨some 4, .call n_impl_foldTerm_uint32 2048, [.t 3, .c (.fn n_impl_statesOfPart [])], none⟩,
 ⟨some 2, .mv, [.t 4], none⟩] [0, 3, 4])
 .ret)) }
/-- impl.manyOk -/
def F_impl_manyOk : LF :=
 { nparams := 1, results := [.t 2], body :=
 (.seq
 (.region false [⟨some 2, .mv, [.c (.b false)], none⟩] [2])
 (.seq
 (.region false [⟨some 3, .mv, [.t 0], none⟩,
 ⟨some 4, .call n_impl_isWithin 2048, [.t 3, .c (.i 1), .c (.i 5)], none⟩,
 ⟨some 2, .mv, [.t 4], none⟩] [0, 3, 4])
 .ret)) }
/-- impl.isWithin -/
def F_impl_isWithin : LF :=
 { nparams := 3, results := [.t 6], body :=
 (.seq
 (.region false [⟨some 6, .mv, [.c (.b false)], none⟩] [6])
 (.seq
 (.region false [⟨some 7, .mv, [.t 1], none⟩,
 ⟨some 8, .mv, [.t 0], none⟩,
 ⟨some 9, .bin .leq, [.t 7, .t 8], none⟩,
 ⟨some 10, .mv, [.t 9], none⟩,
 ⟨some 11, .mv, [.t 0], some (10, true)⟩,
 ⟨some 12, .mv, [.t 2], some (10, true)⟩,
 ⟨some 13, .bin .leq, [.t 11, .t 12], some (10, true)⟩,
 ⟨some 14, .pick, [.t 10, .t 13, .c (.b false)], none⟩,
 ⟨some 6, .mv, [.t 14], none⟩] [0, 1, 2, 7, 8, 9, 10, 11, 12, 13, 14])
 .ret)) }
/-- impl.hasTest -/
def F_impl_hasTest : LF :=
 { nparams := 2, results := [.t 4], body :=
 (.seq
 (.region false [⟨some 4, .mv, [.c (.b false)], none⟩] [4])
 (.seq
 (.region false [⟨some 5, .mv, [.t 0], none⟩,
 ⟨some 6, .mv, [.t 1], none⟩,
 ⟨some 7, .bin .shr, [.t 5, .t 6], none⟩,
 ⟨some 8, .bin .and, [.t 7, .c (.i 1)], none⟩,
 ⟨some 9, .bin .eql, [.t 8, .c (.i 1)], none⟩,
 ⟨some 4, .mv, [.t 9], none⟩] [0, 1, 5, 6, 7, 8, 9])
 .ret)) }
/-- impl.wholeOf -/
def F_impl_wholeOf_L0 : LC :=
 (.seq
 (.region false [⟨some 6, .bin .lss, [.t 5, .t 4], none⟩] [])
 (.seq
 (.cond (.t 6) [6]
 .skip
 (.exit 0))
 (.seq
 (.block 1
 (.region false [⟨some 7, .mv, [.t 3], none⟩,
 ⟨some 8, .bin .mul, [.t 7, .c (.i 6)], none⟩,
 ⟨some 3, .mv, [.t 8], none⟩] [7, 8]))
 (.region false [⟨some 9, .bin .add, [.t 5, .c (.i 1)], none⟩,
 ⟨some 5, .mv, [.t 9], none⟩] [9]))))
def F_impl_wholeOf_W0 : LC := .loop F_impl_wholeOf_L0
def F_impl_wholeOf : LF :=
 { nparams := 1, results := [.t 2], body :=
 (.seq
 (.region false [⟨some 2, .mv, [.c (.i 0)], none⟩] [2])
 (.seq
 (.region false [⟨some 3, .mv, [.c (.i 1)], none⟩] [])
 (.seq
 (.seq
 (.region false [⟨some 4, .mv, [.t 0], none⟩,
 ⟨some 5, .mv, [.c (.i 0)], none⟩] [0])
 (.block 0
 F_impl_wholeOf_W0))
 (.seq
 (.region false [⟨some 10, .mv, [.t 3], none⟩,
 ⟨some 2, .mv, [.t 10], none⟩] [3, 4, 5, 10])
 .ret)))) }
/-- impl.endChance -/
def F_impl_endChance : LF :=
 { nparams := 2, results := [.t 4], body :=
 (.seq
 (.region false [⟨some 2, .box 1040, [.t 0], none⟩,
 ⟨some 4, .mv, [.c (.i 0)], none⟩] [0, 4])
 (.seq
 (.seq
 (.region false [⟨some 5, .mv, [.t 1], none⟩,
 ⟨some 6, .bin .eql, [.t 5, .c (.i 0)], none⟩] [1, 5])
 (.cond (.t 6) [6]
 (.seq
 (.region false [⟨some 7, .fld 1 1 false, [.t 2], none⟩,
 ⟨some 8, .load 1 false, [.t 7], none⟩,
 ⟨some 9, .bin .sub, [.c (.i 6), .t 8], none⟩,
 ⟨some 4, .mv, [.t 9], none⟩] [2, 7, 8, 9])
 .ret)
 .skip))
 (.seq
 (.region false [⟨some 10, .fld 1 1 false, [.t 2], none⟩,
 ⟨some 11, .load 1 false, [.t 10], none⟩,
 ⟨some 4, .mv, [.t 11], none⟩] [2, 10, 11])
 .ret))) }
/-- impl.statesOf -/
def F_impl_statesOf : LF :=
 { nparams := 1, results := [.t 2], body :=
 (.seq
 (.region false [⟨some 2, .mv, [.c (.i 0)], none⟩] [2])
 (.seq
 (.region false [⟨some 3, .mv, [.t 0], none⟩,
 ⟨some 4, .bin .shl, [.c (.i 1), .t 3], none⟩,
 ⟨some 2, .mv, [.t 4], none⟩] [0, 3, 4])
 .ret)) }
/-- impl.WeightOf -/
def F_impl_WeightOf_L0 : LC :=
 (.seq
 (.region false [⟨some 21, .bin .lss, [.t 20, .t 19], none⟩] [])
 (.seq
 (.cond (.t 21) [21]
 .skip
 (.exit 0))
 (.seq
 (.block 1
 (.seq
 (.region false [⟨some 22, .mv, [.t 20], none⟩,
 ⟨some 23, .idxa 2, [.t 18, .t 20], none⟩,
 ⟨some 24, .load 2 true, [.t 23], none⟩,
 ⟨some 7, .alloc 3600 (.st [.i 0, .i 0]), [], none⟩,
 ⟨some 6, .mv, [.t 22], none⟩,
 ⟨none, .store 2, [.t 7, .t 24], none⟩] [22, 23, 24])
 (.seq
 (.region false [⟨some 25, .mv, [.t 1], none⟩,
 ⟨some 26, .mv, [.t 6], none⟩,
 ⟨some 27, .call n_impl_outcomeIn 13824, [.t 25, .t 26], none⟩,
 ⟨some 28, .bin .eql, [.t 27, .c (.i 1)], none⟩] [6, 25, 26, 27])
 (.cond (.t 28) [28]
 (.region false [⟨some 29, .mv, [.t 5], none⟩,
 ⟨some 30, .fld 1 1 false, [.t 7], none⟩,
 ⟨some 31, .load 1 false, [.t 30], none⟩,
 ⟨some 32, .bin .mul, [.t 29, .t 31], none⟩,
 ⟨some 5, .mv, [.t 32], none⟩] [7, 29, 30, 31, 32])
 (.region false [⟨some 33, .mv, [.t 5], none⟩,
 ⟨some 34, .fld 1 1 false, [.t 7], none⟩,
 ⟨some 35, .load 1 false, [.t 34], none⟩,
 ⟨some 36, .bin .sub, [.c (.i 6), .t 35], none⟩,
 ⟨some 37, .bin .mul, [.t 33, .t 36], none⟩,
 ⟨some 5, .mv, [.t 37], none⟩] [7, 33, 34, 35, 36, 37])))))
 (.region false [⟨some 38, .bin .add, [.t 20, .c (.i 1)], none⟩,
 ⟨some 20, .mv, [.t 38], none⟩] [38]))))
def F_impl_WeightOf_W0 : LC := .loop F_impl_WeightOf_L0
def F_impl_WeightOf : LF :=
 { nparams := 2, results := [.t 4], body :=
 (.seq
 (.region false [⟨some 4, .mv, [.c (.i 0)], none⟩] [4])
 (.seq
 (.seq
 (.region false [⟨some 8, .mv, [.t 0], none⟩,
 ⟨some 9, .call n_impl_TestsOk 4608, [.t 8], none⟩,
 ⟨some 10, .un .not, [.t 9], none⟩,
 ⟨some 11, .mv, [.t 10], none⟩,
 ⟨some 12, .mv, [.t 0], some (11, false)⟩,
 ⟨some 13, .len, [.t 12], some (11, false)⟩,
 ⟨some 14, .mv, [.t 1], some (11, false)⟩,
 ⟨some 15, .call n_impl_StateOk 7680, [.t 13, .t 14], some (11, false)⟩,
 ⟨some 16, .un .not, [.t 15], some (11, false)⟩,
 ⟨some 17, .pick, [.t 11, .c (.b true), .t 16], none⟩] [8, 9, 10, 11, 12, 13, 14, 15, 16])
 (.cond (.t 17) [17]
 (.seq
 (.region false [⟨some 4, .mv, [.c (.i (-1))], none⟩] [0, 1])
 .ret)
 .skip))
 (.seq
 (.region false [⟨some 5, .mv, [.c (.i 1)], none⟩] [])
 (.seq
 (.seq
 (.region false [⟨some 18, .mv, [.t 0], none⟩,
 ⟨some 19, .len, [.t 18], none⟩,
 ⟨some 20, .mv, [.c (.i 0)], none⟩] [0])
 (.block 0
 F_impl_WeightOf_W0))
 (.seq
 (.region false [⟨some 39, .mv, [.t 5], none⟩,
 ⟨some 4, .mv, [.t 39], none⟩] [1, 5, 18, 19, 20, 39])
 .ret))))) }
/-- impl.hasState -/
def F_impl_hasState : LF :=
 { nparams := 2, results := [.t 4], body :=
 (.seq
 (.region false [⟨some 4, .mv, [.c (.b false)], none⟩] [4])
 (.seq
 (.region false [⟨some 5, .mv, [.t 0], none⟩,
 ⟨some 6, .mv, [.t 1], none⟩,
 ⟨some 7, .bin .shr, [.t 5, .t 6], none⟩,
 ⟨some 8, .bin .and, [.t 7, .c (.w (1#32))], none⟩,
 ⟨some 9, .bin .eql, [.t 8, .c (.w (1#32))], none⟩,
 ⟨some 4, .mv, [.t 9], none⟩] [0, 1, 5, 6, 7, 8, 9])
 .ret)) }
/-- spec.l20Rd).odd -/
def F_spec_l20Rd_odd : LF :=
 { nparams := 2, results := [.t 4], body :=
 (.seq
 (.region false [⟨some 4, .mv, [.c (.b false)], none⟩] [4])
 (.seq
 (.region false [⟨some 5, .mv, [.t 1], none⟩,
 ⟨some 6, .bin .gtr, [.t 5, .c (.i 0)], none⟩,
 ⟨some 7, .mv, [.t 6], none⟩,
 ⟨some 8, .mv, [.t 0], some (7, true)⟩,
 ⟨some 9, .mv, [.t 1], some (7, true)⟩,
 ⟨some 10, .call n_spec_l20Rd_pick 5120, [.t 8, .t 9], some (7, true)⟩,
 ⟨some 11, .mv, [.t 1], some (7, true)⟩,
 ⟨some 12, .bin .sub, [.t 11, .c (.i 1)], some (7, true)⟩,
 ⟨some 13, .bin .eql, [.t 10, .t 12], some (7, true)⟩,
 ⟨some 14, .pick, [.t 7, .t 13, .c (.b false)], none⟩,
 ⟨some 4, .mv, [.t 14], none⟩] [1, 5, 6, 7, 8, 9, 10, 11, 12, 13, 14])
 .ret)) }
/-- slices.Insert[[]int,int] -/
def F_slices_Insert_int_int : LF :=
 { nparams := 3, results := [], body := .skip, prim := some insP }
/-- impl.partsTaken -/
def F_impl_partsTaken : LF :=
 { nparams := 1, results := [.t 2], body :=
 (.seq
 (.region false [⟨some 2, .mv, [.c (.i 0)], none⟩] [2])
 (.seq
 (.seq
 (.region false [⟨some 3, .mv, [.t 0], none⟩] [0])
 (.block 0
 (.seq
 (.region false [⟨some 5, .bin .eql, [.t 3, .c (.i 0)], none⟩,
 ⟨some 4, .mv, [.t 5], none⟩] [5])
 (.cond (.t 4) [4]
 (.seq
 (.region false [⟨some 2, .mv, [.c (.i 0)], none⟩] [3])
 .ret)
 (.seq
 (.region false [⟨some 7, .bin .eql, [.t 3, .c (.i 1)], none⟩,
 ⟨some 6, .mv, [.t 7], none⟩] [3, 7])
 (.cond (.t 6) [6]
 (.seq
 (.region false [⟨some 2, .mv, [.c (.i 1)], none⟩] [])
 .ret)
 .skip))))))
 (.seq
 (.region false [⟨some 2, .mv, [.c (.i 2)], none⟩] [])
 .ret))) }
/-- impl.markOk -/
def F_impl_markOk : LF :=
 { nparams := 2, results := [.t 4], body :=
 (.seq
 (.region false [⟨some 3, .box 1552, [.t 1], none⟩,
 ⟨some 4, .mv, [.c (.b false)], none⟩] [1, 4])
 (.seq
 (.seq
 (.region false [⟨some 5, .fld 0 1 false, [.t 3], none⟩,
 ⟨some 6, .load 1 false, [.t 5], none⟩,
 ⟨some 7, .bin .eql, [.t 6, .c (.i 0)], none⟩] [5, 6])
 (.cond (.t 7) [7]
 (.seq
 (.region false [⟨some 8, .fld 1 1 false, [.t 3], none⟩,
 ⟨some 9, .load 1 false, [.t 8], none⟩,
 ⟨some 10, .mv, [.t 0], none⟩,
 ⟨some 11, .bin .sub, [.t 10, .c (.i 1)], none⟩,
 ⟨some 12, .call n_impl_isWithin 6144, [.t 9, .c (.i 0), .t 11], none⟩,
 ⟨some 4, .mv, [.t 12], none⟩] [0, 3, 8, 9, 10, 11, 12])
 .ret)
 .skip))
 (.seq
 (.region false [⟨some 13, .fld 0 1 false, [.t 3], none⟩,
 ⟨some 14, .load 1 false, [.t 13], none⟩,
 ⟨some 15, .call n_impl_isWithin 7680, [.t 14, .c (.i 1), .c (.i 3)], none⟩,
 ⟨some 16, .mv, [.t 15], none⟩,
 ⟨some 17, .fld 1 1 false, [.t 3], some (16, true)⟩,
 ⟨some 18, .load 1 false, [.t 17], some (16, true)⟩,
 ⟨some 19, .bin .eql, [.t 18, .c (.i 0)], some (16, true)⟩,
 ⟨some 20, .pick, [.t 16, .t 19, .c (.b false)], none⟩,
 ⟨some 4, .mv, [.t 20], none⟩] [0, 3, 13, 14, 15, 16, 17, 18, 19, 20])
 .ret))) }
/-- impl.openStates -/
def F_impl_openStates_L0 : LC :=
 (.seq
 (.region false [⟨some 15, .bin .lss, [.t 14, .t 13], none⟩] [])
 (.seq
 (.cond (.t 15) [15]
 .skip
 (.exit 0))
 (.seq
 (.block 1
 (.seq
 (.region false [⟨some 16, .mv, [.t 14], none⟩,
 ⟨some 9, .mv, [.t 16], none⟩] [16])
 (.seq
 (.region false [⟨some 17, .mv, [.t 2], none⟩,
 ⟨some 18, .mv, [.t 9], none⟩,
 ⟨some 19, .call n_impl_hasTest 9728, [.t 17, .t 18], none⟩,
 ⟨some 20, .un .not, [.t 19], none⟩] [17, 18, 19])
 (.cond (.t 20) [20]
 (.seq
 (.region false [⟨some 21, .mv, [.t 7], none⟩,
 ⟨some 22, .mv, [.t 7], none⟩,
 ⟨some 23, .mv, [.t 9], none⟩,
 ⟨some 24, .call n_impl_turnedStates 12288, [.t 22, .t 23], none⟩,
 ⟨some 25, .bin .or, [.t 21, .t 24], none⟩,
 ⟨some 7, .mv, [.t 25], none⟩] [21, 22, 23, 24, 25])
 (.region false [⟨some 26, .mv, [.t 8], none⟩,
 ⟨some 27, .mv, [.t 8], none⟩,
 ⟨some 28, .mv, [.t 9], none⟩,
 ⟨some 29, .call n_impl_turnedStates 14848, [.t 27, .t 28], none⟩,
 ⟨some 30, .bin .or, [.t 26, .t 29], none⟩,
 ⟨some 8, .mv, [.t 30], none⟩] [9, 26, 27, 28, 29, 30]))
 .skip))))
 (.region false [⟨some 31, .bin .add, [.t 14, .c (.i 1)], none⟩,
 ⟨some 14, .mv, [.t 31], none⟩] [9, 31]))))
def F_impl_openStates_W0 : LC := .loop F_impl_openStates_L0
def F_impl_openStates : LF :=
 { nparams := 3, results := [.t 6], body :=
 (.seq
 (.region false [⟨some 6, .mv, [.c (.w (0#32))], none⟩] [6])
 (.seq
 (.region false [⟨some 10, .mv, [.t 1], none⟩,
 ⟨some 11, .mv, [.t 1], none⟩,
 ⟨some 12, .un .xor, [.t 11], none⟩,
 ⟨some 7, .mv, [.t 10], none⟩,
 ⟨some 8, .mv, [.t 12], none⟩] [1, 10, 11, 12])
 (.seq
 (.seq
 (.region false [⟨some 13, .mv, [.t 0], none⟩,
 ⟨some 14, .mv, [.c (.i 0)], none⟩] [0])
 (.block 0
 F_impl_openStates_W0))
 (.seq
 (.region false [⟨some 32, .mv, [.t 7], none⟩,
 ⟨some 33, .mv, [.t 8], none⟩,
 ⟨some 34, .bin .and, [.t 32, .t 33], none⟩,
 ⟨some 6, .mv, [.t 34], none⟩] [2, 7, 8, 13, 14, 32, 33, 34])
 .ret)))) }
/-- impl.foldTerm[uint32] -/
def F_impl_foldTerm_uint32_L0 : LC :=
 (.seq
 (.region false [⟨some 13, .bin .lss, [.t 12, .t 11], none⟩] [])
 (.seq
 (.cond (.t 13) [13]
 .skip
 (.exit 0))
 (.seq
 (.block 1
 (.seq
 (.region false [⟨some 14, .idxa 2, [.t 10, .t 12], none⟩,
 ⟨some 15, .load 2 true, [.t 14], none⟩,
 ⟨some 7, .alloc 3600 (.st [.i 0, .i 0]), [], none⟩,
 ⟨none, .store 2, [.t 7, .t 15], none⟩] [14, 15])
 (.seq
 (.region false [⟨some 16, .mv, [.t 5], none⟩,
 ⟨some 17, .len, [.t 16], none⟩,
 ⟨some 18, .fld 0 1 false, [.t 7], none⟩,
 ⟨some 19, .load 1 false, [.t 18], none⟩,
 ⟨some 20, .call n_impl_partsTaken 10240, [.t 19], none⟩,
 ⟨some 21, .bin .sub, [.t 17, .t 20], none⟩,
 ⟨some 8, .mv, [.t 21], none⟩] [16, 17, 18, 19, 20, 21])
 (.seq
 (.region true [⟨some 22, .mv, [.t 1], none⟩,
 ⟨some 23, .load 2 true, [.t 7], none⟩,
 ⟨some 24, .mv, [.t 5], none⟩,
 ⟨some 25, .mv, [.t 8], none⟩,
 ⟨some 26, .slice true false 1, [.t 24, .t 25], none⟩,
 ⟨some 27, .calld 13824, [.t 22, .t 23, .t 26], none⟩,
 ⟨some 9, .mv, [.t 27], none⟩] [7, 22, 23, 24, 25, 26, 27])
 (.region false [⟨some 28, .mv, [.t 5], none⟩,
 ⟨some 29, .mv, [.t 8], none⟩,
 ⟨some 30, .slice false true 1, [.t 28, .t 29], none⟩,
 ⟨some 31, .mv, [.t 9], none⟩,
 ⟨some 32, .bslice 16392 1 1 (.w (0#32)) [0], [.t 31], none⟩,
 ⟨some 33, .app 16904 1, [.t 30, .t 32], none⟩,
 ⟨some 5, .mv, [.t 33], none⟩] [8, 9, 28, 29, 30, 31, 32, 33])))))
 (.region false [⟨some 34, .bin .add, [.t 12, .c (.i 1)], none⟩,
 ⟨some 12, .mv, [.t 34], none⟩] [34]))))
def F_impl_foldTerm_uint32_W0 : LC := .loop F_impl_foldTerm_uint32_L0
def F_impl_foldTerm_uint32 : LF :=
 { nparams := 2, results := [.t 4], body :=
 (.seq
 (.region false [⟨some 4, .mv, [.c (.w (0#32))], none⟩] [4])
 (.seq
 (.region false [⟨some 5, .newnil 2568, [], none⟩] [])
 (.seq
 (.seq
 (.region false [⟨some 10, .mv, [.t 0], none⟩,
 ⟨some 11, .len, [.t 10], none⟩,
 ⟨some 12, .mv, [.c (.i 0)], none⟩] [0])
 (.block 0
 F_impl_foldTerm_uint32_W0))
 (.seq
 (.region false [⟨some 35, .mv, [.t 5], none⟩,
 ⟨some 36, .idxa 1, [.t 35, .c (.i 0)], none⟩,
 ⟨some 37, .load 1 false, [.t 36], none⟩,
 ⟨some 4, .mv, [.t 37], none⟩] [1, 5, 10, 11, 12, 35, 36, 37])
 .ret)))) }
/-- impl.statesOfPart -/
def F_impl_statesOfPart : LF :=
 { gl := [0], nparams := 2, results := [.t 4], body :=
 (.seq
 (.region false [⟨some 2, .box 1040, [.t 0], none⟩,
 ⟨some 4, .mv, [.c (.w (0#32))], none⟩] [0, 4])
 (.seq
 (.seq
 (.region false [⟨some 5, .fld 0 1 false, [.t 2], none⟩,
 ⟨some 6, .load 1 false, [.t 5], none⟩] [5])
 (.block 0
 (.seq
 (.region false [⟨some 8, .bin .eql, [.t 6, .c (.i 0)], none⟩,
 ⟨some 7, .mv, [.t 8], none⟩] [8])
 (.cond (.t 7) [7]
 (.seq
 (.region false [⟨some 9, .fld 1 1 false, [.t 2], none⟩,
 ⟨some 10, .load 1 false, [.t 9], none⟩,
 ⟨some 11, .idxp 5 1, [.t 1048576, .t 10], none⟩,
 ⟨some 12, .load 1 false, [.t 11], none⟩,
 ⟨some 4, .mv, [.t 12], none⟩] [1, 2, 6, 9, 10, 11, 12])
 .ret)
 (.seq
 (.region false [⟨some 14, .bin .eql, [.t 6, .c (.i 1)], none⟩,
 ⟨some 13, .mv, [.t 14], none⟩] [2, 14])
 (.cond (.t 13) [13]
 (.seq
 (.region false [⟨some 15, .mv, [.t 1], none⟩,
 ⟨some 16, .idxa 1, [.t 15, .c (.i 0)], none⟩,
 ⟨some 17, .load 1 false, [.t 16], none⟩,
 ⟨some 18, .un .xor, [.t 17], none⟩,
 ⟨some 4, .mv, [.t 18], none⟩] [1, 6, 15, 16, 17, 18])
 .ret)
 (.seq
 (.region false [⟨some 20, .bin .eql, [.t 6, .c (.i 2)], none⟩,
 ⟨some 19, .mv, [.t 20], none⟩] [6, 20])
 (.cond (.t 19) [19]
 (.seq
 (.region true [⟨some 21, .mv, [.t 1], none⟩,
 ⟨some 22, .idxa 1, [.t 21, .c (.i 0)], none⟩,
 ⟨some 23, .load 1 false, [.t 22], none⟩,
 ⟨some 24, .mv, [.t 1], none⟩,
 ⟨some 25, .idxa 1, [.t 24, .c (.i 1)], none⟩,
 ⟨some 26, .load 1 false, [.t 25], none⟩,
 ⟨some 27, .bin .and, [.t 23, .t 26], none⟩,
 ⟨some 4, .mv, [.t 27], none⟩] [1, 21, 22, 23, 24, 25, 26, 27])
 .ret)
 .skip))))))))
 (.seq
 (.region true [⟨some 28, .mv, [.t 1], none⟩,
 ⟨some 29, .idxa 1, [.t 28, .c (.i 0)], none⟩,
 ⟨some 30, .load 1 false, [.t 29], none⟩,
 ⟨some 31, .mv, [.t 1], none⟩,
 ⟨some 32, .idxa 1, [.t 31, .c (.i 1)], none⟩,
 ⟨some 33, .load 1 false, [.t 32], none⟩,
 ⟨some 34, .bin .or, [.t 30, .t 33], none⟩,
 ⟨some 4, .mv, [.t 34], none⟩] [1, 28, 29, 30, 31, 32, 33, 34])
 .ret))) }
/-- impl.StateOk -/
def F_impl_StateOk : LF :=
 { nparams := 2, results := [.t 4], body :=
 (.seq
 (.region false [⟨some 4, .mv, [.c (.b false)], none⟩] [4])
 (.seq
 (.region false [⟨some 5, .mv, [.t 0], none⟩,
 ⟨some 6, .call n_impl_manyOk 3072, [.t 5], none⟩,
 ⟨some 7, .mv, [.t 6], none⟩,
 ⟨some 8, .mv, [.t 1], some (7, true)⟩,
 ⟨some 9, .mv, [.t 0], some (7, true)⟩,
 ⟨some 10, .call n_impl_statesOf 5120, [.t 9], some (7, true)⟩,
 ⟨some 11, .bin .sub, [.t 10, .c (.i 1)], some (7, true)⟩,
 ⟨some 12, .call n_impl_isWithin 6144, [.t 8, .c (.i 0), .t 11], some (7, true)⟩,
 ⟨some 13, .pick, [.t 7, .t 12, .c (.b false)], none⟩,
 ⟨some 4, .mv, [.t 13], none⟩] [0, 1, 5, 6, 7, 8, 9, 10, 11, 12, 13])
 .ret)) }
/-- impl.outcomeIn -/
def F_impl_outcomeIn : LF :=
 { nparams := 2, results := [.t 4], body :=
 (.seq
 (.region false [⟨some 4, .mv, [.c (.i 0)], none⟩] [4])
 (.seq
 (.region false [⟨some 5, .mv, [.t 0], none⟩,
 ⟨some 6, .mv, [.t 1], none⟩,
 ⟨some 7, .bin .shr, [.t 5, .t 6], none⟩,
 ⟨some 8, .bin .and, [.t 7, .c (.i 1)], none⟩,
 ⟨some 4, .mv, [.t 8], none⟩] [0, 1, 5, 6, 7, 8])
 .ret)) }
/-- slices.rotateRight[int] -/
def F_slices_rotateRight_int : LF :=
 { nparams := 2, results := [], body :=
 (.region false [⟨some 4, .mv, [.t 0], none⟩,
 ⟨some 5, .mv, [.t 0], none⟩,
 ⟨some 6, .len, [.t 5], none⟩,
 ⟨some 7, .mv, [.t 1], none⟩,
 ⟨some 8, .bin .sub, [.t 6, .t 7], none⟩,
 ⟨some 9, .call n_slices_rotateLeft_int 4608, [.t 4, .t 8], none⟩] [0, 1, 4, 5, 6, 7, 8, 9]) }
/-- impl.turnedStates -/
def F_impl_turnedStates : LF :=
 { gl := [0], nparams := 2, results := [.t 4], body :=
 (.seq
 (.region false [⟨some 4, .mv, [.c (.w (0#32))], none⟩] [4])
 (.seq
 (.region true [⟨some 7, .mv, [.t 0], none⟩,
 ⟨some 8, .mv, [.t 1], none⟩,
 ⟨some 9, .idxp 5 1, [.t 1048576, .t 8], none⟩,
 ⟨some 10, .load 1 false, [.t 9], none⟩,
 ⟨some 11, .bin .and, [.t 7, .t 10], none⟩,
 ⟨some 12, .mv, [.t 0], none⟩,
 ⟨some 13, .mv, [.t 1], none⟩,
 ⟨some 14, .idxp 5 1, [.t 1048576, .t 13], none⟩,
 ⟨some 15, .load 1 false, [.t 14], none⟩,
 ⟨some 16, .bin .andNot, [.t 12, .t 15], none⟩,
 ⟨some 5, .mv, [.t 11], none⟩,
 ⟨some 6, .mv, [.t 16], none⟩] [0, 7, 8, 9, 10, 11, 12, 13, 14, 15, 16])
 (.seq
 (.region true [⟨some 17, .mv, [.t 5], none⟩,
 ⟨some 18, .mv, [.t 1], none⟩,
 ⟨some 19, .bin .shl, [.c (.q 1), .t 18], none⟩,
 ⟨some 20, .bin .shr, [.t 17, .t 19], none⟩,
 ⟨some 21, .mv, [.t 6], none⟩,
 ⟨some 22, .mv, [.t 1], none⟩,
 ⟨some 23, .bin .shl, [.c (.q 1), .t 22], none⟩,
 ⟨some 24, .bin .shl, [.t 21, .t 23], none⟩,
 ⟨some 25, .bin .or, [.t 20, .t 24], none⟩,
 ⟨some 4, .mv, [.t 25], none⟩] [1, 5, 6, 17, 18, 19, 20, 21, 22, 23, 24, 25])
 .ret))) }
/-- slices.rotateLeft[int] -/
def F_slices_rotateLeft_int : LF :=
 { nparams := 2, results := [], body :=
 (.seq
 (.region false [⟨some 4, .mv, [.t 0], none⟩,
 ⟨some 5, .mv, [.t 1], none⟩,
 ⟨some 6, .slice false true 1, [.t 4, .t 5], none⟩,
 ⟨some 7, .call n_slices_Reverse_int_int 3584, [.t 6], none⟩] [4, 5, 6, 7])
 (.seq
 (.region false [⟨some 8, .mv, [.t 0], none⟩,
 ⟨some 9, .mv, [.t 1], none⟩,
 ⟨some 10, .slice true false 1, [.t 8, .t 9], none⟩,
 ⟨some 11, .call n_slices_Reverse_int_int 5632, [.t 10], none⟩] [1, 8, 9, 10, 11])
 (.region false [⟨some 12, .mv, [.t 0], none⟩,
 ⟨some 13, .call n_slices_Reverse_int_int 6656, [.t 12], none⟩] [0, 12, 13]))) }
/-- slices.Reverse[[]int,int] -/
def F_slices_Reverse_int_int_L0 : LC :=
 (.seq
 (.seq
 (.region false [⟨some 7, .mv, [.t 2], none⟩,
 ⟨some 8, .mv, [.t 3], none⟩,
 ⟨some 9, .bin .lss, [.t 7, .t 8], none⟩] [7, 8])
 (.cond (.t 9) [9]
 .skip
 (.exit 0)))
 (.seq
 (.block 1
 (.region true [⟨some 14, .mv, [.t 0], none⟩,
 ⟨some 15, .mv, [.t 2], none⟩,
 ⟨some 16, .mv, [.t 0], none⟩,
 ⟨some 17, .mv, [.t 3], none⟩,
 ⟨some 18, .mv, [.t 0], none⟩,
 ⟨some 19, .mv, [.t 3], none⟩,
 ⟨some 20, .idxa 1, [.t 18, .t 19], none⟩,
 ⟨some 21, .load 1 false, [.t 20], none⟩,
 ⟨some 22, .mv, [.t 0], none⟩,
 ⟨some 23, .mv, [.t 2], none⟩,
 ⟨some 24, .idxa 1, [.t 22, .t 23], none⟩,
 ⟨some 25, .load 1 false, [.t 24], none⟩,
 ⟨some 26, .idxa 1, [.t 14, .t 15], none⟩,
 ⟨none, .store 1, [.t 26, .t 21], none⟩,
 ⟨some 27, .idxa 1, [.t 16, .t 17], none⟩,
 ⟨none, .store 1, [.t 27, .t 25], none⟩] [14, 15, 16, 17, 18, 19, 20, 21, 22, 23, 24, 25, 26, 27]))
 (.region false [⟨some 10, .mv, [.t 2], none⟩,
 ⟨some 11, .bin .add, [.t 10, .c (.i 1)], none⟩,
 ⟨some 12, .mv, [.t 3], none⟩,
 ⟨some 13, .bin .sub, [.t 12, .c (.i 1)], none⟩,
 ⟨some 2, .mv, [.t 11], none⟩,
 ⟨some 3, .mv, [.t 13], none⟩] [10, 11, 12, 13])))
def F_slices_Reverse_int_int_W0 : LC := .loop F_slices_Reverse_int_int_L0
def F_slices_Reverse_int_int : LF :=
 { nparams := 1, results := [], body :=
 (.seq
 (.region false [⟨some 4, .mv, [.t 0], none⟩,
 ⟨some 5, .len, [.t 4], none⟩,
 ⟨some 6, .bin .sub, [.t 5, .c (.i 1)], none⟩,
 ⟨some 2, .mv, [.c (.i 0)], none⟩,
 ⟨some 3, .mv, [.t 6], none⟩] [4, 5, 6])
 (.block 0
 F_slices_Reverse_int_int_W0)) }
def lf : Nat → Option LF
 | 3 => some F_laws_FnRatioOrder
 | 6 => some F_spec_DrawRatioOrder
 | 7 => some F_impl_RatioOrder
 | 8 => some F_laws_sameInts
 | 9 => some F_spec_RatioOrder
 | 10 => some F_laws_alive
 | 11 => some F_impl_BestOrder
 | 12 => some F_impl_RowTerm
 | 13 => some F_impl_OrderOk
 | 14 => some F_impl_RowAverage
 | 15 => some F_impl_OtherTests
 | 20 => some F_spec_TestsOk
 | 21 => some F_impl_TestsOk
 | 24 => some F_spec_l20Open
 | 25 => some F_spec_l20Tests
 | 26 => some F_spec_l20Rd_pick
 | 27 => some F_impl_rowOk
 | 28 => some F_impl_RatioOrder_1
 | 29 => some F_impl_ratioOf
 | 30 => some F_impl_ratio_isLess
 | 31 => some F_impl_inserted_int
 | 32 => some F_spec_l1In
 | 33 => some F_spec_l5Ends
 | 34 => some F_impl_TermOk
 | 35 => some F_impl_bestBehind
 | 36 => some F_impl_openWeights
 | 37 => some F_impl_trueStates
 | 38 => some F_impl_manyOk
 | 39 => some F_impl_isWithin
 | 40 => some F_impl_hasTest
 | 41 => some F_impl_wholeOf
 | 42 => some F_impl_endChance
 | 46 => some F_impl_statesOf
 | 47 => some F_impl_WeightOf
 | 49 => some F_impl_hasState
 | 50 => some F_spec_l20Rd_odd
 | 51 => some F_slices_Insert_int_int
 | 52 => some F_impl_partsTaken
 | 53 => some F_impl_markOk
 | 54 => some F_impl_openStates
 | 55 => some F_impl_foldTerm_uint32
 | 56 => some F_impl_statesOfPart
 | 57 => some F_impl_StateOk
 | 58 => some F_impl_outcomeIn
 | 61 => some F_slices_rotateRight_int
 | 62 => some F_impl_turnedStates
 | 63 => some F_slices_rotateLeft_int
 | 64 => some F_slices_Reverse_int_int
 | _ => none
theorem w_spec_DrawRatioOrder_0 (S : LS) : ex lf F_spec_DrawRatioOrder_W0 S = match ex lf F_spec_DrawRatioOrder_L0 S with | some (.normal, S1) => ex lf F_spec_DrawRatioOrder_W0 S1 | r => r := ex_loop lf F_spec_DrawRatioOrder_L0 S
theorem w_impl_RatioOrder_0 (S : LS) : ex lf F_impl_RatioOrder_W0 S = match ex lf F_impl_RatioOrder_L0 S with | some (.normal, S1) => ex lf F_impl_RatioOrder_W0 S1 | r => r := ex_loop lf F_impl_RatioOrder_L0 S
theorem w_laws_sameInts_0 (S : LS) : ex lf F_laws_sameInts_W0 S = match ex lf F_laws_sameInts_L0 S with | some (.normal, S1) => ex lf F_laws_sameInts_W0 S1 | r => r := ex_loop lf F_laws_sameInts_L0 S
theorem w_spec_RatioOrder_1 (S : LS) : ex lf F_spec_RatioOrder_W1 S = match ex lf F_spec_RatioOrder_L1 S with | some (.normal, S1) => ex lf F_spec_RatioOrder_W1 S1 | r => r := ex_loop lf F_spec_RatioOrder_L1 S
theorem w_spec_RatioOrder_0 (S : LS) : ex lf F_spec_RatioOrder_W0 S = match ex lf F_spec_RatioOrder_L0 S with | some (.normal, S1) => ex lf F_spec_RatioOrder_W0 S1 | r => r := ex_loop lf F_spec_RatioOrder_L0 S
theorem w_impl_RowTerm_0 (S : LS) : ex lf F_impl_RowTerm_W0 S = match ex lf F_impl_RowTerm_L0 S with | some (.normal, S1) => ex lf F_impl_RowTerm_W0 S1 | r => r := ex_loop lf F_impl_RowTerm_L0 S
theorem w_impl_OrderOk_0 (S : LS) : ex lf F_impl_OrderOk_W0 S = match ex lf F_impl_OrderOk_L0 S with | some (.normal, S1) => ex lf F_impl_OrderOk_W0 S1 | r => r := ex_loop lf F_impl_OrderOk_L0 S
theorem w_impl_RowAverage_0 (S : LS) : ex lf F_impl_RowAverage_W0 S = match ex lf F_impl_RowAverage_L0 S with | some (.normal, S1) => ex lf F_impl_RowAverage_W0 S1 | r => r := ex_loop lf F_impl_RowAverage_L0 S
theorem w_impl_OtherTests_0 (S : LS) : ex lf F_impl_OtherTests_W0 S = match ex lf F_impl_OtherTests_L0 S with | some (.normal, S1) => ex lf F_impl_OtherTests_W0 S1 | r => r := ex_loop lf F_impl_OtherTests_L0 S
theorem w_spec_TestsOk_0 (S : LS) : ex lf F_spec_TestsOk_W0 S = match ex lf F_spec_TestsOk_L0 S with | some (.normal, S1) => ex lf F_spec_TestsOk_W0 S1 | r => r := ex_loop lf F_spec_TestsOk_L0 S
theorem w_impl_TestsOk_0 (S : LS) : ex lf F_impl_TestsOk_W0 S = match ex lf F_impl_TestsOk_L0 S with | some (.normal, S1) => ex lf F_impl_TestsOk_W0 S1 | r => r := ex_loop lf F_impl_TestsOk_L0 S
theorem w_spec_l20Tests_0 (S : LS) : ex lf F_spec_l20Tests_W0 S = match ex lf F_spec_l20Tests_L0 S with | some (.normal, S1) => ex lf F_spec_l20Tests_W0 S1 | r => r := ex_loop lf F_spec_l20Tests_L0 S
theorem w_impl_inserted_int_0 (S : LS) : ex lf F_impl_inserted_int_W0 S = match ex lf F_impl_inserted_int_L0 S with | some (.normal, S1) => ex lf F_impl_inserted_int_W0 S1 | r => r := ex_loop lf F_impl_inserted_int_L0 S
theorem w_impl_TermOk_0 (S : LS) : ex lf F_impl_TermOk_W0 S = match ex lf F_impl_TermOk_L0 S with | some (.normal, S1) => ex lf F_impl_TermOk_W0 S1 | r => r := ex_loop lf F_impl_TermOk_L0 S
theorem w_impl_bestBehind_0 (S : LS) : ex lf F_impl_bestBehind_W0 S = match ex lf F_impl_bestBehind_L0 S with | some (.normal, S1) => ex lf F_impl_bestBehind_W0 S1 | r => r := ex_loop lf F_impl_bestBehind_L0 S
theorem w_impl_openWeights_1 (S : LS) : ex lf F_impl_openWeights_W1 S = match ex lf F_impl_openWeights_L1 S with | some (.normal, S1) => ex lf F_impl_openWeights_W1 S1 | r => r := ex_loop lf F_impl_openWeights_L1 S
theorem w_impl_openWeights_0 (S : LS) : ex lf F_impl_openWeights_W0 S = match ex lf F_impl_openWeights_L0 S with | some (.normal, S1) => ex lf F_impl_openWeights_W0 S1 | r => r := ex_loop lf F_impl_openWeights_L0 S
theorem w_impl_wholeOf_0 (S : LS) : ex lf F_impl_wholeOf_W0 S = match ex lf F_impl_wholeOf_L0 S with | some (.normal, S1) => ex lf F_impl_wholeOf_W0 S1 | r => r := ex_loop lf F_impl_wholeOf_L0 S
theorem w_impl_WeightOf_0 (S : LS) : ex lf F_impl_WeightOf_W0 S = match ex lf F_impl_WeightOf_L0 S with | some (.normal, S1) => ex lf F_impl_WeightOf_W0 S1 | r => r := ex_loop lf F_impl_WeightOf_L0 S
theorem w_impl_openStates_0 (S : LS) : ex lf F_impl_openStates_W0 S = match ex lf F_impl_openStates_L0 S with | some (.normal, S1) => ex lf F_impl_openStates_W0 S1 | r => r := ex_loop lf F_impl_openStates_L0 S
theorem w_impl_foldTerm_uint32_0 (S : LS) : ex lf F_impl_foldTerm_uint32_W0 S = match ex lf F_impl_foldTerm_uint32_L0 S with | some (.normal, S1) => ex lf F_impl_foldTerm_uint32_W0 S1 | r => r := ex_loop lf F_impl_foldTerm_uint32_L0 S
theorem w_slices_Reverse_int_int_0 (S : LS) : ex lf F_slices_Reverse_int_int_W0 S = match ex lf F_slices_Reverse_int_int_L0 S with | some (.normal, S1) => ex lf F_slices_Reverse_int_int_W0 S1 | r => r := ex_loop lf F_slices_Reverse_int_int_L0 S
end Zz
