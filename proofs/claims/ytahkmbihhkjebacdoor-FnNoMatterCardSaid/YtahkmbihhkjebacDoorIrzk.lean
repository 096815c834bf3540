/- The functions of the program, read as data. No conditions. -/
import Derived.Test.YtahkmbihhkjebacDoorLgEzk
set_option linter.unusedSectionVars false
set_option linter.unusedVariables false
set_option linter.unusedSimpArgs false
namespace Zz
open Go.Lg
instance : GL := ⟨[(0, .st [.w (2863311530#32), .w (3435973836#32), .w (4042322160#32), .w (4278255360#32), .w (4294901760#32)])], [92], ["l4_orders.go:82"], [], [(54, [4]), (69, [5]), (100, [0])], [], ["l20_draw.go:447"]⟩
theorem gEnv_0 : gEnv [0] = [(1048576, .adr (.st [.w (2863311530#32), .w (3435973836#32), .w (4042322160#32), .w (4278255360#32), .w (4294901760#32)]))] := rfl
def n_laws_FnNoMatter : Nat := 6
def n_impl_AverageBy : Nat := 10
def n_laws_alive : Nat := 12
def n_impl_CostBy : Nat := 13
def n_impl_WeightOf : Nat := 14
def n_impl_BestAverage : Nat := 15
def n_spec_DrawBestPlan : Nat := 18
def n_impl_BestPlan : Nat := 19
def n_impl_IdleTests : Nat := 22
def n_impl_PlanOk : Nat := 23
def n_spec_l20Open : Nat := 35
def n_spec_l20Case : Nat := 36
def n_impl_costsBy : Nat := 38
def n_impl_TestsOk : Nat := 42
def n_impl_StateOk : Nat := 43
def n_impl_firstOf : Nat := 44
def n_impl_Choice_nextIn : Nat := 45
def n_impl_outcomeIn : Nat := 46
def n_impl_TermOk : Nat := 47
def n_impl_leastFrom : Nat := 48
def n_impl_startOf : Nat := 49
def n_impl_averagesOf : Nat := 50
def n_impl_planFrom : Nat := 51
def n_impl_BestPlan_1 : Nat := 52
def n_impl_trueStates : Nat := 58
def n_impl_testsWhere : Nat := 59
def n_impl_IdleTests_1 : Nat := 60
def n_impl_pointsOf : Nat := 61
def n_impl_point_howManyAsked : Nat := 62
def n_spec_l20Rd_pick : Nat := 63
def n_spec_l20Term : Nat := 64
def n_spec_l20Tests : Nat := 70
def n_impl_statesOf : Nat := 72
def n_spec_l20Rd_odd : Nat := 75
def n_impl_manyOk : Nat := 78
def n_impl_isWithin : Nat := 79
def n_impl_partsTaken : Nat := 80
def n_impl_markOk : Nat := 81
def n_impl_point_isForced : Nat := 82
def n_impl_point_canAsk : Nat := 83
def n_impl_point_answered : Nat := 84
def n_impl_averagesOf_1 : Nat := 85
def n_impl_averageAsking : Nat := 86
def n_slices_Concat_impl_Choice_impl_Choice : Nat := 87
def n_impl_foldTerm_uint32 : Nat := 90
def n_impl_statesOfPart : Nat := 91
def n_impl_comesTo : Nat := 92
def n_impl_sizeOf : Nat := 93
def n_impl_hasTest : Nat := 94
def n_impl_valueAmong : Nat := 97
def n_impl_statesSaying : Nat := 98
def n_impl_wholeOf : Nat := 99
def n_slices_Grow_impl_Choice_impl_Choice : Nat := 100
def n_math_bits_OnesCount : Nat := 102
def n_math_bits_OnesCount32 : Nat := 106
def n_math_bits_OnesCount64 : Nat := 107
/-- laws.FnNoMatter -/
def F_laws_FnNoMatter_L0 : LC :=
 (.seq
 (.seq
 (.region false [⟨some 32, .mv, [.t 8], none⟩,
 ⟨some 33, .mv, [.t 7], none⟩,
 ⟨some 34, .len, [.t 33], none⟩,
 ⟨some 35, .bin .lss, [.t 32, .t 34], none⟩] [32, 33, 34])
 (.cond (.t 35) [35]
 .skip
 (.exit 0)))
 (.seq
 (.block 1
 (.seq
 (.region false [⟨some 38, .mv, [.t 6], none⟩,
 ⟨some 39, .mv, [.t 8], none⟩,
 ⟨some 40, .bin .shr, [.t 38, .t 39], none⟩,
 ⟨some 41, .bin .rem, [.t 40, .c (.i 2)], none⟩,
 ⟨some 42, .bin .eql, [.t 41, .c (.i 1)], none⟩] [38, 39, 40, 41])
 (.cond (.t 42) [42]
 (.region true [⟨some 43, .mv, [.t 7], none⟩,
 ⟨some 44, .mv, [.t 8], none⟩,
 ⟨some 45, .mv, [.t 3], none⟩,
 ⟨some 46, .mv, [.t 8], none⟩,
 ⟨some 47, .idxa 2, [.t 45, .t 46], none⟩,
 ⟨some 48, .fld 0 1 false, [.t 47], none⟩,
 ⟨some 49, .load 1 false, [.t 48], none⟩,
 ⟨some 50, .bin .sub, [.c (.i 10), .t 49], none⟩,
 ⟨some 51, .mv, [.t 3], none⟩,
 ⟨some 52, .mv, [.t 8], none⟩,
 ⟨some 53, .idxa 2, [.t 51, .t 52], none⟩,
 ⟨some 54, .fld 1 1 false, [.t 53], none⟩,
 ⟨some 55, .load 1 false, [.t 54], none⟩,
 ⟨some 56, .build [.i 0, .i 0] [(0, 1), (1, 1)], [.t 50, .t 55], none⟩,
 ⟨some 57, .idxa 2, [.t 43, .t 44], none⟩,
 ⟨none, .store 2, [.t 57, .t 56], none⟩] [43, 44, 45, 46, 47, 48, 49, 50, 51, 52, 53, 54, 55, 56, 57])
 .skip)))
 (.region false [⟨some 36, .mv, [.t 8], none⟩,
 ⟨some 37, .bin .add, [.t 36, .c (.i 1)], none⟩,
 ⟨some 8, .mv, [.t 37], none⟩] [36, 37])))
def F_laws_FnNoMatter_W0 : LC := .loop F_laws_FnNoMatter_L0
def F_laws_FnNoMatter : LF :=
 { nparams := 1, results := [.t 2], body :=
 (.seq
 (.region false [⟨some 2, .mv, [.c (.b false)], none⟩] [2])
 (.seq
 (.seq
 (.region false [⟨some 11, .mv, [.t 0], none⟩,
 ⟨some 12, .len, [.t 11], none⟩,
 ⟨some 13, .bin .gtr, [.t 12, .c (.i 1048576)], none⟩] [11, 12])
 (.cond (.t 13) [13]
 (.seq
 (.region false [⟨some 2, .mv, [.c (.b true)], none⟩] [0])
 .ret)
 .skip))
 (.seq
 (.region false [⟨some 15, .mv, [.t 0], none⟩,
 ⟨some 16, .call n_spec_DrawBestPlan 8192, [.t 15], none⟩,
 ⟨some 14, .mv, [.t 16], none⟩,
 ⟨some 17, .ext 0, [.t 14], none⟩,
 ⟨some 18, .ext 1, [.t 14], none⟩,
 ⟨some 3, .mv, [.t 17], none⟩,
 ⟨some 4, .mv, [.t 18], none⟩] [0, 14, 15, 16, 17, 18])
 (.ghost (.freeze 3)
 (.seq
 (.region false [⟨some 19, .mv, [.t 3], none⟩,
 ⟨some 20, .mv, [.t 4], none⟩,
 ⟨some 21, .call n_impl_BestAverage 10752, [.t 19, .t 20], none⟩,
 ⟨some 5, .mv, [.t 21], none⟩] [19, 20, 21])
 (.seq
 (.seq
 (.region false [⟨some 22, .mv, [.t 5], none⟩,
 ⟨some 23, .bin .lss, [.t 22, .c (.i 0)], none⟩] [22])
 (.cond (.t 23) [23]
 (.seq
 (.region false [⟨some 24, .call n_laws_alive 12288, [], none⟩,
 ⟨some 2, .mv, [.t 24], none⟩] [3, 4, 5, 24])
 .ret)
 .skip))
 (.seq
 (.region false [⟨some 25, .mv, [.t 3], none⟩,
 ⟨some 26, .len, [.t 25], none⟩,
 ⟨some 27, .mv, [.t 4], none⟩,
 ⟨some 28, .call n_impl_IdleTests 14336, [.t 26, .t 27], none⟩,
 ⟨some 6, .mv, [.t 28], none⟩] [25, 26, 27, 28])
 (.seq
 (.region false [⟨some 29, .bslice 14864 0 2 (.st [.i 0, .i 0]) [], [], none⟩,
 ⟨some 30, .mv, [.t 3], none⟩,
 ⟨some 31, .app 15888 2, [.t 29, .t 30], none⟩,
 ⟨some 7, .mv, [.t 31], none⟩] [29, 30, 31])
 (.seq
 (.seq
 (.region false [⟨some 8, .mv, [.c (.i 0)], none⟩] [])
 (.block 0
 F_laws_FnNoMatter_W0))
 (.seq
 (.region false [⟨some 59, .mv, [.t 7], none⟩,
 ⟨some 60, .mv, [.t 4], none⟩,
 ⟨some 61, .call n_impl_BestPlan 31232, [.t 59, .t 60], none⟩,
 ⟨some 58, .mv, [.t 61], none⟩,
 ⟨some 62, .ext 0, [.t 58], none⟩,
 ⟨some 63, .ext 1, [.t 58], none⟩,
 ⟨some 9, .mv, [.t 62], none⟩,
 ⟨some 10, .mv, [.t 63], none⟩] [6, 8, 58, 59, 60, 61, 62, 63])
 (.seq
 (.region false [⟨some 64, .call n_laws_alive 32768, [], none⟩,
 ⟨some 65, .mv, [.t 64], none⟩,
 ⟨some 66, .mv, [.t 7], some (65, true)⟩,
 ⟨some 67, .mv, [.t 4], some (65, true)⟩,
 ⟨some 68, .call n_impl_BestAverage 34816, [.t 66, .t 67], some (65, true)⟩,
 ⟨some 69, .mv, [.t 5], some (65, true)⟩,
 ⟨some 70, .bin .eql, [.t 68, .t 69], some (65, true)⟩,
 ⟨some 71, .mv, [.t 70], some (65, true)⟩,
 ⟨some 72, .mv, [.t 10], some (71, true)⟩,
 ⟨some 73, .pick, [.t 71, .t 72, .c (.b false)], some (65, true)⟩,
 ⟨some 74, .mv, [.t 73], some (65, true)⟩,
 ⟨some 75, .mv, [.t 3], some (74, true)⟩,
 ⟨some 76, .mv, [.t 4], some (74, true)⟩,
 ⟨some 77, .mv, [.t 9], some (74, true)⟩,
 ⟨some 78, .call n_impl_AverageBy 39936, [.t 75, .t 76, .t 77], some (74, true)⟩,
 ⟨some 79, .mv, [.t 5], some (74, true)⟩,
 ⟨some 80, .bin .eql, [.t 78, .t 79], some (74, true)⟩,
 ⟨some 81, .pick, [.t 74, .t 80, .c (.b false)], some (65, true)⟩,
 ⟨some 82, .pick, [.t 65, .t 81, .c (.b false)], none⟩,
 ⟨some 2, .mv, [.t 82], none⟩] [3, 4, 5, 7, 9, 10, 64, 65, 66, 67, 68, 69, 70, 71, 72, 73, 74, 75, 76, 77, 78, 79, 80, 81, 82])
 .ret))))))))))) }
/-- impl.AverageBy -/
def F_impl_AverageBy_L0 : LC :=
 (.seq
 (.region false [⟨some 24, .bin .lss, [.t 23, .t 22], none⟩] [])
 (.seq
 (.cond (.t 24) [24]
 .skip
 (.exit 0))
 (.seq
 (.block 1
 (.seq
 (.region false [⟨some 25, .mv, [.t 23], none⟩,
 ⟨some 26, .idxa 1, [.t 21, .t 23], none⟩,
 ⟨some 27, .load 1 false, [.t 26], none⟩,
 ⟨some 10, .mv, [.t 25], none⟩,
 ⟨some 11, .mv, [.t 27], none⟩] [25, 26, 27])
 (.region false [⟨some 28, .mv, [.t 9], none⟩,
 ⟨some 29, .mv, [.t 0], none⟩,
 ⟨some 30, .mv, [.t 10], none⟩,
 ⟨some 31, .call n_impl_WeightOf 15872, [.t 29, .t 30], none⟩,
 ⟨some 32, .mv, [.t 11], none⟩,
 ⟨some 33, .bin .mul, [.t 31, .t 32], none⟩,
 ⟨some 34, .bin .add, [.t 28, .t 33], none⟩,
 ⟨some 9, .mv, [.t 34], none⟩] [10, 11, 28, 29, 30, 31, 32, 33, 34])))
 (.region false [⟨some 35, .bin .add, [.t 23, .c (.i 1)], none⟩,
 ⟨some 23, .mv, [.t 35], none⟩] [35]))))
def F_impl_AverageBy_W0 : LC := .loop F_impl_AverageBy_L0
def F_impl_AverageBy : LF :=
 { nparams := 3, results := [.t 6], body :=
 (.seq
 (.region false [⟨some 6, .mv, [.c (.i 0)], none⟩] [6])
 (.seq
 (.region false [⟨some 13, .mv, [.t 0], none⟩,
 ⟨some 14, .mv, [.t 1], none⟩,
 ⟨some 15, .mv, [.t 2], none⟩,
 ⟨some 16, .call n_impl_costsBy 8192, [.t 13, .t 14, .t 15], none⟩,
 ⟨some 12, .mv, [.t 16], none⟩,
 ⟨some 17, .ext 0, [.t 12], none⟩,
 ⟨some 18, .ext 1, [.t 12], none⟩,
 ⟨some 7, .mv, [.t 17], none⟩,
 ⟨some 8, .mv, [.t 18], none⟩] [1, 2, 12, 13, 14, 15, 16, 17, 18])
 (.seq
 (.seq
 (.region false [⟨some 19, .mv, [.t 8], none⟩,
 ⟨some 20, .un .not, [.t 19], none⟩] [8, 19])
 (.cond (.t 20) [20]
 (.seq
 (.region false [⟨some 6, .mv, [.c (.i (-1))], none⟩] [0, 7])
 .ret)
 .skip))
 (.seq
 (.region false [⟨some 9, .mv, [.c (.i 0)], none⟩] [])
 (.seq
 (.seq
 (.region false [⟨some 21, .mv, [.t 7], none⟩,
 ⟨some 22, .len, [.t 21], none⟩,
 ⟨some 23, .mv, [.c (.i 0)], none⟩] [7])
 (.block 0
 F_impl_AverageBy_W0))
 (.seq
 (.region false [⟨some 36, .mv, [.t 9], none⟩,
 ⟨some 6, .mv, [.t 36], none⟩] [0, 9, 21, 22, 23, 36])
 .ret)))))) }
/-- laws.alive -/
def F_laws_alive : LF :=
 { nparams := 0, results := [.t 0], body :=
 (.seq
 (.region false [⟨some 0, .mv, [.c (.b false)], none⟩] [0])
 (.seq
 (.region false [⟨some 1, .build [.i 0, .i 0] [(0, 1), (1, 1)], [.c (.i 1), .c (.i 1)], none⟩,
 ⟨some 2, .bslice 1040 1 2 (.st [.i 0, .i 0]) [0], [.t 1], none⟩,
 ⟨some 3, .call n_impl_TestsOk 1536, [.t 2], none⟩,
 ⟨some 4, .mv, [.t 3], none⟩,
 ⟨some 5, .build [.i 0, .i 0] [], [], some (4, true)⟩,
 ⟨some 6, .bslice 3088 1 2 (.st [.i 0, .i 0]) [0], [.t 5], some (4, true)⟩,
 ⟨some 7, .call n_impl_TestsOk 3584, [.t 6], some (4, true)⟩,
 ⟨some 8, .un .not, [.t 7], some (4, true)⟩,
 ⟨some 9, .pick, [.t 4, .t 8, .c (.b false)], none⟩,
 ⟨some 0, .mv, [.t 9], none⟩] [1, 2, 3, 4, 5, 6, 7, 8, 9])
 .ret)) }
/-- impl.CostBy -/
def F_impl_CostBy_L0 : LC :=
 (.seq
 (.seq
 (.region false [⟨some 36, .mv, [.t 14], none⟩,
 ⟨some 37, .bin .neq, [.t 36, .c (.i (-1))], none⟩] [36])
 (.cond (.t 37) [37]
 .skip
 (.exit 0)))
 (.seq
 (.block 1
 (.seq
 (.region false [⟨some 44, .mv, [.t 2], none⟩,
 ⟨some 45, .mv, [.t 14], none⟩,
 ⟨some 46, .idxa 3, [.t 44, .t 45], none⟩,
 ⟨some 47, .fld 0 1 false, [.t 46], none⟩,
 ⟨some 48, .load 1 false, [.t 47], none⟩,
 ⟨some 15, .mv, [.t 48], none⟩] [44, 45, 46, 47, 48])
 (.seq
 (.region false [⟨some 49, .mv, [.t 12], none⟩,
 ⟨some 50, .mv, [.t 0], none⟩,
 ⟨some 51, .mv, [.t 15], none⟩,
 ⟨some 52, .idxa 2, [.t 50, .t 51], none⟩,
 ⟨some 53, .fld 0 1 false, [.t 52], none⟩,
 ⟨some 54, .load 1 false, [.t 53], none⟩,
 ⟨some 55, .bin .add, [.t 49, .t 54], none⟩,
 ⟨some 12, .mv, [.t 55], none⟩] [49, 50, 51, 52, 53, 54, 55])
 (.region false [⟨some 56, .mv, [.t 13], none⟩,
 ⟨some 57, .mv, [.t 15], none⟩,
 ⟨some 58, .bin .shl, [.c (.i 1), .t 57], none⟩,
 ⟨some 59, .bin .or, [.t 56, .t 58], none⟩,
 ⟨some 13, .mv, [.t 59], none⟩] [15, 56, 57, 58, 59]))))
 (.region false [⟨some 38, .mv, [.t 2], none⟩,
 ⟨some 39, .mv, [.t 14], none⟩,
 ⟨some 40, .idxa 3, [.t 38, .t 39], none⟩,
 ⟨some 41, .load 3 true, [.t 40], none⟩,
 ⟨some 42, .mv, [.t 3], none⟩,
 ⟨some 43, .call n_impl_Choice_nextIn 22016, [.t 41, .t 42], none⟩,
 ⟨some 14, .mv, [.t 43], none⟩] [38, 39, 40, 41, 42, 43])))
def F_impl_CostBy_W0 : LC := .loop F_impl_CostBy_L0
def F_impl_CostBy : LF :=
 { nparams := 4, results := [.t 8, .t 9, .t 10], body :=
 (.seq
 (.region false [⟨some 8, .mv, [.c (.i 0)], none⟩,
 ⟨some 9, .mv, [.c (.i 0)], none⟩,
 ⟨some 10, .mv, [.c (.b false)], none⟩] [8, 9, 10])
 (.seq
 (.region false [⟨some 16, .mv, [.t 0], none⟩,
 ⟨some 17, .len, [.t 16], none⟩,
 ⟨some 11, .mv, [.t 17], none⟩] [16, 17])
 (.seq
 (.seq
 (.region false [⟨some 18, .mv, [.t 0], none⟩,
 ⟨some 19, .call n_impl_TestsOk 9728, [.t 18], none⟩,
 ⟨some 20, .un .not, [.t 19], none⟩,
 ⟨some 21, .mv, [.t 20], none⟩,
 ⟨some 22, .mv, [.t 11], some (21, false)⟩,
 ⟨some 23, .mv, [.t 1], some (21, false)⟩,
 ⟨some 24, .mv, [.t 2], some (21, false)⟩,
 ⟨some 25, .call n_impl_PlanOk 12800, [.t 22, .t 23, .t 24], some (21, false)⟩,
 ⟨some 26, .un .not, [.t 25], some (21, false)⟩,
 ⟨some 27, .pick, [.t 21, .c (.b true), .t 26], none⟩,
 ⟨some 28, .mv, [.t 27], none⟩,
 ⟨some 29, .mv, [.t 11], some (28, false)⟩,
 ⟨some 30, .mv, [.t 3], some (28, false)⟩,
 ⟨some 31, .call n_impl_StateOk 15872, [.t 29, .t 30], some (28, false)⟩,
 ⟨some 32, .un .not, [.t 31], some (28, false)⟩,
 ⟨some 33, .pick, [.t 28, .c (.b true), .t 32], none⟩] [1, 11, 18, 19, 20, 21, 22, 23, 24, 25, 26, 27, 28, 29, 30, 31, 32])
 (.cond (.t 33) [33]
 (.seq
 (.region false [⟨some 8, .mv, [.c (.i 0)], none⟩,
 ⟨some 9, .mv, [.c (.i 0)], none⟩,
 ⟨some 10, .mv, [.c (.b false)], none⟩] [0, 2, 3])
 .ret)
 .skip))
 (.seq
 (.region false [⟨some 12, .mv, [.c (.i 0)], none⟩,
 ⟨some 13, .mv, [.c (.i 0)], none⟩] [])
 (.seq
 (.seq
 (.region false [⟨some 34, .mv, [.t 2], none⟩,
 ⟨some 35, .call n_impl_firstOf 17920, [.t 34], none⟩,
 ⟨some 14, .mv, [.t 35], none⟩] [34, 35])
 (.block 0
 F_impl_CostBy_W0))
 (.seq
 (.region false [⟨some 60, .mv, [.t 12], none⟩,
 ⟨some 61, .mv, [.t 13], none⟩,
 ⟨some 8, .mv, [.t 60], none⟩,
 ⟨some 9, .mv, [.t 61], none⟩,
 ⟨some 10, .mv, [.c (.b true)], none⟩] [0, 2, 3, 12, 13, 14, 60, 61])
 .ret)))))) }
/-- impl.WeightOf -/
def F_impl_WeightOf_L0 : LC :=
 (.seq
 (.region false [⟨some 21, .bin .lss, [.t 20, .t 19], none⟩] [])
 (.seq
 (.cond (.t 21) [21]
 .skip
 (.exit 0))
 (.seq
 (.block 1
 (.seq
 (.region false [⟨some 22, .mv, [.t 20], none⟩,
 ⟨some 23, .idxa 2, [.t 18, .t 20], none⟩,
 ⟨some 24, .load 2 true, [.t 23], none⟩,
 ⟨some 7, .alloc 3600 (.st [.i 0, .i 0]), [], none⟩,
 ⟨some 6, .mv, [.t 22], none⟩,
 ⟨none, .store 2, [.t 7, .t 24], none⟩] [22, 23, 24])
 (.seq
 (.region false [⟨some 25, .mv, [.t 1], none⟩,
 ⟨some 26, .mv, [.t 6], none⟩,
 ⟨some 27, .call n_impl_outcomeIn 13824, [.t 25, .t 26], none⟩,
 ⟨some 28, .bin .eql, [.t 27, .c (.i 1)], none⟩] [6, 25, 26, 27])
 (.cond (.t 28) [28]
 (.region false [⟨some 29, .mv, [.t 5], none⟩,
 ⟨some 30, .fld 1 1 false, [.t 7], none⟩,
 ⟨some 31, .load 1 false, [.t 30], none⟩,
 ⟨some 32, .bin .mul, [.t 29, .t 31], none⟩,
 ⟨some 5, .mv, [.t 32], none⟩] [7, 29, 30, 31, 32])
 (.region false [⟨some 33, .mv, [.t 5], none⟩,
 ⟨some 34, .fld 1 1 false, [.t 7], none⟩,
 ⟨some 35, .load 1 false, [.t 34], none⟩,
 ⟨some 36, .bin .sub, [.c (.i 6), .t 35], none⟩,
 ⟨some 37, .bin .mul, [.t 33, .t 36], none⟩,
 ⟨some 5, .mv, [.t 37], none⟩] [7, 33, 34, 35, 36, 37])))))
 (.region false [⟨some 38, .bin .add, [.t 20, .c (.i 1)], none⟩,
 ⟨some 20, .mv, [.t 38], none⟩] [38]))))
def F_impl_WeightOf_W0 : LC := .loop F_impl_WeightOf_L0
def F_impl_WeightOf : LF :=
 { nparams := 2, results := [.t 4], body :=
 (.seq
 (.region false [⟨some 4, .mv, [.c (.i 0)], none⟩] [4])
 (.seq
 (.seq
 (.region false [⟨some 8, .mv, [.t 0], none⟩,
 ⟨some 9, .call n_impl_TestsOk 4608, [.t 8], none⟩,
 ⟨some 10, .un .not, [.t 9], none⟩,
 ⟨some 11, .mv, [.t 10], none⟩,
 ⟨some 12, .mv, [.t 0], some (11, false)⟩,
 ⟨some 13, .len, [.t 12], some (11, false)⟩,
 ⟨some 14, .mv, [.t 1], some (11, false)⟩,
 ⟨some 15, .call n_impl_StateOk 7680, [.t 13, .t 14], some (11, false)⟩,
 ⟨some 16, .un .not, [.t 15], some (11, false)⟩,
 ⟨some 17, .pick, [.t 11, .c (.b true), .t 16], none⟩] [8, 9, 10, 11, 12, 13, 14, 15, 16])
 (.cond (.t 17) [17]
 (.seq
 (.region false [⟨some 4, .mv, [.c (.i (-1))], none⟩] [0, 1])
 .ret)
 .skip))
 (.seq
 (.region false [⟨some 5, .mv, [.c (.i 1)], none⟩] [])
 (.seq
 (.seq
 (.region false [⟨some 18, .mv, [.t 0], none⟩,
 ⟨some 19, .len, [.t 18], none⟩,
 ⟨some 20, .mv, [.c (.i 0)], none⟩] [0])
 (.block 0
 F_impl_WeightOf_W0))
 (.seq
 (.region false [⟨some 39, .mv, [.t 5], none⟩,
 ⟨some 4, .mv, [.t 39], none⟩] [1, 5, 18, 19, 20, 39])
 .ret))))) }
/-- impl.BestAverage -/
def F_impl_BestAverage : LF :=
 { nparams := 2, results := [.t 4], body :=
 (.seq
 (.region false [⟨some 4, .mv, [.c (.i 0)], none⟩] [4])
 (.seq
 (.region false [⟨some 8, .mv, [.t 0], none⟩,
 ⟨some 9, .len, [.t 8], none⟩,
 ⟨some 5, .mv, [.t 9], none⟩] [8, 9])
 (.seq
 (.seq
 (.region false [⟨some 10, .mv, [.t 0], none⟩,
 ⟨some 11, .call n_impl_TestsOk 5632, [.t 10], none⟩,
 ⟨some 12, .un .not, [.t 11], none⟩,
 ⟨some 13, .mv, [.t 12], none⟩,
 ⟨some 14, .mv, [.t 5], some (13, false)⟩,
 ⟨some 15, .mv, [.t 1], some (13, false)⟩,
 ⟨some 16, .call n_impl_TermOk 8192, [.t 14, .t 15], some (13, false)⟩,
 ⟨some 17, .un .not, [.t 16], some (13, false)⟩,
 ⟨some 18, .pick, [.t 13, .c (.b true), .t 17], none⟩] [10, 11, 12, 13, 14, 15, 16, 17])
 (.cond (.t 18) [18]
 (.seq
 (.region false [⟨some 4, .mv, [.c (.i (-1))], none⟩] [0, 1, 5])
 .ret)
 .skip))
 (.seq
 (.region false [⟨some 20, .mv, [.t 5], none⟩,
 ⟨some 21, .mv, [.t 1], none⟩,
 ⟨some 22, .call n_impl_startOf 11264, [.t 20, .t 21], none⟩,
 ⟨some 23, .mv, [.t 0], none⟩,
 ⟨some 24, .call n_impl_averagesOf 12288, [.t 23], none⟩,
 ⟨some 25, .call n_impl_leastFrom 12800, [.t 22, .t 24], none⟩,
 ⟨some 19, .mv, [.t 25], none⟩,
 ⟨some 26, .ext 0, [.t 19], none⟩,
 ⟨some 27, .ext 1, [.t 19], none⟩,
 ⟨some 6, .mv, [.t 26], none⟩,
 ⟨some 7, .mv, [.t 27], none⟩] [0, 1, 5, 6, 19, 20, 21, 22, 23, 24, 25, 26, 27])
 (.seq
 (.region false [⟨some 28, .mv, [.t 7], none⟩,
 ⟨some 4, .mv, [.t 28], none⟩] [7, 28])
 .ret))))) }
/-- spec.DrawBestPlan -/
def F_spec_DrawBestPlan : LF :=
 { nparams := 1, results := [.t 2, .t 3], body :=
 (.seq
 (.region false [⟨some 2, .newnil 1040, [], none⟩,
 ⟨some 3, .newnil 1552, [], none⟩] [2, 3])
 (.seq
 (.region false [⟨some 4, .mv, [.t 0], none⟩,
 ⟨some 5, .call n_spec_l20Open 2560, [.t 4], none⟩,
 ⟨some 6, .call n_spec_l20Case 3072, [.t 5, .c (.i 12)], none⟩,
 ⟨some 7, .ext 0, [.t 6], none⟩,
 ⟨some 8, .ext 1, [.t 6], none⟩,
 ⟨some 2, .mv, [.t 7], none⟩,
 ⟨some 3, .mv, [.t 8], none⟩] [0, 4, 5, 6, 7, 8])
 .ret)) }
/-- impl.BestPlan -/
def F_impl_BestPlan : LF :=
 { nparams := 2, results := [.t 4, .t 5], body :=
 (.seq
 (.region false [⟨some 4, .newnil 2072, [], none⟩,
 ⟨some 5, .mv, [.c (.b false)], none⟩] [4, 5])
 (.seq
 (.region false [⟨some 9, .mv, [.t 0], none⟩,
 ⟨some 10, .len, [.t 9], none⟩,
 ⟨some 6, .mv, [.t 10], none⟩] [9, 10])
 (.seq
 (.seq
 (.region false [⟨some 11, .mv, [.t 0], none⟩,
 ⟨some 12, .call n_impl_TestsOk 6144, [.t 11], none⟩,
 ⟨some 13, .un .not, [.t 12], none⟩,
 ⟨some 14, .mv, [.t 13], none⟩,
 ⟨some 15, .mv, [.t 6], some (14, false)⟩,
 ⟨some 16, .mv, [.t 1], some (14, false)⟩,
 ⟨some 17, .call n_impl_TermOk 8704, [.t 15, .t 16], some (14, false)⟩,
 ⟨some 18, .un .not, [.t 17], some (14, false)⟩,
 ⟨some 19, .pick, [.t 14, .c (.b true), .t 18], none⟩] [11, 12, 13, 14, 15, 16, 17, 18])
 (.cond (.t 19) [19]
 (.seq
 (.region false [⟨some 4, .newnil 2072, [], none⟩,
 ⟨some 5, .mv, [.c (.b false)], none⟩] [0, 1, 6])
 .ret)
 .skip))
 (.seq
 (.region false [⟨some 20, .mv, [.t 0], none⟩,
 ⟨some 21, .call n_impl_averagesOf 10752, [.t 20], none⟩,
 ⟨some 7, .alloc 3592 (.dead), [], none⟩,
 ⟨none, .store 1, [.t 7, .t 21], none⟩] [0, 20, 21])
 (.seq
 (.region false [⟨some 22, .mv, [.t 6], none⟩,
 ⟨some 23, .mv, [.t 1], none⟩,
 ⟨some 24, .call n_impl_startOf 12288, [.t 22, .t 23], none⟩,
 ⟨some 25, .mkfn (mkNo n_impl_BestPlan_1 0), [.t 7], none⟩,
 ⟨some 26, .call n_impl_planFrom 13312, [.t 24, .c (.i 0), .t 25], none⟩,
 ⟨some 8, .mv, [.t 26], none⟩] [1, 6, 7, 22, 23, 24, 25, 26])
 (.seq
 (.region false [⟨some 27, .mv, [.t 8], none⟩,
 ⟨some 4, .mv, [.t 27], none⟩,
 ⟨some 5, .mv, [.c (.b true)], none⟩] [8, 27])
 .ret)))))) }
/-- impl.IdleTests -/
def F_impl_IdleTests : LF :=
 { nparams := 2, results := [.t 4], body :=
 (.seq
 (.region false [⟨some 4, .mv, [.c (.i 0)], none⟩] [4])
 (.seq
 (.seq
 (.region false [⟨some 6, .mv, [.t 0], none⟩,
 ⟨some 7, .mv, [.t 1], none⟩,
 ⟨some 8, .call n_impl_TermOk 4096, [.t 6, .t 7], none⟩,
 ⟨some 9, .un .not, [.t 8], none⟩] [6, 7, 8])
 (.cond (.t 9) [9]
 (.seq
 (.region false [⟨some 4, .mv, [.c (.i (-1))], none⟩] [0, 1])
 .ret)
 .skip))
 (.seq
 (.region false [⟨some 10, .mv, [.t 1], none⟩,
 ⟨some 11, .call n_impl_trueStates 5632, [.t 10], none⟩,
 ⟨some 5, .alloc 2568 (.w (0#32)), [], none⟩,
 ⟨none, .store 1, [.t 5, .t 11], none⟩] [1, 10, 11])
 (.seq
 (.region false [⟨some 12, .mv, [.t 0], none⟩,
 ⟨some 13, .mkfn (mkNo n_impl_IdleTests_1 0), [.t 5], none⟩,
 ⟨some 14, .call n_impl_testsWhere 7168, [.t 12, .t 13], none⟩,
 ⟨some 4, .mv, [.t 14], none⟩] [0, 5, 12, 13, 14])
 .ret)))) }
/-- impl.PlanOk -/
def F_impl_PlanOk : LF :=
 { nparams := 3, results := [.t 6], body :=
 (.seq
 (.region false [⟨some 6, .mv, [.c (.b false)], none⟩] [6])
 (.seq
 (.region false [⟨some 10, .mv, [.t 0], none⟩,
 ⟨some 11, .mv, [.t 1], none⟩,
 ⟨some 12, .mv, [.t 2], none⟩,
 ⟨some 13, .call n_impl_pointsOf 6656, [.t 10, .t 11, .t 12], none⟩,
 ⟨some 9, .mv, [.t 13], none⟩,
 ⟨some 14, .ext 0, [.t 9], none⟩,
 ⟨some 15, .ext 1, [.t 9], none⟩,
 ⟨some 7, .mv, [.t 14], none⟩,
 ⟨some 8, .mv, [.t 15], none⟩] [0, 1, 2, 7, 9, 10, 11, 12, 13, 14, 15])
 (.seq
 (.region false [⟨some 16, .mv, [.t 8], none⟩,
 ⟨some 6, .mv, [.t 16], none⟩] [8, 16])
 .ret))) }
/-- spec.l20Open -/
def F_spec_l20Open : LF :=
 { nparams := 1, results := [.t 2], body :=
 (.seq
 (.region false [⟨some 2, .mv, [.c (.np)], none⟩] [2])
 (.seq
 (.seq
 (.region false [⟨some 3, .mv, [.t 0], none⟩,
 ⟨some 4, .len, [.t 3], none⟩,
 ⟨some 5, .bin .gtr, [.t 4, .c (.i 2000)], none⟩] [3, 4])
 (.cond (.t 5) [5]
 (.region false [⟨some 6, .mv, [.t 0], none⟩,
 ⟨some 7, .slice false true 1, [.t 6, .c (.i 2000)], none⟩,
 ⟨some 0, .mv, [.t 7], none⟩] [6, 7])
 .skip))
 (.seq
 (.region false [⟨some 8, .mv, [.t 0], none⟩,
 ⟨some 9, .build [.sl 1 [], .i 0] [(0, 1)], [.t 8], none⟩,
 ⟨some 10, .box 5136, [.t 9], none⟩,
 ⟨some 2, .mv, [.t 10], none⟩] [0, 8, 9, 10])
 .ret))) }
/-- spec.l20Case -/
def F_spec_l20Case : LF :=
 { nparams := 2, results := [.t 4, .t 5], body :=
 (.seq
 (.region false [⟨some 4, .newnil 2064, [], none⟩,
 ⟨some 5, .newnil 2576, [], none⟩] [4, 5])
 (.seq
 (.region false [⟨some 7, .mv, [.t 0], none⟩,
 ⟨some 8, .mv, [.t 1], none⟩,
 ⟨some 9, .bin .mul, [.t 8, .c (.i 2)], none⟩,
 ⟨some 10, .call n_spec_l20Tests 5120, [.t 7, .t 9], none⟩,
 ⟨some 6, .mv, [.t 10], none⟩] [7, 8, 9, 10])
 (.seq
 (.region false [⟨some 11, .mv, [.t 6], none⟩,
 ⟨some 12, .mv, [.t 0], none⟩,
 ⟨some 13, .mv, [.t 6], none⟩,
 ⟨some 14, .len, [.t 13], none⟩,
 ⟨some 15, .mv, [.t 1], none⟩,
 ⟨some 16, .call n_spec_l20Term 8192, [.t 12, .t 14, .t 15], none⟩,
 ⟨some 4, .mv, [.t 11], none⟩,
 ⟨some 5, .mv, [.t 16], none⟩] [1, 6, 11, 12, 13, 14, 15, 16])
 .ret))) }
/-- impl.costsBy -/
def F_impl_costsBy_L0 : LC :=
 (.seq
 (.region false [⟨some 29, .bin .lss, [.t 28, .t 27], none⟩] [])
 (.seq
 (.cond (.t 29) [29]
 .skip
 (.exit 0))
 (.seq
 (.block 1
 (.seq
 (.region false [⟨some 30, .mv, [.t 28], none⟩,
 ⟨some 10, .mv, [.t 30], none⟩] [30])
 (.region false [⟨some 32, .mv, [.t 9], none⟩,
 ⟨some 33, .mv, [.t 10], none⟩,
 ⟨some 34, .mv, [.t 0], none⟩,
 ⟨some 35, .mv, [.t 1], none⟩,
 ⟨some 36, .mv, [.t 2], none⟩,
 ⟨some 37, .mv, [.t 10], none⟩,
 ⟨some 38, .call n_impl_CostBy 19456, [.t 34, .t 35, .t 36, .t 37], none⟩,
 ⟨some 31, .mv, [.t 38], none⟩,
 ⟨some 39, .ext 0, [.t 31], none⟩,
 ⟨some 40, .ext 1, [.t 31], none⟩,
 ⟨some 41, .ext 2, [.t 31], none⟩,
 ⟨some 42, .idxa 1, [.t 32, .t 33], none⟩,
 ⟨none, .store 1, [.t 42, .t 39], none⟩] [10, 31, 32, 33, 34, 35, 36, 37, 38, 39, 40, 41, 42])))
 (.region false [⟨some 43, .bin .add, [.t 28, .c (.i 1)], none⟩,
 ⟨some 28, .mv, [.t 43], none⟩] [43]))))
def F_impl_costsBy_W0 : LC := .loop F_impl_costsBy_L0
def F_impl_costsBy : LF :=
 { nparams := 3, results := [.t 6, .t 7], body :=
 (.seq
 (.region false [⟨some 6, .newnil 3080, [], none⟩,
 ⟨some 7, .mv, [.c (.b false)], none⟩] [6, 7])
 (.seq
 (.region false [⟨some 11, .mv, [.t 0], none⟩,
 ⟨some 12, .len, [.t 11], none⟩,
 ⟨some 8, .mv, [.t 12], none⟩] [11, 12])
 (.seq
 (.seq
 (.region false [⟨some 13, .mv, [.t 0], none⟩,
 ⟨some 14, .call n_impl_TestsOk 7168, [.t 13], none⟩,
 ⟨some 15, .un .not, [.t 14], none⟩,
 ⟨some 16, .mv, [.t 15], none⟩,
 ⟨some 17, .mv, [.t 8], some (16, false)⟩,
 ⟨some 18, .mv, [.t 1], some (16, false)⟩,
 ⟨some 19, .mv, [.t 2], some (16, false)⟩,
 ⟨some 20, .call n_impl_PlanOk 10240, [.t 17, .t 18, .t 19], some (16, false)⟩,
 ⟨some 21, .un .not, [.t 20], some (16, false)⟩,
 ⟨some 22, .pick, [.t 16, .c (.b true), .t 21], none⟩] [13, 14, 15, 16, 17, 18, 19, 20, 21])
 (.cond (.t 22) [22]
 (.seq
 (.region false [⟨some 6, .newnil 3080, [], none⟩,
 ⟨some 7, .mv, [.c (.b false)], none⟩] [0, 1, 2, 8])
 .ret)
 .skip))
 (.seq
 (.region false [⟨some 23, .mv, [.t 8], none⟩,
 ⟨some 24, .call n_impl_statesOf 12288, [.t 23], none⟩,
 ⟨some 25, .make 12808 1 (.i 0), [.t 24, .t 24], none⟩,
 ⟨some 9, .mv, [.t 25], none⟩] [8, 23, 24, 25])
 (.seq
 (.seq
 (.region false [⟨some 26, .mv, [.t 9], none⟩,
 ⟨some 27, .len, [.t 26], none⟩,
 ⟨some 28, .mv, [.c (.i 0)], none⟩] [26])
 (.block 0
 F_impl_costsBy_W0))
 (.seq
 (.region false [⟨some 44, .mv, [.t 9], none⟩,
 ⟨some 6, .mv, [.t 44], none⟩,
 ⟨some 7, .mv, [.c (.b true)], none⟩] [0, 1, 2, 9, 27, 28, 44])
 .ret)))))) }
/-- impl.TestsOk -/
def F_impl_TestsOk_L0 : LC :=
 (.seq
 (.region false [⟨some 12, .bin .lss, [.t 11, .t 10], none⟩] [])
 (.seq
 (.cond (.t 12) [12]
 .skip
 (.exit 0))
 (.seq
 (.block 1
 (.seq
 (.region false [⟨some 13, .idxa 2, [.t 9, .t 11], none⟩,
 ⟨some 14, .load 2 true, [.t 13], none⟩,
 ⟨some 4, .alloc 2064 (.st [.i 0, .i 0]), [], none⟩,
 ⟨none, .store 2, [.t 4, .t 14], none⟩] [13, 14])
 (.seq
 (.region false [⟨some 15, .fld 0 1 false, [.t 4], none⟩,
 ⟨some 16, .load 1 false, [.t 15], none⟩,
 ⟨some 17, .call n_impl_isWithin 8704, [.t 16, .c (.i 1), .c (.i 9)], none⟩,
 ⟨some 18, .un .not, [.t 17], none⟩,
 ⟨some 19, .mv, [.t 18], none⟩,
 ⟨some 20, .fld 1 1 false, [.t 4], some (19, false)⟩,
 ⟨some 21, .load 1 false, [.t 20], some (19, false)⟩,
 ⟨some 22, .call n_impl_isWithin 11264, [.t 21, .c (.i 1), .c (.i 5)], some (19, false)⟩,
 ⟨some 23, .un .not, [.t 22], some (19, false)⟩,
 ⟨some 24, .pick, [.t 19, .c (.b true), .t 23], none⟩] [4, 15, 16, 17, 18, 19, 20, 21, 22, 23])
 (.cond (.t 24) [24]
 (.seq
 (.region false [⟨some 2, .mv, [.c (.b false)], none⟩] [9, 10, 11])
 .ret)
 .skip))))
 (.region false [⟨some 25, .bin .add, [.t 11, .c (.i 1)], none⟩,
 ⟨some 11, .mv, [.t 25], none⟩] [25]))))
def F_impl_TestsOk_W0 : LC := .loop F_impl_TestsOk_L0
def F_impl_TestsOk : LF :=
 { nparams := 1, results := [.t 2], body :=
 (.seq
 (.region false [⟨some 2, .mv, [.c (.b false)], none⟩] [2])
 (.seq
 (.seq
 (.region false [⟨some 5, .mv, [.t 0], none⟩,
 ⟨some 6, .len, [.t 5], none⟩,
 ⟨some 7, .call n_impl_manyOk 3584, [.t 6], none⟩,
 ⟨some 8, .un .not, [.t 7], none⟩] [5, 6, 7])
 (.cond (.t 8) [8]
 (.seq
 (.region false [⟨some 2, .mv, [.c (.b false)], none⟩] [0])
 .ret)
 .skip))
 (.seq
 (.seq
 (.region false [⟨some 9, .mv, [.t 0], none⟩,
 ⟨some 10, .len, [.t 9], none⟩,
 ⟨some 11, .mv, [.c (.i 0)], none⟩] [0])
 (.block 0
 F_impl_TestsOk_W0))
 (.seq
 (.region false [⟨some 2, .mv, [.c (.b true)], none⟩] [9, 10, 11])
 .ret)))) }
/-- impl.StateOk -/
def F_impl_StateOk : LF :=
 { nparams := 2, results := [.t 4], body :=
 (.seq
 (.region false [⟨some 4, .mv, [.c (.b false)], none⟩] [4])
 (.seq
 (.region false [⟨some 5, .mv, [.t 0], none⟩,
 ⟨some 6, .call n_impl_manyOk 3072, [.t 5], none⟩,
 ⟨some 7, .mv, [.t 6], none⟩,
 ⟨some 8, .mv, [.t 1], some (7, true)⟩,
 ⟨some 9, .mv, [.t 0], some (7, true)⟩,
 ⟨some 10, .call n_impl_statesOf 5120, [.t 9], some (7, true)⟩,
 ⟨some 11, .bin .sub, [.t 10, .c (.i 1)], some (7, true)⟩,
 ⟨some 12, .call n_impl_isWithin 6144, [.t 8, .c (.i 0), .t 11], some (7, true)⟩,
 ⟨some 13, .pick, [.t 7, .t 12, .c (.b false)], none⟩,
 ⟨some 4, .mv, [.t 13], none⟩] [0, 1, 5, 6, 7, 8, 9, 10, 11, 12, 13])
 .ret)) }
/-- impl.firstOf -/
def F_impl_firstOf : LF :=
 { nparams := 1, results := [.t 2], body :=
 (.seq
 (.region false [⟨some 2, .mv, [.c (.i 0)], none⟩] [2])
 (.seq
 (.seq
 (.region false [⟨some 3, .mv, [.t 0], none⟩,
 ⟨some 4, .len, [.t 3], none⟩,
 ⟨some 5, .bin .eql, [.t 4, .c (.i 0)], none⟩] [0, 3, 4])
 (.cond (.t 5) [5]
 (.seq
 (.region false [⟨some 2, .mv, [.c (.i (-1))], none⟩] [])
 .ret)
 .skip))
 (.seq
 (.region false [⟨some 2, .mv, [.c (.i 0)], none⟩] [])
 .ret))) }
/-- impl.Choice).nextIn -/
def F_impl_Choice_nextIn : LF :=
 { nparams := 2, results := [.t 4], body :=
 (.seq
 (.region false [⟨some 2, .box 1048, [.t 0], none⟩,
 ⟨some 4, .mv, [.c (.i 0)], none⟩] [0, 4])
 (.seq
 (.seq
 (.region false [⟨some 5, .mv, [.t 1], none⟩,
 ⟨some 6, .fld 0 1 false, [.t 2], none⟩,
 ⟨some 7, .load 1 false, [.t 6], none⟩,
 ⟨some 8, .call n_impl_outcomeIn 4096, [.t 5, .t 7], none⟩,
 ⟨some 9, .bin .eql, [.t 8, .c (.i 1)], none⟩] [1, 5, 6, 7, 8])
 (.cond (.t 9) [9]
 (.seq
 (.region false [⟨some 10, .fld 2 1 false, [.t 2], none⟩,
 ⟨some 11, .load 1 false, [.t 10], none⟩,
 ⟨some 4, .mv, [.t 11], none⟩] [2, 10, 11])
 .ret)
 .skip))
 (.seq
 (.region false [⟨some 12, .fld 1 1 false, [.t 2], none⟩,
 ⟨some 13, .load 1 false, [.t 12], none⟩,
 ⟨some 4, .mv, [.t 13], none⟩] [2, 12, 13])
 .ret))) }
/-- impl.outcomeIn -/
def F_impl_outcomeIn : LF :=
 { nparams := 2, results := [.t 4], body :=
 (.seq
 (.region false [⟨some 4, .mv, [.c (.i 0)], none⟩] [4])
 (.seq
 (.region false [⟨some 5, .mv, [.t 0], none⟩,
 ⟨some 6, .mv, [.t 1], none⟩,
 ⟨some 7, .bin .shr, [.t 5, .t 6], none⟩,
 ⟨some 8, .bin .and, [.t 7, .c (.i 1)], none⟩,
 ⟨some 4, .mv, [.t 8], none⟩] [0, 1, 5, 6, 7, 8])
 .ret)) }
/-- impl.TermOk -/
def F_impl_TermOk_L0 : LC :=
 (.seq
 (.region false [⟨some 21, .bin .lss, [.t 20, .t 19], none⟩] [])
 (.seq
 (.cond (.t 21) [21]
 .skip
 (.exit 0))
 (.seq
 (.block 1
 (.seq
 (.region false [⟨some 22, .idxa 2, [.t 18, .t 20], none⟩,
 ⟨some 23, .load 2 true, [.t 22], none⟩,
 ⟨some 7, .alloc 3600 (.st [.i 0, .i 0]), [], none⟩,
 ⟨none, .store 2, [.t 7, .t 23], none⟩] [22, 23])
 (.seq
 (.region false [⟨some 24, .fld 0 1 false, [.t 7], none⟩,
 ⟨some 25, .load 1 false, [.t 24], none⟩,
 ⟨some 26, .call n_impl_partsTaken 13312, [.t 25], none⟩,
 ⟨some 8, .mv, [.t 26], none⟩] [24, 25, 26])
 (.seq
 (.seq
 (.region false [⟨some 27, .mv, [.t 0], none⟩,
 ⟨some 28, .load 2 true, [.t 7], none⟩,
 ⟨some 29, .call n_impl_markOk 14848, [.t 27, .t 28], none⟩,
 ⟨some 30, .un .not, [.t 29], none⟩,
 ⟨some 31, .mv, [.t 30], none⟩,
 ⟨some 32, .mv, [.t 5], some (31, false)⟩,
 ⟨some 33, .mv, [.t 8], some (31, false)⟩,
 ⟨some 34, .bin .lss, [.t 32, .t 33], some (31, false)⟩,
 ⟨some 35, .pick, [.t 31, .c (.b true), .t 34], none⟩] [7, 27, 28, 29, 30, 31, 32, 33, 34])
 (.cond (.t 35) [35]
 (.seq
 (.region false [⟨some 4, .mv, [.c (.b false)], none⟩] [0, 5, 8, 18, 19, 20])
 .ret)
 .skip))
 (.region false [⟨some 36, .mv, [.t 5], none⟩,
 ⟨some 37, .mv, [.t 8], none⟩,
 ⟨some 38, .bin .sub, [.c (.i 1), .t 37], none⟩,
 ⟨some 39, .bin .add, [.t 36, .t 38], none⟩,
 ⟨some 5, .mv, [.t 39], none⟩] [8, 36, 37, 38, 39])))))
 (.region false [⟨some 40, .bin .add, [.t 20, .c (.i 1)], none⟩,
 ⟨some 20, .mv, [.t 40], none⟩] [40]))))
def F_impl_TermOk_W0 : LC := .loop F_impl_TermOk_L0
def F_impl_TermOk : LF :=
 { nparams := 2, results := [.t 4], body :=
 (.seq
 (.region false [⟨some 4, .mv, [.c (.b false)], none⟩] [4])
 (.seq
 (.seq
 (.region false [⟨some 9, .mv, [.t 0], none⟩,
 ⟨some 10, .call n_impl_manyOk 5120, [.t 9], none⟩,
 ⟨some 11, .un .not, [.t 10], none⟩,
 ⟨some 12, .mv, [.t 11], none⟩,
 ⟨some 13, .mv, [.t 1], some (12, false)⟩,
 ⟨some 14, .len, [.t 13], some (12, false)⟩,
 ⟨some 15, .call n_impl_isWithin 7680, [.t 14, .c (.i 1), .c (.i 13)], some (12, false)⟩,
 ⟨some 16, .un .not, [.t 15], some (12, false)⟩,
 ⟨some 17, .pick, [.t 12, .c (.b true), .t 16], none⟩] [9, 10, 11, 12, 13, 14, 15, 16])
 (.cond (.t 17) [17]
 (.seq
 (.region false [⟨some 4, .mv, [.c (.b false)], none⟩] [0, 1])
 .ret)
 .skip))
 (.seq
 (.region false [⟨some 5, .mv, [.c (.i 0)], none⟩] [])
 (.seq
 (.seq
 (.region false [⟨some 18, .mv, [.t 1], none⟩,
 ⟨some 19, .len, [.t 18], none⟩,
 ⟨some 20, .mv, [.c (.i 0)], none⟩] [1])
 (.block 0
 F_impl_TermOk_W0))
 (.seq
 (.region false [⟨some 41, .mv, [.t 5], none⟩,
 ⟨some 42, .bin .eql, [.t 41, .c (.i 1)], none⟩,
 ⟨some 4, .mv, [.t 42], none⟩] [0, 5, 18, 19, 20, 41, 42])
 .ret))))) }
/-- impl.leastFrom -/
def F_impl_leastFrom_L0 : LC :=
 (.seq
 (.region false [⟨some 21, .bin .lss, [.t 20, .t 19], none⟩] [])
 (.seq
 (.cond (.t 21) [21]
 .skip
 (.exit 0))
 (.seq
 (.block 1
 (.seq
 (.region false [⟨some 22, .mv, [.t 20], none⟩,
 ⟨some 8, .mv, [.t 22], none⟩] [22])
 (.seq
 (.seq
 (.region false [⟨some 23, .load 4 true, [.t 2], none⟩,
 ⟨some 24, .mv, [.t 8], none⟩,
 ⟨some 25, .call n_impl_point_canAsk 12800, [.t 23, .t 24], none⟩,
 ⟨some 26, .un .not, [.t 25], none⟩] [23, 24, 25])
 (.cond (.t 26) [26]
 (.exit 1)
 .skip))
 (.seq
 (.region false [⟨some 28, .load 4 true, [.t 2], none⟩,
 ⟨some 29, .mv, [.t 8], none⟩,
 ⟨some 30, .call n_impl_point_answered 15360, [.t 28, .t 29, .c (.i 0)], none⟩,
 ⟨some 31, .mv, [.t 1], none⟩,
 ⟨some 32, .call n_impl_leastFrom 16384, [.t 30, .t 31], none⟩,
 ⟨some 27, .mv, [.t 32], none⟩,
 ⟨some 33, .ext 0, [.t 27], none⟩,
 ⟨some 34, .ext 1, [.t 27], none⟩,
 ⟨some 9, .mv, [.t 33], none⟩,
 ⟨some 10, .mv, [.t 34], none⟩] [9, 27, 28, 29, 30, 31, 32, 33, 34])
 (.seq
 (.region false [⟨some 36, .load 4 true, [.t 2], none⟩,
 ⟨some 37, .mv, [.t 8], none⟩,
 ⟨some 38, .call n_impl_point_answered 19456, [.t 36, .t 37, .c (.i 1)], none⟩,
 ⟨some 39, .mv, [.t 1], none⟩,
 ⟨some 40, .call n_impl_leastFrom 20480, [.t 38, .t 39], none⟩,
 ⟨some 35, .mv, [.t 40], none⟩,
 ⟨some 41, .ext 0, [.t 35], none⟩,
 ⟨some 42, .ext 1, [.t 35], none⟩,
 ⟨some 11, .mv, [.t 41], none⟩,
 ⟨some 12, .mv, [.t 42], none⟩] [11, 35, 36, 37, 38, 39, 40, 41, 42])
 (.seq
 (.region false [⟨some 43, .mv, [.t 1], none⟩,
 ⟨some 44, .load 4 true, [.t 2], none⟩,
 ⟨some 45, .mv, [.t 8], none⟩,
 ⟨some 46, .mv, [.t 10], none⟩,
 ⟨some 47, .mv, [.t 12], none⟩,
 ⟨some 48, .calld 24576, [.t 43, .t 44, .t 45, .t 46, .t 47], none⟩,
 ⟨some 13, .mv, [.t 48], none⟩] [10, 12, 43, 44, 45, 46, 47, 48])
 (.seq
 (.region false [⟨some 49, .mv, [.t 6], none⟩,
 ⟨some 50, .bin .eql, [.t 49, .c (.i (-1))], none⟩,
 ⟨some 51, .mv, [.t 50], none⟩,
 ⟨some 52, .mv, [.t 13], some (51, false)⟩,
 ⟨some 53, .mv, [.t 7], some (51, false)⟩,
 ⟨some 54, .bin .lss, [.t 52, .t 53], some (51, false)⟩,
 ⟨some 55, .pick, [.t 51, .c (.b true), .t 54], none⟩] [49, 50, 51, 52, 53, 54])
 (.cond (.t 55) [55]
 (.region false [⟨some 56, .mv, [.t 8], none⟩,
 ⟨some 57, .mv, [.t 13], none⟩,
 ⟨some 6, .mv, [.t 56], none⟩,
 ⟨some 7, .mv, [.t 57], none⟩] [8, 13, 56, 57])
 .skip))))))))
 (.region false [⟨some 58, .bin .add, [.t 20, .c (.i 1)], none⟩,
 ⟨some 20, .mv, [.t 58], none⟩] [8, 13, 58]))))
def F_impl_leastFrom_W0 : LC := .loop F_impl_leastFrom_L0
def F_impl_leastFrom : LF :=
 { nparams := 2, results := [.t 4, .t 5], body :=
 (.seq
 (.region false [⟨some 2, .box 1056, [.t 0], none⟩,
 ⟨some 4, .mv, [.c (.i 0)], none⟩,
 ⟨some 5, .mv, [.c (.i 0)], none⟩] [0, 4, 5])
 (.seq
 (.region false [⟨some 6, .mv, [.c (.i (-1))], none⟩,
 ⟨some 7, .mv, [.c (.i 0)], none⟩] [])
 (.seq
 (.seq
 (.region false [⟨some 14, .load 4 true, [.t 2], none⟩,
 ⟨some 15, .call n_impl_point_isForced 7680, [.t 14], none⟩] [14])
 (.cond (.t 15) [15]
 (.seq
 (.region false [⟨some 16, .mv, [.t 6], none⟩,
 ⟨some 17, .mv, [.t 7], none⟩,
 ⟨some 4, .mv, [.t 16], none⟩,
 ⟨some 5, .mv, [.t 17], none⟩] [1, 2, 6, 7, 16, 17])
 .ret)
 .skip))
 (.seq
 (.seq
 (.region false [⟨some 18, .fld 0 1 false, [.t 2], none⟩,
 ⟨some 19, .load 1 false, [.t 18], none⟩,
 ⟨some 20, .mv, [.c (.i 0)], none⟩] [18])
 (.block 0
 F_impl_leastFrom_W0))
 (.seq
 (.region false [⟨some 59, .mv, [.t 6], none⟩,
 ⟨some 60, .mv, [.t 7], none⟩,
 ⟨some 4, .mv, [.t 59], none⟩,
 ⟨some 5, .mv, [.t 60], none⟩] [1, 2, 6, 7, 19, 20, 59, 60])
 .ret))))) }
/-- impl.startOf -/
def F_impl_startOf : LF :=
 { nparams := 2, results := [.c 4 4 true], body :=
 (.seq
 (.region false [⟨some 4, .alloc 2080 (.st [.i 0, .i 0, .w (0#32), .w (0#32)]), [], none⟩] [])
 (.seq
 (.region false [⟨some 5, .mv, [.t 0], none⟩,
 ⟨some 6, .mv, [.t 1], none⟩,
 ⟨some 7, .call n_impl_trueStates 3584, [.t 6], none⟩,
 ⟨some 8, .build [.i 0, .i 0, .w (0#32), .w (0#32)] [(0, 1), (2, 1), (3, 1)], [.t 5, .c (.w (4294967295#32)), .t 7], none⟩,
 ⟨none, .store 4, [.t 4, .t 8], none⟩] [0, 1, 5, 6, 7, 8])
 .ret)) }
/-- impl.averagesOf -/
def F_impl_averagesOf : LF :=
 { nparams := 1, results := [.t 2], body :=
 (.seq
 (.region false [⟨some 1, .box 520, [.t 0], none⟩,
 ⟨some 2, .mv, [.c (.dead)], none⟩] [0, 2])
 (.seq
 (.region false [⟨some 3, .mkfn (mkNo n_impl_averagesOf_1 0), [.t 1], none⟩,
 ⟨some 2, .mv, [.t 3], none⟩] [1, 3])
 .ret)) }
/-- impl.planFrom -/
def F_impl_planFrom : LF :=
 { nparams := 3, results := [.t 6], body :=
 (.seq
 (.region false [⟨some 3, .box 1568, [.t 0], none⟩,
 ⟨some 6, .newnil 3096, [], none⟩] [0, 6])
 (.seq
 (.seq
 (.region false [⟨some 11, .load 4 true, [.t 3], none⟩,
 ⟨some 12, .call n_impl_point_isForced 6144, [.t 11], none⟩] [11])
 (.cond (.t 12) [12]
 (.seq
 (.region false [⟨some 6, .newnil 3096, [], none⟩] [1, 2, 3])
 .ret)
 .skip))
 (.seq
 (.region false [⟨some 13, .mv, [.t 2], none⟩,
 ⟨some 14, .load 4 true, [.t 3], none⟩,
 ⟨some 15, .calld 7680, [.t 13, .t 14], none⟩,
 ⟨some 7, .mv, [.t 15], none⟩] [13, 14, 15])
 (.seq
 (.region false [⟨some 16, .load 4 true, [.t 3], none⟩,
 ⟨some 17, .mv, [.t 7], none⟩,
 ⟨some 18, .call n_impl_point_answered 9216, [.t 16, .t 17, .c (.i 0)], none⟩,
 ⟨some 19, .mv, [.t 1], none⟩,
 ⟨some 20, .bin .add, [.t 19, .c (.i 1)], none⟩,
 ⟨some 21, .mv, [.t 2], none⟩,
 ⟨some 22, .call n_impl_planFrom 11264, [.t 18, .t 20, .t 21], none⟩,
 ⟨some 8, .mv, [.t 22], none⟩] [16, 17, 18, 19, 20, 21, 22])
 (.seq
 (.region false [⟨some 23, .load 4 true, [.t 3], none⟩,
 ⟨some 24, .mv, [.t 7], none⟩,
 ⟨some 25, .call n_impl_point_answered 12800, [.t 23, .t 24, .c (.i 1)], none⟩,
 ⟨some 26, .mv, [.t 1], none⟩,
 ⟨some 27, .bin .add, [.t 26, .c (.i 1)], none⟩,
 ⟨some 28, .mv, [.t 8], none⟩,
 ⟨some 29, .len, [.t 28], none⟩,
 ⟨some 30, .bin .add, [.t 27, .t 29], none⟩,
 ⟨some 31, .mv, [.t 2], none⟩,
 ⟨some 32, .call n_impl_planFrom 16384, [.t 25, .t 30, .t 31], none⟩,
 ⟨some 9, .mv, [.t 32], none⟩] [2, 3, 23, 24, 25, 26, 27, 28, 29, 30, 31, 32])
 (.seq
 (.region false [⟨some 33, .mv, [.t 7], none⟩,
 ⟨some 34, .build [.i 0, .i 0, .i 0] [(0, 1), (1, 1), (2, 1)], [.t 33, .c (.i (-1)), .c (.i (-1))], none⟩,
 ⟨some 10, .alloc 5144 (.st [.i 0, .i 0, .i 0]), [], none⟩,
 ⟨none, .store 3, [.t 10, .t 34], none⟩] [7, 33, 34])
 (.seq
 (.seq
 (.region false [⟨some 35, .mv, [.t 8], none⟩,
 ⟨some 36, .len, [.t 35], none⟩,
 ⟨some 37, .bin .gtr, [.t 36, .c (.i 0)], none⟩] [35, 36])
 (.cond (.t 37) [37]
 (.region false [⟨some 38, .mv, [.t 1], none⟩,
 ⟨some 39, .bin .add, [.t 38, .c (.i 1)], none⟩,
 ⟨some 40, .fld 1 1 false, [.t 10], none⟩,
 ⟨none, .store 1, [.t 40, .t 39], none⟩] [38, 39, 40])
 .skip))
 (.seq
 (.seq
 (.region false [⟨some 41, .mv, [.t 9], none⟩,
 ⟨some 42, .len, [.t 41], none⟩,
 ⟨some 43, .bin .gtr, [.t 42, .c (.i 0)], none⟩] [41, 42])
 (.cond (.t 43) [43]
 (.region false [⟨some 44, .mv, [.t 1], none⟩,
 ⟨some 45, .bin .add, [.t 44, .c (.i 1)], none⟩,
 ⟨some 46, .mv, [.t 8], none⟩,
 ⟨some 47, .len, [.t 46], none⟩,
 ⟨some 48, .bin .add, [.t 45, .t 47], none⟩,
 ⟨some 49, .fld 2 1 false, [.t 10], none⟩,
 ⟨none, .store 1, [.t 49, .t 48], none⟩] [1, 44, 45, 46, 47, 48, 49])
 .skip))
 (.seq
 (.region false [⟨some 50, .load 3 true, [.t 10], none⟩,
 ⟨some 51, .bslice 26136 1 3 (.st [.i 0, .i 0, .i 0]) [0], [.t 50], none⟩,
 ⟨some 52, .mv, [.t 8], none⟩,
 ⟨some 53, .mv, [.t 9], none⟩,
 ⟨some 54, .bslice 27656 3 1 (.sl 1 []) [0, 1, 2], [.t 51, .t 52, .t 53], none⟩,
 ⟨some 55, .call n_slices_Concat_impl_Choice_impl_Choice 28160, [.t 54], none⟩,
 ⟨some 6, .mv, [.t 55], none⟩] [1, 8, 9, 10, 50, 51, 52, 53, 54, 55])
 .ret))))))))) }
/-- impl.BestPlan$1 -/
def F_impl_BestPlan_1 : LF :=
 { nparams := 2, results := [.t 3], body :=
 (.seq
 (.region false [⟨some 2, .box 1056, [.t 0], none⟩,
 ⟨some 3, .mv, [.c (.i 0)], none⟩] [0, 3])
 (.seq
 (.region false [⟨some 7, .load 4 true, [.t 2], none⟩,
 ⟨some 8, .load 1 false, [.t 1], none⟩,
 ⟨some 9, .call n_impl_leastFrom 4608, [.t 7, .t 8], none⟩,
 ⟨some 6, .mv, [.t 9], none⟩,
 ⟨some 10, .ext 0, [.t 6], none⟩,
 ⟨some 11, .ext 1, [.t 6], none⟩,
 ⟨some 4, .mv, [.t 10], none⟩,
 ⟨some 5, .mv, [.t 11], none⟩] [1, 2, 5, 6, 7, 8, 9, 10, 11])
 (.seq
 (.region false [⟨some 12, .mv, [.t 4], none⟩,
 ⟨some 3, .mv, [.t 12], none⟩] [4, 12])
 .ret))) }
/-- impl.trueStates -/
def F_impl_trueStates : LF :=
 { nparams := 1, results := [.t 2], body :=
 (.seq
 (.region false [⟨some 2, .mv, [.c (.w (0#32))], none⟩] [2])
 (.seq
 (.region false [⟨some 3, .mv, [.t 0], none⟩,
 ⟨some 4, .call n_impl_foldTerm_uint32 2048, [.t 3, .c (.fn n_impl_statesOfPart [])], none⟩,
 ⟨some 2, .mv, [.t 4], none⟩] [0, 3, 4])
 .ret)) }
/-- impl.testsWhere -/
def F_impl_testsWhere_L0 : LC :=
 (.seq
 (.region false [⟨some 9, .bin .lss, [.t 8, .t 7], none⟩] [])
 (.seq
 (.cond (.t 9) [9]
 .skip
 (.exit 0))
 (.seq
 (.block 1
 (.seq
 (.region false [⟨some 10, .mv, [.t 8], none⟩,
 ⟨some 6, .mv, [.t 10], none⟩] [10])
 (.seq
 (.region false [⟨some 11, .mv, [.t 1], none⟩,
 ⟨some 12, .mv, [.t 6], none⟩,
 ⟨some 13, .calld 6656, [.t 11, .t 12], none⟩] [11, 12])
 (.cond (.t 13) [13]
 (.region false [⟨some 14, .mv, [.t 5], none⟩,
 ⟨some 15, .mv, [.t 6], none⟩,
 ⟨some 16, .bin .shl, [.c (.i 1), .t 15], none⟩,
 ⟨some 17, .bin .or, [.t 14, .t 16], none⟩,
 ⟨some 5, .mv, [.t 17], none⟩] [6, 14, 15, 16, 17])
 .skip))))
 (.region false [⟨some 18, .bin .add, [.t 8, .c (.i 1)], none⟩,
 ⟨some 8, .mv, [.t 18], none⟩] [6, 18]))))
def F_impl_testsWhere_W0 : LC := .loop F_impl_testsWhere_L0
def F_impl_testsWhere : LF :=
 { nparams := 2, results := [.t 4], body :=
 (.seq
 (.region false [⟨some 4, .mv, [.c (.i 0)], none⟩] [4])
 (.seq
 (.region false [⟨some 5, .mv, [.c (.i 0)], none⟩] [])
 (.seq
 (.seq
 (.region false [⟨some 7, .mv, [.t 0], none⟩,
 ⟨some 8, .mv, [.c (.i 0)], none⟩] [0])
 (.block 0
 F_impl_testsWhere_W0))
 (.seq
 (.region false [⟨some 19, .mv, [.t 5], none⟩,
 ⟨some 4, .mv, [.t 19], none⟩] [1, 5, 7, 8, 19])
 .ret)))) }
/-- impl.IdleTests$1 -/
def F_impl_IdleTests_1 : LF :=
 { gl := [0], nparams := 2, results := [.t 3], body :=
 (.seq
 (.region false [⟨some 3, .mv, [.c (.b false)], none⟩] [3])
 (.seq
 (.region true [⟨some 6, .load 1 false, [.t 1], none⟩,
 ⟨some 7, .mv, [.t 0], none⟩,
 ⟨some 8, .idxp 5 1, [.t 1048576, .t 7], none⟩,
 ⟨some 9, .load 1 false, [.t 8], none⟩,
 ⟨some 10, .bin .and, [.t 6, .t 9], none⟩,
 ⟨some 11, .load 1 false, [.t 1], none⟩,
 ⟨some 12, .mv, [.t 0], none⟩,
 ⟨some 13, .idxp 5 1, [.t 1048576, .t 12], none⟩,
 ⟨some 14, .load 1 false, [.t 13], none⟩,
 ⟨some 15, .bin .andNot, [.t 11, .t 14], none⟩,
 ⟨some 4, .mv, [.t 10], none⟩,
 ⟨some 5, .mv, [.t 15], none⟩] [1, 6, 7, 8, 9, 10, 11, 12, 13, 14, 15])
 (.seq
 (.region false [⟨some 16, .mv, [.t 4], none⟩,
 ⟨some 17, .mv, [.t 0], none⟩,
 ⟨some 18, .bin .shl, [.c (.q 1), .t 17], none⟩,
 ⟨some 19, .bin .shr, [.t 16, .t 18], none⟩,
 ⟨some 20, .mv, [.t 5], none⟩,
 ⟨some 21, .bin .eql, [.t 19, .t 20], none⟩,
 ⟨some 3, .mv, [.t 21], none⟩] [0, 4, 5, 16, 17, 18, 19, 20, 21])
 .ret))) }
/-- impl.pointsOf -/
def F_impl_pointsOf_L0 : LC :=
 (.seq
 (.region false [⟨some 35, .bin .lss, [.t 34, .t 33], none⟩] [])
 (.seq
 (.cond (.t 35) [35]
 .skip
 (.exit 0))
 (.seq
 (.block 1
 (.seq
 (.region false [⟨some 36, .mv, [.t 34], none⟩,
 ⟨some 37, .idxa 3, [.t 32, .t 34], none⟩,
 ⟨some 38, .load 3 true, [.t 37], none⟩,
 ⟨some 10, .alloc 5144 (.st [.i 0, .i 0, .i 0]), [], none⟩,
 ⟨some 9, .mv, [.t 36], none⟩,
 ⟨none, .store 3, [.t 10, .t 38], none⟩] [36, 37, 38])
 (.seq
 (.region false [⟨some 39, .mv, [.t 8], none⟩,
 ⟨some 40, .mv, [.t 9], none⟩,
 ⟨some 41, .idxa 4, [.t 39, .t 40], none⟩,
 ⟨some 42, .load 4 true, [.t 41], none⟩,
 ⟨some 11, .alloc 5664 (.st [.i 0, .i 0, .w (0#32), .w (0#32)]), [], none⟩,
 ⟨none, .store 4, [.t 11, .t 42], none⟩] [39, 40, 41, 42])
 (.seq
 (.region true [⟨some 43, .load 4 true, [.t 11], none⟩,
 ⟨some 44, .fld 0 1 false, [.t 10], none⟩,
 ⟨some 45, .load 1 false, [.t 44], none⟩,
 ⟨some 46, .call n_impl_point_canAsk 23552, [.t 43, .t 45], none⟩,
 ⟨some 47, .un .not, [.t 46], none⟩,
 ⟨some 48, .mv, [.t 47], none⟩,
 ⟨some 49, .mv, [.t 8], some (48, false)⟩,
 ⟨some 50, .mv, [.t 9], some (48, false)⟩,
 ⟨some 51, .fld 1 1 false, [.t 10], some (48, false)⟩,
 ⟨some 52, .load 1 false, [.t 51], some (48, false)⟩,
 ⟨some 53, .load 4 true, [.t 11], some (48, false)⟩,
 ⟨some 54, .fld 0 1 false, [.t 10], some (48, false)⟩,
 ⟨some 55, .load 1 false, [.t 54], some (48, false)⟩,
 ⟨some 56, .call n_impl_point_answered 28672, [.t 53, .t 55, .c (.i 0)], some (48, false)⟩,
 ⟨some 57, .call n_impl_comesTo 29188, [.t 49, .t 50, .t 52, .t 56], some (48, false)⟩,
 ⟨some 58, .un .not, [.t 57], some (48, false)⟩,
 ⟨some 59, .pick, [.t 48, .c (.b true), .t 58], none⟩,
 ⟨some 60, .mv, [.t 59], none⟩,
 ⟨some 61, .mv, [.t 8], some (60, false)⟩,
 ⟨some 62, .mv, [.t 9], some (60, false)⟩,
 ⟨some 63, .fld 2 1 false, [.t 10], some (60, false)⟩,
 ⟨some 64, .load 1 false, [.t 63], some (60, false)⟩,
 ⟨some 65, .load 4 true, [.t 11], some (60, false)⟩,
 ⟨some 66, .fld 0 1 false, [.t 10], some (60, false)⟩,
 ⟨some 67, .load 1 false, [.t 66], some (60, false)⟩,
 ⟨some 68, .call n_impl_point_answered 34816, [.t 65, .t 67, .c (.i 1)], some (60, false)⟩,
 ⟨some 69, .call n_impl_comesTo 35332, [.t 61, .t 62, .t 64, .t 68], some (60, false)⟩,
 ⟨some 70, .un .not, [.t 69], some (60, false)⟩,
 ⟨some 71, .pick, [.t 60, .c (.b true), .t 70], none⟩] [9, 10, 11, 43, 44, 45, 46, 47, 48, 49, 50, 51, 52, 53, 54, 55, 56, 57, 58, 59, 60, 61, 62, 63, 64, 65, 66, 67, 68, 69, 70])
 (.cond (.t 71) [71]
 (.seq
 (.region false [⟨some 6, .newnil 3104, [], none⟩,
 ⟨some 7, .mv, [.c (.b false)], none⟩] [8, 32, 33, 34])
 .ret)
 .skip)))))
 (.region false [⟨some 72, .bin .add, [.t 34, .c (.i 1)], none⟩,
 ⟨some 34, .mv, [.t 72], none⟩] [72]))))
def F_impl_pointsOf_W0 : LC := .loop F_impl_pointsOf_L0
def F_impl_pointsOf : LF :=
 { nparams := 3, results := [.t 6, .t 7], body :=
 (.seq
 (.region false [⟨some 6, .newnil 3104, [], none⟩,
 ⟨some 7, .mv, [.c (.b false)], none⟩] [6, 7])
 (.seq
 (.seq
 (.region false [⟨some 12, .mv, [.t 0], none⟩,
 ⟨some 13, .mv, [.t 1], none⟩,
 ⟨some 14, .call n_impl_TermOk 7168, [.t 12, .t 13], none⟩,
 ⟨some 15, .un .not, [.t 14], none⟩,
 ⟨some 16, .mv, [.t 15], none⟩,
 ⟨some 17, .mv, [.t 2], some (16, false)⟩,
 ⟨some 18, .len, [.t 17], some (16, false)⟩,
 ⟨some 19, .bin .gtr, [.t 18, .c (.i 31)], some (16, false)⟩,
 ⟨some 20, .pick, [.t 16, .c (.b true), .t 19], none⟩] [12, 13, 14, 15, 16, 17, 18, 19])
 (.cond (.t 20) [20]
 (.seq
 (.region false [⟨some 6, .newnil 3104, [], none⟩,
 ⟨some 7, .mv, [.c (.b false)], none⟩] [0, 1, 2])
 .ret)
 .skip))
 (.seq
 (.region false [⟨some 21, .mv, [.t 2], none⟩,
 ⟨some 22, .len, [.t 21], none⟩,
 ⟨some 23, .make 11808 4 (.st [.i 0, .i 0, .w (0#32), .w (0#32)]), [.t 22, .t 22], none⟩,
 ⟨some 8, .mv, [.t 23], none⟩] [21, 22, 23])
 (.seq
 (.seq
 (.region false [⟨some 24, .mv, [.t 8], none⟩,
 ⟨some 25, .mv, [.t 2], none⟩,
 ⟨some 26, .call n_impl_firstOf 13312, [.t 25], none⟩,
 ⟨some 27, .mv, [.t 0], none⟩,
 ⟨some 28, .mv, [.t 1], none⟩,
 ⟨some 29, .call n_impl_startOf 14848, [.t 27, .t 28], none⟩,
 ⟨some 30, .call n_impl_comesTo 15364, [.t 24, .c (.i (-1)), .t 26, .t 29], none⟩,
 ⟨some 31, .un .not, [.t 30], none⟩] [0, 1, 24, 25, 26, 27, 28, 29, 30])
 (.cond (.t 31) [31]
 (.seq
 (.region false [⟨some 6, .newnil 3104, [], none⟩,
 ⟨some 7, .mv, [.c (.b false)], none⟩] [2, 8])
 .ret)
 .skip))
 (.seq
 (.seq
 (.region false [⟨some 32, .mv, [.t 2], none⟩,
 ⟨some 33, .len, [.t 32], none⟩,
 ⟨some 34, .mv, [.c (.i 0)], none⟩] [2])
 (.block 0
 F_impl_pointsOf_W0))
 (.seq
 (.region false [⟨some 73, .mv, [.t 8], none⟩,
 ⟨some 6, .mv, [.t 73], none⟩,
 ⟨some 7, .mv, [.c (.b true)], none⟩] [8, 32, 33, 34, 73])
 .ret)))))) }
/-- impl.point).howManyAsked -/
def F_impl_point_howManyAsked : LF :=
 { nparams := 1, results := [.t 2], body :=
 (.seq
 (.region false [⟨some 1, .box 544, [.t 0], none⟩,
 ⟨some 2, .mv, [.c (.i 0)], none⟩] [0, 2])
 (.seq
 (.region false [⟨some 3, .fld 1 1 false, [.t 1], none⟩,
 ⟨some 4, .load 1 false, [.t 3], none⟩,
 ⟨some 5, .call n_impl_sizeOf 2560, [.t 4], none⟩,
 ⟨some 2, .mv, [.t 5], none⟩] [1, 3, 4, 5])
 .ret)) }
/-- spec.l20Rd).pick -/
def F_spec_l20Rd_pick : LF :=
 { nparams := 2, results := [.t 4], body :=
 (.seq
 (.region false [⟨some 4, .mv, [.c (.i 0)], none⟩] [4])
 (.seq
 (.region false [⟨some 7, .mv, [.t 0], none⟩,
 ⟨some 8, .mv, [.t 0], none⟩,
 ⟨some 9, .chk, [.t 8], none⟩,
 ⟨some 10, .fld 1 1 false, [.t 9], none⟩,
 ⟨some 11, .load 1 false, [.t 10], none⟩,
 ⟨some 12, .bin .add, [.t 11, .c (.i 1)], none⟩,
 ⟨some 13, .chk, [.t 7], none⟩,
 ⟨some 14, .fld 1 1 false, [.t 13], none⟩,
 ⟨none, .store 1, [.t 14, .t 12], none⟩] [7, 8, 9, 10, 11, 12, 13, 14])
 (.seq
 (.seq
 (.region false [⟨some 15, .mv, [.t 1], none⟩,
 ⟨some 16, .bin .lss, [.t 15, .c (.i 1)], none⟩,
 ⟨some 17, .mv, [.t 16], none⟩,
 ⟨some 18, .mv, [.t 0], some (17, false)⟩,
 ⟨some 19, .chk, [.t 18], some (17, false)⟩,
 ⟨some 20, .fld 0 1 false, [.t 19], some (17, false)⟩,
 ⟨some 21, .load 1 false, [.t 20], some (17, false)⟩,
 ⟨some 22, .len, [.t 21], some (17, false)⟩,
 ⟨some 23, .bin .eql, [.t 22, .c (.i 0)], some (17, false)⟩,
 ⟨some 24, .pick, [.t 17, .c (.b true), .t 23], none⟩] [15, 16, 17, 18, 19, 20, 21, 22, 23])
 (.cond (.t 24) [24]
 (.seq
 (.region false [⟨some 4, .mv, [.c (.i 0)], none⟩] [1])
 .ret)
 .skip))
 (.seq
 (.region false [⟨some 25, .mv, [.t 0], none⟩,
 ⟨some 26, .chk, [.t 25], none⟩,
 ⟨some 27, .fld 1 1 false, [.t 26], none⟩,
 ⟨some 28, .load 1 false, [.t 27], none⟩,
 ⟨some 29, .bin .sub, [.t 28, .c (.i 1)], none⟩,
 ⟨some 5, .mv, [.t 29], none⟩] [25, 26, 27, 28, 29])
 (.seq
 (.seq
 (.region false [⟨some 30, .mv, [.t 5], none⟩,
 ⟨some 31, .mv, [.t 0], none⟩,
 ⟨some 32, .chk, [.t 31], none⟩,
 ⟨some 33, .fld 0 1 false, [.t 32], none⟩,
 ⟨some 34, .load 1 false, [.t 33], none⟩,
 ⟨some 35, .len, [.t 34], none⟩,
 ⟨some 36, .bin .lss, [.t 30, .t 35], none⟩] [30, 31, 32, 33, 34, 35])
 (.cond (.t 36) [36]
 (.seq
 (.region false [⟨some 37, .mv, [.t 0], none⟩,
 ⟨some 38, .chk, [.t 37], none⟩,
 ⟨some 39, .fld 0 1 false, [.t 38], none⟩,
 ⟨some 40, .load 1 false, [.t 39], none⟩,
 ⟨some 41, .mv, [.t 5], none⟩,
 ⟨some 42, .idxa 1, [.t 40, .t 41], none⟩,
 ⟨some 43, .load 1 false, [.t 42], none⟩,
 ⟨some 44, .conv .b2i 22528, [.t 43], none⟩,
 ⟨some 45, .mv, [.t 1], none⟩,
 ⟨some 46, .bin .rem, [.t 44, .t 45], none⟩,
 ⟨some 4, .mv, [.t 46], none⟩] [1, 5, 37, 38, 39, 40, 41, 42, 43, 44, 45, 46])
 .ret)
 .skip))
 (.seq
 (.region true [⟨some 47, .mv, [.t 0], none⟩,
 ⟨some 48, .chk, [.t 47], none⟩,
 ⟨some 49, .fld 0 1 false, [.t 48], none⟩,
 ⟨some 50, .load 1 false, [.t 49], none⟩,
 ⟨some 51, .mv, [.t 5], none⟩,
 ⟨some 52, .mv, [.t 0], none⟩,
 ⟨some 53, .chk, [.t 52], none⟩,
 ⟨some 54, .fld 0 1 false, [.t 53], none⟩,
 ⟨some 55, .load 1 false, [.t 54], none⟩,
 ⟨some 56, .len, [.t 55], none⟩,
 ⟨some 57, .bin .rem, [.t 51, .t 56], none⟩,
 ⟨some 58, .idxa 1, [.t 50, .t 57], none⟩,
 ⟨some 59, .load 1 false, [.t 58], none⟩,
 ⟨some 60, .conv .b2i 30720, [.t 59], none⟩,
 ⟨some 61, .bin .mul, [.t 60, .c (.i 131)], none⟩,
 ⟨some 62, .mv, [.t 0], none⟩,
 ⟨some 63, .chk, [.t 62], none⟩,
 ⟨some 64, .fld 0 1 false, [.t 63], none⟩,
 ⟨some 65, .load 1 false, [.t 64], none⟩,
 ⟨some 66, .mv, [.t 5], none⟩,
 ⟨some 67, .bin .mul, [.t 66, .c (.i 7)], none⟩,
 ⟨some 68, .bin .add, [.t 67, .c (.i 3)], none⟩,
 ⟨some 69, .mv, [.t 0], none⟩,
 ⟨some 70, .chk, [.t 69], none⟩,
 ⟨some 71, .fld 0 1 false, [.t 70], none⟩,
 ⟨some 72, .load 1 false, [.t 71], none⟩,
 ⟨some 73, .len, [.t 72], none⟩,
 ⟨some 74, .bin .rem, [.t 68, .t 73], none⟩,
 ⟨some 75, .idxa 1, [.t 65, .t 74], none⟩,
 ⟨some 76, .load 1 false, [.t 75], none⟩,
 ⟨some 77, .conv .b2i 39424, [.t 76], none⟩,
 ⟨some 78, .bin .mul, [.t 77, .c (.i 1117)], none⟩,
 ⟨some 79, .bin .add, [.t 61, .t 78], none⟩,
 ⟨some 80, .mv, [.t 5], none⟩,
 ⟨some 81, .bin .mul, [.t 80, .c (.i 29)], none⟩,
 ⟨some 82, .bin .add, [.t 79, .t 81], none⟩,
 ⟨some 83, .mv, [.t 5], none⟩,
 ⟨some 84, .mv, [.t 0], none⟩,
 ⟨some 85, .chk, [.t 84], none⟩,
 ⟨some 86, .fld 0 1 false, [.t 85], none⟩,
 ⟨some 87, .load 1 false, [.t 86], none⟩,
 ⟨some 88, .len, [.t 87], none⟩,
 ⟨some 89, .bin .quo, [.t 83, .t 88], none⟩,
 ⟨some 90, .bin .mul, [.t 89, .c (.i 53)], none⟩,
 ⟨some 91, .bin .add, [.t 82, .t 90], none⟩,
 ⟨some 6, .mv, [.t 91], none⟩] [5, 47, 48, 49, 50, 51, 52, 53, 54, 55, 56, 57, 58, 59, 60, 61, 62, 63, 64, 65, 66, 67, 68, 69, 70, 71, 72, 73, 74, 75, 76, 77, 78, 79, 80, 81, 82, 83, 84, 85, 86, 87, 88, 89, 90, 91])
 (.seq
 (.region false [⟨some 92, .mv, [.t 6], none⟩,
 ⟨some 93, .mv, [.t 6], none⟩,
 ⟨some 94, .bin .quo, [.t 93, .c (.i 64)], none⟩,
 ⟨some 95, .bin .xor, [.t 92, .t 94], none⟩,
 ⟨some 6, .mv, [.t 95], none⟩] [92, 93, 94, 95])
 (.seq
 (.region false [⟨some 96, .mv, [.t 6], none⟩,
 ⟨some 97, .mv, [.t 1], none⟩,
 ⟨some 98, .bin .rem, [.t 96, .t 97], none⟩,
 ⟨some 4, .mv, [.t 98], none⟩] [1, 6, 96, 97, 98])
 .ret)))))))) }
/-- spec.l20Term -/
def F_spec_l20Term_L0 : LC :=
 (.seq
 (.seq
 (.region false [⟨some 23, .mv, [.t 9], none⟩,
 ⟨some 24, .mv, [.t 1], none⟩,
 ⟨some 25, .bin .lss, [.t 23, .t 24], none⟩,
 ⟨some 26, .mv, [.t 25], none⟩,
 ⟨some 27, .mv, [.t 8], some (26, true)⟩,
 ⟨some 28, .pick, [.t 26, .t 27, .c (.b false)], none⟩] [23, 24, 25, 26, 27])
 (.cond (.t 28) [28]
 .skip
 (.exit 0)))
 (.seq
 (.block 1
 (.seq
 (.region false [⟨some 31, .mv, [.t 0], none⟩,
 ⟨some 32, .call n_spec_l20Rd_pick 16384, [.t 31, .c (.i 4)], none⟩,
 ⟨some 33, .bin .gtr, [.t 32, .c (.i 0)], none⟩,
 ⟨some 34, .mv, [.t 33], none⟩,
 ⟨some 35, .mv, [.t 9], some (34, false)⟩,
 ⟨some 36, .bin .eql, [.t 35, .c (.i 0)], some (34, false)⟩,
 ⟨some 37, .pick, [.t 34, .c (.b true), .t 36], none⟩] [31, 32, 33, 34, 35, 36])
 (.cond (.t 37) [37]
 (.region false [⟨some 38, .mv, [.t 7], none⟩,
 ⟨some 39, .mv, [.t 9], none⟩,
 ⟨some 40, .build [.i 0, .i 0] [(0, 1), (1, 1)], [.c (.i 0), .t 39], none⟩,
 ⟨some 41, .bslice 21008 1 2 (.st [.i 0, .i 0]) [0], [.t 40], none⟩,
 ⟨some 42, .bslice 21512 1 1 (.sl 1 []) [0], [.t 41], none⟩,
 ⟨some 43, .app 22024 1, [.t 38, .t 42], none⟩,
 ⟨some 7, .mv, [.t 43], none⟩] [38, 39, 40, 41, 42, 43])
 .skip)))
 (.region false [⟨some 29, .mv, [.t 9], none⟩,
 ⟨some 30, .bin .add, [.t 29, .c (.i 1)], none⟩,
 ⟨some 9, .mv, [.t 30], none⟩] [29, 30])))
def F_spec_l20Term_W0 : LC := .loop F_spec_l20Term_L0
def F_spec_l20Term_L1 : LC :=
 (.seq
 (.seq
 (.region false [⟨some 47, .mv, [.t 10], none⟩,
 ⟨some 48, .bin .gtr, [.t 47, .c (.i 0)], none⟩,
 ⟨some 49, .mv, [.t 48], none⟩,
 ⟨some 50, .mv, [.t 8], some (49, true)⟩,
 ⟨some 51, .un .not, [.t 50], some (49, true)⟩,
 ⟨some 52, .pick, [.t 49, .t 51, .c (.b false)], none⟩] [47, 48, 49, 50, 51])
 (.cond (.t 52) [52]
 .skip
 (.exit 2)))
 (.seq
 (.block 3
 (.region false [⟨some 55, .mv, [.t 7], none⟩,
 ⟨some 56, .mv, [.t 0], none⟩,
 ⟨some 57, .mv, [.t 1], none⟩,
 ⟨some 58, .call n_spec_l20Rd_pick 29696, [.t 56, .t 57], none⟩,
 ⟨some 59, .build [.i 0, .i 0] [(0, 1), (1, 1)], [.c (.i 0), .t 58], none⟩,
 ⟨some 60, .bslice 30736 1 2 (.st [.i 0, .i 0]) [0], [.t 59], none⟩,
 ⟨some 61, .bslice 31240 1 1 (.sl 1 []) [0], [.t 60], none⟩,
 ⟨some 62, .app 31752 1, [.t 55, .t 61], none⟩,
 ⟨some 7, .mv, [.t 62], none⟩] [55, 56, 57, 58, 59, 60, 61, 62]))
 (.region false [⟨some 53, .mv, [.t 10], none⟩,
 ⟨some 54, .bin .sub, [.t 53, .c (.i 1)], none⟩,
 ⟨some 10, .mv, [.t 54], none⟩] [53, 54])))
def F_spec_l20Term_W1 : LC := .loop F_spec_l20Term_L1
def F_spec_l20Term_L2 : LC :=
 (.ghost (.rename 7 9736)
 (.seq
 (.seq
 (.region false [⟨some 63, .mv, [.t 7], none⟩,
 ⟨some 64, .len, [.t 63], none⟩,
 ⟨some 65, .bin .gtr, [.t 64, .c (.i 1)], none⟩] [63, 64])
 (.cond (.t 65) [65]
 .skip
 (.exit 4)))
 (.block 5
 (.seq
 (.region false [⟨some 66, .mv, [.t 0], none⟩,
 ⟨some 67, .mv, [.t 7], none⟩,
 ⟨some 68, .len, [.t 67], none⟩,
 ⟨some 69, .bin .sub, [.t 68, .c (.i 1)], none⟩,
 ⟨some 70, .call n_spec_l20Rd_pick 35840, [.t 66, .t 69], none⟩,
 ⟨some 12, .mv, [.t 70], none⟩] [66, 67, 68, 69, 70])
 (.seq
 (.seq
 (.region false [⟨some 71, .mv, [.t 11], none⟩,
 ⟨some 72, .bin .gtr, [.t 71, .c (.i 0)], none⟩,
 ⟨some 73, .mv, [.t 72], none⟩,
 ⟨some 74, .mv, [.t 0], some (73, true)⟩,
 ⟨some 75, .call n_spec_l20Rd_pick 38400, [.t 74, .c (.i 4)], some (73, true)⟩,
 ⟨some 76, .bin .eql, [.t 75, .c (.i 0)], some (73, true)⟩,
 ⟨some 77, .pick, [.t 73, .t 76, .c (.b false)], none⟩] [71, 72, 73, 74, 75, 76])
 (.cond (.t 77) [77]
 (.seq
 (.region false [⟨some 78, .mv, [.t 11], none⟩,
 ⟨some 79, .bin .sub, [.t 78, .c (.i 1)], none⟩,
 ⟨some 11, .mv, [.t 79], none⟩] [78, 79])
 (.seq
 (.region false [⟨some 80, .mv, [.t 7], none⟩,
 ⟨some 81, .mv, [.t 12], none⟩,
 ⟨some 82, .bslice 42000 0 2 (.st [.i 0, .i 0]) [], [], none⟩,
 ⟨some 83, .mv, [.t 7], none⟩,
 ⟨some 84, .mv, [.t 12], none⟩,
 ⟨some 85, .idxa 1, [.t 83, .t 84], none⟩,
 ⟨some 86, .load 1 false, [.t 85], none⟩,
 ⟨some 87, .app 44560 2, [.t 82, .t 86], none⟩,
 ⟨some 88, .build [.i 0, .i 0] [(0, 1)], [.c (.i 1)], none⟩,
 ⟨some 89, .bslice 45584 1 2 (.st [.i 0, .i 0]) [0], [.t 88], none⟩,
 ⟨some 90, .app 46096 2, [.t 87, .t 89], none⟩,
 ⟨some 91, .idxa 1, [.t 80, .t 81], none⟩,
 ⟨none, .store 1, [.t 91, .t 90], none⟩] [12, 80, 81, 82, 83, 84, 85, 86, 87, 88, 89, 90, 91])
 (.exit 5)))
 .skip))
 (.seq
 (.region true [⟨some 92, .bslice 47120 0 2 (.st [.i 0, .i 0]) [], [], none⟩,
 ⟨some 93, .mv, [.t 7], none⟩,
 ⟨some 94, .mv, [.t 12], none⟩,
 ⟨some 95, .idxa 1, [.t 93, .t 94], none⟩,
 ⟨some 96, .load 1 false, [.t 95], none⟩,
 ⟨some 97, .app 49680 2, [.t 92, .t 96], none⟩,
 ⟨some 98, .mv, [.t 7], none⟩,
 ⟨some 99, .mv, [.t 12], none⟩,
 ⟨some 100, .bin .add, [.t 99, .c (.i 1)], none⟩,
 ⟨some 101, .idxa 1, [.t 98, .t 100], none⟩,
 ⟨some 102, .load 1 false, [.t 101], none⟩,
 ⟨some 103, .app 52752 2, [.t 97, .t 102], none⟩,
 ⟨some 104, .mv, [.t 0], none⟩,
 ⟨some 105, .call n_spec_l20Rd_pick 53760, [.t 104, .c (.i 2)], none⟩,
 ⟨some 106, .bin .add, [.c (.i 2), .t 105], none⟩,
 ⟨some 107, .build [.i 0, .i 0] [(0, 1)], [.t 106], none⟩,
 ⟨some 108, .bslice 55312 1 2 (.st [.i 0, .i 0]) [0], [.t 107], none⟩,
 ⟨some 109, .app 55824 2, [.t 103, .t 108], none⟩,
 ⟨some 13, .mv, [.t 109], none⟩] [92, 93, 94, 95, 96, 97, 98, 99, 100, 101, 102, 103, 104, 105, 106, 107, 108, 109])
 (.seq
 (.region false [⟨some 110, .bslice 56328 0 1 (.sl 1 []) [], [], none⟩,
 ⟨some 111, .mv, [.t 7], none⟩,
 ⟨some 112, .mv, [.t 12], none⟩,
 ⟨some 113, .slice false true 1, [.t 111, .t 112], none⟩,
 ⟨some 114, .app 58376 1, [.t 110, .t 113], none⟩,
 ⟨some 14, .mv, [.t 114], none⟩] [110, 111, 112, 113, 114])
 (.seq
 (.region false [⟨some 115, .mv, [.t 14], none⟩,
 ⟨some 116, .mv, [.t 13], none⟩,
 ⟨some 117, .bslice 59912 1 1 (.sl 1 []) [0], [.t 116], none⟩,
 ⟨some 118, .app 60424 1, [.t 115, .t 117], none⟩,
 ⟨some 14, .mv, [.t 118], none⟩] [13, 115, 116, 117, 118])
 (.region false [⟨some 119, .mv, [.t 14], none⟩,
 ⟨some 120, .mv, [.t 7], none⟩,
 ⟨some 121, .mv, [.t 12], none⟩,
 ⟨some 122, .bin .add, [.t 121, .c (.i 2)], none⟩,
 ⟨some 123, .slice true false 1, [.t 120, .t 122], none⟩,
 ⟨some 124, .app 63496 1, [.t 119, .t 123], none⟩,
 ⟨some 7, .mv, [.t 124], none⟩] [12, 14, 119, 120, 121, 122, 123, 124])))))))))
def F_spec_l20Term_W2 : LC := .loop F_spec_l20Term_L2
def F_spec_l20Term : LF :=
 { nparams := 3, results := [.t 6], body :=
 (.seq
 (.region false [⟨some 6, .newnil 3088, [], none⟩] [6])
 (.seq
 (.region false [⟨some 16, .mv, [.t 1], none⟩,
 ⟨some 17, .mm true, [.t 16, .c (.i 1)], none⟩,
 ⟨some 18, .mm false, [.t 17, .c (.i 5)], none⟩,
 ⟨some 1, .mv, [.t 18], none⟩] [16, 17, 18])
 (.seq
 (.region false [⟨some 19, .bslice 9736 0 1 (.sl 1 []) [], [], none⟩,
 ⟨some 7, .mv, [.t 19], none⟩] [19])
 (.seq
 (.region false [⟨some 20, .mv, [.t 0], none⟩,
 ⟨some 21, .call n_spec_l20Rd_pick 10752, [.t 20, .c (.i 2)], none⟩,
 ⟨some 22, .bin .eql, [.t 21, .c (.i 0)], none⟩,
 ⟨some 8, .mv, [.t 22], none⟩] [20, 21, 22])
 (.seq
 (.seq
 (.region false [⟨some 9, .mv, [.c (.i 0)], none⟩] [])
 (.block 0
 F_spec_l20Term_W0))
 (.seq
 (.seq
 (.region false [⟨some 44, .mv, [.t 0], none⟩,
 ⟨some 45, .call n_spec_l20Rd_pick 23040, [.t 44, .c (.i 5)], none⟩,
 ⟨some 46, .bin .add, [.c (.i 1), .t 45], none⟩,
 ⟨some 10, .mv, [.t 46], none⟩] [9, 44, 45, 46])
 (.block 2
 F_spec_l20Term_W1))
 (.seq
 (.region false [⟨some 11, .mv, [.c (.i 2)], none⟩] [1, 8, 10])
 (.seq
 (.block 4
 F_spec_l20Term_W2)
 (.seq
 (.region false [⟨some 125, .mv, [.t 7], none⟩,
 ⟨some 126, .idxa 1, [.t 125, .c (.i 0)], none⟩,
 ⟨some 127, .load 1 false, [.t 126], none⟩,
 ⟨some 15, .mv, [.t 127], none⟩] [7, 11, 125, 126, 127])
 (.ghost (.promote 15 7696)
 (.seq
 (.seq
 (.region false [⟨some 128, .mv, [.t 0], none⟩,
 ⟨some 129, .mv, [.t 2], none⟩,
 ⟨some 130, .call n_spec_l20Rd_odd 66560, [.t 128, .t 129], none⟩] [2, 128, 129])
 (.cond (.t 130) [130]
 (.seq
 (.region false [⟨some 131, .mv, [.t 0], none⟩,
 ⟨some 132, .call n_spec_l20Rd_pick 67584, [.t 131, .c (.i 3)], none⟩] [131])
 (.block 6
 (.seq
 (.region false [⟨some 137, .bin .eql, [.t 132, .c (.i 0)], none⟩,
 ⟨some 136, .mv, [.t 137], none⟩] [137])
 (.cond (.t 136) [136]
 (.seq
 (.region false [⟨some 138, .bslice 70672 0 2 (.st [.i 0, .i 0]) [], [], none⟩,
 ⟨some 6, .mv, [.t 138], none⟩] [15, 132, 138])
 .ret)
 (.seq
 (.region false [⟨some 140, .bin .eql, [.t 132, .c (.i 1)], none⟩,
 ⟨some 139, .mv, [.t 140], none⟩] [132, 140])
 (.cond (.t 139) [139]
 (.seq
 (.region false [⟨some 141, .mv, [.t 15], none⟩,
 ⟨some 142, .build [.i 0, .i 0] [(0, 1)], [.c (.i 2)], none⟩,
 ⟨some 143, .bslice 73232 1 2 (.st [.i 0, .i 0]) [0], [.t 142], none⟩,
 ⟨some 144, .app 73744 2, [.t 141, .t 143], none⟩,
 ⟨some 6, .mv, [.t 144], none⟩] [15, 141, 142, 143, 144])
 .ret)
 (.region false [⟨some 133, .mv, [.t 15], none⟩,
 ⟨some 134, .build [.i 0, .i 0] [(0, 1), (1, 1)], [.c (.i 0), .c (.i 5)], none⟩,
 ⟨some 135, .idxa 2, [.t 133, .c (.i 0)], none⟩,
 ⟨none, .store 2, [.t 135, .t 134], none⟩] [133, 134, 135])))))))
 .skip))
 (.seq
 (.region false [⟨some 145, .mv, [.t 15], none⟩,
 ⟨some 6, .mv, [.t 145], none⟩] [15, 145])
 .ret)))))))))))) }
/-- spec.l20Tests -/
def F_spec_l20Tests_L0 : LC :=
 (.seq
 (.seq
 (.region false [⟨some 11, .mv, [.t 6], none⟩,
 ⟨some 12, .bin .gtr, [.t 11, .c (.i 0)], none⟩] [11])
 (.cond (.t 12) [12]
 .skip
 (.exit 0)))
 (.seq
 (.block 1
 (.region false [⟨some 15, .mv, [.t 5], none⟩,
 ⟨some 16, .mv, [.t 0], none⟩,
 ⟨some 17, .call n_spec_l20Rd_pick 8704, [.t 16, .c (.i 9)], none⟩,
 ⟨some 18, .bin .add, [.c (.i 1), .t 17], none⟩,
 ⟨some 19, .mv, [.t 0], none⟩,
 ⟨some 20, .call n_spec_l20Rd_pick 10240, [.t 19, .c (.i 5)], none⟩,
 ⟨some 21, .bin .add, [.c (.i 1), .t 20], none⟩,
 ⟨some 22, .build [.i 0, .i 0] [(0, 1), (1, 1)], [.t 18, .t 21], none⟩,
 ⟨some 23, .bslice 11792 1 2 (.st [.i 0, .i 0]) [0], [.t 22], none⟩,
 ⟨some 24, .app 12304 2, [.t 15, .t 23], none⟩,
 ⟨some 5, .mv, [.t 24], none⟩] [15, 16, 17, 18, 19, 20, 21, 22, 23, 24]))
 (.region false [⟨some 13, .mv, [.t 6], none⟩,
 ⟨some 14, .bin .sub, [.t 13, .c (.i 1)], none⟩,
 ⟨some 6, .mv, [.t 14], none⟩] [13, 14])))
def F_spec_l20Tests_W0 : LC := .loop F_spec_l20Tests_L0
def F_spec_l20Tests : LF :=
 { nparams := 2, results := [.t 4], body :=
 (.seq
 (.region false [⟨some 4, .newnil 2064, [], none⟩] [4])
 (.seq
 (.region false [⟨some 7, .bslice 3600 0 2 (.st [.i 0, .i 0]) [], [], none⟩,
 ⟨some 5, .mv, [.t 7], none⟩] [7])
 (.seq
 (.seq
 (.region false [⟨some 8, .mv, [.t 0], none⟩,
 ⟨some 9, .call n_spec_l20Rd_pick 4608, [.t 8, .c (.i 5)], none⟩,
 ⟨some 10, .bin .add, [.c (.i 1), .t 9], none⟩,
 ⟨some 6, .mv, [.t 10], none⟩] [8, 9, 10])
 (.block 0
 F_spec_l20Tests_W0))
 (.seq
 (.seq
 (.region false [⟨some 25, .mv, [.t 0], none⟩,
 ⟨some 26, .mv, [.t 1], none⟩,
 ⟨some 27, .call n_spec_l20Rd_odd 13824, [.t 25, .t 26], none⟩] [1, 6, 25, 26])
 (.cond (.t 27) [27]
 (.seq
 (.region false [⟨some 28, .mv, [.t 0], none⟩,
 ⟨some 29, .call n_spec_l20Rd_pick 14848, [.t 28, .c (.i 3)], none⟩] [28])
 (.block 2
 (.seq
 (.region false [⟨some 39, .bin .eql, [.t 29, .c (.i 0)], none⟩,
 ⟨some 38, .mv, [.t 39], none⟩] [39])
 (.cond (.t 38) [38]
 (.seq
 (.region false [⟨some 40, .bslice 20496 0 2 (.st [.i 0, .i 0]) [], [], none⟩,
 ⟨some 4, .mv, [.t 40], none⟩] [5, 29, 40])
 .ret)
 (.seq
 (.region false [⟨some 42, .bin .eql, [.t 29, .c (.i 1)], none⟩,
 ⟨some 41, .mv, [.t 42], none⟩] [29, 42])
 (.cond (.t 41) [41]
 (.region false [⟨some 43, .mv, [.t 5], none⟩,
 ⟨some 44, .bslice 22536 2 1 (.i 0) [0, 1], [.c (.i 0), .c (.i 10)], none⟩,
 ⟨some 45, .mv, [.t 0], none⟩,
 ⟨some 46, .call n_spec_l20Rd_pick 23552, [.t 45, .c (.i 2)], none⟩,
 ⟨some 47, .idxa 1, [.t 44, .t 46], none⟩,
 ⟨some 48, .load 1 false, [.t 47], none⟩,
 ⟨some 49, .idxa 2, [.t 43, .c (.i 0)], none⟩,
 ⟨some 50, .fld 0 1 false, [.t 49], none⟩,
 ⟨none, .store 1, [.t 50, .t 48], none⟩] [43, 44, 45, 46, 47, 48, 49, 50])
 (.region false [⟨some 30, .mv, [.t 5], none⟩,
 ⟨some 31, .bslice 15880 2 1 (.i 0) [0, 1], [.c (.i 0), .c (.i 6)], none⟩,
 ⟨some 32, .mv, [.t 0], none⟩,
 ⟨some 33, .call n_spec_l20Rd_pick 16896, [.t 32, .c (.i 2)], none⟩,
 ⟨some 34, .idxa 1, [.t 31, .t 33], none⟩,
 ⟨some 35, .load 1 false, [.t 34], none⟩,
 ⟨some 36, .idxa 2, [.t 30, .c (.i 0)], none⟩,
 ⟨some 37, .fld 1 1 false, [.t 36], none⟩,
 ⟨none, .store 1, [.t 37, .t 35], none⟩] [30, 31, 32, 33, 34, 35, 36, 37])))))))
 .skip))
 (.seq
 (.region false [⟨some 51, .mv, [.t 5], none⟩,
 ⟨some 4, .mv, [.t 51], none⟩] [5, 51])
 .ret))))) }
/-- impl.statesOf -/
def F_impl_statesOf : LF :=
 { nparams := 1, results := [.t 2], body :=
 (.seq
 (.region false [⟨some 2, .mv, [.c (.i 0)], none⟩] [2])
 (.seq
 (.region false [⟨some 3, .mv, [.t 0], none⟩,
 ⟨some 4, .bin .shl, [.c (.i 1), .t 3], none⟩,
 ⟨some 2, .mv, [.t 4], none⟩] [0, 3, 4])
 .ret)) }
/-- spec.l20Rd).odd -/
def F_spec_l20Rd_odd : LF :=
 { nparams := 2, results := [.t 4], body :=
 (.seq
 (.region false [⟨some 4, .mv, [.c (.b false)], none⟩] [4])
 (.seq
 (.region false [⟨some 5, .mv, [.t 1], none⟩,
 ⟨some 6, .bin .gtr, [.t 5, .c (.i 0)], none⟩,
 ⟨some 7, .mv, [.t 6], none⟩,
 ⟨some 8, .mv, [.t 0], some (7, true)⟩,
 ⟨some 9, .mv, [.t 1], some (7, true)⟩,
 ⟨some 10, .call n_spec_l20Rd_pick 5120, [.t 8, .t 9], some (7, true)⟩,
 ⟨some 11, .mv, [.t 1], some (7, true)⟩,
 ⟨some 12, .bin .sub, [.t 11, .c (.i 1)], some (7, true)⟩,
 ⟨some 13, .bin .eql, [.t 10, .t 12], some (7, true)⟩,
 ⟨some 14, .pick, [.t 7, .t 13, .c (.b false)], none⟩,
 ⟨some 4, .mv, [.t 14], none⟩] [1, 5, 6, 7, 8, 9, 10, 11, 12, 13, 14])
 .ret)) }
/-- impl.manyOk -/
def F_impl_manyOk : LF :=
 { nparams := 1, results := [.t 2], body :=
 (.seq
 (.region false [⟨some 2, .mv, [.c (.b false)], none⟩] [2])
 (.seq
 (.region false [⟨some 3, .mv, [.t 0], none⟩,
 ⟨some 4, .call n_impl_isWithin 2048, [.t 3, .c (.i 1), .c (.i 5)], none⟩,
 ⟨some 2, .mv, [.t 4], none⟩] [0, 3, 4])
 .ret)) }
/-- impl.isWithin -/
def F_impl_isWithin : LF :=
 { nparams := 3, results := [.t 6], body :=
 (.seq
 (.region false [⟨some 6, .mv, [.c (.b false)], none⟩] [6])
 (.seq
 (.region false [⟨some 7, .mv, [.t 1], none⟩,
 ⟨some 8, .mv, [.t 0], none⟩,
 ⟨some 9, .bin .leq, [.t 7, .t 8], none⟩,
 ⟨some 10, .mv, [.t 9], none⟩,
 ⟨some 11, .mv, [.t 0], some (10, true)⟩,
 ⟨some 12, .mv, [.t 2], some (10, true)⟩,
 ⟨some 13, .bin .leq, [.t 11, .t 12], some (10, true)⟩,
 ⟨some 14, .pick, [.t 10, .t 13, .c (.b false)], none⟩,
 ⟨some 6, .mv, [.t 14], none⟩] [0, 1, 2, 7, 8, 9, 10, 11, 12, 13, 14])
 .ret)) }
/-- impl.partsTaken -/
def F_impl_partsTaken : LF :=
 { nparams := 1, results := [.t 2], body :=
 (.seq
 (.region false [⟨some 2, .mv, [.c (.i 0)], none⟩] [2])
 (.seq
 (.seq
 (.region false [⟨some 3, .mv, [.t 0], none⟩] [0])
 (.block 0
 (.seq
 (.region false [⟨some 5, .bin .eql, [.t 3, .c (.i 0)], none⟩,
 ⟨some 4, .mv, [.t 5], none⟩] [5])
 (.cond (.t 4) [4]
 (.seq
 (.region false [⟨some 2, .mv, [.c (.i 0)], none⟩] [3])
 .ret)
 (.seq
 (.region false [⟨some 7, .bin .eql, [.t 3, .c (.i 1)], none⟩,
 ⟨some 6, .mv, [.t 7], none⟩] [3, 7])
 (.cond (.t 6) [6]
 (.seq
 (.region false [⟨some 2, .mv, [.c (.i 1)], none⟩] [])
 .ret)
 .skip))))))
 (.seq
 (.region false [⟨some 2, .mv, [.c (.i 2)], none⟩] [])
 .ret))) }
/-- impl.markOk -/
def F_impl_markOk : LF :=
 { nparams := 2, results := [.t 4], body :=
 (.seq
 (.region false [⟨some 3, .box 1552, [.t 1], none⟩,
 ⟨some 4, .mv, [.c (.b false)], none⟩] [1, 4])
 (.seq
 (.seq
 (.region false [⟨some 5, .fld 0 1 false, [.t 3], none⟩,
 ⟨some 6, .load 1 false, [.t 5], none⟩,
 ⟨some 7, .bin .eql, [.t 6, .c (.i 0)], none⟩] [5, 6])
 (.cond (.t 7) [7]
 (.seq
 (.region false [⟨some 8, .fld 1 1 false, [.t 3], none⟩,
 ⟨some 9, .load 1 false, [.t 8], none⟩,
 ⟨some 10, .mv, [.t 0], none⟩,
 ⟨some 11, .bin .sub, [.t 10, .c (.i 1)], none⟩,
 ⟨some 12, .call n_impl_isWithin 6144, [.t 9, .c (.i 0), .t 11], none⟩,
 ⟨some 4, .mv, [.t 12], none⟩] [0, 3, 8, 9, 10, 11, 12])
 .ret)
 .skip))
 (.seq
 (.region false [⟨some 13, .fld 0 1 false, [.t 3], none⟩,
 ⟨some 14, .load 1 false, [.t 13], none⟩,
 ⟨some 15, .call n_impl_isWithin 7680, [.t 14, .c (.i 1), .c (.i 3)], none⟩,
 ⟨some 16, .mv, [.t 15], none⟩,
 ⟨some 17, .fld 1 1 false, [.t 3], some (16, true)⟩,
 ⟨some 18, .load 1 false, [.t 17], some (16, true)⟩,
 ⟨some 19, .bin .eql, [.t 18, .c (.i 0)], some (16, true)⟩,
 ⟨some 20, .pick, [.t 16, .t 19, .c (.b false)], none⟩,
 ⟨some 4, .mv, [.t 20], none⟩] [0, 3, 13, 14, 15, 16, 17, 18, 19, 20])
 .ret))) }
/-- impl.point).isForced -/
def F_impl_point_isForced : LF :=
 { nparams := 1, results := [.t 2], body :=
 (.seq
 (.region false [⟨some 1, .box 544, [.t 0], none⟩,
 ⟨some 2, .mv, [.c (.b false)], none⟩] [0, 2])
 (.seq
 (.region false [⟨some 3, .fld 3 1 false, [.t 1], none⟩,
 ⟨some 4, .load 1 false, [.t 3], none⟩,
 ⟨some 5, .fld 2 1 false, [.t 1], none⟩,
 ⟨some 6, .load 1 false, [.t 5], none⟩,
 ⟨some 7, .call n_impl_valueAmong 3584, [.t 4, .t 6], none⟩,
 ⟨some 8, .bin .neq, [.t 7, .c (.i (-1))], none⟩,
 ⟨some 2, .mv, [.t 8], none⟩] [1, 3, 4, 5, 6, 7, 8])
 .ret)) }
/-- impl.point).canAsk -/
def F_impl_point_canAsk : LF :=
 { nparams := 2, results := [.t 4], body :=
 (.seq
 (.region false [⟨some 2, .box 1056, [.t 0], none⟩,
 ⟨some 4, .mv, [.c (.b false)], none⟩] [0, 4])
 (.seq
 (.region false [⟨some 5, .mv, [.t 1], none⟩,
 ⟨some 6, .fld 0 1 false, [.t 2], none⟩,
 ⟨some 7, .load 1 false, [.t 6], none⟩,
 ⟨some 8, .bin .sub, [.t 7, .c (.i 1)], none⟩,
 ⟨some 9, .call n_impl_isWithin 4608, [.t 5, .c (.i 0), .t 8], none⟩,
 ⟨some 10, .mv, [.t 9], none⟩,
 ⟨some 11, .fld 1 1 false, [.t 2], some (10, true)⟩,
 ⟨some 12, .load 1 false, [.t 11], some (10, true)⟩,
 ⟨some 13, .mv, [.t 1], some (10, true)⟩,
 ⟨some 14, .call n_impl_hasTest 7168, [.t 12, .t 13], some (10, true)⟩,
 ⟨some 15, .un .not, [.t 14], some (10, true)⟩,
 ⟨some 16, .pick, [.t 10, .t 15, .c (.b false)], none⟩,
 ⟨some 4, .mv, [.t 16], none⟩] [1, 2, 5, 6, 7, 8, 9, 10, 11, 12, 13, 14, 15, 16])
 .ret)) }
/-- impl.point).answered -/
def F_impl_point_answered : LF :=
 { nparams := 3, results := [.c 6 4 true], body :=
 (.seq
 (.region false [⟨some 3, .box 1568, [.t 0], none⟩,
 ⟨some 6, .alloc 3104 (.st [.i 0, .i 0, .w (0#32), .w (0#32)]), [], none⟩] [0])
 (.seq
 (.region true [⟨some 7, .fld 1 1 false, [.t 3], none⟩,
 ⟨some 8, .load 1 false, [.t 7], none⟩,
 ⟨some 9, .mv, [.t 1], none⟩,
 ⟨some 10, .bin .shl, [.c (.i 1), .t 9], none⟩,
 ⟨some 11, .bin .or, [.t 8, .t 10], none⟩,
 ⟨some 12, .fld 1 1 false, [.t 3], none⟩,
 ⟨none, .store 1, [.t 12, .t 11], none⟩] [7, 8, 9, 10, 11, 12])
 (.seq
 (.region true [⟨some 13, .fld 2 1 false, [.t 3], none⟩,
 ⟨some 14, .load 1 false, [.t 13], none⟩,
 ⟨some 15, .mv, [.t 1], none⟩,
 ⟨some 16, .mv, [.t 2], none⟩,
 ⟨some 17, .call n_impl_statesSaying 8704, [.t 15, .t 16], none⟩,
 ⟨some 18, .bin .and, [.t 14, .t 17], none⟩,
 ⟨some 19, .fld 2 1 false, [.t 3], none⟩,
 ⟨none, .store 1, [.t 19, .t 18], none⟩] [1, 2, 13, 14, 15, 16, 17, 18, 19])
 (.seq
 (.region false [⟨some 20, .load 4 true, [.t 3], none⟩,
 ⟨none, .store 4, [.t 6, .t 20], none⟩] [3, 20])
 .ret)))) }
/-- impl.averagesOf$1 -/
def F_impl_averagesOf_1 : LF :=
 { nparams := 5, results := [.t 9], body :=
 (.seq
 (.region false [⟨some 5, .box 2592, [.t 0], none⟩,
 ⟨some 9, .mv, [.c (.i 0)], none⟩] [0, 9])
 (.seq
 (.region true [⟨some 10, .load 1 false, [.t 4], none⟩,
 ⟨some 11, .mv, [.t 1], none⟩,
 ⟨some 12, .idxa 2, [.t 10, .t 11], none⟩,
 ⟨some 13, .load 2 true, [.t 12], none⟩,
 ⟨some 14, .fld 0 1 false, [.t 5], none⟩,
 ⟨some 15, .load 1 false, [.t 14], none⟩,
 ⟨some 16, .load 4 true, [.t 5], none⟩,
 ⟨some 17, .call n_impl_point_howManyAsked 8704, [.t 16], none⟩,
 ⟨some 18, .bin .sub, [.t 15, .t 17], none⟩,
 ⟨some 19, .mv, [.t 2], none⟩,
 ⟨some 20, .mv, [.t 3], none⟩,
 ⟨some 21, .call n_impl_averageAsking 10752, [.t 13, .t 18, .t 19, .t 20], none⟩,
 ⟨some 9, .mv, [.t 21], none⟩] [1, 2, 3, 4, 5, 10, 11, 12, 13, 14, 15, 16, 17, 18, 19, 20, 21])
 .ret)) }
/-- impl.averageAsking -/
def F_impl_averageAsking : LF :=
 { nparams := 4, results := [.t 8], body :=
 (.seq
 (.region false [⟨some 4, .box 2064, [.t 0], none⟩,
 ⟨some 8, .mv, [.c (.i 0)], none⟩] [0, 8])
 (.seq
 (.region true [⟨some 9, .fld 0 1 false, [.t 4], none⟩,
 ⟨some 10, .load 1 false, [.t 9], none⟩,
 ⟨some 11, .mv, [.t 1], none⟩,
 ⟨some 12, .call n_impl_wholeOf 6144, [.t 11], none⟩,
 ⟨some 13, .bin .mul, [.t 10, .t 12], none⟩,
 ⟨some 14, .fld 1 1 false, [.t 4], none⟩,
 ⟨some 15, .load 1 false, [.t 14], none⟩,
 ⟨some 16, .bin .sub, [.c (.i 6), .t 15], none⟩,
 ⟨some 17, .mv, [.t 2], none⟩,
 ⟨some 18, .bin .mul, [.t 16, .t 17], none⟩,
 ⟨some 19, .bin .add, [.t 13, .t 18], none⟩,
 ⟨some 20, .fld 1 1 false, [.t 4], none⟩,
 ⟨some 21, .load 1 false, [.t 20], none⟩,
 ⟨some 22, .mv, [.t 3], none⟩,
 ⟨some 23, .bin .mul, [.t 21, .t 22], none⟩,
 ⟨some 24, .bin .add, [.t 19, .t 23], none⟩,
 ⟨some 8, .mv, [.t 24], none⟩] [1, 2, 3, 4, 9, 10, 11, 12, 13, 14, 15, 16, 17, 18, 19, 20, 21, 22, 23, 24])
 .ret)) }
/-- impl.Choice] -/
def F_slices_Concat_impl_Choice_impl_Choice_L0 : LC :=
 (.seq
 (.region false [⟨some 12, .bin .lss, [.t 11, .t 10], none⟩] [])
 (.seq
 (.cond (.t 12) [12]
 .skip
 (.exit 0))
 (.seq
 (.block 1
 (.seq
 (.region false [⟨some 13, .idxa 1, [.t 9, .t 11], none⟩,
 ⟨some 14, .load 1 false, [.t 13], none⟩,
 ⟨some 5, .mv, [.t 14], none⟩] [13, 14])
 (.seq
 (.region false [⟨some 15, .mv, [.t 3], none⟩,
 ⟨some 16, .mv, [.t 5], none⟩,
 ⟨some 17, .len, [.t 16], none⟩,
 ⟨some 18, .bin .add, [.t 15, .t 17], none⟩,
 ⟨some 3, .mv, [.t 18], none⟩] [5, 15, 16, 17, 18])
 (.seq
 (.region false [⟨some 19, .mv, [.t 3], none⟩,
 ⟨some 20, .bin .lss, [.t 19, .c (.i 0)], none⟩] [19])
 (.cond (.t 20) [20]
 .void
 .skip)))))
 (.region false [⟨some 22, .bin .add, [.t 11, .c (.i 1)], none⟩,
 ⟨some 11, .mv, [.t 22], none⟩] [22]))))
def F_slices_Concat_impl_Choice_impl_Choice_W0 : LC := .loop F_slices_Concat_impl_Choice_impl_Choice_L0
def F_slices_Concat_impl_Choice_impl_Choice_L1 : LC :=
 (.seq
 (.region false [⟨some 28, .bin .lss, [.t 27, .t 26], none⟩] [])
 (.seq
 (.cond (.t 28) [28]
 .skip
 (.exit 2))
 (.seq
 (.block 3
 (.seq
 (.region false [⟨some 29, .idxa 1, [.t 25, .t 27], none⟩,
 ⟨some 30, .load 1 false, [.t 29], none⟩,
 ⟨some 8, .mv, [.t 30], none⟩] [29, 30])
 (.region false [⟨some 31, .mv, [.t 6], none⟩,
 ⟨some 32, .mv, [.t 8], none⟩,
 ⟨some 33, .app 16920 3, [.t 31, .t 32], none⟩,
 ⟨some 6, .mv, [.t 33], none⟩] [8, 31, 32, 33])))
 (.region false [⟨some 34, .bin .add, [.t 27, .c (.i 1)], none⟩,
 ⟨some 27, .mv, [.t 34], none⟩] [34]))))
def F_slices_Concat_impl_Choice_impl_Choice_W1 : LC := .loop F_slices_Concat_impl_Choice_impl_Choice_L1
def F_slices_Concat_impl_Choice_impl_Choice : LF :=
 { nparams := 1, results := [.t 2], body :=
 (.seq
 (.region false [⟨some 2, .newnil 1048, [], none⟩] [2])
 (.seq
 (.region false [⟨some 3, .mv, [.c (.i 0)], none⟩] [])
 (.seq
 (.seq
 (.region false [⟨some 9, .mv, [.t 0], none⟩,
 ⟨some 10, .len, [.t 9], none⟩,
 ⟨some 11, .mv, [.c (.i 0)], none⟩] [])
 (.block 0
 F_slices_Concat_impl_Choice_impl_Choice_W0))
 (.seq
 (.region false [⟨some 23, .mv, [.t 3], none⟩,
 ⟨some 24, .callm n_slices_Grow_impl_Choice_impl_Choice [0] 12288, [.c (.nil), .t 23], none⟩,
 ⟨some 6, .mv, [.t 24], none⟩] [3, 9, 10, 11, 23, 24])
 (.seq
 (.seq
 (.region false [⟨some 25, .mv, [.t 0], none⟩,
 ⟨some 26, .len, [.t 25], none⟩,
 ⟨some 27, .mv, [.c (.i 0)], none⟩] [0])
 (.block 2
 F_slices_Concat_impl_Choice_impl_Choice_W1))
 (.seq
 (.region false [⟨some 35, .mv, [.t 6], none⟩,
 ⟨some 2, .mv, [.t 35], none⟩] [6, 25, 26, 27, 35])
 .ret)))))) }
/-- impl.foldTerm[uint32] -/
def F_impl_foldTerm_uint32_L0 : LC :=
 (.seq
 (.region false [⟨some 13, .bin .lss, [.t 12, .t 11], none⟩] [])
 (.seq
 (.cond (.t 13) [13]
 .skip
 (.exit 0))
 (.seq
 (.block 1
 (.seq
 (.region false [⟨some 14, .idxa 2, [.t 10, .t 12], none⟩,
 ⟨some 15, .load 2 true, [.t 14], none⟩,
 ⟨some 7, .alloc 3600 (.st [.i 0, .i 0]), [], none⟩,
 ⟨none, .store 2, [.t 7, .t 15], none⟩] [14, 15])
 (.seq
 (.region false [⟨some 16, .mv, [.t 5], none⟩,
 ⟨some 17, .len, [.t 16], none⟩,
 ⟨some 18, .fld 0 1 false, [.t 7], none⟩,
 ⟨some 19, .load 1 false, [.t 18], none⟩,
 ⟨some 20, .call n_impl_partsTaken 10240, [.t 19], none⟩,
 ⟨some 21, .bin .sub, [.t 17, .t 20], none⟩,
 ⟨some 8, .mv, [.t 21], none⟩] [16, 17, 18, 19, 20, 21])
 (.seq
 (.region true [⟨some 22, .mv, [.t 1], none⟩,
 ⟨some 23, .load 2 true, [.t 7], none⟩,
 ⟨some 24, .mv, [.t 5], none⟩,
 ⟨some 25, .mv, [.t 8], none⟩,
 ⟨some 26, .slice true false 1, [.t 24, .t 25], none⟩,
 ⟨some 27, .calld 13824, [.t 22, .t 23, .t 26], none⟩,
 ⟨some 9, .mv, [.t 27], none⟩] [7, 22, 23, 24, 25, 26, 27])
 (.region false [⟨some 28, .mv, [.t 5], none⟩,
 ⟨some 29, .mv, [.t 8], none⟩,
 ⟨some 30, .slice false true 1, [.t 28, .t 29], none⟩,
 ⟨some 31, .mv, [.t 9], none⟩,
 ⟨some 32, .bslice 16392 1 1 (.w (0#32)) [0], [.t 31], none⟩,
 ⟨some 33, .app 16904 1, [.t 30, .t 32], none⟩,
 ⟨some 5, .mv, [.t 33], none⟩] [8, 9, 28, 29, 30, 31, 32, 33])))))
 (.region false [⟨some 34, .bin .add, [.t 12, .c (.i 1)], none⟩,
 ⟨some 12, .mv, [.t 34], none⟩] [34]))))
def F_impl_foldTerm_uint32_W0 : LC := .loop F_impl_foldTerm_uint32_L0
def F_impl_foldTerm_uint32 : LF :=
 { nparams := 2, results := [.t 4], body :=
 (.seq
 (.region false [⟨some 4, .mv, [.c (.w (0#32))], none⟩] [4])
 (.seq
 (.region false [⟨some 5, .newnil 2568, [], none⟩] [])
 (.seq
 (.seq
 (.region false [⟨some 10, .mv, [.t 0], none⟩,
 ⟨some 11, .len, [.t 10], none⟩,
 ⟨some 12, .mv, [.c (.i 0)], none⟩] [0])
 (.block 0
 F_impl_foldTerm_uint32_W0))
 (.seq
 (.region false [⟨some 35, .mv, [.t 5], none⟩,
 ⟨some 36, .idxa 1, [.t 35, .c (.i 0)], none⟩,
 ⟨some 37, .load 1 false, [.t 36], none⟩,
 ⟨some 4, .mv, [.t 37], none⟩] [1, 5, 10, 11, 12, 35, 36, 37])
 .ret)))) }
/-- impl.statesOfPart -/
def F_impl_statesOfPart : LF :=
 { gl := [0], nparams := 2, results := [.t 4], body :=
 (.seq
 (.region false [⟨some 2, .box 1040, [.t 0], none⟩,
 ⟨some 4, .mv, [.c (.w (0#32))], none⟩] [0, 4])
 (.seq
 (.seq
 (.region false [⟨some 5, .fld 0 1 false, [.t 2], none⟩,
 ⟨some 6, .load 1 false, [.t 5], none⟩] [5])
 (.block 0
 (.seq
 (.region false [⟨some 8, .bin .eql, [.t 6, .c (.i 0)], none⟩,
 ⟨some 7, .mv, [.t 8], none⟩] [8])
 (.cond (.t 7) [7]
 (.seq
 (.region false [⟨some 9, .fld 1 1 false, [.t 2], none⟩,
 ⟨some 10, .load 1 false, [.t 9], none⟩,
 ⟨some 11, .idxp 5 1, [.t 1048576, .t 10], none⟩,
 ⟨some 12, .load 1 false, [.t 11], none⟩,
 ⟨some 4, .mv, [.t 12], none⟩] [1, 2, 6, 9, 10, 11, 12])
 .ret)
 (.seq
 (.region false [⟨some 14, .bin .eql, [.t 6, .c (.i 1)], none⟩,
 ⟨some 13, .mv, [.t 14], none⟩] [2, 14])
 (.cond (.t 13) [13]
 (.seq
 (.region false [⟨some 15, .mv, [.t 1], none⟩,
 ⟨some 16, .idxa 1, [.t 15, .c (.i 0)], none⟩,
 ⟨some 17, .load 1 false, [.t 16], none⟩,
 ⟨some 18, .un .xor, [.t 17], none⟩,
 ⟨some 4, .mv, [.t 18], none⟩] [1, 6, 15, 16, 17, 18])
 .ret)
 (.seq
 (.region false [⟨some 20, .bin .eql, [.t 6, .c (.i 2)], none⟩,
 ⟨some 19, .mv, [.t 20], none⟩] [6, 20])
 (.cond (.t 19) [19]
 (.seq
 (.region true [⟨some 21, .mv, [.t 1], none⟩,
 ⟨some 22, .idxa 1, [.t 21, .c (.i 0)], none⟩,
 ⟨some 23, .load 1 false, [.t 22], none⟩,
 ⟨some 24, .mv, [.t 1], none⟩,
 ⟨some 25, .idxa 1, [.t 24, .c (.i 1)], none⟩,
 ⟨some 26, .load 1 false, [.t 25], none⟩,
 ⟨some 27, .bin .and, [.t 23, .t 26], none⟩,
 ⟨some 4, .mv, [.t 27], none⟩] [1, 21, 22, 23, 24, 25, 26, 27])
 .ret)
 .skip))))))))
 (.seq
 (.region true [⟨some 28, .mv, [.t 1], none⟩,
 ⟨some 29, .idxa 1, [.t 28, .c (.i 0)], none⟩,
 ⟨some 30, .load 1 false, [.t 29], none⟩,
 ⟨some 31, .mv, [.t 1], none⟩,
 ⟨some 32, .idxa 1, [.t 31, .c (.i 1)], none⟩,
 ⟨some 33, .load 1 false, [.t 32], none⟩,
 ⟨some 34, .bin .or, [.t 30, .t 33], none⟩,
 ⟨some 4, .mv, [.t 34], none⟩] [1, 28, 29, 30, 31, 32, 33, 34])
 .ret))) }
/-- impl.comesTo -/
def F_impl_comesTo : LF :=
 { nparams := 4, results := [.t 8], body :=
 (.seq
 (.region false [⟨some 7, .box 3616, [.t 3], none⟩,
 ⟨some 8, .mv, [.c (.b false)], none⟩] [3, 8])
 (.seq
 (.seq
 (.region false [⟨some 9, .mv, [.t 2], none⟩,
 ⟨some 10, .bin .eql, [.t 9, .c (.i (-1))], none⟩,
 ⟨some 11, .mv, [.t 10], none⟩,
 ⟨some 12, .load 4 true, [.t 7], some (11, false)⟩,
 ⟨some 13, .call n_impl_point_isForced 6656, [.t 12], some (11, false)⟩,
 ⟨some 14, .pick, [.t 11, .c (.b true), .t 13], none⟩] [9, 10, 11, 12, 13])
 (.cond (.t 14) [14]
 (.seq
 (.region false [⟨some 15, .mv, [.t 2], none⟩,
 ⟨some 16, .bin .eql, [.t 15, .c (.i (-1))], none⟩,
 ⟨some 17, .mv, [.t 16], none⟩,
 ⟨some 18, .load 4 true, [.t 7], some (17, true)⟩,
 ⟨some 19, .call n_impl_point_isForced 9728, [.t 18], some (17, true)⟩,
 ⟨some 20, .pick, [.t 17, .t 19, .c (.b false)], none⟩,
 ⟨some 8, .mv, [.t 20], none⟩] [1, 2, 7, 15, 16, 17, 18, 19, 20])
 .ret)
 .skip))
 (.seq
 (.seq
 (.region false [⟨some 21, .mv, [.t 2], none⟩,
 ⟨some 22, .mv, [.t 1], none⟩,
 ⟨some 23, .bin .add, [.t 22, .c (.i 1)], none⟩,
 ⟨some 24, .mv, [.t 0], none⟩,
 ⟨some 25, .len, [.t 24], none⟩,
 ⟨some 26, .bin .sub, [.t 25, .c (.i 1)], none⟩,
 ⟨some 27, .call n_impl_isWithin 13824, [.t 21, .t 23, .t 26], none⟩,
 ⟨some 28, .un .not, [.t 27], none⟩,
 ⟨some 29, .mv, [.t 28], none⟩,
 ⟨some 30, .mv, [.t 0], some (29, false)⟩,
 ⟨some 31, .mv, [.t 2], some (29, false)⟩,
 ⟨some 32, .idxa 4, [.t 30, .t 31], some (29, false)⟩,
 ⟨some 33, .load 4 true, [.t 32], some (29, false)⟩,
 ⟨some 34, .build [.i 0, .i 0, .w (0#32), .w (0#32)] [], [], some (29, false)⟩,
 ⟨some 35, .eqs true 4, [.t 33, .t 34], some (29, false)⟩,
 ⟨some 36, .pick, [.t 29, .c (.b true), .t 35], none⟩] [1, 21, 22, 23, 24, 25, 26, 27, 28, 29, 30, 31, 32, 33, 34, 35])
 (.cond (.t 36) [36]
 (.seq
 (.region false [⟨some 8, .mv, [.c (.b false)], none⟩] [2, 7])
 .ret)
 .skip))
 (.seq
 (.region false [⟨some 37, .mv, [.t 0], none⟩,
 ⟨some 38, .mv, [.t 2], none⟩,
 ⟨some 39, .load 4 true, [.t 7], none⟩,
 ⟨some 40, .idxa 4, [.t 37, .t 38], none⟩,
 ⟨none, .store 4, [.t 40, .t 39], none⟩] [2, 7, 37, 38, 39, 40])
 (.seq
 (.region false [⟨some 8, .mv, [.c (.b true)], none⟩] [])
 .ret))))) }
/-- impl.sizeOf -/
def F_impl_sizeOf : LF :=
 { nparams := 1, results := [.t 2], body :=
 (.seq
 (.region false [⟨some 2, .mv, [.c (.i 0)], none⟩] [2])
 (.seq
 (.region false [⟨some 3, .mv, [.t 0], none⟩,
 ⟨some 4, .conv .i2q 2048, [.t 3], none⟩,
 ⟨some 5, .call n_math_bits_OnesCount 2560, [.t 4], none⟩,
 ⟨some 2, .mv, [.t 5], none⟩] [0, 3, 4, 5])
 .ret)) }
/-- impl.hasTest -/
def F_impl_hasTest : LF :=
 { nparams := 2, results := [.t 4], body :=
 (.seq
 (.region false [⟨some 4, .mv, [.c (.b false)], none⟩] [4])
 (.seq
 (.region false [⟨some 5, .mv, [.t 0], none⟩,
 ⟨some 6, .mv, [.t 1], none⟩,
 ⟨some 7, .bin .shr, [.t 5, .t 6], none⟩,
 ⟨some 8, .bin .and, [.t 7, .c (.i 1)], none⟩,
 ⟨some 9, .bin .eql, [.t 8, .c (.i 1)], none⟩,
 ⟨some 4, .mv, [.t 9], none⟩] [0, 1, 5, 6, 7, 8, 9])
 .ret)) }
/-- impl.valueAmong -/
def F_impl_valueAmong : LF :=
 { nparams := 2, results := [.t 4], body :=
 (.seq
 (.region false [⟨some 4, .mv, [.c (.i 0)], none⟩] [4])
 (.seq
 (.seq
 (.region false [⟨some 5, .mv, [.t 0], none⟩,
 ⟨some 6, .mv, [.t 1], none⟩,
 ⟨some 7, .bin .and, [.t 5, .t 6], none⟩] [0, 5, 6])
 (.block 0
 (.seq
 (.region false [⟨some 9, .mv, [.t 1], none⟩,
 ⟨some 10, .bin .eql, [.t 7, .t 9], none⟩,
 ⟨some 8, .mv, [.t 10], none⟩] [1, 9, 10])
 (.cond (.t 8) [8]
 (.seq
 (.region false [⟨some 4, .mv, [.c (.i 1)], none⟩] [7])
 .ret)
 (.seq
 (.region false [⟨some 12, .bin .eql, [.t 7, .c (.w (0#32))], none⟩,
 ⟨some 11, .mv, [.t 12], none⟩] [7, 12])
 (.cond (.t 11) [11]
 (.seq
 (.region false [⟨some 4, .mv, [.c (.i 0)], none⟩] [])
 .ret)
 .skip))))))
 (.seq
 (.region false [⟨some 4, .mv, [.c (.i (-1))], none⟩] [])
 .ret))) }
/-- impl.statesSaying -/
def F_impl_statesSaying : LF :=
 { gl := [0], nparams := 2, results := [.t 4], body :=
 (.seq
 (.region false [⟨some 4, .mv, [.c (.w (0#32))], none⟩] [4])
 (.seq
 (.seq
 (.region false [⟨some 5, .mv, [.t 1], none⟩,
 ⟨some 6, .bin .eql, [.t 5, .c (.i 1)], none⟩] [1, 5])
 (.cond (.t 6) [6]
 (.seq
 (.region false [⟨some 7, .mv, [.t 0], none⟩,
 ⟨some 8, .idxp 5 1, [.t 1048576, .t 7], none⟩,
 ⟨some 9, .load 1 false, [.t 8], none⟩,
 ⟨some 4, .mv, [.t 9], none⟩] [0, 7, 8, 9])
 .ret)
 .skip))
 (.seq
 (.region false [⟨some 10, .mv, [.t 0], none⟩,
 ⟨some 11, .idxp 5 1, [.t 1048576, .t 10], none⟩,
 ⟨some 12, .load 1 false, [.t 11], none⟩,
 ⟨some 13, .un .xor, [.t 12], none⟩,
 ⟨some 4, .mv, [.t 13], none⟩] [0, 10, 11, 12, 13])
 .ret))) }
/-- impl.wholeOf -/
def F_impl_wholeOf_L0 : LC :=
 (.seq
 (.region false [⟨some 6, .bin .lss, [.t 5, .t 4], none⟩] [])
 (.seq
 (.cond (.t 6) [6]
 .skip
 (.exit 0))
 (.seq
 (.block 1
 (.region false [⟨some 7, .mv, [.t 3], none⟩,
 ⟨some 8, .bin .mul, [.t 7, .c (.i 6)], none⟩,
 ⟨some 3, .mv, [.t 8], none⟩] [7, 8]))
 (.region false [⟨some 9, .bin .add, [.t 5, .c (.i 1)], none⟩,
 ⟨some 5, .mv, [.t 9], none⟩] [9]))))
def F_impl_wholeOf_W0 : LC := .loop F_impl_wholeOf_L0
def F_impl_wholeOf : LF :=
 { nparams := 1, results := [.t 2], body :=
 (.seq
 (.region false [⟨some 2, .mv, [.c (.i 0)], none⟩] [2])
 (.seq
 (.region false [⟨some 3, .mv, [.c (.i 1)], none⟩] [])
 (.seq
 (.seq
 (.region false [⟨some 4, .mv, [.t 0], none⟩,
 ⟨some 5, .mv, [.c (.i 0)], none⟩] [0])
 (.block 0
 F_impl_wholeOf_W0))
 (.seq
 (.region false [⟨some 10, .mv, [.t 3], none⟩,
 ⟨some 2, .mv, [.t 10], none⟩] [3, 4, 5, 10])
 .ret)))) }
/-- impl.Choice] -/
def F_slices_Grow_impl_Choice_impl_Choice : LF :=
 { nparams := 2, results := [], body := .skip, prim := some (growP 3) }
/-- bits.OnesCount -/
def F_math_bits_OnesCount : LF :=
 { nparams := 1, results := [.t 2], body :=
 (.seq
 (.region false [⟨some 2, .mv, [.c (.i 0)], none⟩] [2])
 (.seq
 (.cond (.c (.b false)) []
 (.seq
 .void
 .ret)
 .skip)
 (.seq
 (.region false [⟨some 6, .mv, [.t 0], none⟩,
 ⟨some 7, .call n_math_bits_OnesCount64 3584, [.t 6], none⟩,
 ⟨some 2, .mv, [.t 7], none⟩] [0, 6, 7])
 .ret))) }
/-- bits.OnesCount64 -/
def F_math_bits_OnesCount64 : LF :=
 { nparams := 1, results := [.t 2], body :=
 (.seq
 (.region false [⟨some 2, .mv, [.c (.i 0)], none⟩] [2])
 (.seq
 (.region false [⟨some 3, .mv, [.t 0], none⟩,
 ⟨some 4, .bin .shr, [.t 3, .c (.q 1)], none⟩,
 ⟨some 5, .bin .and, [.t 4, .c (.q 6148914691236517205)], none⟩,
 ⟨some 6, .mv, [.t 0], none⟩,
 ⟨some 7, .bin .and, [.t 6, .c (.q 6148914691236517205)], none⟩,
 ⟨some 8, .bin .add, [.t 5, .t 7], none⟩,
 ⟨some 0, .mv, [.t 8], none⟩] [3, 4, 5, 6, 7, 8])
 (.seq
 (.region false [⟨some 9, .mv, [.t 0], none⟩,
 ⟨some 10, .bin .shr, [.t 9, .c (.q 2)], none⟩,
 ⟨some 11, .bin .and, [.t 10, .c (.q 3689348814741910323)], none⟩,
 ⟨some 12, .mv, [.t 0], none⟩,
 ⟨some 13, .bin .and, [.t 12, .c (.q 3689348814741910323)], none⟩,
 ⟨some 14, .bin .add, [.t 11, .t 13], none⟩,
 ⟨some 0, .mv, [.t 14], none⟩] [9, 10, 11, 12, 13, 14])
 (.seq
 (.region false [⟨some 15, .mv, [.t 0], none⟩,
 ⟨some 16, .bin .shr, [.t 15, .c (.q 4)], none⟩,
 ⟨some 17, .mv, [.t 0], none⟩,
 ⟨some 18, .bin .add, [.t 16, .t 17], none⟩,
 ⟨some 19, .bin .and, [.t 18, .c (.q 1085102592571150095)], none⟩,
 ⟨some 0, .mv, [.t 19], none⟩] [15, 16, 17, 18, 19])
 (.seq
 (.region false [⟨some 20, .mv, [.t 0], none⟩,
 ⟨some 21, .mv, [.t 0], none⟩,
 ⟨some 22, .bin .shr, [.t 21, .c (.q 8)], none⟩,
 ⟨some 23, .bin .add, [.t 20, .t 22], none⟩,
 ⟨some 0, .mv, [.t 23], none⟩] [20, 21, 22, 23])
 (.seq
 (.region false [⟨some 24, .mv, [.t 0], none⟩,
 ⟨some 25, .mv, [.t 0], none⟩,
 ⟨some 26, .bin .shr, [.t 25, .c (.q 16)], none⟩,
 ⟨some 27, .bin .add, [.t 24, .t 26], none⟩,
 ⟨some 0, .mv, [.t 27], none⟩] [24, 25, 26, 27])
 (.seq
 (.region false [⟨some 28, .mv, [.t 0], none⟩,
 ⟨some 29, .mv, [.t 0], none⟩,
 ⟨some 30, .bin .shr, [.t 29, .c (.q 32)], none⟩,
 ⟨some 31, .bin .add, [.t 28, .t 30], none⟩,
 ⟨some 0, .mv, [.t 31], none⟩] [28, 29, 30, 31])
 (.seq
 (.region false [⟨some 32, .mv, [.t 0], none⟩,
 ⟨some 33, .conv .q2i 16896, [.t 32], none⟩,
 ⟨some 34, .bin .and, [.t 33, .c (.i 127)], none⟩,
 ⟨some 2, .mv, [.t 34], none⟩] [0, 32, 33, 34])
 .ret)))))))) }
def lf : Nat → Option LF
 | 6 => some F_laws_FnNoMatter
 | 10 => some F_impl_AverageBy
 | 12 => some F_laws_alive
 | 13 => some F_impl_CostBy
 | 14 => some F_impl_WeightOf
 | 15 => some F_impl_BestAverage
 | 18 => some F_spec_DrawBestPlan
 | 19 => some F_impl_BestPlan
 | 22 => some F_impl_IdleTests
 | 23 => some F_impl_PlanOk
 | 35 => some F_spec_l20Open
 | 36 => some F_spec_l20Case
 | 38 => some F_impl_costsBy
 | 42 => some F_impl_TestsOk
 | 43 => some F_impl_StateOk
 | 44 => some F_impl_firstOf
 | 45 => some F_impl_Choice_nextIn
 | 46 => some F_impl_outcomeIn
 | 47 => some F_impl_TermOk
 | 48 => some F_impl_leastFrom
 | 49 => some F_impl_startOf
 | 50 => some F_impl_averagesOf
 | 51 => some F_impl_planFrom
 | 52 => some F_impl_BestPlan_1
 | 58 => some F_impl_trueStates
 | 59 => some F_impl_testsWhere
 | 60 => some F_impl_IdleTests_1
 | 61 => some F_impl_pointsOf
 | 62 => some F_impl_point_howManyAsked
 | 63 => some F_spec_l20Rd_pick
 | 64 => some F_spec_l20Term
 | 70 => some F_spec_l20Tests
 | 72 => some F_impl_statesOf
 | 75 => some F_spec_l20Rd_odd
 | 78 => some F_impl_manyOk
 | 79 => some F_impl_isWithin
 | 80 => some F_impl_partsTaken
 | 81 => some F_impl_markOk
 | 82 => some F_impl_point_isForced
 | 83 => some F_impl_point_canAsk
 | 84 => some F_impl_point_answered
 | 85 => some F_impl_averagesOf_1
 | 86 => some F_impl_averageAsking
 | 87 => some F_slices_Concat_impl_Choice_impl_Choice
 | 90 => some F_impl_foldTerm_uint32
 | 91 => some F_impl_statesOfPart
 | 92 => some F_impl_comesTo
 | 93 => some F_impl_sizeOf
 | 94 => some F_impl_hasTest
 | 97 => some F_impl_valueAmong
 | 98 => some F_impl_statesSaying
 | 99 => some F_impl_wholeOf
 | 100 => some F_slices_Grow_impl_Choice_impl_Choice
 | 102 => some F_math_bits_OnesCount
 | 107 => some F_math_bits_OnesCount64
 | _ => none
theorem w_laws_FnNoMatter_0 (S : LS) : ex lf F_laws_FnNoMatter_W0 S = match ex lf F_laws_FnNoMatter_L0 S with | some (.normal, S1) => ex lf F_laws_FnNoMatter_W0 S1 | r => r := ex_loop lf F_laws_FnNoMatter_L0 S
theorem w_impl_AverageBy_0 (S : LS) : ex lf F_impl_AverageBy_W0 S = match ex lf F_impl_AverageBy_L0 S with | some (.normal, S1) => ex lf F_impl_AverageBy_W0 S1 | r => r := ex_loop lf F_impl_AverageBy_L0 S
theorem w_impl_CostBy_0 (S : LS) : ex lf F_impl_CostBy_W0 S = match ex lf F_impl_CostBy_L0 S with | some (.normal, S1) => ex lf F_impl_CostBy_W0 S1 | r => r := ex_loop lf F_impl_CostBy_L0 S
theorem w_impl_WeightOf_0 (S : LS) : ex lf F_impl_WeightOf_W0 S = match ex lf F_impl_WeightOf_L0 S with | some (.normal, S1) => ex lf F_impl_WeightOf_W0 S1 | r => r := ex_loop lf F_impl_WeightOf_L0 S
theorem w_impl_costsBy_0 (S : LS) : ex lf F_impl_costsBy_W0 S = match ex lf F_impl_costsBy_L0 S with | some (.normal, S1) => ex lf F_impl_costsBy_W0 S1 | r => r := ex_loop lf F_impl_costsBy_L0 S
theorem w_impl_TestsOk_0 (S : LS) : ex lf F_impl_TestsOk_W0 S = match ex lf F_impl_TestsOk_L0 S with | some (.normal, S1) => ex lf F_impl_TestsOk_W0 S1 | r => r := ex_loop lf F_impl_TestsOk_L0 S
theorem w_impl_TermOk_0 (S : LS) : ex lf F_impl_TermOk_W0 S = match ex lf F_impl_TermOk_L0 S with | some (.normal, S1) => ex lf F_impl_TermOk_W0 S1 | r => r := ex_loop lf F_impl_TermOk_L0 S
theorem w_impl_leastFrom_0 (S : LS) : ex lf F_impl_leastFrom_W0 S = match ex lf F_impl_leastFrom_L0 S with | some (.normal, S1) => ex lf F_impl_leastFrom_W0 S1 | r => r := ex_loop lf F_impl_leastFrom_L0 S
theorem w_impl_testsWhere_0 (S : LS) : ex lf F_impl_testsWhere_W0 S = match ex lf F_impl_testsWhere_L0 S with | some (.normal, S1) => ex lf F_impl_testsWhere_W0 S1 | r => r := ex_loop lf F_impl_testsWhere_L0 S
theorem w_impl_pointsOf_0 (S : LS) : ex lf F_impl_pointsOf_W0 S = match ex lf F_impl_pointsOf_L0 S with | some (.normal, S1) => ex lf F_impl_pointsOf_W0 S1 | r => r := ex_loop lf F_impl_pointsOf_L0 S
theorem w_spec_l20Term_0 (S : LS) : ex lf F_spec_l20Term_W0 S = match ex lf F_spec_l20Term_L0 S with | some (.normal, S1) => ex lf F_spec_l20Term_W0 S1 | r => r := ex_loop lf F_spec_l20Term_L0 S
theorem w_spec_l20Term_1 (S : LS) : ex lf F_spec_l20Term_W1 S = match ex lf F_spec_l20Term_L1 S with | some (.normal, S1) => ex lf F_spec_l20Term_W1 S1 | r => r := ex_loop lf F_spec_l20Term_L1 S
theorem w_spec_l20Term_2 (S : LS) : ex lf F_spec_l20Term_W2 S = match ex lf F_spec_l20Term_L2 S with | some (.normal, S1) => ex lf F_spec_l20Term_W2 S1 | r => r := ex_loop lf F_spec_l20Term_L2 S
theorem w_spec_l20Tests_0 (S : LS) : ex lf F_spec_l20Tests_W0 S = match ex lf F_spec_l20Tests_L0 S with | some (.normal, S1) => ex lf F_spec_l20Tests_W0 S1 | r => r := ex_loop lf F_spec_l20Tests_L0 S
theorem w_slices_Concat_impl_Choice_impl_Choice_0 (S : LS) : ex lf F_slices_Concat_impl_Choice_impl_Choice_W0 S = match ex lf F_slices_Concat_impl_Choice_impl_Choice_L0 S with | some (.normal, S1) => ex lf F_slices_Concat_impl_Choice_impl_Choice_W0 S1 | r => r := ex_loop lf F_slices_Concat_impl_Choice_impl_Choice_L0 S
theorem w_slices_Concat_impl_Choice_impl_Choice_1 (S : LS) : ex lf F_slices_Concat_impl_Choice_impl_Choice_W1 S = match ex lf F_slices_Concat_impl_Choice_impl_Choice_L1 S with | some (.normal, S1) => ex lf F_slices_Concat_impl_Choice_impl_Choice_W1 S1 | r => r := ex_loop lf F_slices_Concat_impl_Choice_impl_Choice_L1 S
theorem w_impl_foldTerm_uint32_0 (S : LS) : ex lf F_impl_foldTerm_uint32_W0 S = match ex lf F_impl_foldTerm_uint32_L0 S with | some (.normal, S1) => ex lf F_impl_foldTerm_uint32_W0 S1 | r => r := ex_loop lf F_impl_foldTerm_uint32_L0 S
theorem w_impl_wholeOf_0 (S : LS) : ex lf F_impl_wholeOf_W0 S = match ex lf F_impl_wholeOf_L0 S with | some (.normal, S1) => ex lf F_impl_wholeOf_W0 S1 | r => r := ex_loop lf F_impl_wholeOf_L0 S
end Zz
