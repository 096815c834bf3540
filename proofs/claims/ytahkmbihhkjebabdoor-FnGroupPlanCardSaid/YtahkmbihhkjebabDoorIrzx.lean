/- The functions of the program, read as data. No conditions. -/
import Derived.Test.YtahkmbihhkjebabDoorLgEzx
set_option linter.unusedSectionVars false
set_option linter.unusedVariables false
set_option linter.unusedSimpArgs false
namespace Zz
open Go.Lg
abbrev op1 (d : Nat) (k : K) (a : List Opd) : LOp := ⟨some d, k, a, none⟩
abbrev op2 (d : Nat) (k : K) (a : List Opd) (t : Nat) (b : Bool) : LOp := ⟨some d, k, a, some (t, b)⟩
instance : GL := ⟨[(2, .st [.w (2863311530#32), .w (3435973836#32), .w (4042322160#32), .w (4278255360#32), .w (4294901760#32)])], [142], ["l4_orders.go:82"], [], [(75, [0]), (95, [3]), (114, [0, 2]), (132, [0]), (158, [0, 2]), (160, [0])], [(28, 114, 6), (28, 158, 6)], ["l20_draw.go:447"]⟩
theorem gEnv_2 : gEnv [2] = [(1048578, .adr (.st [.w (2863311530#32), .w (3435973836#32), .w (4042322160#32), .w (4278255360#32), .w (4294901760#32)]))] := rfl
def n_laws_FnGroupPlan : Nat := 7
def n_laws_alive : Nat := 15
def n_impl_RowAverage : Nat := 20
def n_impl_RatioOrder : Nat := 21
def n_spec_TestsOk : Nat := 29
def n_spec_DrawGroupPlan : Nat := 33
def n_impl_GroupPlan : Nat := 34
def n_spec_GroupPlan : Nat := 35
def n_laws_samePlan : Nat := 36
def n_impl_GroupTerm : Nat := 37
def n_impl_PlanOk : Nat := 38
def n_impl_AverageBy : Nat := 39
def n_impl_GroupAverage : Nat := 40
def n_spec_l20Open : Nat := 47
def n_spec_l20Tests : Nat := 48
def n_spec_l20Rd_pick : Nat := 49
def n_impl_TestsOk : Nat := 51
def n_impl_StateOk : Nat := 52
def n_impl_isWithin : Nat := 53
def n_spec_l1In : Nat := 58
def n_spec_l1Power : Nat := 67
def n_impl_OrderOk : Nat := 68
def n_impl_rowOk : Nat := 69
def n_impl_wholeOf : Nat := 70
def n_impl_endChance : Nat := 71
def n_impl_RatioOrder_1 : Nat := 72
def n_impl_ratioOf : Nat := 73
def n_impl_ratio_isLess : Nat := 74
def n_impl_inserted_int : Nat := 75
def n_impl_TermOk : Nat := 78
def n_impl_startOf : Nat := 80
def n_impl_manyOk : Nat := 82
def n_impl_trueStates : Nat := 86
def n_impl_statesOf : Nat := 87
def n_impl_WeightOf : Nat := 88
def n_spec_l20Grouped : Nat := 89
def n_impl_groupsByRatios : Nat := 90
def n_impl_planFrom : Nat := 91
def n_impl_GroupPlan_1 : Nat := 92
def n_impl_nextInGroups : Nat := 93
def n_spec_SortedGroups : Nat := 94
def n_spec_l7Grow : Nat := 95
def n_impl_GroupsOk : Nat := 96
def n_impl_pointsOf : Nat := 97
def n_impl_costsBy : Nat := 98
def n_spec_l7Cost : Nat := 106
def n_spec_l20Rd_odd : Nat := 107
def n_impl_hasTest : Nat := 109
def n_slices_Insert_int_int : Nat := 114
def n_impl_partsTaken : Nat := 115
def n_impl_markOk : Nat := 116
def n_impl_point_isForced : Nat := 117
def n_impl_point_canAsk : Nat := 118
def n_impl_point_answered : Nat := 119
def n_impl_foldTerm_uint32 : Nat := 127
def n_impl_statesOfPart : Nat := 128
def n_impl_outcomeIn : Nat := 129
def n_spec_l20Groups : Nat := 130
def n_impl_groupsByRatios_1 : Nat := 131
def n_impl_inserted_impl_askedGroup : Nat := 132
def n_impl_groupOf : Nat := 133
def n_slices_Concat_impl_Choice_impl_Choice : Nat := 134
def n_slices_IndexFunc_impl_askedGroup_impl_askedGroup : Nat := 135
def n_impl_nextInGroups_1 : Nat := 136
def n_impl_valueAmong : Nat := 137
def n_impl_statesWithYes : Nat := 138
def n_slices_IndexFunc_int_int : Nat := 139
def n_spec_GroupsOk : Nat := 140
def n_spec_l7Inside : Nat := 141
def n_impl_comesTo : Nat := 142
def n_impl_firstOf : Nat := 143
def n_impl_CostBy : Nat := 144
def n_slices_rotateRight_int : Nat := 153
def n_impl_statesSaying : Nat := 154
def n_spec_l20Order : Nat := 157
def n_slices_Insert_impl_askedGroup_impl_askedGroup : Nat := 158
def n_slices_Contains_int_int : Nat := 159
def n_slices_Grow_impl_Choice_impl_Choice : Nat := 160
def n_impl_Choice_nextIn : Nat := 161
def n_slices_rotateLeft_int : Nat := 165
def n_slices_rotateRight_impl_askedGroup : Nat := 168
def n_slices_Index_int_int : Nat := 169
def n_slices_Reverse_int_int : Nat := 170
def n_slices_rotateLeft_impl_askedGroup : Nat := 171
def n_slices_Reverse_impl_askedGroup_impl_askedGroup : Nat := 172
/-- laws.FnGroupPlan -/
def F_laws_FnGroupPlan : LF :=
 { nparams := 1, results := [.t 2], body :=
 (.seq
 (.region false [op1 2 .mv [.c (.b false)]] [2])
 (.seq
 (.seq
 (.region false [op1 10 .mv [.t 0],
 op1 11 .len [.t 10],
 op1 12 (.bin .gtr) [.t 11, .c (.i 1048576)]] [10, 11])
 (.cond (.t 12) [12]
 (.seq
 (.region false [op1 2 .mv [.c (.b true)]] [0])
 .ret)
 .skip))
 (.seq
 (.region false [op1 14 .mv [.t 0],
 op1 15 (.call n_spec_DrawGroupPlan 7680) [.t 14],
 op1 13 .mv [.t 15],
 op1 16 (.ext 0) [.t 13],
 op1 17 (.ext 1) [.t 13],
 op1 3 .mv [.t 16],
 op1 4 .mv [.t 17]] [0, 13, 14, 15, 16, 17])
 (.seq
 (.region false [op1 19 .mv [.t 3],
 op1 20 .mv [.t 4],
 op1 21 (.call n_impl_GroupPlan 10752) [.t 19, .t 20],
 op1 18 .mv [.t 21],
 op1 22 (.ext 0) [.t 18],
 op1 23 (.ext 1) [.t 18],
 op1 5 .mv [.t 22],
 op1 6 .mv [.t 23]] [18, 19, 20, 21, 22, 23])
 (.seq
 (.region false [op1 25 .mv [.t 3],
 op1 26 .mv [.t 4],
 op1 27 (.call n_spec_GroupPlan 13824) [.t 25, .t 26],
 op1 24 .mv [.t 27],
 op1 28 (.ext 0) [.t 24],
 op1 29 (.ext 1) [.t 24],
 op1 7 .mv [.t 28],
 op1 8 .mv [.t 29]] [24, 25, 26, 27, 28, 29])
 (.seq
 (.seq
 (.region false [op1 30 .mv [.t 5],
 op1 31 .mv [.t 7],
 op1 32 (.call n_laws_samePlan 16384) [.t 30, .t 31],
 op1 33 (.un .not) [.t 32],
 op1 34 .mv [.t 33],
 op2 35 .mv [.t 6] 34 false,
 op2 36 .mv [.t 8] 34 false,
 op2 37 (.eqb true) [.t 35, .t 36] 34 false,
 op1 38 .pick [.t 34, .c (.b true), .t 37]] [7, 8, 30, 31, 32, 33, 34, 35, 36, 37])
 (.cond (.t 38) [38]
 (.seq
 (.region false [op1 2 .mv [.c (.b false)]] [3, 4, 5, 6])
 .ret)
 .skip))
 (.seq
 (.seq
 (.region false [op1 39 .mv [.t 6],
 op1 40 (.un .not) [.t 39]] [6, 39])
 (.cond (.t 40) [40]
 (.seq
 (.region false [op1 41 .mv [.t 5],
 op1 42 .len [.t 41],
 op1 43 (.bin .eql) [.t 42, .c (.i 0)],
 op1 44 .mv [.t 43],
 op2 45 (.call n_laws_alive 23040) [] 44 true,
 op1 46 .pick [.t 44, .t 45, .c (.b false)],
 op1 2 .mv [.t 46]] [3, 4, 5, 41, 42, 43, 44, 45, 46])
 .ret)
 .skip))
 (.seq
 (.region false [op1 47 .mv [.t 3],
 op1 48 .len [.t 47],
 op1 49 .mv [.t 4],
 op1 50 (.call n_impl_GroupTerm 25600) [.t 48, .t 49],
 op1 9 .mv [.t 50]] [47, 48, 49, 50])
 (.seq
 (.region false [op1 51 .mv [.t 3],
 op1 52 .len [.t 51],
 op1 53 .mv [.t 9],
 op1 54 .mv [.t 5],
 op1 55 (.call n_impl_PlanOk 28160) [.t 52, .t 53, .t 54],
 op1 56 .mv [.t 55],
 op2 57 .mv [.t 3] 56 true,
 op2 58 .mv [.t 9] 56 true,
 op2 59 .mv [.t 5] 56 true,
 op2 60 (.call n_impl_AverageBy 30720) [.t 57, .t 58, .t 59] 56 true,
 op2 61 .mv [.t 3] 56 true,
 op2 62 .mv [.t 4] 56 true,
 op2 63 (.call n_impl_GroupAverage 32256) [.t 61, .t 62] 56 true,
 op2 64 (.bin .eql) [.t 60, .t 63] 56 true,
 op1 65 .pick [.t 56, .t 64, .c (.b false)],
 op1 2 .mv [.t 65]] [3, 4, 5, 9, 51, 52, 53, 54, 55, 56, 57, 58, 59, 60, 61, 62, 63, 64, 65])
 .ret))))))))) }
/-- laws.alive -/
def F_laws_alive : LF :=
 { nparams := 0, results := [.t 0], body :=
 (.seq
 (.region false [op1 0 .mv [.c (.b false)]] [0])
 (.seq
 (.region false [op1 1 (.build [.i 0, .i 0] [(0, 1), (1, 1)]) [.c (.i 1), .c (.i 1)],
 op1 2 (.bslice 1040 1 2 (.st [.i 0, .i 0]) [0]) [.t 1],
 op1 3 (.call n_impl_TestsOk 1536) [.t 2],
 op1 4 .mv [.t 3],
 op2 5 (.build [.i 0, .i 0] []) [] 4 true,
 op2 6 (.bslice 3088 1 2 (.st [.i 0, .i 0]) [0]) [.t 5] 4 true,
 op2 7 (.call n_impl_TestsOk 3584) [.t 6] 4 true,
 op2 8 (.un .not) [.t 7] 4 true,
 op1 9 .pick [.t 4, .t 8, .c (.b false)],
 op1 0 .mv [.t 9]] [1, 2, 3, 4, 5, 6, 7, 8, 9])
 .ret)) }
/-- impl.RowAverage -/
def F_impl_RowAverage_L0 : LC :=
 (.seq
 (.region false [op1 33 (.bin .lss) [.t 32, .t 31]] [])
 (.seq
 (.cond (.t 33) [33]
 .skip
 (.exit 0))
 (.seq
 (.block 1
 (.seq
 (.region false [op1 34 (.idxa 1) [.t 30, .t 32],
 op1 35 (.load 1 false) [.t 34],
 op1 11 .mv [.t 35]] [34, 35])
 (.seq
 (.region false [op1 36 .mv [.t 8],
 op1 37 .mv [.t 0],
 op1 38 .mv [.t 11],
 op1 39 (.idxa 2) [.t 37, .t 38],
 op1 40 (.fld 0 1 false) [.t 39],
 op1 41 (.load 1 false) [.t 40],
 op1 42 .mv [.t 9],
 op1 43 (.bin .mul) [.t 41, .t 42],
 op1 44 (.bin .add) [.t 36, .t 43],
 op1 8 .mv [.t 44]] [36, 37, 38, 39, 40, 41, 42, 43, 44])
 (.region false [op1 45 .mv [.t 9],
 op1 46 (.bin .quo) [.t 45, .c (.i 6)],
 op1 47 .mv [.t 0],
 op1 48 .mv [.t 11],
 op1 49 (.idxa 2) [.t 47, .t 48],
 op1 50 (.load 2 true) [.t 49],
 op1 51 .mv [.t 2],
 op1 52 (.call n_impl_endChance 26624) [.t 50, .t 51],
 op1 53 (.bin .sub) [.c (.i 6), .t 52],
 op1 54 (.bin .mul) [.t 46, .t 53],
 op1 9 .mv [.t 54]] [11, 45, 46, 47, 48, 49, 50, 51, 52, 53, 54]))))
 (.region false [op1 55 (.bin .add) [.t 32, .c (.i 1)],
 op1 32 .mv [.t 55]] [55]))))
def F_impl_RowAverage_W0 : LC := .loop F_impl_RowAverage_L0
def F_impl_RowAverage : LF :=
 { nparams := 3, results := [.t 6], body :=
 (.seq
 (.region false [op1 6 .mv [.c (.i 0)]] [6])
 (.seq
 (.region false [op1 12 .mv [.t 0],
 op1 13 .len [.t 12],
 op1 7 .mv [.t 13]] [12, 13])
 (.seq
 (.seq
 (.region false [op1 14 .mv [.t 0],
 op1 15 (.call n_impl_TestsOk 7680) [.t 14],
 op1 16 (.un .not) [.t 15],
 op1 17 .mv [.t 16],
 op2 18 .mv [.t 7] 17 false,
 op2 19 .mv [.t 1] 17 false,
 op2 20 (.call n_impl_OrderOk 10240) [.t 18, .t 19] 17 false,
 op2 21 (.un .not) [.t 20] 17 false,
 op1 22 .pick [.t 17, .c (.b true), .t 21],
 op1 23 .mv [.t 22],
 op2 24 .mv [.t 2] 23 false,
 op2 25 (.call n_impl_rowOk 12800) [.t 24] 23 false,
 op2 26 (.un .not) [.t 25] 23 false,
 op1 27 .pick [.t 23, .c (.b true), .t 26]] [14, 15, 16, 17, 18, 19, 20, 21, 22, 23, 24, 25, 26])
 (.cond (.t 27) [27]
 (.seq
 (.region false [op1 6 .mv [.c (.i (-1))]] [0, 1, 2, 7])
 .ret)
 .skip))
 (.seq
 (.region false [op1 28 .mv [.t 7],
 op1 29 (.call n_impl_wholeOf 14848) [.t 28],
 op1 8 .mv [.c (.i 0)],
 op1 9 .mv [.t 29]] [7, 28, 29])
 (.seq
 (.seq
 (.region false [op1 30 .mv [.t 1],
 op1 31 .len [.t 30],
 op1 32 .mv [.c (.i 0)]] [1])
 (.block 0
 F_impl_RowAverage_W0))
 (.seq
 (.region false [op1 56 .mv [.t 8],
 op1 6 .mv [.t 56]] [0, 2, 8, 9, 30, 31, 32, 56])
 .ret)))))) }
/-- impl.RatioOrder -/
def F_impl_RatioOrder_L0 : LC :=
 (.ghost (.rename 6 3080)
 (.seq
 (.region false [op1 20 (.bin .lss) [.t 19, .t 18]] [])
 (.seq
 (.cond (.t 20) [20]
 .skip
 (.exit 0))
 (.seq
 (.block 1
 (.seq
 (.region false [op1 21 .mv [.t 19],
 op1 7 .mv [.t 21]] [21])
 (.region false [op1 22 .mv [.t 6],
 op1 23 .mv [.t 7],
 op1 24 .mv [.t 5],
 op1 25 (.callm n_impl_inserted_int [0] 12800) [.t 22, .t 23, .t 24],
 op1 6 .mv [.t 25]] [7, 22, 23, 24, 25])))
 (.region false [op1 26 (.bin .add) [.t 19, .c (.i 1)],
 op1 19 .mv [.t 26]] [26])))))
def F_impl_RatioOrder_W0 : LC := .loop F_impl_RatioOrder_L0
def F_impl_RatioOrder : LF :=
 { nparams := 2, results := [.t 4], body :=
 (.seq
 (.region false [op1 2 (.box 1032) [.t 0],
 op1 3 (.box 1544) [.t 1],
 op1 4 (.newnil 2056) []] [0, 1, 4])
 (.ghost (.close_ 2)
(.ghost (.close_ 3)
 (.seq
 (.seq
 (.region false [op1 8 (.load 1 false) [.t 2],
 op1 9 (.call n_impl_TestsOk 4608) [.t 8],
 op1 10 (.un .not) [.t 9],
 op1 11 .mv [.t 10],
 op2 12 (.load 1 false) [.t 3] 11 false,
 op2 13 (.call n_impl_rowOk 6656) [.t 12] 11 false,
 op2 14 (.un .not) [.t 13] 11 false,
 op1 15 .pick [.t 11, .c (.b true), .t 14]] [8, 9, 10, 11, 12, 13, 14])
 (.cond (.t 15) [15]
 (.seq
 (.region false [op1 4 (.newnil 2056) []] [2, 3])
 .ret)
 .skip))
 (.seq
 (.region false [op1 16 (.mkfn (mkNo n_impl_RatioOrder_1 0)) [.t 2, .t 3],
 op1 5 .mv [.t 16]] [3, 16])
 (.seq
 (.region false [op1 6 (.newnil 3080) []] [])
 (.seq
 (.seq
 (.region false [op1 17 (.load 1 false) [.t 2],
 op1 18 .len [.t 17],
 op1 19 .mv [.c (.i 0)]] [2, 17])
 (.block 0
 F_impl_RatioOrder_W0))
 (.seq
 (.region false [op1 27 .mv [.t 6],
 op1 4 .mv [.t 27]] [5, 6, 18, 19, 27])
 .ret)))))))) }
/-- spec.TestsOk -/
def F_spec_TestsOk_L0 : LC :=
 (.seq
 (.seq
 (.region false [op1 4 .mv [.t 3],
 op1 5 .mv [.t 0],
 op1 6 .len [.t 5],
 op1 7 (.bin .lss) [.t 4, .t 6]] [4, 5, 6])
 (.cond (.t 7) [7]
 .skip
 (.exit 0)))
 (.seq
 (.block 1
 (.seq
 (.region false [op1 10 .mv [.t 0],
 op1 11 .mv [.t 3],
 op1 12 (.idxa 2) [.t 10, .t 11],
 op1 13 (.fld 0 1 false) [.t 12],
 op1 14 (.load 1 false) [.t 13],
 op1 15 (.call n_spec_l1In 7680) [.t 14, .c (.i 1), .c (.i 9)],
 op1 16 (.un .not) [.t 15],
 op1 17 .mv [.t 16],
 op2 18 .mv [.t 0] 17 false,
 op2 19 .mv [.t 3] 17 false,
 op2 20 (.idxa 2) [.t 18, .t 19] 17 false,
 op2 21 (.fld 1 1 false) [.t 20] 17 false,
 op2 22 (.load 1 false) [.t 21] 17 false,
 op2 23 (.call n_spec_l1In 11776) [.t 22, .c (.i 1), .c (.i 5)] 17 false,
 op2 24 (.un .not) [.t 23] 17 false,
 op1 25 .pick [.t 17, .c (.b true), .t 24]] [10, 11, 12, 13, 14, 15, 16, 17, 18, 19, 20, 21, 22, 23, 24])
 (.cond (.t 25) [25]
 (.seq
 (.region false [op1 2 .mv [.c (.b false)]] [0, 3])
 .ret)
 .skip)))
 (.region false [op1 8 .mv [.t 3],
 op1 9 (.bin .add) [.t 8, .c (.i 1)],
 op1 3 .mv [.t 9]] [8, 9])))
def F_spec_TestsOk_W0 : LC := .loop F_spec_TestsOk_L0
def F_spec_TestsOk : LF :=
 { nparams := 1, results := [.t 2], body :=
 (.seq
 (.region false [op1 2 .mv [.c (.b false)]] [2])
 (.seq
 (.seq
 (.region false [op1 3 .mv [.c (.i 0)]] [])
 (.block 0
 F_spec_TestsOk_W0))
 (.seq
 (.region false [op1 26 .mv [.t 0],
 op1 27 .len [.t 26],
 op1 28 (.call n_spec_l1In 14336) [.t 27, .c (.i 1), .c (.i 5)],
 op1 2 .mv [.t 28]] [0, 3, 26, 27, 28])
 .ret))) }
/-- spec.DrawGroupPlan -/
def F_spec_DrawGroupPlan : LF :=
 { nparams := 1, results := [.t 2, .t 3], body :=
 (.seq
 (.region false [op1 2 (.newnil 1040) [],
 op1 3 (.newnil 1544) []] [2, 3])
 (.seq
 (.region false [op1 4 .mv [.t 0],
 op1 5 (.call n_spec_l20Open 2560) [.t 4],
 op1 6 (.call n_spec_l20Grouped 3072) [.t 5],
 op1 7 (.ext 0) [.t 6],
 op1 8 (.ext 1) [.t 6],
 op1 2 .mv [.t 7],
 op1 3 .mv [.t 8]] [0, 4, 5, 6, 7, 8])
 .ret)) }
/-- impl.GroupPlan -/
def F_impl_GroupPlan : LF :=
 { nparams := 2, results := [.t 4, .t 5], body :=
 (.seq
 (.region false [op1 4 (.newnil 2072) [],
 op1 5 .mv [.c (.b false)]] [4, 5])
 (.seq
 (.region false [op1 11 .mv [.t 0],
 op1 12 .mv [.t 1],
 op1 13 (.call n_impl_groupsByRatios 6656) [.t 11, .t 12],
 op1 10 .mv [.t 13],
 op1 14 (.ext 0) [.t 10],
 op1 15 (.ext 1) [.t 10],
 op1 6 (.alloc 3080 (.sl 1 [])) [],
 ⟨none, .store 1, [.t 6, .t 14], none⟩,
 op1 7 .mv [.t 15]] [10, 11, 12, 13, 14, 15])
 (.seq
 (.seq
 (.region false [op1 16 .mv [.t 7],
 op1 17 (.un .not) [.t 16]] [7, 16])
 (.cond (.t 17) [17]
 (.seq
 (.region false [op1 4 (.newnil 2072) [],
 op1 5 .mv [.c (.b false)]] [0, 1, 6])
 .ret)
 .skip))
 (.seq
 (.region false [op1 18 .mv [.t 0],
 op1 19 .len [.t 18],
 op1 8 .mv [.t 19]] [0, 18, 19])
 (.seq
 (.region false [op1 20 .mv [.t 8],
 op1 21 .mv [.t 8],
 op1 22 .mv [.t 1],
 op1 23 (.call n_impl_GroupTerm 11776) [.t 21, .t 22],
 op1 24 (.call n_impl_startOf 12288) [.t 20, .t 23],
 op1 25 (.mkfn (mkNo n_impl_GroupPlan_1 0)) [.t 6],
 op1 26 (.call n_impl_planFrom 13312) [.t 24, .c (.i 0), .t 25],
 op1 9 .mv [.t 26]] [1, 6, 8, 20, 21, 22, 23, 24, 25, 26])
 (.seq
 (.region false [op1 27 .mv [.t 9],
 op1 4 .mv [.t 27],
 op1 5 .mv [.c (.b true)]] [9, 27])
 .ret)))))) }
/-- spec.GroupPlan -/
def F_spec_GroupPlan : LF :=
 { nparams := 2, results := [.t 4, .t 5], body :=
 (.seq
 (.region false [op1 4 (.newnil 2072) [],
 op1 5 .mv [.c (.b false)]] [4, 5])
 (.seq
 (.region false [op1 9 .mv [.t 0],
 op1 10 .mv [.t 1],
 op1 11 (.call n_spec_SortedGroups 5632) [.t 9, .t 10],
 op1 6 .mv [.t 11]] [0, 1, 9, 10, 11])
 (.seq
 (.seq
 (.region false [op1 12 .mv [.t 6],
 op1 13 .len [.t 12],
 op1 14 (.bin .eql) [.t 13, .c (.i 0)]] [12, 13])
 (.cond (.t 14) [14]
 (.seq
 (.region false [op1 15 (.bslice 7704 0 3 (.st [.i 0, .i 0, .i 0]) []) [],
 op1 4 .mv [.t 15],
 op1 5 .mv [.c (.b false)]] [6, 15])
 .ret)
 .skip))
 (.seq
 (.region false [op1 17 .mv [.t 6],
 op1 18 (.bslice 9240 0 3 (.st [.i 0, .i 0, .i 0]) []) [],
 op1 19 (.callm n_spec_l7Grow [3] 9728) [.t 17, .c (.i 0), .c (.i 0), .t 18],
 op1 16 .mv [.t 19],
 op1 20 (.ext 0) [.t 16],
 op1 21 (.ext 1) [.t 16],
 op1 7 .mv [.t 20],
 op1 8 .mv [.t 21]] [6, 8, 16, 17, 18, 19, 20, 21])
 (.seq
 (.region false [op1 22 .mv [.t 7],
 op1 4 .mv [.t 22],
 op1 5 .mv [.c (.b true)]] [7, 22])
 .ret))))) }
/-- laws.samePlan -/
def F_laws_samePlan_L0 : LC :=
 (.seq
 (.seq
 (.region false [op1 11 .mv [.t 5],
 op1 12 .mv [.t 0],
 op1 13 .len [.t 12],
 op1 14 (.bin .lss) [.t 11, .t 13]] [11, 12, 13])
 (.cond (.t 14) [14]
 .skip
 (.exit 0)))
 (.seq
 (.block 1
 (.seq
 (.region true [op1 17 .mv [.t 0],
 op1 18 .mv [.t 5],
 op1 19 (.idxa 3) [.t 17, .t 18],
 op1 20 (.load 3 true) [.t 19],
 op1 21 .mv [.t 1],
 op1 22 .mv [.t 5],
 op1 23 (.idxa 3) [.t 21, .t 22],
 op1 24 (.load 3 true) [.t 23],
 op1 25 (.eqs true 3) [.t 20, .t 24]] [17, 18, 19, 20, 21, 22, 23, 24])
 (.cond (.t 25) [25]
 (.seq
 (.region false [op1 4 .mv [.c (.b false)]] [0, 1, 5])
 .ret)
 .skip)))
 (.region false [op1 15 .mv [.t 5],
 op1 16 (.bin .add) [.t 15, .c (.i 1)],
 op1 5 .mv [.t 16]] [15, 16])))
def F_laws_samePlan_W0 : LC := .loop F_laws_samePlan_L0
def F_laws_samePlan : LF :=
 { nparams := 2, results := [.t 4], body :=
 (.seq
 (.region false [op1 4 .mv [.c (.b false)]] [4])
 (.seq
 (.seq
 (.region false [op1 6 .mv [.t 0],
 op1 7 .len [.t 6],
 op1 8 .mv [.t 1],
 op1 9 .len [.t 8],
 op1 10 (.bin .neq) [.t 7, .t 9]] [6, 7, 8, 9])
 (.cond (.t 10) [10]
 (.seq
 (.region false [op1 4 .mv [.c (.b false)]] [0, 1])
 .ret)
 .skip))
 (.seq
 (.seq
 (.region false [op1 5 .mv [.c (.i 0)]] [])
 (.block 0
 F_laws_samePlan_W0))
 (.seq
 (.region false [op1 4 .mv [.c (.b true)]] [0, 1, 5])
 .ret)))) }
/-- impl.GroupTerm -/
def F_impl_GroupTerm_L1 : LC :=
 (.seq
 (.region false [op1 24 (.bin .lss) [.t 23, .t 22]] [])
 (.seq
 (.cond (.t 24) [24]
 .skip
 (.exit 2))
 (.seq
 (.block 3
 (.seq
 (.region false [op1 25 .mv [.t 23],
 op1 26 (.idxa 1) [.t 21, .t 23],
 op1 27 (.load 1 false) [.t 26],
 op1 8 .mv [.t 25],
 op1 9 .mv [.t 27]] [25, 26, 27])
 (.seq
 (.region false [op1 28 .mv [.t 5],
 op1 29 .mv [.t 9],
 op1 30 (.build [.i 0, .i 0] [(0, 1), (1, 1)]) [.c (.i 0), .t 29],
 op1 31 (.bslice 15888 1 2 (.st [.i 0, .i 0]) [0]) [.t 30],
 op1 32 (.app 16400 2) [.t 28, .t 31],
 op1 5 .mv [.t 32]] [9, 28, 29, 30, 31, 32])
 (.seq
 (.region false [op1 33 .mv [.t 8],
 op1 34 (.bin .gtr) [.t 33, .c (.i 0)]] [8, 33])
 (.cond (.t 34) [34]
 (.region false [op1 35 .mv [.t 5],
 op1 36 (.build [.i 0, .i 0] [(0, 1)]) [.c (.i 3)],
 op1 37 (.bslice 18960 1 2 (.st [.i 0, .i 0]) [0]) [.t 36],
 op1 38 (.app 19472 2) [.t 35, .t 37],
 op1 5 .mv [.t 38]] [35, 36, 37, 38])
 .skip)))))
 (.region false [op1 39 (.bin .add) [.t 23, .c (.i 1)],
 op1 23 .mv [.t 39]] [39]))))
def F_impl_GroupTerm_W1 : LC := .loop F_impl_GroupTerm_L1
def F_impl_GroupTerm_L0 : LC :=
 (.seq
 (.region false [op1 17 (.bin .lss) [.t 16, .t 15]] [])
 (.seq
 (.cond (.t 17) [17]
 .skip
 (.exit 0))
 (.seq
 (.block 1
 (.seq
 (.region false [op1 18 .mv [.t 16],
 op1 19 (.idxa 1) [.t 14, .t 16],
 op1 20 (.load 1 false) [.t 19],
 op1 6 .mv [.t 18],
 op1 7 .mv [.t 20]] [18, 19, 20])
 (.seq
 (.seq
 (.region false [op1 21 .mv [.t 7],
 op1 22 .len [.t 21],
 op1 23 .mv [.c (.i 0)]] [7])
 (.block 2
 F_impl_GroupTerm_W1))
 (.seq
 (.region false [op1 40 .mv [.t 6],
 op1 41 (.bin .gtr) [.t 40, .c (.i 0)]] [6, 21, 22, 23, 40])
 (.cond (.t 41) [41]
 (.region false [op1 42 .mv [.t 5],
 op1 43 (.build [.i 0, .i 0] [(0, 1)]) [.c (.i 2)],
 op1 44 (.bslice 22544 1 2 (.st [.i 0, .i 0]) [0]) [.t 43],
 op1 45 (.app 23056 2) [.t 42, .t 44],
 op1 5 .mv [.t 45]] [42, 43, 44, 45])
 .skip)))))
 (.region false [op1 46 (.bin .add) [.t 16, .c (.i 1)],
 op1 16 .mv [.t 46]] [46]))))
def F_impl_GroupTerm_W0 : LC := .loop F_impl_GroupTerm_L0
def F_impl_GroupTerm : LF :=
 { nparams := 2, results := [.t 4], body :=
 (.seq
 (.region false [op1 4 (.newnil 2064) []] [4])
 (.seq
 (.seq
 (.region false [op1 10 .mv [.t 0],
 op1 11 .mv [.t 1],
 op1 12 (.call n_impl_GroupsOk 6144) [.t 10, .t 11],
 op1 13 (.un .not) [.t 12]] [0, 10, 11, 12])
 (.cond (.t 13) [13]
 (.seq
 (.region false [op1 4 (.newnil 2064) []] [1])
 .ret)
 .skip))
 (.seq
 (.region false [op1 5 (.newnil 2576) []] [])
 (.seq
 (.seq
 (.region false [op1 14 .mv [.t 1],
 op1 15 .len [.t 14],
 op1 16 .mv [.c (.i 0)]] [1])
 (.block 0
 F_impl_GroupTerm_W0))
 (.seq
 (.region false [op1 47 .mv [.t 5],
 op1 4 .mv [.t 47]] [5, 14, 15, 16, 47])
 .ret))))) }
/-- impl.PlanOk -/
def F_impl_PlanOk : LF :=
 { nparams := 3, results := [.t 6], body :=
 (.seq
 (.region false [op1 6 .mv [.c (.b false)]] [6])
 (.seq
 (.region false [op1 10 .mv [.t 0],
 op1 11 .mv [.t 1],
 op1 12 .mv [.t 2],
 op1 13 (.call n_impl_pointsOf 6656) [.t 10, .t 11, .t 12],
 op1 9 .mv [.t 13],
 op1 14 (.ext 0) [.t 9],
 op1 15 (.ext 1) [.t 9],
 op1 7 .mv [.t 14],
 op1 8 .mv [.t 15]] [0, 1, 2, 7, 9, 10, 11, 12, 13, 14, 15])
 (.seq
 (.region false [op1 16 .mv [.t 8],
 op1 6 .mv [.t 16]] [8, 16])
 .ret))) }
/-- impl.AverageBy -/
def F_impl_AverageBy_L0 : LC :=
 (.seq
 (.region false [op1 24 (.bin .lss) [.t 23, .t 22]] [])
 (.seq
 (.cond (.t 24) [24]
 .skip
 (.exit 0))
 (.seq
 (.block 1
 (.seq
 (.region false [op1 25 .mv [.t 23],
 op1 26 (.idxa 1) [.t 21, .t 23],
 op1 27 (.load 1 false) [.t 26],
 op1 10 .mv [.t 25],
 op1 11 .mv [.t 27]] [25, 26, 27])
 (.region false [op1 28 .mv [.t 9],
 op1 29 .mv [.t 0],
 op1 30 .mv [.t 10],
 op1 31 (.call n_impl_WeightOf 15872) [.t 29, .t 30],
 op1 32 .mv [.t 11],
 op1 33 (.bin .mul) [.t 31, .t 32],
 op1 34 (.bin .add) [.t 28, .t 33],
 op1 9 .mv [.t 34]] [10, 11, 28, 29, 30, 31, 32, 33, 34])))
 (.region false [op1 35 (.bin .add) [.t 23, .c (.i 1)],
 op1 23 .mv [.t 35]] [35]))))
def F_impl_AverageBy_W0 : LC := .loop F_impl_AverageBy_L0
def F_impl_AverageBy : LF :=
 { nparams := 3, results := [.t 6], body :=
 (.seq
 (.region false [op1 6 .mv [.c (.i 0)]] [6])
 (.seq
 (.region false [op1 13 .mv [.t 0],
 op1 14 .mv [.t 1],
 op1 15 .mv [.t 2],
 op1 16 (.call n_impl_costsBy 8192) [.t 13, .t 14, .t 15],
 op1 12 .mv [.t 16],
 op1 17 (.ext 0) [.t 12],
 op1 18 (.ext 1) [.t 12],
 op1 7 .mv [.t 17],
 op1 8 .mv [.t 18]] [1, 2, 12, 13, 14, 15, 16, 17, 18])
 (.seq
 (.seq
 (.region false [op1 19 .mv [.t 8],
 op1 20 (.un .not) [.t 19]] [8, 19])
 (.cond (.t 20) [20]
 (.seq
 (.region false [op1 6 .mv [.c (.i (-1))]] [0, 7])
 .ret)
 .skip))
 (.seq
 (.region false [op1 9 .mv [.c (.i 0)]] [])
 (.seq
 (.seq
 (.region false [op1 21 .mv [.t 7],
 op1 22 .len [.t 21],
 op1 23 .mv [.c (.i 0)]] [7])
 (.block 0
 F_impl_AverageBy_W0))
 (.seq
 (.region false [op1 36 .mv [.t 9],
 op1 6 .mv [.t 36]] [0, 9, 21, 22, 23, 36])
 .ret)))))) }
/-- impl.GroupAverage -/
def F_impl_GroupAverage_L0 : LC :=
 (.seq
 (.region false [op1 25 (.bin .lss) [.t 24, .t 23]] [])
 (.seq
 (.cond (.t 25) [25]
 .skip
 (.exit 0))
 (.seq
 (.block 1
 (.seq
 (.region false [op1 26 (.idxa 4) [.t 22, .t 24],
 op1 27 (.load 4 true) [.t 26],
 op1 10 (.alloc 5152 (.st [.i 0, .i 0, .sl 1 [], .i 0])) [],
 ⟨none, .store 4, [.t 10, .t 27], none⟩] [26, 27])
 (.seq
 (.region false [op1 28 .mv [.t 8],
 op1 29 (.fld 3 1 false) [.t 10],
 op1 30 (.load 1 false) [.t 29],
 op1 31 (.bin .quo) [.t 28, .t 30],
 op1 8 .mv [.t 31]] [28, 29, 30, 31])
 (.seq
 (.region false [op1 32 .mv [.t 7],
 op1 33 (.fld 0 2 true) [.t 10],
 op1 34 (.fld 0 1 false) [.t 33],
 op1 35 (.load 1 false) [.t 34],
 op1 36 .mv [.t 8],
 op1 37 (.bin .mul) [.t 35, .t 36],
 op1 38 (.bin .add) [.t 32, .t 37],
 op1 7 .mv [.t 38]] [32, 33, 34, 35, 36, 37, 38])
 (.region false [op1 39 .mv [.t 8],
 op1 40 (.fld 3 1 false) [.t 10],
 op1 41 (.load 1 false) [.t 40],
 op1 42 (.fld 0 2 true) [.t 10],
 op1 43 (.fld 1 1 false) [.t 42],
 op1 44 (.load 1 false) [.t 43],
 op1 45 (.bin .sub) [.t 41, .t 44],
 op1 46 (.bin .mul) [.t 39, .t 45],
 op1 8 .mv [.t 46]] [10, 39, 40, 41, 42, 43, 44, 45, 46])))))
 (.region false [op1 47 (.bin .add) [.t 24, .c (.i 1)],
 op1 24 .mv [.t 47]] [47]))))
def F_impl_GroupAverage_W0 : LC := .loop F_impl_GroupAverage_L0
def F_impl_GroupAverage : LF :=
 { nparams := 2, results := [.t 4], body :=
 (.seq
 (.region false [op1 4 .mv [.c (.i 0)]] [4])
 (.seq
 (.region false [op1 12 .mv [.t 0],
 op1 13 .mv [.t 1],
 op1 14 (.call n_impl_groupsByRatios 7168) [.t 12, .t 13],
 op1 11 .mv [.t 14],
 op1 15 (.ext 0) [.t 11],
 op1 16 (.ext 1) [.t 11],
 op1 5 .mv [.t 15],
 op1 6 .mv [.t 16]] [1, 11, 12, 13, 14, 15, 16])
 (.seq
 (.seq
 (.region false [op1 17 .mv [.t 6],
 op1 18 (.un .not) [.t 17]] [6, 17])
 (.cond (.t 18) [18]
 (.seq
 (.region false [op1 4 .mv [.c (.i (-1))]] [0, 5])
 .ret)
 .skip))
 (.seq
 (.region false [op1 19 .mv [.t 0],
 op1 20 .len [.t 19],
 op1 21 (.call n_impl_wholeOf 10752) [.t 20],
 op1 7 .mv [.c (.i 0)],
 op1 8 .mv [.t 21]] [0, 19, 20, 21])
 (.seq
 (.seq
 (.region false [op1 22 .mv [.t 5],
 op1 23 .len [.t 22],
 op1 24 .mv [.c (.i 0)]] [5])
 (.block 0
 F_impl_GroupAverage_W0))
 (.seq
 (.region false [op1 48 .mv [.t 7],
 op1 4 .mv [.t 48]] [7, 8, 22, 23, 24, 48])
 .ret)))))) }
/-- spec.l20Open -/
def F_spec_l20Open : LF :=
 { nparams := 1, results := [.t 2], body :=
 (.seq
 (.region false [op1 2 .mv [.c (.np)]] [2])
 (.seq
 (.seq
 (.region false [op1 3 .mv [.t 0],
 op1 4 .len [.t 3],
 op1 5 (.bin .gtr) [.t 4, .c (.i 2000)]] [3, 4])
 (.cond (.t 5) [5]
 (.region false [op1 6 .mv [.t 0],
 op1 7 (.slice false true 1) [.t 6, .c (.i 2000)],
 op1 0 .mv [.t 7]] [6, 7])
 .skip))
 (.seq
 (.region false [op1 8 .mv [.t 0],
 op1 9 (.build [.sl 1 [], .i 0] [(0, 1)]) [.t 8],
 op1 10 (.box 5136) [.t 9],
 op1 2 .mv [.t 10]] [0, 8, 9, 10])
 .ret))) }
/-- spec.l20Tests -/
def F_spec_l20Tests_L0 : LC :=
 (.seq
 (.seq
 (.region false [op1 11 .mv [.t 6],
 op1 12 (.bin .gtr) [.t 11, .c (.i 0)]] [11])
 (.cond (.t 12) [12]
 .skip
 (.exit 0)))
 (.seq
 (.block 1
 (.region false [op1 15 .mv [.t 5],
 op1 16 .mv [.t 0],
 op1 17 (.call n_spec_l20Rd_pick 8704) [.t 16, .c (.i 9)],
 op1 18 (.bin .add) [.c (.i 1), .t 17],
 op1 19 .mv [.t 0],
 op1 20 (.call n_spec_l20Rd_pick 10240) [.t 19, .c (.i 5)],
 op1 21 (.bin .add) [.c (.i 1), .t 20],
 op1 22 (.build [.i 0, .i 0] [(0, 1), (1, 1)]) [.t 18, .t 21],
 op1 23 (.bslice 11792 1 2 (.st [.i 0, .i 0]) [0]) [.t 22],
 op1 24 (.app 12304 2) [.t 15, .t 23],
 op1 5 .mv [.t 24]] [15, 16, 17, 18, 19, 20, 21, 22, 23, 24]))
 (.region false [op1 13 .mv [.t 6],
 op1 14 (.bin .sub) [.t 13, .c (.i 1)],
 op1 6 .mv [.t 14]] [13, 14])))
def F_spec_l20Tests_W0 : LC := .loop F_spec_l20Tests_L0
def F_spec_l20Tests : LF :=
 { nparams := 2, results := [.t 4], body :=
 (.seq
 (.region false [op1 4 (.newnil 2064) []] [4])
 (.seq
 (.region false [op1 7 (.bslice 3600 0 2 (.st [.i 0, .i 0]) []) [],
 op1 5 .mv [.t 7]] [7])
 (.seq
 (.seq
 (.region false [op1 8 .mv [.t 0],
 op1 9 (.call n_spec_l20Rd_pick 4608) [.t 8, .c (.i 5)],
 op1 10 (.bin .add) [.c (.i 1), .t 9],
 op1 6 .mv [.t 10]] [8, 9, 10])
 (.block 0
 F_spec_l20Tests_W0))
 (.seq
 (.seq
 (.region false [op1 25 .mv [.t 0],
 op1 26 .mv [.t 1],
 op1 27 (.call n_spec_l20Rd_odd 13824) [.t 25, .t 26]] [1, 6, 25, 26])
 (.cond (.t 27) [27]
 (.seq
 (.region false [op1 28 .mv [.t 0],
 op1 29 (.call n_spec_l20Rd_pick 14848) [.t 28, .c (.i 3)]] [28])
 (.block 2
 (.seq
 (.region false [op1 39 (.bin .eql) [.t 29, .c (.i 0)],
 op1 38 .mv [.t 39]] [39])
 (.cond (.t 38) [38]
 (.seq
 (.region false [op1 40 (.bslice 20496 0 2 (.st [.i 0, .i 0]) []) [],
 op1 4 .mv [.t 40]] [5, 29, 40])
 .ret)
 (.seq
 (.region false [op1 42 (.bin .eql) [.t 29, .c (.i 1)],
 op1 41 .mv [.t 42]] [29, 42])
 (.cond (.t 41) [41]
 (.region false [op1 43 .mv [.t 5],
 op1 44 (.bslice 22536 2 1 (.i 0) [0, 1]) [.c (.i 0), .c (.i 10)],
 op1 45 .mv [.t 0],
 op1 46 (.call n_spec_l20Rd_pick 23552) [.t 45, .c (.i 2)],
 op1 47 (.idxa 1) [.t 44, .t 46],
 op1 48 (.load 1 false) [.t 47],
 op1 49 (.idxa 2) [.t 43, .c (.i 0)],
 op1 50 (.fld 0 1 false) [.t 49],
 ⟨none, .store 1, [.t 50, .t 48], none⟩] [43, 44, 45, 46, 47, 48, 49, 50])
 (.region false [op1 30 .mv [.t 5],
 op1 31 (.bslice 15880 2 1 (.i 0) [0, 1]) [.c (.i 0), .c (.i 6)],
 op1 32 .mv [.t 0],
 op1 33 (.call n_spec_l20Rd_pick 16896) [.t 32, .c (.i 2)],
 op1 34 (.idxa 1) [.t 31, .t 33],
 op1 35 (.load 1 false) [.t 34],
 op1 36 (.idxa 2) [.t 30, .c (.i 0)],
 op1 37 (.fld 1 1 false) [.t 36],
 ⟨none, .store 1, [.t 37, .t 35], none⟩] [30, 31, 32, 33, 34, 35, 36, 37])))))))
 .skip))
 (.seq
 (.region false [op1 51 .mv [.t 5],
 op1 4 .mv [.t 51]] [5, 51])
 .ret))))) }
/-- spec.l20Rd).pick -/
def F_spec_l20Rd_pick : LF :=
 { nparams := 2, results := [.t 4], body :=
 (.seq
 (.region false [op1 4 .mv [.c (.i 0)]] [4])
 (.seq
 (.region false [op1 7 .mv [.t 0],
 op1 8 .mv [.t 0],
 op1 9 .chk [.t 8],
 op1 10 (.fld 1 1 false) [.t 9],
 op1 11 (.load 1 false) [.t 10],
 op1 12 (.bin .add) [.t 11, .c (.i 1)],
 op1 13 .chk [.t 7],
 op1 14 (.fld 1 1 false) [.t 13],
 ⟨none, .store 1, [.t 14, .t 12], none⟩] [7, 8, 9, 10, 11, 12, 13, 14])
 (.seq
 (.seq
 (.region false [op1 15 .mv [.t 1],
 op1 16 (.bin .lss) [.t 15, .c (.i 1)],
 op1 17 .mv [.t 16],
 op2 18 .mv [.t 0] 17 false,
 op2 19 .chk [.t 18] 17 false,
 op2 20 (.fld 0 1 false) [.t 19] 17 false,
 op2 21 (.load 1 false) [.t 20] 17 false,
 op2 22 .len [.t 21] 17 false,
 op2 23 (.bin .eql) [.t 22, .c (.i 0)] 17 false,
 op1 24 .pick [.t 17, .c (.b true), .t 23]] [15, 16, 17, 18, 19, 20, 21, 22, 23])
 (.cond (.t 24) [24]
 (.seq
 (.region false [op1 4 .mv [.c (.i 0)]] [1])
 .ret)
 .skip))
 (.seq
 (.region false [op1 25 .mv [.t 0],
 op1 26 .chk [.t 25],
 op1 27 (.fld 1 1 false) [.t 26],
 op1 28 (.load 1 false) [.t 27],
 op1 29 (.bin .sub) [.t 28, .c (.i 1)],
 op1 5 .mv [.t 29]] [25, 26, 27, 28, 29])
 (.seq
 (.seq
 (.region false [op1 30 .mv [.t 5],
 op1 31 .mv [.t 0],
 op1 32 .chk [.t 31],
 op1 33 (.fld 0 1 false) [.t 32],
 op1 34 (.load 1 false) [.t 33],
 op1 35 .len [.t 34],
 op1 36 (.bin .lss) [.t 30, .t 35]] [30, 31, 32, 33, 34, 35])
 (.cond (.t 36) [36]
 (.seq
 (.region false [op1 37 .mv [.t 0],
 op1 38 .chk [.t 37],
 op1 39 (.fld 0 1 false) [.t 38],
 op1 40 (.load 1 false) [.t 39],
 op1 41 .mv [.t 5],
 op1 42 (.idxa 1) [.t 40, .t 41],
 op1 43 (.load 1 false) [.t 42],
 op1 44 (.conv .b2i 22528) [.t 43],
 op1 45 .mv [.t 1],
 op1 46 (.bin .rem) [.t 44, .t 45],
 op1 4 .mv [.t 46]] [1, 5, 37, 38, 39, 40, 41, 42, 43, 44, 45, 46])
 .ret)
 .skip))
 (.seq
 (.region true [op1 47 .mv [.t 0],
 op1 48 .chk [.t 47],
 op1 49 (.fld 0 1 false) [.t 48],
 op1 50 (.load 1 false) [.t 49],
 op1 51 .mv [.t 5],
 op1 52 .mv [.t 0],
 op1 53 .chk [.t 52],
 op1 54 (.fld 0 1 false) [.t 53],
 op1 55 (.load 1 false) [.t 54],
 op1 56 .len [.t 55],
 op1 57 (.bin .rem) [.t 51, .t 56],
 op1 58 (.idxa 1) [.t 50, .t 57],
 op1 59 (.load 1 false) [.t 58],
 op1 60 (.conv .b2i 30720) [.t 59],
 op1 61 (.bin .mul) [.t 60, .c (.i 131)],
 op1 62 .mv [.t 0],
 op1 63 .chk [.t 62],
 op1 64 (.fld 0 1 false) [.t 63],
 op1 65 (.load 1 false) [.t 64],
 op1 66 .mv [.t 5],
 op1 67 (.bin .mul) [.t 66, .c (.i 7)],
 op1 68 (.bin .add) [.t 67, .c (.i 3)],
 op1 69 .mv [.t 0],
 op1 70 .chk [.t 69],
 op1 71 (.fld 0 1 false) [.t 70],
 op1 72 (.load 1 false) [.t 71],
 op1 73 .len [.t 72],
 op1 74 (.bin .rem) [.t 68, .t 73],
 op1 75 (.idxa 1) [.t 65, .t 74],
 op1 76 (.load 1 false) [.t 75],
 op1 77 (.conv .b2i 39424) [.t 76],
 op1 78 (.bin .mul) [.t 77, .c (.i 1117)],
 op1 79 (.bin .add) [.t 61, .t 78],
 op1 80 .mv [.t 5],
 op1 81 (.bin .mul) [.t 80, .c (.i 29)],
 op1 82 (.bin .add) [.t 79, .t 81],
 op1 83 .mv [.t 5],
 op1 84 .mv [.t 0],
 op1 85 .chk [.t 84],
 op1 86 (.fld 0 1 false) [.t 85],
 op1 87 (.load 1 false) [.t 86],
 op1 88 .len [.t 87],
 op1 89 (.bin .quo) [.t 83, .t 88],
 op1 90 (.bin .mul) [.t 89, .c (.i 53)],
 op1 91 (.bin .add) [.t 82, .t 90],
 op1 6 .mv [.t 91]] [5, 47, 48, 49, 50, 51, 52, 53, 54, 55, 56, 57, 58, 59, 60, 61, 62, 63, 64, 65, 66, 67, 68, 69, 70, 71, 72, 73, 74, 75, 76, 77, 78, 79, 80, 81, 82, 83, 84, 85, 86, 87, 88, 89, 90, 91])
 (.seq
 (.region false [op1 92 .mv [.t 6],
 op1 93 .mv [.t 6],
 op1 94 (.bin .quo) [.t 93, .c (.i 64)],
 op1 95 (.bin .xor) [.t 92, .t 94],
 op1 6 .mv [.t 95]] [92, 93, 94, 95])
 (.seq
 (.region false [op1 96 .mv [.t 6],
 op1 97 .mv [.t 1],
 op1 98 (.bin .rem) [.t 96, .t 97],
 op1 4 .mv [.t 98]] [1, 6, 96, 97, 98])
 .ret)))))))) }
/-- impl.TestsOk -/
def F_impl_TestsOk_L0 : LC :=
 (.seq
 (.region false [op1 12 (.bin .lss) [.t 11, .t 10]] [])
 (.seq
 (.cond (.t 12) [12]
 .skip
 (.exit 0))
 (.seq
 (.block 1
 (.seq
 (.region false [op1 13 (.idxa 2) [.t 9, .t 11],
 op1 14 (.load 2 true) [.t 13],
 op1 4 (.alloc 2064 (.st [.i 0, .i 0])) [],
 ⟨none, .store 2, [.t 4, .t 14], none⟩] [13, 14])
 (.seq
 (.region false [op1 15 (.fld 0 1 false) [.t 4],
 op1 16 (.load 1 false) [.t 15],
 op1 17 (.call n_impl_isWithin 8704) [.t 16, .c (.i 1), .c (.i 9)],
 op1 18 (.un .not) [.t 17],
 op1 19 .mv [.t 18],
 op2 20 (.fld 1 1 false) [.t 4] 19 false,
 op2 21 (.load 1 false) [.t 20] 19 false,
 op2 22 (.call n_impl_isWithin 11264) [.t 21, .c (.i 1), .c (.i 5)] 19 false,
 op2 23 (.un .not) [.t 22] 19 false,
 op1 24 .pick [.t 19, .c (.b true), .t 23]] [4, 15, 16, 17, 18, 19, 20, 21, 22, 23])
 (.cond (.t 24) [24]
 (.seq
 (.region false [op1 2 .mv [.c (.b false)]] [9, 10, 11])
 .ret)
 .skip))))
 (.region false [op1 25 (.bin .add) [.t 11, .c (.i 1)],
 op1 11 .mv [.t 25]] [25]))))
def F_impl_TestsOk_W0 : LC := .loop F_impl_TestsOk_L0
def F_impl_TestsOk : LF :=
 { nparams := 1, results := [.t 2], body :=
 (.seq
 (.region false [op1 2 .mv [.c (.b false)]] [2])
 (.seq
 (.seq
 (.region false [op1 5 .mv [.t 0],
 op1 6 .len [.t 5],
 op1 7 (.call n_impl_manyOk 3584) [.t 6],
 op1 8 (.un .not) [.t 7]] [5, 6, 7])
 (.cond (.t 8) [8]
 (.seq
 (.region false [op1 2 .mv [.c (.b false)]] [0])
 .ret)
 .skip))
 (.seq
 (.seq
 (.region false [op1 9 .mv [.t 0],
 op1 10 .len [.t 9],
 op1 11 .mv [.c (.i 0)]] [0])
 (.block 0
 F_impl_TestsOk_W0))
 (.seq
 (.region false [op1 2 .mv [.c (.b true)]] [9, 10, 11])
 .ret)))) }
/-- impl.StateOk -/
def F_impl_StateOk : LF :=
 { nparams := 2, results := [.t 4], body :=
 (.seq
 (.region false [op1 4 .mv [.c (.b false)]] [4])
 (.seq
 (.region false [op1 5 .mv [.t 0],
 op1 6 (.call n_impl_manyOk 3072) [.t 5],
 op1 7 .mv [.t 6],
 op2 8 .mv [.t 1] 7 true,
 op2 9 .mv [.t 0] 7 true,
 op2 10 (.call n_impl_statesOf 5120) [.t 9] 7 true,
 op2 11 (.bin .sub) [.t 10, .c (.i 1)] 7 true,
 op2 12 (.call n_impl_isWithin 6144) [.t 8, .c (.i 0), .t 11] 7 true,
 op1 13 .pick [.t 7, .t 12, .c (.b false)],
 op1 4 .mv [.t 13]] [0, 1, 5, 6, 7, 8, 9, 10, 11, 12, 13])
 .ret)) }
/-- impl.isWithin -/
def F_impl_isWithin : LF :=
 { nparams := 3, results := [.t 6], body :=
 (.seq
 (.region false [op1 6 .mv [.c (.b false)]] [6])
 (.seq
 (.region false [op1 7 .mv [.t 1],
 op1 8 .mv [.t 0],
 op1 9 (.bin .leq) [.t 7, .t 8],
 op1 10 .mv [.t 9],
 op2 11 .mv [.t 0] 10 true,
 op2 12 .mv [.t 2] 10 true,
 op2 13 (.bin .leq) [.t 11, .t 12] 10 true,
 op1 14 .pick [.t 10, .t 13, .c (.b false)],
 op1 6 .mv [.t 14]] [0, 1, 2, 7, 8, 9, 10, 11, 12, 13, 14])
 .ret)) }
/-- spec.l1In -/
def F_spec_l1In : LF :=
 { nparams := 3, results := [.t 6], body :=
 (.seq
 (.region false [op1 6 .mv [.c (.b false)]] [6])
 (.seq
 (.region false [op1 7 .mv [.t 0],
 op1 8 .mv [.t 1],
 op1 9 (.bin .geq) [.t 7, .t 8],
 op1 10 .mv [.t 9],
 op2 11 .mv [.t 0] 10 true,
 op2 12 .mv [.t 2] 10 true,
 op2 13 (.bin .leq) [.t 11, .t 12] 10 true,
 op1 14 .pick [.t 10, .t 13, .c (.b false)],
 op1 6 .mv [.t 14]] [0, 1, 2, 7, 8, 9, 10, 11, 12, 13, 14])
 .ret)) }
/-- spec.l1Power -/
def F_spec_l1Power_L0 : LC :=
 (.seq
 (.seq
 (.region false [op1 5 .mv [.t 4],
 op1 6 .mv [.t 0],
 op1 7 (.bin .lss) [.t 5, .t 6]] [5, 6])
 (.cond (.t 7) [7]
 .skip
 (.exit 0)))
 (.seq
 (.block 1
 (.region false [op1 10 .mv [.t 3],
 op1 11 (.bin .mul) [.t 10, .c (.i 6)],
 op1 3 .mv [.t 11]] [10, 11]))
 (.region false [op1 8 .mv [.t 4],
 op1 9 (.bin .add) [.t 8, .c (.i 1)],
 op1 4 .mv [.t 9]] [8, 9])))
def F_spec_l1Power_W0 : LC := .loop F_spec_l1Power_L0
def F_spec_l1Power : LF :=
 { nparams := 1, results := [.t 2], body :=
 (.seq
 (.region false [op1 2 .mv [.c (.i 0)]] [2])
 (.seq
 (.region false [op1 3 .mv [.c (.i 1)]] [])
 (.seq
 (.seq
 (.region false [op1 4 .mv [.c (.i 0)]] [])
 (.block 0
 F_spec_l1Power_W0))
 (.seq
 (.region false [op1 12 .mv [.t 3],
 op1 2 .mv [.t 12]] [0, 3, 4, 12])
 .ret)))) }
/-- impl.OrderOk -/
def F_impl_OrderOk_L0 : LC :=
 (.seq
 (.region false [op1 20 (.bin .lss) [.t 19, .t 18]] [])
 (.seq
 (.cond (.t 20) [20]
 .skip
 (.exit 0))
 (.seq
 (.block 1
 (.seq
 (.region false [op1 21 (.idxa 1) [.t 17, .t 19],
 op1 22 (.load 1 false) [.t 21],
 op1 7 .mv [.t 22]] [21, 22])
 (.seq
 (.seq
 (.region false [op1 23 .mv [.t 7],
 op1 24 .mv [.t 0],
 op1 25 (.bin .sub) [.t 24, .c (.i 1)],
 op1 26 (.call n_impl_isWithin 13312) [.t 23, .c (.i 0), .t 25],
 op1 27 (.un .not) [.t 26],
 op1 28 .mv [.t 27],
 op2 29 .mv [.t 5] 28 false,
 op2 30 .mv [.t 7] 28 false,
 op2 31 (.call n_impl_hasTest 15872) [.t 29, .t 30] 28 false,
 op1 32 .pick [.t 28, .c (.b true), .t 31]] [23, 24, 25, 26, 27, 28, 29, 30, 31])
 (.cond (.t 32) [32]
 (.seq
 (.region false [op1 4 .mv [.c (.b false)]] [0, 5, 7, 17, 18, 19])
 .ret)
 .skip))
 (.region false [op1 33 .mv [.t 5],
 op1 34 .mv [.t 7],
 op1 35 (.bin .shl) [.c (.i 1), .t 34],
 op1 36 (.bin .or) [.t 33, .t 35],
 op1 5 .mv [.t 36]] [7, 33, 34, 35, 36]))))
 (.region false [op1 37 (.bin .add) [.t 19, .c (.i 1)],
 op1 19 .mv [.t 37]] [37]))))
def F_impl_OrderOk_W0 : LC := .loop F_impl_OrderOk_L0
def F_impl_OrderOk : LF :=
 { nparams := 2, results := [.t 4], body :=
 (.seq
 (.region false [op1 4 .mv [.c (.b false)]] [4])
 (.seq
 (.seq
 (.region false [op1 8 .mv [.t 0],
 op1 9 (.call n_impl_manyOk 4608) [.t 8],
 op1 10 (.un .not) [.t 9],
 op1 11 .mv [.t 10],
 op2 12 .mv [.t 1] 11 false,
 op2 13 .len [.t 12] 11 false,
 op2 14 .mv [.t 0] 11 false,
 op2 15 (.bin .neq) [.t 13, .t 14] 11 false,
 op1 16 .pick [.t 11, .c (.b true), .t 15]] [8, 9, 10, 11, 12, 13, 14, 15])
 (.cond (.t 16) [16]
 (.seq
 (.region false [op1 4 .mv [.c (.b false)]] [0, 1])
 .ret)
 .skip))
 (.seq
 (.region false [op1 5 .mv [.c (.i 0)]] [])
 (.seq
 (.seq
 (.region false [op1 17 .mv [.t 1],
 op1 18 .len [.t 17],
 op1 19 .mv [.c (.i 0)]] [1])
 (.block 0
 F_impl_OrderOk_W0))
 (.seq
 (.region false [op1 4 .mv [.c (.b true)]] [0, 5, 17, 18, 19])
 .ret))))) }
/-- impl.rowOk -/
def F_impl_rowOk : LF :=
 { nparams := 1, results := [.t 2], body :=
 (.seq
 (.region false [op1 2 .mv [.c (.b false)]] [2])
 (.seq
 (.region false [op1 3 .mv [.t 0],
 op1 4 (.bin .eql) [.t 3, .c (.i 0)],
 op1 5 .mv [.t 4],
 op2 6 .mv [.t 0] 5 false,
 op2 7 (.bin .eql) [.t 6, .c (.i 1)] 5 false,
 op1 8 .pick [.t 5, .c (.b true), .t 7],
 op1 2 .mv [.t 8]] [0, 3, 4, 5, 6, 7, 8])
 .ret)) }
/-- impl.wholeOf -/
def F_impl_wholeOf_L0 : LC :=
 (.seq
 (.region false [op1 6 (.bin .lss) [.t 5, .t 4]] [])
 (.seq
 (.cond (.t 6) [6]
 .skip
 (.exit 0))
 (.seq
 (.block 1
 (.region false [op1 7 .mv [.t 3],
 op1 8 (.bin .mul) [.t 7, .c (.i 6)],
 op1 3 .mv [.t 8]] [7, 8]))
 (.region false [op1 9 (.bin .add) [.t 5, .c (.i 1)],
 op1 5 .mv [.t 9]] [9]))))
def F_impl_wholeOf_W0 : LC := .loop F_impl_wholeOf_L0
def F_impl_wholeOf : LF :=
 { nparams := 1, results := [.t 2], body :=
 (.seq
 (.region false [op1 2 .mv [.c (.i 0)]] [2])
 (.seq
 (.region false [op1 3 .mv [.c (.i 1)]] [])
 (.seq
 (.seq
 (.region false [op1 4 .mv [.t 0],
 op1 5 .mv [.c (.i 0)]] [0])
 (.block 0
 F_impl_wholeOf_W0))
 (.seq
 (.region false [op1 10 .mv [.t 3],
 op1 2 .mv [.t 10]] [3, 4, 5, 10])
 .ret)))) }
/-- impl.endChance -/
def F_impl_endChance : LF :=
 { nparams := 2, results := [.t 4], body :=
 (.seq
 (.region false [op1 2 (.box 1040) [.t 0],
 op1 4 .mv [.c (.i 0)]] [0, 4])
 (.seq
 (.seq
 (.region false [op1 5 .mv [.t 1],
 op1 6 (.bin .eql) [.t 5, .c (.i 0)]] [1, 5])
 (.cond (.t 6) [6]
 (.seq
 (.region false [op1 7 (.fld 1 1 false) [.t 2],
 op1 8 (.load 1 false) [.t 7],
 op1 9 (.bin .sub) [.c (.i 6), .t 8],
 op1 4 .mv [.t 9]] [2, 7, 8, 9])
 .ret)
 .skip))
 (.seq
 (.region false [op1 10 (.fld 1 1 false) [.t 2],
 op1 11 (.load 1 false) [.t 10],
 op1 4 .mv [.t 11]] [2, 10, 11])
 .ret))) }
/-- impl.RatioOrder$1 -/
def F_impl_RatioOrder_1 : LF :=
 { nparams := 4, results := [.t 6], body :=
 (.seq
 (.region false [op1 6 .mv [.c (.b false)]] [6])
 (.seq
 (.region true [op1 7 (.load 1 false) [.t 2],
 op1 8 .mv [.t 0],
 op1 9 (.idxa 2) [.t 7, .t 8],
 op1 10 (.load 2 true) [.t 9],
 op1 11 (.load 1 false) [.t 3],
 op1 12 (.call n_impl_ratioOf 6144) [.t 10, .t 11],
 op1 13 (.load 1 false) [.t 2],
 op1 14 .mv [.t 1],
 op1 15 (.idxa 2) [.t 13, .t 14],
 op1 16 (.load 2 true) [.t 15],
 op1 17 (.load 1 false) [.t 3],
 op1 18 (.call n_impl_ratioOf 9216) [.t 16, .t 17],
 op1 19 (.call n_impl_ratio_isLess 9728) [.t 12, .t 18],
 op1 6 .mv [.t 19]] [0, 1, 2, 3, 7, 8, 9, 10, 11, 12, 13, 14, 15, 16, 17, 18, 19])
 .ret)) }
/-- impl.ratioOf -/
def F_impl_ratioOf : LF :=
 { nparams := 2, results := [.c 4 2 true], body :=
 (.seq
 (.region false [op1 2 (.box 1040) [.t 0],
 op1 4 (.alloc 2064 (.st [.i 0, .i 0])) []] [0])
 (.seq
 (.region true [op1 5 (.fld 0 1 false) [.t 2],
 op1 6 (.load 1 false) [.t 5],
 op1 7 (.load 2 true) [.t 2],
 op1 8 .mv [.t 1],
 op1 9 (.call n_impl_endChance 4608) [.t 7, .t 8],
 op1 10 (.build [.i 0, .i 0] [(0, 1), (1, 1)]) [.t 6, .t 9],
 ⟨none, .store 2, [.t 4, .t 10], none⟩] [1, 2, 5, 6, 7, 8, 9, 10])
 .ret)) }
/-- impl.ratio).isLess -/
def F_impl_ratio_isLess : LF :=
 { nparams := 2, results := [.t 4], body :=
 (.seq
 (.region false [op1 2 (.box 1040) [.t 0],
 op1 3 (.box 1552) [.t 1],
 op1 4 .mv [.c (.b false)]] [0, 1, 4])
 (.seq
 (.region false [op1 5 (.fld 0 1 false) [.t 2],
 op1 6 (.load 1 false) [.t 5],
 op1 7 (.fld 1 1 false) [.t 3],
 op1 8 (.load 1 false) [.t 7],
 op1 9 (.bin .mul) [.t 6, .t 8],
 op1 10 (.fld 0 1 false) [.t 3],
 op1 11 (.load 1 false) [.t 10],
 op1 12 (.fld 1 1 false) [.t 2],
 op1 13 (.load 1 false) [.t 12],
 op1 14 (.bin .mul) [.t 11, .t 13],
 op1 15 (.bin .lss) [.t 9, .t 14],
 op1 4 .mv [.t 15]] [2, 3, 5, 6, 7, 8, 9, 10, 11, 12, 13, 14, 15])
 .ret)) }
/-- impl.inserted[int] -/
def F_impl_inserted_int_L0 : LC :=
 (.seq
 (.seq
 (.region false [op1 10 .mv [.t 7],
 op1 11 (.bin .gtr) [.t 10, .c (.i 0)],
 op1 12 .mv [.t 11],
 op2 13 .mv [.t 2] 12 true,
 op2 14 .mv [.t 1] 12 true,
 op2 15 .mv [.t 0] 12 true,
 op2 16 .mv [.t 7] 12 true,
 op2 17 (.bin .sub) [.t 16, .c (.i 1)] 12 true,
 op2 18 (.idxa 1) [.t 15, .t 17] 12 true,
 op2 19 (.load 1 false) [.t 18] 12 true,
 op2 20 (.calld 10240) [.t 13, .t 14, .t 19] 12 true,
 op1 21 .pick [.t 12, .t 20, .c (.b false)]] [10, 11, 12, 13, 14, 15, 16, 17, 18, 19, 20])
 (.cond (.t 21) [21]
 .skip
 (.exit 0)))
 (.block 1
 (.region false [op1 22 .mv [.t 7],
 op1 23 (.bin .sub) [.t 22, .c (.i 1)],
 op1 7 .mv [.t 23]] [22, 23])))
def F_impl_inserted_int_W0 : LC := .loop F_impl_inserted_int_L0
def F_impl_inserted_int : LF :=
 { nparams := 3, results := [.t 6], body :=
 (.seq
 (.region false [op1 6 (.newnil 3080) []] [6])
 (.seq
 (.region false [op1 8 .mv [.t 0],
 op1 9 .len [.t 8],
 op1 7 .mv [.t 9]] [8, 9])
 (.seq
 (.block 0
 F_impl_inserted_int_W0)
 (.seq
 (.region false [op1 24 .mv [.t 0],
 op1 25 .mv [.t 7],
 op1 26 .mv [.t 1],
 op1 27 (.bslice 13832 1 1 (.i 0) [0]) [.t 26],
 op1 28 (.callm n_slices_Insert_int_int [0, 2] 14342) [.t 24, .t 25, .t 27],
 op1 6 .mv [.t 28]] [0, 1, 2, 7, 24, 25, 26, 27, 28])
 .ret)))) }
/-- impl.TermOk -/
def F_impl_TermOk_L0 : LC :=
 (.seq
 (.region false [op1 21 (.bin .lss) [.t 20, .t 19]] [])
 (.seq
 (.cond (.t 21) [21]
 .skip
 (.exit 0))
 (.seq
 (.block 1
 (.seq
 (.region false [op1 22 (.idxa 2) [.t 18, .t 20],
 op1 23 (.load 2 true) [.t 22],
 op1 7 (.alloc 3600 (.st [.i 0, .i 0])) [],
 ⟨none, .store 2, [.t 7, .t 23], none⟩] [22, 23])
 (.seq
 (.region false [op1 24 (.fld 0 1 false) [.t 7],
 op1 25 (.load 1 false) [.t 24],
 op1 26 (.call n_impl_partsTaken 13312) [.t 25],
 op1 8 .mv [.t 26]] [24, 25, 26])
 (.seq
 (.seq
 (.region false [op1 27 .mv [.t 0],
 op1 28 (.load 2 true) [.t 7],
 op1 29 (.call n_impl_markOk 14848) [.t 27, .t 28],
 op1 30 (.un .not) [.t 29],
 op1 31 .mv [.t 30],
 op2 32 .mv [.t 5] 31 false,
 op2 33 .mv [.t 8] 31 false,
 op2 34 (.bin .lss) [.t 32, .t 33] 31 false,
 op1 35 .pick [.t 31, .c (.b true), .t 34]] [7, 27, 28, 29, 30, 31, 32, 33, 34])
 (.cond (.t 35) [35]
 (.seq
 (.region false [op1 4 .mv [.c (.b false)]] [0, 5, 8, 18, 19, 20])
 .ret)
 .skip))
 (.region false [op1 36 .mv [.t 5],
 op1 37 .mv [.t 8],
 op1 38 (.bin .sub) [.c (.i 1), .t 37],
 op1 39 (.bin .add) [.t 36, .t 38],
 op1 5 .mv [.t 39]] [8, 36, 37, 38, 39])))))
 (.region false [op1 40 (.bin .add) [.t 20, .c (.i 1)],
 op1 20 .mv [.t 40]] [40]))))
def F_impl_TermOk_W0 : LC := .loop F_impl_TermOk_L0
def F_impl_TermOk : LF :=
 { nparams := 2, results := [.t 4], body :=
 (.seq
 (.region false [op1 4 .mv [.c (.b false)]] [4])
 (.seq
 (.seq
 (.region false [op1 9 .mv [.t 0],
 op1 10 (.call n_impl_manyOk 5120) [.t 9],
 op1 11 (.un .not) [.t 10],
 op1 12 .mv [.t 11],
 op2 13 .mv [.t 1] 12 false,
 op2 14 .len [.t 13] 12 false,
 op2 15 (.call n_impl_isWithin 7680) [.t 14, .c (.i 1), .c (.i 13)] 12 false,
 op2 16 (.un .not) [.t 15] 12 false,
 op1 17 .pick [.t 12, .c (.b true), .t 16]] [9, 10, 11, 12, 13, 14, 15, 16])
 (.cond (.t 17) [17]
 (.seq
 (.region false [op1 4 .mv [.c (.b false)]] [0, 1])
 .ret)
 .skip))
 (.seq
 (.region false [op1 5 .mv [.c (.i 0)]] [])
 (.seq
 (.seq
 (.region false [op1 18 .mv [.t 1],
 op1 19 .len [.t 18],
 op1 20 .mv [.c (.i 0)]] [1])
 (.block 0
 F_impl_TermOk_W0))
 (.seq
 (.region false [op1 41 .mv [.t 5],
 op1 42 (.bin .eql) [.t 41, .c (.i 1)],
 op1 4 .mv [.t 42]] [0, 5, 18, 19, 20, 41, 42])
 .ret))))) }
/-- impl.startOf -/
def F_impl_startOf : LF :=
 { nparams := 2, results := [.c 4 4 true], body :=
 (.seq
 (.region false [op1 4 (.alloc 2080 (.st [.i 0, .i 0, .w (0#32), .w (0#32)])) []] [])
 (.seq
 (.region false [op1 5 .mv [.t 0],
 op1 6 .mv [.t 1],
 op1 7 (.call n_impl_trueStates 3584) [.t 6],
 op1 8 (.build [.i 0, .i 0, .w (0#32), .w (0#32)] [(0, 1), (2, 1), (3, 1)]) [.t 5, .c (.w (4294967295#32)), .t 7],
 ⟨none, .store 4, [.t 4, .t 8], none⟩] [0, 1, 5, 6, 7, 8])
 .ret)) }
/-- impl.manyOk -/
def F_impl_manyOk : LF :=
 { nparams := 1, results := [.t 2], body :=
 (.seq
 (.region false [op1 2 .mv [.c (.b false)]] [2])
 (.seq
 (.region false [op1 3 .mv [.t 0],
 op1 4 (.call n_impl_isWithin 2048) [.t 3, .c (.i 1), .c (.i 5)],
 op1 2 .mv [.t 4]] [0, 3, 4])
 .ret)) }
/-- impl.trueStates -/
def F_impl_trueStates : LF :=
 { nparams := 1, results := [.t 2], body :=
 (.seq
 (.region false [op1 2 .mv [.c (.w (0#32))]] [2])
 (.seq
 (.region false [op1 3 .mv [.t 0],
 op1 4 (.call n_impl_foldTerm_uint32 2048) [.t 3, .c (.fn n_impl_statesOfPart [])],
 op1 2 .mv [.t 4]] [0, 3, 4])
 .ret)) }
/-- impl.statesOf -/
def F_impl_statesOf : LF :=
 { nparams := 1, results := [.t 2], body :=
 (.seq
 (.region false [op1 2 .mv [.c (.i 0)]] [2])
 (.seq
 (.region false [op1 3 .mv [.t 0],
 op1 4 (.bin .shl) [.c (.i 1), .t 3],
 op1 2 .mv [.t 4]] [0, 3, 4])
 .ret)) }
/-- impl.WeightOf -/
def F_impl_WeightOf_L0 : LC :=
 (.seq
 (.region false [op1 21 (.bin .lss) [.t 20, .t 19]] [])
 (.seq
 (.cond (.t 21) [21]
 .skip
 (.exit 0))
 (.seq
 (.block 1
 (.seq
 (.region false [op1 22 .mv [.t 20],
 op1 23 (.idxa 2) [.t 18, .t 20],
 op1 24 (.load 2 true) [.t 23],
 op1 7 (.alloc 3600 (.st [.i 0, .i 0])) [],
 op1 6 .mv [.t 22],
 ⟨none, .store 2, [.t 7, .t 24], none⟩] [22, 23, 24])
 (.seq
 (.region false [op1 25 .mv [.t 1],
 op1 26 .mv [.t 6],
 op1 27 (.call n_impl_outcomeIn 13824) [.t 25, .t 26],
 op1 28 (.bin .eql) [.t 27, .c (.i 1)]] [6, 25, 26, 27])
 (.cond (.t 28) [28]
 (.region false [op1 29 .mv [.t 5],
 op1 30 (.fld 1 1 false) [.t 7],
 op1 31 (.load 1 false) [.t 30],
 op1 32 (.bin .mul) [.t 29, .t 31],
 op1 5 .mv [.t 32]] [7, 29, 30, 31, 32])
 (.region false [op1 33 .mv [.t 5],
 op1 34 (.fld 1 1 false) [.t 7],
 op1 35 (.load 1 false) [.t 34],
 op1 36 (.bin .sub) [.c (.i 6), .t 35],
 op1 37 (.bin .mul) [.t 33, .t 36],
 op1 5 .mv [.t 37]] [7, 33, 34, 35, 36, 37])))))
 (.region false [op1 38 (.bin .add) [.t 20, .c (.i 1)],
 op1 20 .mv [.t 38]] [38]))))
def F_impl_WeightOf_W0 : LC := .loop F_impl_WeightOf_L0
def F_impl_WeightOf : LF :=
 { nparams := 2, results := [.t 4], body :=
 (.seq
 (.region false [op1 4 .mv [.c (.i 0)]] [4])
 (.seq
 (.seq
 (.region false [op1 8 .mv [.t 0],
 op1 9 (.call n_impl_TestsOk 4608) [.t 8],
 op1 10 (.un .not) [.t 9],
 op1 11 .mv [.t 10],
 op2 12 .mv [.t 0] 11 false,
 op2 13 .len [.t 12] 11 false,
 op2 14 .mv [.t 1] 11 false,
 op2 15 (.call n_impl_StateOk 7680) [.t 13, .t 14] 11 false,
 op2 16 (.un .not) [.t 15] 11 false,
 op1 17 .pick [.t 11, .c (.b true), .t 16]] [8, 9, 10, 11, 12, 13, 14, 15, 16])
 (.cond (.t 17) [17]
 (.seq
 (.region false [op1 4 .mv [.c (.i (-1))]] [0, 1])
 .ret)
 .skip))
 (.seq
 (.region false [op1 5 .mv [.c (.i 1)]] [])
 (.seq
 (.seq
 (.region false [op1 18 .mv [.t 0],
 op1 19 .len [.t 18],
 op1 20 .mv [.c (.i 0)]] [0])
 (.block 0
 F_impl_WeightOf_W0))
 (.seq
 (.region false [op1 39 .mv [.t 5],
 op1 4 .mv [.t 39]] [1, 5, 18, 19, 20, 39])
 .ret))))) }
/-- spec.l20Grouped -/
def F_spec_l20Grouped : LF :=
 { nparams := 1, results := [.t 2, .t 3], body :=
 (.seq
 (.region false [op1 2 (.newnil 1040) [],
 op1 3 (.newnil 1544) []] [2, 3])
 (.seq
 (.region false [op1 5 .mv [.t 0],
 op1 6 (.call n_spec_l20Tests 3072) [.t 5, .c (.i 14)],
 op1 4 .mv [.t 6]] [5, 6])
 (.seq
 (.region false [op1 7 .mv [.t 4],
 op1 8 .mv [.t 0],
 op1 9 .mv [.t 4],
 op1 10 .len [.t 9],
 op1 11 (.call n_spec_l20Groups 5632) [.t 8, .t 10, .c (.i 14)],
 op1 2 .mv [.t 7],
 op1 3 .mv [.t 11]] [4, 7, 8, 9, 10, 11])
 .ret))) }
/-- impl.groupsByRatios -/
def F_impl_groupsByRatios_L0 : LC :=
 (.ghost (.rename 7 3616)
 (.seq
 (.region false [op1 23 (.bin .lss) [.t 22, .t 21]] [])
 (.seq
 (.cond (.t 23) [23]
 .skip
 (.exit 0))
 (.seq
 (.block 1
 (.seq
 (.region false [op1 24 (.idxa 1) [.t 20, .t 22],
 op1 25 (.load 1 false) [.t 24],
 op1 9 .mv [.t 25]] [24, 25])
 (.region false [op1 26 .mv [.t 7],
 op1 27 .mv [.t 0],
 op1 28 .mv [.t 9],
 op1 29 (.call n_impl_groupOf 14848) [.t 27, .t 28],
 op1 30 .mv [.t 6],
 op1 31 (.callm n_impl_inserted_impl_askedGroup [0] 15872) [.t 26, .t 29, .t 30],
 op1 7 .mv [.t 31]] [9, 26, 27, 28, 29, 30, 31])))
 (.region false [op1 32 (.bin .add) [.t 22, .c (.i 1)],
 op1 22 .mv [.t 32]] [32])))))
def F_impl_groupsByRatios_W0 : LC := .loop F_impl_groupsByRatios_L0
def F_impl_groupsByRatios : LF :=
 { nparams := 2, results := [.t 4, .t 5], body :=
 (.seq
 (.region false [op1 4 (.newnil 2080) [],
 op1 5 .mv [.c (.b false)]] [4, 5])
 (.seq
 (.seq
 (.region false [op1 10 .mv [.t 0],
 op1 11 (.call n_impl_TestsOk 5632) [.t 10],
 op1 12 (.un .not) [.t 11],
 op1 13 .mv [.t 12],
 op2 14 .mv [.t 0] 13 false,
 op2 15 .len [.t 14] 13 false,
 op2 16 .mv [.t 1] 13 false,
 op2 17 (.call n_impl_GroupsOk 8704) [.t 15, .t 16] 13 false,
 op2 18 (.un .not) [.t 17] 13 false,
 op1 19 .pick [.t 13, .c (.b true), .t 18]] [10, 11, 12, 13, 14, 15, 16, 17, 18])
 (.cond (.t 19) [19]
 (.seq
 (.region false [op1 4 (.newnil 2080) [],
 op1 5 .mv [.c (.b false)]] [0, 1])
 .ret)
 .skip))
 (.seq
 (.region false [op1 6 .mv [.c (.fn n_impl_groupsByRatios_1 [])]] [])
 (.seq
 (.region false [op1 7 (.newnil 3616) []] [])
 (.seq
 (.seq
 (.region false [op1 20 .mv [.t 1],
 op1 21 .len [.t 20],
 op1 22 .mv [.c (.i 0)]] [1])
 (.block 0
 F_impl_groupsByRatios_W0))
 (.seq
 (.region false [op1 33 .mv [.t 7],
 op1 4 .mv [.t 33],
 op1 5 .mv [.c (.b true)]] [0, 6, 7, 20, 21, 22, 33])
 .ret)))))) }
/-- impl.planFrom -/
def F_impl_planFrom : LF :=
 { nparams := 3, results := [.t 6], body :=
 (.seq
 (.region false [op1 3 (.box 1568) [.t 0],
 op1 6 (.newnil 3096) []] [0, 6])
 (.seq
 (.seq
 (.region false [op1 11 (.load 4 true) [.t 3],
 op1 12 (.call n_impl_point_isForced 6144) [.t 11]] [11])
 (.cond (.t 12) [12]
 (.seq
 (.region false [op1 6 (.newnil 3096) []] [1, 2, 3])
 .ret)
 .skip))
 (.seq
 (.region false [op1 13 .mv [.t 2],
 op1 14 (.load 4 true) [.t 3],
 op1 15 (.calld 7680) [.t 13, .t 14],
 op1 7 .mv [.t 15]] [13, 14, 15])
 (.seq
 (.region false [op1 16 (.load 4 true) [.t 3],
 op1 17 .mv [.t 7],
 op1 18 (.call n_impl_point_answered 9216) [.t 16, .t 17, .c (.i 0)],
 op1 19 .mv [.t 1],
 op1 20 (.bin .add) [.t 19, .c (.i 1)],
 op1 21 .mv [.t 2],
 op1 22 (.call n_impl_planFrom 11264) [.t 18, .t 20, .t 21],
 op1 8 .mv [.t 22]] [16, 17, 18, 19, 20, 21, 22])
 (.seq
 (.region false [op1 23 (.load 4 true) [.t 3],
 op1 24 .mv [.t 7],
 op1 25 (.call n_impl_point_answered 12800) [.t 23, .t 24, .c (.i 1)],
 op1 26 .mv [.t 1],
 op1 27 (.bin .add) [.t 26, .c (.i 1)],
 op1 28 .mv [.t 8],
 op1 29 .len [.t 28],
 op1 30 (.bin .add) [.t 27, .t 29],
 op1 31 .mv [.t 2],
 op1 32 (.call n_impl_planFrom 16384) [.t 25, .t 30, .t 31],
 op1 9 .mv [.t 32]] [2, 3, 23, 24, 25, 26, 27, 28, 29, 30, 31, 32])
 (.seq
 (.region false [op1 33 .mv [.t 7],
 op1 34 (.build [.i 0, .i 0, .i 0] [(0, 1), (1, 1), (2, 1)]) [.t 33, .c (.i (-1)), .c (.i (-1))],
 op1 10 (.alloc 5144 (.st [.i 0, .i 0, .i 0])) [],
 ⟨none, .store 3, [.t 10, .t 34], none⟩] [7, 33, 34])
 (.seq
 (.seq
 (.region false [op1 35 .mv [.t 8],
 op1 36 .len [.t 35],
 op1 37 (.bin .gtr) [.t 36, .c (.i 0)]] [35, 36])
 (.cond (.t 37) [37]
 (.region false [op1 38 .mv [.t 1],
 op1 39 (.bin .add) [.t 38, .c (.i 1)],
 op1 40 (.fld 1 1 false) [.t 10],
 ⟨none, .store 1, [.t 40, .t 39], none⟩] [38, 39, 40])
 .skip))
 (.seq
 (.seq
 (.region false [op1 41 .mv [.t 9],
 op1 42 .len [.t 41],
 op1 43 (.bin .gtr) [.t 42, .c (.i 0)]] [41, 42])
 (.cond (.t 43) [43]
 (.region false [op1 44 .mv [.t 1],
 op1 45 (.bin .add) [.t 44, .c (.i 1)],
 op1 46 .mv [.t 8],
 op1 47 .len [.t 46],
 op1 48 (.bin .add) [.t 45, .t 47],
 op1 49 (.fld 2 1 false) [.t 10],
 ⟨none, .store 1, [.t 49, .t 48], none⟩] [1, 44, 45, 46, 47, 48, 49])
 .skip))
 (.seq
 (.region false [op1 50 (.load 3 true) [.t 10],
 op1 51 (.bslice 26136 1 3 (.st [.i 0, .i 0, .i 0]) [0]) [.t 50],
 op1 52 .mv [.t 8],
 op1 53 .mv [.t 9],
 op1 54 (.bslice 27656 3 1 (.sl 1 []) [0, 1, 2]) [.t 51, .t 52, .t 53],
 op1 55 (.call n_slices_Concat_impl_Choice_impl_Choice 28160) [.t 54],
 op1 6 .mv [.t 55]] [1, 8, 9, 10, 50, 51, 52, 53, 54, 55])
 .ret))))))))) }
/-- impl.GroupPlan$1 -/
def F_impl_GroupPlan_1 : LF :=
 { nparams := 2, results := [.t 3], body :=
 (.seq
 (.region false [op1 2 (.box 1056) [.t 0],
 op1 3 .mv [.c (.i 0)]] [0, 3])
 (.seq
 (.region false [op1 4 (.load 1 false) [.t 1],
 op1 5 (.load 4 true) [.t 2],
 op1 6 (.call n_impl_nextInGroups 3072) [.t 4, .t 5],
 op1 3 .mv [.t 6]] [1, 2, 4, 5, 6])
 .ret)) }
/-- impl.nextInGroups -/
def F_impl_nextInGroups : LF :=
 { nparams := 2, results := [.t 4], body :=
 (.seq
 (.region false [op1 3 (.box 1568) [.t 1],
 op1 4 .mv [.c (.i 0)]] [1, 4])
 (.ghost (.close_ 3)
 (.seq
 (.region false [op1 7 .mv [.t 0],
 op1 8 (.mkfn (mkNo n_impl_nextInGroups_1 0)) [.t 3],
 op1 9 (.call n_slices_IndexFunc_impl_askedGroup_impl_askedGroup 4608) [.t 7, .t 8],
 op1 5 .mv [.t 9]] [7, 8, 9])
 (.seq
 (.region true [op1 10 .mv [.t 0],
 op1 11 .mv [.t 5],
 op1 12 (.idxa 4) [.t 10, .t 11],
 op1 13 (.fld 2 1 false) [.t 12],
 op1 14 (.load 1 false) [.t 13],
 op1 15 (.load 4 true) [.t 3],
 op1 16 (.mkfn (mkNo n_impl_point_canAsk 1)) [.t 15],
 op1 17 (.call n_slices_IndexFunc_int_int 8704) [.t 14, .t 16],
 op1 6 .mv [.t 17]] [3, 10, 11, 12, 13, 14, 15, 16, 17])
 (.seq
 (.region false [op1 18 .mv [.t 0],
 op1 19 .mv [.t 5],
 op1 20 (.idxa 4) [.t 18, .t 19],
 op1 21 (.fld 2 1 false) [.t 20],
 op1 22 (.load 1 false) [.t 21],
 op1 23 .mv [.t 6],
 op1 24 (.idxa 1) [.t 22, .t 23],
 op1 25 (.load 1 false) [.t 24],
 op1 4 .mv [.t 25]] [0, 5, 6, 18, 19, 20, 21, 22, 23, 24, 25])
 .ret))))) }
/-- spec.SortedGroups -/
def F_spec_SortedGroups_L1 : LC :=
 (.seq
 (.seq
 (.region false [op1 43 .mv [.t 10],
 op1 44 .mv [.t 5],
 op1 45 .len [.t 44],
 op1 46 (.bin .lss) [.t 43, .t 45]] [43, 44, 45])
 (.cond (.t 46) [46]
 .skip
 (.exit 2)))
 (.block 3
 (.seq
 (.region false [op1 48 .mv [.t 0],
 op1 49 .mv [.t 5],
 op1 50 .mv [.t 10],
 op1 51 (.idxa 1) [.t 49, .t 50],
 op1 52 (.load 1 false) [.t 51],
 op1 53 (.call n_spec_l7Cost 27136) [.t 48, .t 52],
 op1 47 .mv [.t 53],
 op1 54 (.ext 0) [.t 47],
 op1 55 (.ext 1) [.t 47],
 op1 11 .mv [.t 54],
 op1 12 .mv [.t 55]] [47, 48, 49, 50, 51, 52, 53, 54, 55])
 (.seq
 (.seq
 (.region false [op1 56 .mv [.t 11],
 op1 57 .mv [.t 9],
 op1 58 (.bin .mul) [.t 56, .t 57],
 op1 59 .mv [.t 8],
 op1 60 .mv [.t 12],
 op1 61 (.bin .mul) [.t 59, .t 60],
 op1 62 (.bin .gtr) [.t 58, .t 61]] [11, 12, 56, 57, 58, 59, 60, 61])
 (.cond (.t 62) [62]
 (.exit 2)
 .skip))
 (.region false [op1 63 .mv [.t 10],
 op1 64 (.bin .add) [.t 63, .c (.i 1)],
 op1 10 .mv [.t 64]] [63, 64])))))
def F_spec_SortedGroups_W1 : LC := .loop F_spec_SortedGroups_L1
def F_spec_SortedGroups_L0 : LC :=
 (.ghost (.rename 5 7176)
 (.seq
 (.seq
 (.region false [op1 15 .mv [.t 6],
 op1 16 .mv [.t 1],
 op1 17 .len [.t 16],
 op1 18 (.bin .lss) [.t 15, .t 17],
 op1 19 .mv [.t 18],
 op2 20 .mv [.t 0] 19 true,
 op2 21 (.call n_spec_TestsOk 10752) [.t 20] 19 true,
 op1 22 .pick [.t 19, .t 21, .c (.b false)],
 op1 23 .mv [.t 22],
 op2 24 .mv [.t 0] 23 true,
 op2 25 .len [.t 24] 23 true,
 op2 26 .mv [.t 1] 23 true,
 op2 27 (.call n_spec_GroupsOk 13824) [.t 25, .t 26] 23 true,
 op1 28 .pick [.t 23, .t 27, .c (.b false)]] [15, 16, 17, 18, 19, 20, 21, 22, 23, 24, 25, 26, 27])
 (.cond (.t 28) [28]
 .skip
 (.exit 0)))
 (.seq
 (.block 1
 (.seq
 (.region false [op1 31 .mv [.t 0],
 op1 32 .mv [.t 1],
 op1 33 .mv [.t 6],
 op1 34 (.idxa 1) [.t 32, .t 33],
 op1 35 (.load 1 false) [.t 34],
 op1 36 (.call n_spec_l7Inside 18432) [.t 31, .t 35],
 op1 7 .mv [.t 36]] [31, 32, 33, 34, 35, 36])
 (.seq
 (.region false [op1 38 .mv [.t 0],
 op1 39 .mv [.t 7],
 op1 40 (.call n_spec_l7Cost 20480) [.t 38, .t 39],
 op1 37 .mv [.t 40],
 op1 41 (.ext 0) [.t 37],
 op1 42 (.ext 1) [.t 37],
 op1 8 .mv [.t 41],
 op1 9 .mv [.t 42]] [37, 38, 39, 40, 41, 42])
 (.seq
 (.region false [op1 10 .mv [.c (.i 0)]] [])
 (.seq
 (.block 2
 F_spec_SortedGroups_W1)
 (.seq
 (.region false [op1 65 (.bslice 33288 0 1 (.sl 1 []) []) [],
 op1 66 .mv [.t 5],
 op1 67 .mv [.t 10],
 op1 68 (.slice false true 1) [.t 66, .t 67],
 op1 69 (.app 35336 1) [.t 65, .t 68],
 op1 13 .mv [.t 69]] [8, 9, 65, 66, 67, 68, 69])
 (.seq
 (.region false [op1 70 .mv [.t 13],
 op1 71 .mv [.t 7],
 op1 72 (.bslice 36872 1 1 (.sl 1 []) [0]) [.t 71],
 op1 73 (.app 37384 1) [.t 70, .t 72],
 op1 13 .mv [.t 73]] [7, 70, 71, 72, 73])
 (.region false [op1 74 .mv [.t 13],
 op1 75 .mv [.t 5],
 op1 76 .mv [.t 10],
 op1 77 (.slice true false 1) [.t 75, .t 76],
 op1 78 (.app 39944 1) [.t 74, .t 77],
 op1 5 .mv [.t 78]] [10, 13, 74, 75, 76, 77, 78]))))))))
 (.region false [op1 29 .mv [.t 6],
 op1 30 (.bin .add) [.t 29, .c (.i 1)],
 op1 6 .mv [.t 30]] [29, 30]))))
def F_spec_SortedGroups_W0 : LC := .loop F_spec_SortedGroups_L0
def F_spec_SortedGroups : LF :=
 { nparams := 2, results := [.t 4], body :=
 (.seq
 (.region false [op1 4 (.newnil 2056) []] [4])
 (.seq
 (.region false [op1 14 (.bslice 7176 0 1 (.sl 1 []) []) [],
 op1 5 .mv [.t 14]] [14])
 (.seq
 (.seq
 (.region false [op1 6 .mv [.c (.i 0)]] [])
 (.block 0
 F_spec_SortedGroups_W0))
 (.seq
 (.region false [op1 79 .mv [.t 5],
 op1 4 .mv [.t 79]] [0, 1, 5, 6, 79])
 .ret)))) }
/-- spec.l7Grow -/
def F_spec_l7Grow : LF :=
 { nparams := 4, results := [.t 8, .t 9], body :=
 (.seq
 (.region false [op1 8 (.newnil 4120) [],
 op1 9 .mv [.c (.i 0)]] [8, 9])
 (.seq
 (.seq
 (.region false [op1 13 .mv [.t 1],
 op1 14 .mv [.t 0],
 op1 15 .len [.t 14],
 op1 16 (.bin .eql) [.t 13, .t 15],
 op1 17 .mv [.t 16],
 op2 18 .mv [.t 2] 17 false,
 op2 19 .mv [.t 0] 17 false,
 op2 20 .mv [.t 1] 17 false,
 op2 21 (.idxa 1) [.t 19, .t 20] 17 false,
 op2 22 (.load 1 false) [.t 21] 17 false,
 op2 23 .len [.t 22] 17 false,
 op2 24 (.bin .eql) [.t 18, .t 23] 17 false,
 op1 25 .pick [.t 17, .c (.b true), .t 24]] [13, 14, 15, 16, 17, 18, 19, 20, 21, 22, 23, 24])
 (.cond (.t 25) [25]
 (.seq
 (.region false [op1 26 .mv [.t 3],
 op1 8 .mv [.t 26],
 op1 9 .mv [.c (.i (-1))]] [0, 1, 2, 3, 26])
 .ret)
 .skip))
 (.seq
 (.region false [op1 27 .mv [.t 3],
 op1 28 .len [.t 27],
 op1 10 .mv [.t 28]] [27, 28])
 (.seq
 (.region true [op1 29 (.bslice 14872 0 3 (.st [.i 0, .i 0, .i 0]) []) [],
 op1 30 .mv [.t 3],
 op1 31 (.app 15896 3) [.t 29, .t 30],
 op1 32 .mv [.t 0],
 op1 33 .mv [.t 1],
 op1 34 (.idxa 1) [.t 32, .t 33],
 op1 35 (.load 1 false) [.t 34],
 op1 36 .mv [.t 2],
 op1 37 (.idxa 1) [.t 35, .t 36],
 op1 38 (.load 1 false) [.t 37],
 op1 39 (.build [.i 0, .i 0, .i 0] [(0, 1), (1, 1), (2, 1)]) [.t 38, .c (.i (-1)), .c (.i (-1))],
 op1 40 (.bslice 20504 1 3 (.st [.i 0, .i 0, .i 0]) [0]) [.t 39],
 op1 41 (.app 21016 3) [.t 31, .t 40],
 op1 3 .mv [.t 41]] [29, 30, 31, 32, 33, 34, 35, 36, 37, 38, 39, 40, 41])
 (.seq
 (.region false [op1 43 .mv [.t 0],
 op1 44 .mv [.t 1],
 op1 45 .mv [.t 2],
 op1 46 (.bin .add) [.t 45, .c (.i 1)],
 op1 47 .mv [.t 3],
 op1 48 (.callm n_spec_l7Grow [3] 24576) [.t 43, .t 44, .t 46, .t 47],
 op1 42 .mv [.t 48],
 op1 49 (.ext 0) [.t 42],
 op1 50 (.ext 1) [.t 42],
 op1 3 .mv [.t 49],
 op1 11 .mv [.t 50]] [42, 43, 44, 45, 46, 47, 48, 49, 50])
 (.seq
 (.region false [op1 52 .mv [.t 0],
 op1 53 .mv [.t 1],
 op1 54 (.bin .add) [.t 53, .c (.i 1)],
 op1 55 .mv [.t 3],
 op1 56 (.callm n_spec_l7Grow [3] 28672) [.t 52, .t 54, .c (.i 0), .t 55],
 op1 51 .mv [.t 56],
 op1 57 (.ext 0) [.t 51],
 op1 58 (.ext 1) [.t 51],
 op1 3 .mv [.t 57],
 op1 12 .mv [.t 58]] [51, 52, 53, 54, 55, 56, 57, 58])
 (.seq
 (.region false [op1 59 .mv [.t 3],
 op1 60 .mv [.t 10],
 op1 61 .mv [.t 0],
 op1 62 .mv [.t 1],
 op1 63 (.idxa 1) [.t 61, .t 62],
 op1 64 (.load 1 false) [.t 63],
 op1 65 .mv [.t 2],
 op1 66 (.idxa 1) [.t 64, .t 65],
 op1 67 (.load 1 false) [.t 66],
 op1 68 .mv [.t 11],
 op1 69 .mv [.t 12],
 op1 70 (.build [.i 0, .i 0, .i 0] [(0, 1), (1, 1), (2, 1)]) [.t 67, .t 68, .t 69],
 op1 71 (.idxa 3) [.t 59, .t 60],
 ⟨none, .store 3, [.t 71, .t 70], none⟩] [0, 1, 2, 11, 12, 59, 60, 61, 62, 63, 64, 65, 66, 67, 68, 69, 70, 71])
 (.seq
 (.region false [op1 72 .mv [.t 3],
 op1 73 .mv [.t 10],
 op1 8 .mv [.t 72],
 op1 9 .mv [.t 73]] [3, 10, 72, 73])
 .ret)))))))) }
/-- impl.GroupsOk -/
def F_impl_GroupsOk_L0 : LC :=
 (.seq
 (.region false [op1 14 (.bin .lss) [.t 13, .t 12]] [])
 (.seq
 (.cond (.t 14) [14]
 .skip
 (.exit 0))
 (.seq
 (.block 1
 (.seq
 (.region false [op1 15 (.idxa 1) [.t 11, .t 13],
 op1 16 (.load 1 false) [.t 15],
 op1 7 .mv [.t 16]] [15, 16])
 (.seq
 (.seq
 (.region false [op1 17 .mv [.t 7],
 op1 18 .len [.t 17],
 op1 19 .mv [.t 0],
 op1 20 .mv [.t 5],
 op1 21 .len [.t 20],
 op1 22 (.bin .sub) [.t 19, .t 21],
 op1 23 (.call n_impl_isWithin 11776) [.t 18, .c (.i 1), .t 22],
 op1 24 (.un .not) [.t 23]] [17, 18, 19, 20, 21, 22, 23])
 (.cond (.t 24) [24]
 (.seq
 (.region false [op1 4 .mv [.c (.b false)]] [0, 5, 7, 11, 12, 13])
 .ret)
 .skip))
 (.region false [op1 25 .mv [.t 5],
 op1 26 .mv [.t 7],
 op1 27 (.app 13832 1) [.t 25, .t 26],
 op1 5 .mv [.t 27]] [7, 25, 26, 27]))))
 (.region false [op1 28 (.bin .add) [.t 13, .c (.i 1)],
 op1 13 .mv [.t 28]] [28]))))
def F_impl_GroupsOk_W0 : LC := .loop F_impl_GroupsOk_L0
def F_impl_GroupsOk : LF :=
 { nparams := 2, results := [.t 4], body :=
 (.seq
 (.region false [op1 4 .mv [.c (.b false)]] [4])
 (.seq
 (.seq
 (.region false [op1 8 .mv [.t 0],
 op1 9 (.call n_impl_manyOk 4608) [.t 8],
 op1 10 (.un .not) [.t 9]] [8, 9])
 (.cond (.t 10) [10]
 (.seq
 (.region false [op1 4 .mv [.c (.b false)]] [0, 1])
 .ret)
 .skip))
 (.seq
 (.region false [op1 5 (.newnil 2568) []] [])
 (.seq
 (.seq
 (.region false [op1 11 .mv [.t 1],
 op1 12 .len [.t 11],
 op1 13 .mv [.c (.i 0)]] [1])
 (.block 0
 F_impl_GroupsOk_W0))
 (.seq
 (.region false [op1 29 .mv [.t 0],
 op1 30 .mv [.t 5],
 op1 31 (.call n_impl_OrderOk 15872) [.t 29, .t 30],
 op1 4 .mv [.t 31]] [0, 5, 11, 12, 13, 29, 30, 31])
 .ret))))) }
/-- impl.pointsOf -/
def F_impl_pointsOf_L0 : LC :=
 (.seq
 (.region false [op1 35 (.bin .lss) [.t 34, .t 33]] [])
 (.seq
 (.cond (.t 35) [35]
 .skip
 (.exit 0))
 (.seq
 (.block 1
 (.seq
 (.region false [op1 36 .mv [.t 34],
 op1 37 (.idxa 3) [.t 32, .t 34],
 op1 38 (.load 3 true) [.t 37],
 op1 10 (.alloc 5144 (.st [.i 0, .i 0, .i 0])) [],
 op1 9 .mv [.t 36],
 ⟨none, .store 3, [.t 10, .t 38], none⟩] [36, 37, 38])
 (.seq
 (.region false [op1 39 .mv [.t 8],
 op1 40 .mv [.t 9],
 op1 41 (.idxa 4) [.t 39, .t 40],
 op1 42 (.load 4 true) [.t 41],
 op1 11 (.alloc 5664 (.st [.i 0, .i 0, .w (0#32), .w (0#32)])) [],
 ⟨none, .store 4, [.t 11, .t 42], none⟩] [39, 40, 41, 42])
 (.seq
 (.region true [op1 43 (.load 4 true) [.t 11],
 op1 44 (.fld 0 1 false) [.t 10],
 op1 45 (.load 1 false) [.t 44],
 op1 46 (.call n_impl_point_canAsk 23552) [.t 43, .t 45],
 op1 47 (.un .not) [.t 46],
 op1 48 .mv [.t 47],
 op2 49 .mv [.t 8] 48 false,
 op2 50 .mv [.t 9] 48 false,
 op2 51 (.fld 1 1 false) [.t 10] 48 false,
 op2 52 (.load 1 false) [.t 51] 48 false,
 op2 53 (.load 4 true) [.t 11] 48 false,
 op2 54 (.fld 0 1 false) [.t 10] 48 false,
 op2 55 (.load 1 false) [.t 54] 48 false,
 op2 56 (.call n_impl_point_answered 28672) [.t 53, .t 55, .c (.i 0)] 48 false,
 op2 57 (.call n_impl_comesTo 29188) [.t 49, .t 50, .t 52, .t 56] 48 false,
 op2 58 (.un .not) [.t 57] 48 false,
 op1 59 .pick [.t 48, .c (.b true), .t 58],
 op1 60 .mv [.t 59],
 op2 61 .mv [.t 8] 60 false,
 op2 62 .mv [.t 9] 60 false,
 op2 63 (.fld 2 1 false) [.t 10] 60 false,
 op2 64 (.load 1 false) [.t 63] 60 false,
 op2 65 (.load 4 true) [.t 11] 60 false,
 op2 66 (.fld 0 1 false) [.t 10] 60 false,
 op2 67 (.load 1 false) [.t 66] 60 false,
 op2 68 (.call n_impl_point_answered 34816) [.t 65, .t 67, .c (.i 1)] 60 false,
 op2 69 (.call n_impl_comesTo 35332) [.t 61, .t 62, .t 64, .t 68] 60 false,
 op2 70 (.un .not) [.t 69] 60 false,
 op1 71 .pick [.t 60, .c (.b true), .t 70]] [9, 10, 11, 43, 44, 45, 46, 47, 48, 49, 50, 51, 52, 53, 54, 55, 56, 57, 58, 59, 60, 61, 62, 63, 64, 65, 66, 67, 68, 69, 70])
 (.cond (.t 71) [71]
 (.seq
 (.region false [op1 6 (.newnil 3104) [],
 op1 7 .mv [.c (.b false)]] [8, 32, 33, 34])
 .ret)
 .skip)))))
 (.region false [op1 72 (.bin .add) [.t 34, .c (.i 1)],
 op1 34 .mv [.t 72]] [72]))))
def F_impl_pointsOf_W0 : LC := .loop F_impl_pointsOf_L0
def F_impl_pointsOf : LF :=
 { nparams := 3, results := [.t 6, .t 7], body :=
 (.seq
 (.region false [op1 6 (.newnil 3104) [],
 op1 7 .mv [.c (.b false)]] [6, 7])
 (.seq
 (.seq
 (.region false [op1 12 .mv [.t 0],
 op1 13 .mv [.t 1],
 op1 14 (.call n_impl_TermOk 7168) [.t 12, .t 13],
 op1 15 (.un .not) [.t 14],
 op1 16 .mv [.t 15],
 op2 17 .mv [.t 2] 16 false,
 op2 18 .len [.t 17] 16 false,
 op2 19 (.bin .gtr) [.t 18, .c (.i 31)] 16 false,
 op1 20 .pick [.t 16, .c (.b true), .t 19]] [12, 13, 14, 15, 16, 17, 18, 19])
 (.cond (.t 20) [20]
 (.seq
 (.region false [op1 6 (.newnil 3104) [],
 op1 7 .mv [.c (.b false)]] [0, 1, 2])
 .ret)
 .skip))
 (.seq
 (.region false [op1 21 .mv [.t 2],
 op1 22 .len [.t 21],
 op1 23 (.make 11808 4 (.st [.i 0, .i 0, .w (0#32), .w (0#32)])) [.t 22, .t 22],
 op1 8 .mv [.t 23]] [21, 22, 23])
 (.seq
 (.seq
 (.region false [op1 24 .mv [.t 8],
 op1 25 .mv [.t 2],
 op1 26 (.call n_impl_firstOf 13312) [.t 25],
 op1 27 .mv [.t 0],
 op1 28 .mv [.t 1],
 op1 29 (.call n_impl_startOf 14848) [.t 27, .t 28],
 op1 30 (.call n_impl_comesTo 15364) [.t 24, .c (.i (-1)), .t 26, .t 29],
 op1 31 (.un .not) [.t 30]] [0, 1, 24, 25, 26, 27, 28, 29, 30])
 (.cond (.t 31) [31]
 (.seq
 (.region false [op1 6 (.newnil 3104) [],
 op1 7 .mv [.c (.b false)]] [2, 8])
 .ret)
 .skip))
 (.seq
 (.seq
 (.region false [op1 32 .mv [.t 2],
 op1 33 .len [.t 32],
 op1 34 .mv [.c (.i 0)]] [2])
 (.block 0
 F_impl_pointsOf_W0))
 (.seq
 (.region false [op1 73 .mv [.t 8],
 op1 6 .mv [.t 73],
 op1 7 .mv [.c (.b true)]] [8, 32, 33, 34, 73])
 .ret)))))) }
/-- impl.costsBy -/
def F_impl_costsBy_L0 : LC :=
 (.seq
 (.region false [op1 29 (.bin .lss) [.t 28, .t 27]] [])
 (.seq
 (.cond (.t 29) [29]
 .skip
 (.exit 0))
 (.seq
 (.block 1
 (.seq
 (.region false [op1 30 .mv [.t 28],
 op1 10 .mv [.t 30]] [30])
 (.region false [op1 32 .mv [.t 9],
 op1 33 .mv [.t 10],
 op1 34 .mv [.t 0],
 op1 35 .mv [.t 1],
 op1 36 .mv [.t 2],
 op1 37 .mv [.t 10],
 op1 38 (.call n_impl_CostBy 19456) [.t 34, .t 35, .t 36, .t 37],
 op1 31 .mv [.t 38],
 op1 39 (.ext 0) [.t 31],
 op1 40 (.ext 1) [.t 31],
 op1 41 (.ext 2) [.t 31],
 op1 42 (.idxa 1) [.t 32, .t 33],
 ⟨none, .store 1, [.t 42, .t 39], none⟩] [10, 31, 32, 33, 34, 35, 36, 37, 38, 39, 40, 41, 42])))
 (.region false [op1 43 (.bin .add) [.t 28, .c (.i 1)],
 op1 28 .mv [.t 43]] [43]))))
def F_impl_costsBy_W0 : LC := .loop F_impl_costsBy_L0
def F_impl_costsBy : LF :=
 { nparams := 3, results := [.t 6, .t 7], body :=
 (.seq
 (.region false [op1 6 (.newnil 3080) [],
 op1 7 .mv [.c (.b false)]] [6, 7])
 (.seq
 (.region false [op1 11 .mv [.t 0],
 op1 12 .len [.t 11],
 op1 8 .mv [.t 12]] [11, 12])
 (.seq
 (.seq
 (.region false [op1 13 .mv [.t 0],
 op1 14 (.call n_impl_TestsOk 7168) [.t 13],
 op1 15 (.un .not) [.t 14],
 op1 16 .mv [.t 15],
 op2 17 .mv [.t 8] 16 false,
 op2 18 .mv [.t 1] 16 false,
 op2 19 .mv [.t 2] 16 false,
 op2 20 (.call n_impl_PlanOk 10240) [.t 17, .t 18, .t 19] 16 false,
 op2 21 (.un .not) [.t 20] 16 false,
 op1 22 .pick [.t 16, .c (.b true), .t 21]] [13, 14, 15, 16, 17, 18, 19, 20, 21])
 (.cond (.t 22) [22]
 (.seq
 (.region false [op1 6 (.newnil 3080) [],
 op1 7 .mv [.c (.b false)]] [0, 1, 2, 8])
 .ret)
 .skip))
 (.seq
 (.region false [op1 23 .mv [.t 8],
 op1 24 (.call n_impl_statesOf 12288) [.t 23],
 op1 25 (.make 12808 1 (.i 0)) [.t 24, .t 24],
 op1 9 .mv [.t 25]] [8, 23, 24, 25])
 (.seq
 (.seq
 (.region false [op1 26 .mv [.t 9],
 op1 27 .len [.t 26],
 op1 28 .mv [.c (.i 0)]] [26])
 (.block 0
 F_impl_costsBy_W0))
 (.seq
 (.region false [op1 44 .mv [.t 9],
 op1 6 .mv [.t 44],
 op1 7 .mv [.c (.b true)]] [0, 1, 2, 9, 27, 28, 44])
 .ret)))))) }
/-- spec.l7Cost -/
def F_spec_l7Cost_L0 : LC :=
 (.seq
 (.seq
 (.region false [op1 9 .mv [.t 8],
 op1 10 .mv [.t 1],
 op1 11 .len [.t 10],
 op1 12 (.bin .lss) [.t 9, .t 11]] [9, 10, 11])
 (.cond (.t 12) [12]
 .skip
 (.exit 0)))
 (.seq
 (.block 1
 (.seq
 (.region true [op1 15 .mv [.t 6],
 op1 16 .mv [.t 0],
 op1 17 .mv [.t 1],
 op1 18 .mv [.t 8],
 op1 19 (.idxa 1) [.t 17, .t 18],
 op1 20 (.load 1 false) [.t 19],
 op1 21 (.idxa 2) [.t 16, .t 20],
 op1 22 (.fld 0 1 false) [.t 21],
 op1 23 (.load 1 false) [.t 22],
 op1 24 .mv [.t 7],
 op1 25 (.bin .mul) [.t 23, .t 24],
 op1 26 .mv [.t 1],
 op1 27 .len [.t 26],
 op1 28 .mv [.t 8],
 op1 29 (.bin .sub) [.t 27, .t 28],
 op1 30 (.call n_spec_l1Power 15360) [.t 29],
 op1 31 (.bin .mul) [.t 25, .t 30],
 op1 32 (.bin .add) [.t 15, .t 31],
 op1 6 .mv [.t 32]] [15, 16, 17, 18, 19, 20, 21, 22, 23, 24, 25, 26, 27, 28, 29, 30, 31, 32])
 (.region false [op1 33 .mv [.t 7],
 op1 34 .mv [.t 0],
 op1 35 .mv [.t 1],
 op1 36 .mv [.t 8],
 op1 37 (.idxa 1) [.t 35, .t 36],
 op1 38 (.load 1 false) [.t 37],
 op1 39 (.idxa 2) [.t 34, .t 38],
 op1 40 (.fld 1 1 false) [.t 39],
 op1 41 (.load 1 false) [.t 40],
 op1 42 (.bin .sub) [.c (.i 6), .t 41],
 op1 43 (.bin .mul) [.t 33, .t 42],
 op1 7 .mv [.t 43]] [33, 34, 35, 36, 37, 38, 39, 40, 41, 42, 43])))
 (.region false [op1 13 .mv [.t 8],
 op1 14 (.bin .add) [.t 13, .c (.i 1)],
 op1 8 .mv [.t 14]] [13, 14])))
def F_spec_l7Cost_W0 : LC := .loop F_spec_l7Cost_L0
def F_spec_l7Cost : LF :=
 { nparams := 2, results := [.t 4, .t 5], body :=
 (.seq
 (.region false [op1 4 .mv [.c (.i 0)],
 op1 5 .mv [.c (.i 0)]] [4, 5])
 (.seq
 (.region false [op1 6 .mv [.c (.i 0)]] [])
 (.seq
 (.region false [op1 7 .mv [.c (.i 1)]] [])
 (.seq
 (.seq
 (.region false [op1 8 .mv [.c (.i 0)]] [])
 (.block 0
 F_spec_l7Cost_W0))
 (.seq
 (.region false [op1 44 .mv [.t 6],
 op1 45 .mv [.t 7],
 op1 4 .mv [.t 44],
 op1 5 .mv [.t 45]] [0, 1, 6, 7, 8, 44, 45])
 .ret))))) }
/-- spec.l20Rd).odd -/
def F_spec_l20Rd_odd : LF :=
 { nparams := 2, results := [.t 4], body :=
 (.seq
 (.region false [op1 4 .mv [.c (.b false)]] [4])
 (.seq
 (.region false [op1 5 .mv [.t 1],
 op1 6 (.bin .gtr) [.t 5, .c (.i 0)],
 op1 7 .mv [.t 6],
 op2 8 .mv [.t 0] 7 true,
 op2 9 .mv [.t 1] 7 true,
 op2 10 (.call n_spec_l20Rd_pick 5120) [.t 8, .t 9] 7 true,
 op2 11 .mv [.t 1] 7 true,
 op2 12 (.bin .sub) [.t 11, .c (.i 1)] 7 true,
 op2 13 (.bin .eql) [.t 10, .t 12] 7 true,
 op1 14 .pick [.t 7, .t 13, .c (.b false)],
 op1 4 .mv [.t 14]] [1, 5, 6, 7, 8, 9, 10, 11, 12, 13, 14])
 .ret)) }
/-- impl.hasTest -/
def F_impl_hasTest : LF :=
 { nparams := 2, results := [.t 4], body :=
 (.seq
 (.region false [op1 4 .mv [.c (.b false)]] [4])
 (.seq
 (.region false [op1 5 .mv [.t 0],
 op1 6 .mv [.t 1],
 op1 7 (.bin .shr) [.t 5, .t 6],
 op1 8 (.bin .and) [.t 7, .c (.i 1)],
 op1 9 (.bin .eql) [.t 8, .c (.i 1)],
 op1 4 .mv [.t 9]] [0, 1, 5, 6, 7, 8, 9])
 .ret)) }
/-- slices.Insert[[]int,int] -/
def F_slices_Insert_int_int : LF :=
 { nparams := 3, results := [], body := .skip, prim := some insP }
/-- impl.partsTaken -/
def F_impl_partsTaken : LF :=
 { nparams := 1, results := [.t 2], body :=
 (.seq
 (.region false [op1 2 .mv [.c (.i 0)]] [2])
 (.seq
 (.seq
 (.region false [op1 3 .mv [.t 0]] [0])
 (.block 0
 (.seq
 (.region false [op1 5 (.bin .eql) [.t 3, .c (.i 0)],
 op1 4 .mv [.t 5]] [5])
 (.cond (.t 4) [4]
 (.seq
 (.region false [op1 2 .mv [.c (.i 0)]] [3])
 .ret)
 (.seq
 (.region false [op1 7 (.bin .eql) [.t 3, .c (.i 1)],
 op1 6 .mv [.t 7]] [3, 7])
 (.cond (.t 6) [6]
 (.seq
 (.region false [op1 2 .mv [.c (.i 1)]] [])
 .ret)
 .skip))))))
 (.seq
 (.region false [op1 2 .mv [.c (.i 2)]] [])
 .ret))) }
/-- impl.markOk -/
def F_impl_markOk : LF :=
 { nparams := 2, results := [.t 4], body :=
 (.seq
 (.region false [op1 3 (.box 1552) [.t 1],
 op1 4 .mv [.c (.b false)]] [1, 4])
 (.seq
 (.seq
 (.region false [op1 5 (.fld 0 1 false) [.t 3],
 op1 6 (.load 1 false) [.t 5],
 op1 7 (.bin .eql) [.t 6, .c (.i 0)]] [5, 6])
 (.cond (.t 7) [7]
 (.seq
 (.region false [op1 8 (.fld 1 1 false) [.t 3],
 op1 9 (.load 1 false) [.t 8],
 op1 10 .mv [.t 0],
 op1 11 (.bin .sub) [.t 10, .c (.i 1)],
 op1 12 (.call n_impl_isWithin 6144) [.t 9, .c (.i 0), .t 11],
 op1 4 .mv [.t 12]] [0, 3, 8, 9, 10, 11, 12])
 .ret)
 .skip))
 (.seq
 (.region false [op1 13 (.fld 0 1 false) [.t 3],
 op1 14 (.load 1 false) [.t 13],
 op1 15 (.call n_impl_isWithin 7680) [.t 14, .c (.i 1), .c (.i 3)],
 op1 16 .mv [.t 15],
 op2 17 (.fld 1 1 false) [.t 3] 16 true,
 op2 18 (.load 1 false) [.t 17] 16 true,
 op2 19 (.bin .eql) [.t 18, .c (.i 0)] 16 true,
 op1 20 .pick [.t 16, .t 19, .c (.b false)],
 op1 4 .mv [.t 20]] [0, 3, 13, 14, 15, 16, 17, 18, 19, 20])
 .ret))) }
/-- impl.point).isForced -/
def F_impl_point_isForced : LF :=
 { nparams := 1, results := [.t 2], body :=
 (.seq
 (.region false [op1 1 (.box 544) [.t 0],
 op1 2 .mv [.c (.b false)]] [0, 2])
 (.seq
 (.region false [op1 3 (.fld 3 1 false) [.t 1],
 op1 4 (.load 1 false) [.t 3],
 op1 5 (.fld 2 1 false) [.t 1],
 op1 6 (.load 1 false) [.t 5],
 op1 7 (.call n_impl_valueAmong 3584) [.t 4, .t 6],
 op1 8 (.bin .neq) [.t 7, .c (.i (-1))],
 op1 2 .mv [.t 8]] [1, 3, 4, 5, 6, 7, 8])
 .ret)) }
/-- impl.point).canAsk -/
def F_impl_point_canAsk : LF :=
 { nparams := 2, results := [.t 4], body :=
 (.seq
 (.region false [op1 2 (.box 1056) [.t 0],
 op1 4 .mv [.c (.b false)]] [0, 4])
 (.seq
 (.region false [op1 5 .mv [.t 1],
 op1 6 (.fld 0 1 false) [.t 2],
 op1 7 (.load 1 false) [.t 6],
 op1 8 (.bin .sub) [.t 7, .c (.i 1)],
 op1 9 (.call n_impl_isWithin 4608) [.t 5, .c (.i 0), .t 8],
 op1 10 .mv [.t 9],
 op2 11 (.fld 1 1 false) [.t 2] 10 true,
 op2 12 (.load 1 false) [.t 11] 10 true,
 op2 13 .mv [.t 1] 10 true,
 op2 14 (.call n_impl_hasTest 7168) [.t 12, .t 13] 10 true,
 op2 15 (.un .not) [.t 14] 10 true,
 op1 16 .pick [.t 10, .t 15, .c (.b false)],
 op1 4 .mv [.t 16]] [1, 2, 5, 6, 7, 8, 9, 10, 11, 12, 13, 14, 15, 16])
 .ret)) }
/-- impl.point).answered -/
def F_impl_point_answered : LF :=
 { nparams := 3, results := [.c 6 4 true], body :=
 (.seq
 (.region false [op1 3 (.box 1568) [.t 0],
 op1 6 (.alloc 3104 (.st [.i 0, .i 0, .w (0#32), .w (0#32)])) []] [0])
 (.seq
 (.region true [op1 7 (.fld 1 1 false) [.t 3],
 op1 8 (.load 1 false) [.t 7],
 op1 9 .mv [.t 1],
 op1 10 (.bin .shl) [.c (.i 1), .t 9],
 op1 11 (.bin .or) [.t 8, .t 10],
 op1 12 (.fld 1 1 false) [.t 3],
 ⟨none, .store 1, [.t 12, .t 11], none⟩] [7, 8, 9, 10, 11, 12])
 (.seq
 (.region true [op1 13 (.fld 2 1 false) [.t 3],
 op1 14 (.load 1 false) [.t 13],
 op1 15 .mv [.t 1],
 op1 16 .mv [.t 2],
 op1 17 (.call n_impl_statesSaying 8704) [.t 15, .t 16],
 op1 18 (.bin .and) [.t 14, .t 17],
 op1 19 (.fld 2 1 false) [.t 3],
 ⟨none, .store 1, [.t 19, .t 18], none⟩] [1, 2, 13, 14, 15, 16, 17, 18, 19])
 (.seq
 (.region false [op1 20 (.load 4 true) [.t 3],
 ⟨none, .store 4, [.t 6, .t 20], none⟩] [3, 20])
 .ret)))) }
/-- impl.foldTerm[uint32] -/
def F_impl_foldTerm_uint32_L0 : LC :=
 (.seq
 (.region false [op1 13 (.bin .lss) [.t 12, .t 11]] [])
 (.seq
 (.cond (.t 13) [13]
 .skip
 (.exit 0))
 (.seq
 (.block 1
 (.seq
 (.region false [op1 14 (.idxa 2) [.t 10, .t 12],
 op1 15 (.load 2 true) [.t 14],
 op1 7 (.alloc 3600 (.st [.i 0, .i 0])) [],
 ⟨none, .store 2, [.t 7, .t 15], none⟩] [14, 15])
 (.seq
 (.region false [op1 16 .mv [.t 5],
 op1 17 .len [.t 16],
 op1 18 (.fld 0 1 false) [.t 7],
 op1 19 (.load 1 false) [.t 18],
 op1 20 (.call n_impl_partsTaken 10240) [.t 19],
 op1 21 (.bin .sub) [.t 17, .t 20],
 op1 8 .mv [.t 21]] [16, 17, 18, 19, 20, 21])
 (.seq
 (.region true [op1 22 .mv [.t 1],
 op1 23 (.load 2 true) [.t 7],
 op1 24 .mv [.t 5],
 op1 25 .mv [.t 8],
 op1 26 (.slice true false 1) [.t 24, .t 25],
 op1 27 (.calld 13824) [.t 22, .t 23, .t 26],
 op1 9 .mv [.t 27]] [7, 22, 23, 24, 25, 26, 27])
 (.region false [op1 28 .mv [.t 5],
 op1 29 .mv [.t 8],
 op1 30 (.slice false true 1) [.t 28, .t 29],
 op1 31 .mv [.t 9],
 op1 32 (.bslice 16392 1 1 (.w (0#32)) [0]) [.t 31],
 op1 33 (.app 16904 1) [.t 30, .t 32],
 op1 5 .mv [.t 33]] [8, 9, 28, 29, 30, 31, 32, 33])))))
 (.region false [op1 34 (.bin .add) [.t 12, .c (.i 1)],
 op1 12 .mv [.t 34]] [34]))))
def F_impl_foldTerm_uint32_W0 : LC := .loop F_impl_foldTerm_uint32_L0
def F_impl_foldTerm_uint32 : LF :=
 { nparams := 2, results := [.t 4], body :=
 (.seq
 (.region false [op1 4 .mv [.c (.w (0#32))]] [4])
 (.seq
 (.region false [op1 5 (.newnil 2568) []] [])
 (.seq
 (.seq
 (.region false [op1 10 .mv [.t 0],
 op1 11 .len [.t 10],
 op1 12 .mv [.c (.i 0)]] [0])
 (.block 0
 F_impl_foldTerm_uint32_W0))
 (.seq
 (.region false [op1 35 .mv [.t 5],
 op1 36 (.idxa 1) [.t 35, .c (.i 0)],
 op1 37 (.load 1 false) [.t 36],
 op1 4 .mv [.t 37]] [1, 5, 10, 11, 12, 35, 36, 37])
 .ret)))) }
/-- impl.statesOfPart -/
def F_impl_statesOfPart : LF :=
 { gl := [2], nparams := 2, results := [.t 4], body :=
 (.seq
 (.region false [op1 2 (.box 1040) [.t 0],
 op1 4 .mv [.c (.w (0#32))]] [0, 4])
 (.seq
 (.seq
 (.region false [op1 5 (.fld 0 1 false) [.t 2],
 op1 6 (.load 1 false) [.t 5]] [5])
 (.block 0
 (.seq
 (.region false [op1 8 (.bin .eql) [.t 6, .c (.i 0)],
 op1 7 .mv [.t 8]] [8])
 (.cond (.t 7) [7]
 (.seq
 (.region false [op1 9 (.fld 1 1 false) [.t 2],
 op1 10 (.load 1 false) [.t 9],
 op1 11 (.idxp 5 1) [.t 1048578, .t 10],
 op1 12 (.load 1 false) [.t 11],
 op1 4 .mv [.t 12]] [1, 2, 6, 9, 10, 11, 12])
 .ret)
 (.seq
 (.region false [op1 14 (.bin .eql) [.t 6, .c (.i 1)],
 op1 13 .mv [.t 14]] [2, 14])
 (.cond (.t 13) [13]
 (.seq
 (.region false [op1 15 .mv [.t 1],
 op1 16 (.idxa 1) [.t 15, .c (.i 0)],
 op1 17 (.load 1 false) [.t 16],
 op1 18 (.un .xor) [.t 17],
 op1 4 .mv [.t 18]] [1, 6, 15, 16, 17, 18])
 .ret)
 (.seq
 (.region false [op1 20 (.bin .eql) [.t 6, .c (.i 2)],
 op1 19 .mv [.t 20]] [6, 20])
 (.cond (.t 19) [19]
 (.seq
 (.region true [op1 21 .mv [.t 1],
 op1 22 (.idxa 1) [.t 21, .c (.i 0)],
 op1 23 (.load 1 false) [.t 22],
 op1 24 .mv [.t 1],
 op1 25 (.idxa 1) [.t 24, .c (.i 1)],
 op1 26 (.load 1 false) [.t 25],
 op1 27 (.bin .and) [.t 23, .t 26],
 op1 4 .mv [.t 27]] [1, 21, 22, 23, 24, 25, 26, 27])
 .ret)
 .skip))))))))
 (.seq
 (.region true [op1 28 .mv [.t 1],
 op1 29 (.idxa 1) [.t 28, .c (.i 0)],
 op1 30 (.load 1 false) [.t 29],
 op1 31 .mv [.t 1],
 op1 32 (.idxa 1) [.t 31, .c (.i 1)],
 op1 33 (.load 1 false) [.t 32],
 op1 34 (.bin .or) [.t 30, .t 33],
 op1 4 .mv [.t 34]] [1, 28, 29, 30, 31, 32, 33, 34])
 .ret))) }
/-- impl.outcomeIn -/
def F_impl_outcomeIn : LF :=
 { nparams := 2, results := [.t 4], body :=
 (.seq
 (.region false [op1 4 .mv [.c (.i 0)]] [4])
 (.seq
 (.region false [op1 5 .mv [.t 0],
 op1 6 .mv [.t 1],
 op1 7 (.bin .shr) [.t 5, .t 6],
 op1 8 (.bin .and) [.t 7, .c (.i 1)],
 op1 4 .mv [.t 8]] [0, 1, 5, 6, 7, 8])
 .ret)) }
/-- spec.l20Groups -/
def F_spec_l20Groups_L0 : LC :=
 (.seq
 (.seq
 (.region false [op1 15 .mv [.t 9],
 op1 16 .mv [.t 7],
 op1 17 .len [.t 16],
 op1 18 (.bin .lss) [.t 15, .t 17]] [15, 16, 17])
 (.cond (.t 18) [18]
 .skip
 (.exit 0)))
 (.seq
 (.block 1
 (.seq
 (.seq
 (.region false [op1 21 .mv [.t 8],
 op1 22 .len [.t 21],
 op1 23 (.bin .eql) [.t 22, .c (.i 0)],
 op1 24 .mv [.t 23],
 op2 25 .mv [.t 0] 24 false,
 op2 26 (.call n_spec_l20Rd_pick 13312) [.t 25, .c (.i 2)] 24 false,
 op2 27 (.bin .eql) [.t 26, .c (.i 0)] 24 false,
 op1 28 .pick [.t 24, .c (.b true), .t 27]] [21, 22, 23, 24, 25, 26, 27])
 (.cond (.t 28) [28]
 (.ghost (.shut 8)
 (.region false [op1 29 .mv [.t 8],
 op1 30 (.bslice 15373 0 1 (.i 0) []) [],
 op1 31 (.bslice 15880 1 1 (.sl 1 []) [0]) [.t 30],
 op1 32 (.app 16392 1) [.t 29, .t 31],
 op1 8 .mv [.t 32]] [29, 30, 31, 32]))
 .skip))
 (.seq
 (.region false [op1 33 .mv [.t 8],
 op1 34 .len [.t 33],
 op1 35 (.bin .sub) [.t 34, .c (.i 1)],
 op1 10 .mv [.t 35]] [33, 34, 35])
 (.region true [op1 36 .mv [.t 8],
 op1 37 .mv [.t 10],
 op1 38 .mv [.t 8],
 op1 39 .mv [.t 10],
 op1 40 (.idxa 1) [.t 38, .t 39],
 op1 41 (.load 1 false) [.t 40],
 op1 42 .mv [.t 7],
 op1 43 .mv [.t 9],
 op1 44 (.idxa 1) [.t 42, .t 43],
 op1 45 (.load 1 false) [.t 44],
 op1 46 (.bslice 23560 1 1 (.i 0) [0]) [.t 45],
 op1 47 (.app 24072 1) [.t 41, .t 46],
 op1 48 (.idxa 1) [.t 36, .t 37],
 ⟨none, .store 1, [.t 48, .t 47], none⟩] [10, 36, 37, 38, 39, 40, 41, 42, 43, 44, 45, 46, 47, 48]))))
 (.region false [op1 19 .mv [.t 9],
 op1 20 (.bin .add) [.t 19, .c (.i 1)],
 op1 9 .mv [.t 20]] [19, 20])))
def F_spec_l20Groups_W0 : LC := .loop F_spec_l20Groups_L0
def F_spec_l20Groups : LF :=
 { nparams := 3, results := [.t 6], body :=
 (.seq
 (.region false [op1 6 (.newnil 3080) []] [6])
 (.seq
 (.region false [op1 11 .mv [.t 0],
 op1 12 .mv [.t 1],
 op1 13 (.call n_spec_l20Order 6656) [.t 11, .t 12, .c (.i 0)],
 op1 7 .mv [.t 13]] [1, 11, 12, 13])
 (.seq
 (.region false [op1 14 (.bslice 7176 0 1 (.sl 1 []) []) [],
 op1 8 .mv [.t 14]] [14])
 (.seq
 (.seq
 (.region false [op1 9 .mv [.c (.i 0)]] [])
 (.block 0
 F_spec_l20Groups_W0))
 (.seq
 (.seq
 (.ghost (.shut 8)
 (.region false [op1 49 .mv [.t 0],
 op1 50 .mv [.t 2],
 op1 51 (.call n_spec_l20Rd_odd 26112) [.t 49, .t 50]] [2, 7, 9, 49, 50]))
 (.cond (.t 51) [51]
 (.seq
 (.region false [op1 52 .mv [.t 0],
 op1 53 (.call n_spec_l20Rd_pick 27136) [.t 52, .c (.i 2)]] [52])
 (.block 2
 (.seq
 (.region false [op1 59 (.bin .eql) [.t 53, .c (.i 0)],
 op1 58 .mv [.t 59]] [53, 59])
 (.cond (.t 58) [58]
 (.seq
 (.region false [op1 60 .mv [.t 8],
 op1 61 (.bslice 31240 0 1 (.i 0) []) [],
 op1 62 (.bslice 31752 1 1 (.sl 1 []) [0]) [.t 61],
 op1 63 (.app 32264 1) [.t 60, .t 62],
 op1 6 .mv [.t 63]] [8, 60, 61, 62, 63])
 .ret)
 (.seq
 (.region false [op1 54 .mv [.t 8],
 op1 55 (.bslice 28168 1 1 (.i 0) [0]) [.c (.i 0)],
 op1 56 (.bslice 28680 1 1 (.sl 1 []) [0]) [.t 55],
 op1 57 (.app 29192 1) [.t 54, .t 56],
 op1 6 .mv [.t 57]] [8, 54, 55, 56, 57])
 .ret)))))
 .skip))
 (.seq
 (.region false [op1 64 .mv [.t 8],
 op1 6 .mv [.t 64]] [8, 64])
 .ret)))))) }
/-- impl.groupsByRatios$1 -/
def F_impl_groupsByRatios_1 : LF :=
 { nparams := 2, results := [.t 4], body :=
 (.seq
 (.region false [op1 2 (.box 1056) [.t 0],
 op1 3 (.box 1568) [.t 1],
 op1 4 .mv [.c (.b false)]] [0, 1, 4])
 (.seq
 (.region false [op1 5 (.fld 0 2 true) [.t 2],
 op1 6 (.load 2 true) [.t 5],
 op1 7 (.fld 0 2 true) [.t 3],
 op1 8 (.load 2 true) [.t 7],
 op1 9 (.call n_impl_ratio_isLess 4608) [.t 6, .t 8],
 op1 4 .mv [.t 9]] [2, 3, 5, 6, 7, 8, 9])
 .ret)) }
/-- impl.askedGroup] -/
def F_impl_inserted_impl_askedGroup_L0 : LC :=
 (.seq
 (.seq
 (.region true [op1 10 .mv [.t 7],
 op1 11 (.bin .gtr) [.t 10, .c (.i 0)],
 op1 12 .mv [.t 11],
 op2 13 .mv [.t 2] 12 true,
 op2 14 (.load 4 true) [.t 4] 12 true,
 op2 15 .mv [.t 0] 12 true,
 op2 16 .mv [.t 7] 12 true,
 op2 17 (.bin .sub) [.t 16, .c (.i 1)] 12 true,
 op2 18 (.idxa 4) [.t 15, .t 17] 12 true,
 op2 19 (.load 4 true) [.t 18] 12 true,
 op2 20 (.calld 10240) [.t 13, .t 14, .t 19] 12 true,
 op1 21 .pick [.t 12, .t 20, .c (.b false)]] [10, 11, 12, 13, 14, 15, 16, 17, 18, 19, 20])
 (.cond (.t 21) [21]
 .skip
 (.exit 0)))
 (.block 1
 (.region false [op1 22 .mv [.t 7],
 op1 23 (.bin .sub) [.t 22, .c (.i 1)],
 op1 7 .mv [.t 23]] [22, 23])))
def F_impl_inserted_impl_askedGroup_W0 : LC := .loop F_impl_inserted_impl_askedGroup_L0
def F_impl_inserted_impl_askedGroup : LF :=
 { nparams := 3, results := [.t 6], body :=
 (.seq
 (.region false [op1 4 (.box 2080) [.t 1],
 op1 6 (.newnil 3104) []] [1, 6])
 (.seq
 (.region false [op1 8 .mv [.t 0],
 op1 9 .len [.t 8],
 op1 7 .mv [.t 9]] [8, 9])
 (.seq
 (.block 0
 F_impl_inserted_impl_askedGroup_W0)
 (.seq
 (.region false [op1 24 .mv [.t 0],
 op1 25 .mv [.t 7],
 op1 26 (.load 4 true) [.t 4],
 op1 27 (.bslice 13856 1 4 (.st [.i 0, .i 0, .sl 1 [], .i 0]) [0]) [.t 26],
 op1 28 (.callm n_slices_Insert_impl_askedGroup_impl_askedGroup [0, 2] 14342) [.t 24, .t 25, .t 27],
 op1 6 .mv [.t 28]] [0, 2, 4, 7, 24, 25, 26, 27, 28])
 .ret)))) }
/-- impl.groupOf -/
def F_impl_groupOf_L0 : LC :=
 (.seq
 (.region false [op1 15 (.bin .lss) [.t 14, .t 13]] [])
 (.seq
 (.cond (.t 15) [15]
 .skip
 (.exit 0))
 (.seq
 (.block 1
 (.seq
 (.region false [op1 16 (.idxa 1) [.t 12, .t 14],
 op1 17 (.load 1 false) [.t 16],
 op1 8 .mv [.t 17]] [16, 17])
 (.seq
 (.region false [op1 18 .mv [.t 1],
 op1 19 .mv [.t 8],
 op1 20 (.call n_slices_Contains_int_int 10240) [.t 18, .t 19]] [18, 19])
 (.cond (.t 20) [20]
 (.seq
 (.region false [op1 21 .mv [.t 5],
 op1 22 .mv [.t 8],
 op1 23 (.bslice 11784 1 1 (.i 0) [0]) [.t 22],
 op1 24 (.app 12296 1) [.t 21, .t 23],
 op1 5 .mv [.t 24]] [21, 22, 23, 24])
 (.region false [op1 25 .mv [.t 6],
 op1 26 .mv [.t 0],
 op1 27 .mv [.t 8],
 op1 28 (.idxa 2) [.t 26, .t 27],
 op1 29 (.load 2 true) [.t 28],
 op1 30 (.bslice 15376 1 2 (.st [.i 0, .i 0]) [0]) [.t 29],
 op1 31 (.app 15888 2) [.t 25, .t 30],
 op1 6 .mv [.t 31]] [8, 25, 26, 27, 28, 29, 30, 31]))
 .skip))))
 (.region false [op1 32 (.bin .add) [.t 14, .c (.i 1)],
 op1 14 .mv [.t 32]] [8, 32]))))
def F_impl_groupOf_W0 : LC := .loop F_impl_groupOf_L0
def F_impl_groupOf : LF :=
 { nparams := 2, results := [.c 4 4 true], body :=
 (.seq
 (.region false [op1 4 (.alloc 2080 (.st [.i 0, .i 0, .sl 1 [], .i 0])) []] [])
 (.seq
 (.region false [op1 5 (.newnil 2568) []] [])
 (.seq
 (.region false [op1 6 (.newnil 3088) []] [])
 (.seq
 (.seq
 (.region false [op1 11 .mv [.t 0],
 op1 12 (.call n_impl_RatioOrder 6144) [.t 11, .c (.i 1)],
 op1 13 .len [.t 12],
 op1 14 .mv [.c (.i 0)]] [11])
 (.block 0
 F_impl_groupOf_W0))
 (.seq
 (.region false [op1 33 .mv [.t 6],
 op1 34 .mv [.t 6],
 op1 35 (.call n_impl_RatioOrder 17920) [.t 34, .c (.i 1)],
 op1 36 (.call n_impl_RowAverage 18432) [.t 33, .t 35, .c (.i 1)],
 op1 9 .mv [.t 36]] [0, 1, 12, 13, 14, 33, 34, 35, 36])
 (.seq
 (.region false [op1 37 .mv [.t 6],
 op1 38 (.call n_impl_WeightOf 19456) [.t 37, .c (.i 0)],
 op1 10 .mv [.t 38]] [6, 37, 38])
 (.seq
 (.region false [op1 39 .mv [.t 9],
 op1 40 .mv [.t 10],
 op1 41 (.build [.i 0, .i 0] [(0, 1), (1, 1)]) [.t 39, .t 40],
 op1 42 .mv [.t 5],
 op1 43 .mv [.t 5],
 op1 44 .len [.t 43],
 op1 45 (.call n_impl_wholeOf 23040) [.t 44],
 op1 46 (.build [.i 0, .i 0, .sl 1 [], .i 0] [(0, 2), (2, 1), (3, 1)]) [.t 41, .t 42, .t 45],
 ⟨none, .store 4, [.t 4, .t 46], none⟩] [5, 9, 10, 39, 40, 41, 42, 43, 44, 45, 46])
 .ret))))))) }
/-- impl.Choice] -/
def F_slices_Concat_impl_Choice_impl_Choice_L0 : LC :=
 (.seq
 (.region false [op1 12 (.bin .lss) [.t 11, .t 10]] [])
 (.seq
 (.cond (.t 12) [12]
 .skip
 (.exit 0))
 (.seq
 (.block 1
 (.seq
 (.region false [op1 13 (.idxa 1) [.t 9, .t 11],
 op1 14 (.load 1 false) [.t 13],
 op1 5 .mv [.t 14]] [13, 14])
 (.seq
 (.region false [op1 15 .mv [.t 3],
 op1 16 .mv [.t 5],
 op1 17 .len [.t 16],
 op1 18 (.bin .add) [.t 15, .t 17],
 op1 3 .mv [.t 18]] [5, 15, 16, 17, 18])
 (.seq
 (.region false [op1 19 .mv [.t 3],
 op1 20 (.bin .lss) [.t 19, .c (.i 0)]] [19])
 (.cond (.t 20) [20]
 .void
 .skip)))))
 (.region false [op1 22 (.bin .add) [.t 11, .c (.i 1)],
 op1 11 .mv [.t 22]] [22]))))
def F_slices_Concat_impl_Choice_impl_Choice_W0 : LC := .loop F_slices_Concat_impl_Choice_impl_Choice_L0
def F_slices_Concat_impl_Choice_impl_Choice_L1 : LC :=
 (.seq
 (.region false [op1 28 (.bin .lss) [.t 27, .t 26]] [])
 (.seq
 (.cond (.t 28) [28]
 .skip
 (.exit 2))
 (.seq
 (.block 3
 (.seq
 (.region false [op1 29 (.idxa 1) [.t 25, .t 27],
 op1 30 (.load 1 false) [.t 29],
 op1 8 .mv [.t 30]] [29, 30])
 (.region false [op1 31 .mv [.t 6],
 op1 32 .mv [.t 8],
 op1 33 (.app 16920 3) [.t 31, .t 32],
 op1 6 .mv [.t 33]] [8, 31, 32, 33])))
 (.region false [op1 34 (.bin .add) [.t 27, .c (.i 1)],
 op1 27 .mv [.t 34]] [34]))))
def F_slices_Concat_impl_Choice_impl_Choice_W1 : LC := .loop F_slices_Concat_impl_Choice_impl_Choice_L1
def F_slices_Concat_impl_Choice_impl_Choice : LF :=
 { nparams := 1, results := [.t 2], body :=
 (.seq
 (.region false [op1 2 (.newnil 1048) []] [2])
 (.seq
 (.region false [op1 3 .mv [.c (.i 0)]] [])
 (.seq
 (.seq
 (.region false [op1 9 .mv [.t 0],
 op1 10 .len [.t 9],
 op1 11 .mv [.c (.i 0)]] [])
 (.block 0
 F_slices_Concat_impl_Choice_impl_Choice_W0))
 (.seq
 (.region false [op1 23 .mv [.t 3],
 op1 24 (.callm n_slices_Grow_impl_Choice_impl_Choice [0] 12288) [.c (.nil), .t 23],
 op1 6 .mv [.t 24]] [3, 9, 10, 11, 23, 24])
 (.seq
 (.seq
 (.region false [op1 25 .mv [.t 0],
 op1 26 .len [.t 25],
 op1 27 .mv [.c (.i 0)]] [0])
 (.block 2
 F_slices_Concat_impl_Choice_impl_Choice_W1))
 (.seq
 (.region false [op1 35 .mv [.t 6],
 op1 2 .mv [.t 35]] [6, 25, 26, 27, 35])
 .ret)))))) }
/-- impl.askedGroup] -/
def F_slices_IndexFunc_impl_askedGroup_impl_askedGroup_L0 : LC :=
 (.seq
 (.region false [op1 9 (.bin .lss) [.t 8, .t 7]] [])
 (.seq
 (.cond (.t 9) [9]
 .skip
 (.exit 0))
 (.seq
 (.block 1
 (.seq
 (.region false [op1 10 .mv [.t 8],
 op1 5 .mv [.t 10]] [10])
 (.seq
 (.region false [op1 11 .mv [.t 1],
 op1 12 .mv [.t 0],
 op1 13 .mv [.t 5],
 op1 14 (.idxa 4) [.t 12, .t 13],
 op1 15 (.load 4 true) [.t 14],
 op1 16 (.calld 8192) [.t 11, .t 15]] [11, 12, 13, 14, 15])
 (.cond (.t 16) [16]
 (.seq
 (.region false [op1 17 .mv [.t 5],
 op1 4 .mv [.t 17]] [0, 1, 5, 7, 8, 17])
 .ret)
 .skip))))
 (.region false [op1 18 (.bin .add) [.t 8, .c (.i 1)],
 op1 8 .mv [.t 18]] [5, 18]))))
def F_slices_IndexFunc_impl_askedGroup_impl_askedGroup_W0 : LC := .loop F_slices_IndexFunc_impl_askedGroup_impl_askedGroup_L0
def F_slices_IndexFunc_impl_askedGroup_impl_askedGroup : LF :=
 { nparams := 2, results := [.t 4], body :=
 (.seq
 (.region false [op1 4 .mv [.c (.i 0)]] [4])
 (.seq
 (.seq
 (.region false [op1 6 .mv [.t 0],
 op1 7 .len [.t 6],
 op1 8 .mv [.c (.i 0)]] [6])
 (.block 0
 F_slices_IndexFunc_impl_askedGroup_impl_askedGroup_W0))
 (.seq
 (.region false [op1 4 .mv [.c (.i (-1))]] [0, 1, 7, 8])
 .ret))) }
/-- impl.nextInGroups$1 -/
def F_impl_nextInGroups_1 : LF :=
 { nparams := 2, results := [.t 3], body :=
 (.seq
 (.region false [op1 2 (.box 1056) [.t 0],
 op1 3 .mv [.c (.b false)]] [0, 3])
 (.seq
 (.region true [op1 4 (.fld 2 1 false) [.t 2],
 op1 5 (.load 1 false) [.t 4],
 op1 6 (.call n_impl_statesWithYes 3072) [.t 5],
 op1 7 (.fld 2 1 false) [.t 1],
 op1 8 (.load 1 false) [.t 7],
 op1 9 (.call n_impl_valueAmong 4608) [.t 6, .t 8],
 op1 10 (.bin .eql) [.t 9, .c (.i (-1))],
 op1 3 .mv [.t 10]] [1, 2, 4, 5, 6, 7, 8, 9, 10])
 .ret)) }
/-- impl.valueAmong -/
def F_impl_valueAmong : LF :=
 { nparams := 2, results := [.t 4], body :=
 (.seq
 (.region false [op1 4 .mv [.c (.i 0)]] [4])
 (.seq
 (.seq
 (.region false [op1 5 .mv [.t 0],
 op1 6 .mv [.t 1],
 op1 7 (.bin .and) [.t 5, .t 6]] [0, 5, 6])
 (.block 0
 (.seq
 (.region false [op1 9 .mv [.t 1],
 op1 10 (.bin .eql) [.t 7, .t 9],
 op1 8 .mv [.t 10]] [1, 9, 10])
 (.cond (.t 8) [8]
 (.seq
 (.region false [op1 4 .mv [.c (.i 1)]] [7])
 .ret)
 (.seq
 (.region false [op1 12 (.bin .eql) [.t 7, .c (.w (0#32))],
 op1 11 .mv [.t 12]] [7, 12])
 (.cond (.t 11) [11]
 (.seq
 (.region false [op1 4 .mv [.c (.i 0)]] [])
 .ret)
 .skip))))))
 (.seq
 (.region false [op1 4 .mv [.c (.i (-1))]] [])
 .ret))) }
/-- impl.statesWithYes -/
def F_impl_statesWithYes_L0 : LC :=
 (.seq
 (.region false [op1 9 (.bin .lss) [.t 8, .t 7]] [])
 (.seq
 (.cond (.t 9) [9]
 .skip
 (.exit 0))
 (.seq
 (.block 1
 (.seq
 (.region false [op1 10 (.idxa 1) [.t 6, .t 8],
 op1 11 (.load 1 false) [.t 10],
 op1 5 .mv [.t 11]] [10, 11])
 (.region false [op1 12 .mv [.t 3],
 op1 13 .mv [.t 5],
 op1 14 (.idxp 5 1) [.t 1048578, .t 13],
 op1 15 (.load 1 false) [.t 14],
 op1 16 (.bin .or) [.t 12, .t 15],
 op1 3 .mv [.t 16]] [5, 12, 13, 14, 15, 16])))
 (.region false [op1 17 (.bin .add) [.t 8, .c (.i 1)],
 op1 8 .mv [.t 17]] [17]))))
def F_impl_statesWithYes_W0 : LC := .loop F_impl_statesWithYes_L0
def F_impl_statesWithYes : LF :=
 { gl := [2], nparams := 1, results := [.t 2], body :=
 (.seq
 (.region false [op1 2 .mv [.c (.w (0#32))]] [2])
 (.seq
 (.region false [op1 3 .mv [.c (.w (0#32))]] [])
 (.seq
 (.seq
 (.region false [op1 6 .mv [.t 0],
 op1 7 .len [.t 6],
 op1 8 .mv [.c (.i 0)]] [0])
 (.block 0
 F_impl_statesWithYes_W0))
 (.seq
 (.region false [op1 18 .mv [.t 3],
 op1 2 .mv [.t 18]] [3, 6, 7, 8, 18])
 .ret)))) }
/-- slices.IndexFunc[[]int,int] -/
def F_slices_IndexFunc_int_int_L0 : LC :=
 (.seq
 (.region false [op1 9 (.bin .lss) [.t 8, .t 7]] [])
 (.seq
 (.cond (.t 9) [9]
 .skip
 (.exit 0))
 (.seq
 (.block 1
 (.seq
 (.region false [op1 10 .mv [.t 8],
 op1 5 .mv [.t 10]] [10])
 (.seq
 (.region false [op1 11 .mv [.t 1],
 op1 12 .mv [.t 0],
 op1 13 .mv [.t 5],
 op1 14 (.idxa 1) [.t 12, .t 13],
 op1 15 (.load 1 false) [.t 14],
 op1 16 (.calld 8192) [.t 11, .t 15]] [11, 12, 13, 14, 15])
 (.cond (.t 16) [16]
 (.seq
 (.region false [op1 17 .mv [.t 5],
 op1 4 .mv [.t 17]] [0, 1, 5, 7, 8, 17])
 .ret)
 .skip))))
 (.region false [op1 18 (.bin .add) [.t 8, .c (.i 1)],
 op1 8 .mv [.t 18]] [5, 18]))))
def F_slices_IndexFunc_int_int_W0 : LC := .loop F_slices_IndexFunc_int_int_L0
def F_slices_IndexFunc_int_int : LF :=
 { nparams := 2, results := [.t 4], body :=
 (.seq
 (.region false [op1 4 .mv [.c (.i 0)]] [4])
 (.seq
 (.seq
 (.region false [op1 6 .mv [.t 0],
 op1 7 .len [.t 6],
 op1 8 .mv [.c (.i 0)]] [6])
 (.block 0
 F_slices_IndexFunc_int_int_W0))
 (.seq
 (.region false [op1 4 .mv [.c (.i (-1))]] [0, 1, 7, 8])
 .ret))) }
/-- spec.GroupsOk -/
def F_spec_GroupsOk_L1 : LC :=
 (.seq
 (.seq
 (.region false [op1 22 .mv [.t 8],
 op1 23 .mv [.t 1],
 op1 24 .mv [.t 7],
 op1 25 (.idxa 1) [.t 23, .t 24],
 op1 26 (.load 1 false) [.t 25],
 op1 27 .len [.t 26],
 op1 28 (.bin .lss) [.t 22, .t 27]] [22, 23, 24, 25, 26, 27])
 (.cond (.t 28) [28]
 .skip
 (.exit 2)))
 (.seq
 (.block 3
 (.seq
 (.region false [op1 31 .mv [.t 1],
 op1 32 .mv [.t 7],
 op1 33 (.idxa 1) [.t 31, .t 32],
 op1 34 (.load 1 false) [.t 33],
 op1 35 .mv [.t 8],
 op1 36 (.idxa 1) [.t 34, .t 35],
 op1 37 (.load 1 false) [.t 36],
 op1 9 .mv [.t 37]] [31, 32, 33, 34, 35, 36, 37])
 (.seq
 (.seq
 (.region false [op1 38 .mv [.t 9],
 op1 39 (.bin .lss) [.t 38, .c (.i 0)],
 op1 40 .mv [.t 39],
 op2 41 .mv [.t 9] 40 false,
 op2 42 .mv [.t 0] 40 false,
 op2 43 (.bin .geq) [.t 41, .t 42] 40 false,
 op1 44 .pick [.t 40, .c (.b true), .t 43],
 op1 45 .mv [.t 44],
 op2 46 .mv [.t 9] 45 false,
 op2 47 (.bin .geq) [.t 46, .c (.i 5)] 45 false,
 op1 48 .pick [.t 45, .c (.b true), .t 47],
 op1 49 .mv [.t 48],
 op2 50 .mv [.t 5] 49 false,
 op2 51 .mv [.t 9] 49 false,
 op2 52 (.bin .shr) [.t 50, .t 51] 49 false,
 op2 53 (.bin .rem) [.t 52, .c (.i 2)] 49 false,
 op2 54 (.bin .eql) [.t 53, .c (.i 1)] 49 false,
 op1 55 .pick [.t 49, .c (.b true), .t 54]] [38, 39, 40, 41, 42, 43, 44, 45, 46, 47, 48, 49, 50, 51, 52, 53, 54])
 (.cond (.t 55) [55]
 (.seq
 (.region false [op1 4 .mv [.c (.b false)]] [0, 1, 5, 6, 7, 8, 9])
 .ret)
 .skip))
 (.seq
 (.region false [op1 56 .mv [.t 5],
 op1 57 .mv [.t 9],
 op1 58 (.bin .shl) [.c (.i 1), .t 57],
 op1 59 (.bin .or) [.t 56, .t 58],
 op1 5 .mv [.t 59]] [9, 56, 57, 58, 59])
 (.region false [op1 60 .mv [.t 6],
 op1 61 (.bin .add) [.t 60, .c (.i 1)],
 op1 6 .mv [.t 61]] [60, 61])))))
 (.region false [op1 29 .mv [.t 8],
 op1 30 (.bin .add) [.t 29, .c (.i 1)],
 op1 8 .mv [.t 30]] [29, 30])))
def F_spec_GroupsOk_W1 : LC := .loop F_spec_GroupsOk_L1
def F_spec_GroupsOk_L0 : LC :=
 (.seq
 (.seq
 (.region false [op1 10 .mv [.t 7],
 op1 11 .mv [.t 1],
 op1 12 .len [.t 11],
 op1 13 (.bin .lss) [.t 10, .t 12]] [10, 11, 12])
 (.cond (.t 13) [13]
 .skip
 (.exit 0)))
 (.seq
 (.block 1
 (.seq
 (.seq
 (.region false [op1 16 .mv [.t 1],
 op1 17 .mv [.t 7],
 op1 18 (.idxa 1) [.t 16, .t 17],
 op1 19 (.load 1 false) [.t 18],
 op1 20 .len [.t 19],
 op1 21 (.bin .eql) [.t 20, .c (.i 0)]] [16, 17, 18, 19, 20])
 (.cond (.t 21) [21]
 (.seq
 (.region false [op1 4 .mv [.c (.b false)]] [0, 1, 5, 6, 7])
 .ret)
 .skip))
 (.seq
 (.region false [op1 8 .mv [.c (.i 0)]] [])
 (.block 2
 F_spec_GroupsOk_W1))))
 (.region false [op1 14 .mv [.t 7],
 op1 15 (.bin .add) [.t 14, .c (.i 1)],
 op1 7 .mv [.t 15]] [8, 14, 15])))
def F_spec_GroupsOk_W0 : LC := .loop F_spec_GroupsOk_L0
def F_spec_GroupsOk : LF :=
 { nparams := 2, results := [.t 4], body :=
 (.seq
 (.region false [op1 4 .mv [.c (.b false)]] [4])
 (.seq
 (.region false [op1 5 .mv [.c (.i 0)]] [])
 (.seq
 (.region false [op1 6 .mv [.c (.i 0)]] [])
 (.seq
 (.seq
 (.region false [op1 7 .mv [.c (.i 0)]] [])
 (.block 0
 F_spec_GroupsOk_W0))
 (.seq
 (.region false [op1 62 .mv [.t 0],
 op1 63 (.call n_spec_l1In 32256) [.t 62, .c (.i 1), .c (.i 5)],
 op1 64 .mv [.t 63],
 op2 65 .mv [.t 6] 64 true,
 op2 66 .mv [.t 0] 64 true,
 op2 67 (.bin .eql) [.t 65, .t 66] 64 true,
 op1 68 .pick [.t 64, .t 67, .c (.b false)],
 op1 4 .mv [.t 68]] [0, 1, 5, 6, 7, 62, 63, 64, 65, 66, 67, 68])
 .ret))))) }
/-- spec.l7Inside -/
def F_spec_l7Inside_L1 : LC :=
 (.seq
 (.seq
 (.region false [op1 18 .mv [.t 7],
 op1 19 .mv [.t 5],
 op1 20 .len [.t 19],
 op1 21 (.bin .lss) [.t 18, .t 20]] [18, 19, 20])
 (.cond (.t 21) [21]
 .skip
 (.exit 2)))
 (.block 3
 (.seq
 (.region false [op1 22 .mv [.t 0],
 op1 23 .mv [.t 5],
 op1 24 .mv [.t 7],
 op1 25 (.idxa 1) [.t 23, .t 24],
 op1 26 (.load 1 false) [.t 25],
 op1 27 (.idxa 2) [.t 22, .t 26],
 op1 28 (.load 2 true) [.t 27],
 op1 8 (.alloc 4112 (.st [.i 0, .i 0])) [],
 ⟨none, .store 2, [.t 8, .t 28], none⟩] [22, 23, 24, 25, 26, 27, 28])
 (.seq
 (.region false [op1 29 .mv [.t 0],
 op1 30 .mv [.t 1],
 op1 31 .mv [.t 6],
 op1 32 (.idxa 1) [.t 30, .t 31],
 op1 33 (.load 1 false) [.t 32],
 op1 34 (.idxa 2) [.t 29, .t 33],
 op1 35 (.load 2 true) [.t 34],
 op1 9 (.alloc 4624 (.st [.i 0, .i 0])) [],
 ⟨none, .store 2, [.t 9, .t 35], none⟩] [29, 30, 31, 32, 33, 34, 35])
 (.seq
 (.seq
 (.region true [op1 36 (.fld 0 1 false) [.t 8],
 op1 37 (.load 1 false) [.t 36],
 op1 38 (.fld 1 1 false) [.t 9],
 op1 39 (.load 1 false) [.t 38],
 op1 40 (.bin .mul) [.t 37, .t 39],
 op1 41 (.fld 0 1 false) [.t 9],
 op1 42 (.load 1 false) [.t 41],
 op1 43 (.fld 1 1 false) [.t 8],
 op1 44 (.load 1 false) [.t 43],
 op1 45 (.bin .mul) [.t 42, .t 44],
 op1 46 (.bin .gtr) [.t 40, .t 45],
 op1 47 .mv [.t 46],
 op2 48 (.fld 0 1 false) [.t 8] 47 false,
 op2 49 (.load 1 false) [.t 48] 47 false,
 op2 50 (.fld 1 1 false) [.t 9] 47 false,
 op2 51 (.load 1 false) [.t 50] 47 false,
 op2 52 (.bin .mul) [.t 49, .t 51] 47 false,
 op2 53 (.fld 0 1 false) [.t 9] 47 false,
 op2 54 (.load 1 false) [.t 53] 47 false,
 op2 55 (.fld 1 1 false) [.t 8] 47 false,
 op2 56 (.load 1 false) [.t 55] 47 false,
 op2 57 (.bin .mul) [.t 54, .t 56] 47 false,
 op2 58 (.bin .eql) [.t 52, .t 57] 47 false,
 op2 59 .mv [.t 58] 47 false,
 op2 60 .mv [.t 5] 59 true,
 op2 61 .mv [.t 7] 59 true,
 op2 62 (.idxa 1) [.t 60, .t 61] 59 true,
 op2 63 (.load 1 false) [.t 62] 59 true,
 op2 64 .mv [.t 1] 59 true,
 op2 65 .mv [.t 6] 59 true,
 op2 66 (.idxa 1) [.t 64, .t 65] 59 true,
 op2 67 (.load 1 false) [.t 66] 59 true,
 op2 68 (.bin .gtr) [.t 63, .t 67] 59 true,
 op2 69 .pick [.t 59, .t 68, .c (.b false)] 47 false,
 op1 70 .pick [.t 47, .c (.b true), .t 69]] [8, 9, 36, 37, 38, 39, 40, 41, 42, 43, 44, 45, 46, 47, 48, 49, 50, 51, 52, 53, 54, 55, 56, 57, 58, 59, 60, 61, 62, 63, 64, 65, 66, 67, 68, 69])
 (.cond (.t 70) [70]
 (.exit 2)
 .skip))
 (.region false [op1 71 .mv [.t 7],
 op1 72 (.bin .add) [.t 71, .c (.i 1)],
 op1 7 .mv [.t 72]] [71, 72]))))))
def F_spec_l7Inside_W1 : LC := .loop F_spec_l7Inside_L1
def F_spec_l7Inside_L0 : LC :=
 (.ghost (.rename 5 5640)
 (.seq
 (.seq
 (.region false [op1 12 .mv [.t 6],
 op1 13 .mv [.t 1],
 op1 14 .len [.t 13],
 op1 15 (.bin .lss) [.t 12, .t 14]] [12, 13, 14])
 (.cond (.t 15) [15]
 .skip
 (.exit 0)))
 (.seq
 (.block 1
 (.seq
 (.region false [op1 7 .mv [.c (.i 0)]] [])
 (.seq
 (.block 2
 F_spec_l7Inside_W1)
 (.seq
 (.region false [op1 73 (.bslice 37384 0 1 (.i 0) []) [],
 op1 74 .mv [.t 5],
 op1 75 .mv [.t 7],
 op1 76 (.slice false true 1) [.t 74, .t 75],
 op1 77 (.app 39432 1) [.t 73, .t 76],
 op1 10 .mv [.t 77]] [73, 74, 75, 76, 77])
 (.seq
 (.region false [op1 78 .mv [.t 10],
 op1 79 .mv [.t 1],
 op1 80 .mv [.t 6],
 op1 81 (.idxa 1) [.t 79, .t 80],
 op1 82 (.load 1 false) [.t 81],
 op1 83 (.bslice 42504 1 1 (.i 0) [0]) [.t 82],
 op1 84 (.app 43016 1) [.t 78, .t 83],
 op1 10 .mv [.t 84]] [78, 79, 80, 81, 82, 83, 84])
 (.region false [op1 85 .mv [.t 10],
 op1 86 .mv [.t 5],
 op1 87 .mv [.t 7],
 op1 88 (.slice true false 1) [.t 86, .t 87],
 op1 89 (.app 45576 1) [.t 85, .t 88],
 op1 5 .mv [.t 89]] [7, 10, 85, 86, 87, 88, 89]))))))
 (.region false [op1 16 .mv [.t 6],
 op1 17 (.bin .add) [.t 16, .c (.i 1)],
 op1 6 .mv [.t 17]] [16, 17]))))
def F_spec_l7Inside_W0 : LC := .loop F_spec_l7Inside_L0
def F_spec_l7Inside : LF :=
 { nparams := 2, results := [.t 4], body :=
 (.seq
 (.region false [op1 4 (.newnil 2056) []] [4])
 (.seq
 (.region false [op1 11 (.bslice 5640 0 1 (.i 0) []) [],
 op1 5 .mv [.t 11]] [11])
 (.seq
 (.seq
 (.region false [op1 6 .mv [.c (.i 0)]] [])
 (.block 0
 F_spec_l7Inside_W0))
 (.seq
 (.region false [op1 90 .mv [.t 5],
 op1 4 .mv [.t 90]] [0, 1, 5, 6, 90])
 .ret)))) }
/-- impl.comesTo -/
def F_impl_comesTo : LF :=
 { nparams := 4, results := [.t 8], body :=
 (.seq
 (.region false [op1 7 (.box 3616) [.t 3],
 op1 8 .mv [.c (.b false)]] [3, 8])
 (.seq
 (.seq
 (.region false [op1 9 .mv [.t 2],
 op1 10 (.bin .eql) [.t 9, .c (.i (-1))],
 op1 11 .mv [.t 10],
 op2 12 (.load 4 true) [.t 7] 11 false,
 op2 13 (.call n_impl_point_isForced 6656) [.t 12] 11 false,
 op1 14 .pick [.t 11, .c (.b true), .t 13]] [9, 10, 11, 12, 13])
 (.cond (.t 14) [14]
 (.seq
 (.region false [op1 15 .mv [.t 2],
 op1 16 (.bin .eql) [.t 15, .c (.i (-1))],
 op1 17 .mv [.t 16],
 op2 18 (.load 4 true) [.t 7] 17 true,
 op2 19 (.call n_impl_point_isForced 9728) [.t 18] 17 true,
 op1 20 .pick [.t 17, .t 19, .c (.b false)],
 op1 8 .mv [.t 20]] [1, 2, 7, 15, 16, 17, 18, 19, 20])
 .ret)
 .skip))
 (.seq
 (.seq
 (.region false [op1 21 .mv [.t 2],
 op1 22 .mv [.t 1],
 op1 23 (.bin .add) [.t 22, .c (.i 1)],
 op1 24 .mv [.t 0],
 op1 25 .len [.t 24],
 op1 26 (.bin .sub) [.t 25, .c (.i 1)],
 op1 27 (.call n_impl_isWithin 13824) [.t 21, .t 23, .t 26],
 op1 28 (.un .not) [.t 27],
 op1 29 .mv [.t 28],
 op2 30 .mv [.t 0] 29 false,
 op2 31 .mv [.t 2] 29 false,
 op2 32 (.idxa 4) [.t 30, .t 31] 29 false,
 op2 33 (.load 4 true) [.t 32] 29 false,
 op2 34 (.build [.i 0, .i 0, .w (0#32), .w (0#32)] []) [] 29 false,
 op2 35 (.eqs true 4) [.t 33, .t 34] 29 false,
 op1 36 .pick [.t 29, .c (.b true), .t 35]] [1, 21, 22, 23, 24, 25, 26, 27, 28, 29, 30, 31, 32, 33, 34, 35])
 (.cond (.t 36) [36]
 (.seq
 (.region false [op1 8 .mv [.c (.b false)]] [2, 7])
 .ret)
 .skip))
 (.seq
 (.region false [op1 37 .mv [.t 0],
 op1 38 .mv [.t 2],
 op1 39 (.load 4 true) [.t 7],
 op1 40 (.idxa 4) [.t 37, .t 38],
 ⟨none, .store 4, [.t 40, .t 39], none⟩] [2, 7, 37, 38, 39, 40])
 (.seq
 (.region false [op1 8 .mv [.c (.b true)]] [])
 .ret))))) }
/-- impl.firstOf -/
def F_impl_firstOf : LF :=
 { nparams := 1, results := [.t 2], body :=
 (.seq
 (.region false [op1 2 .mv [.c (.i 0)]] [2])
 (.seq
 (.seq
 (.region false [op1 3 .mv [.t 0],
 op1 4 .len [.t 3],
 op1 5 (.bin .eql) [.t 4, .c (.i 0)]] [0, 3, 4])
 (.cond (.t 5) [5]
 (.seq
 (.region false [op1 2 .mv [.c (.i (-1))]] [])
 .ret)
 .skip))
 (.seq
 (.region false [op1 2 .mv [.c (.i 0)]] [])
 .ret))) }
/-- impl.CostBy -/
def F_impl_CostBy_L0 : LC :=
 (.seq
 (.seq
 (.region false [op1 36 .mv [.t 14],
 op1 37 (.bin .neq) [.t 36, .c (.i (-1))]] [36])
 (.cond (.t 37) [37]
 .skip
 (.exit 0)))
 (.seq
 (.block 1
 (.seq
 (.region false [op1 44 .mv [.t 2],
 op1 45 .mv [.t 14],
 op1 46 (.idxa 3) [.t 44, .t 45],
 op1 47 (.fld 0 1 false) [.t 46],
 op1 48 (.load 1 false) [.t 47],
 op1 15 .mv [.t 48]] [44, 45, 46, 47, 48])
 (.seq
 (.region false [op1 49 .mv [.t 12],
 op1 50 .mv [.t 0],
 op1 51 .mv [.t 15],
 op1 52 (.idxa 2) [.t 50, .t 51],
 op1 53 (.fld 0 1 false) [.t 52],
 op1 54 (.load 1 false) [.t 53],
 op1 55 (.bin .add) [.t 49, .t 54],
 op1 12 .mv [.t 55]] [49, 50, 51, 52, 53, 54, 55])
 (.region false [op1 56 .mv [.t 13],
 op1 57 .mv [.t 15],
 op1 58 (.bin .shl) [.c (.i 1), .t 57],
 op1 59 (.bin .or) [.t 56, .t 58],
 op1 13 .mv [.t 59]] [15, 56, 57, 58, 59]))))
 (.region false [op1 38 .mv [.t 2],
 op1 39 .mv [.t 14],
 op1 40 (.idxa 3) [.t 38, .t 39],
 op1 41 (.load 3 true) [.t 40],
 op1 42 .mv [.t 3],
 op1 43 (.call n_impl_Choice_nextIn 22016) [.t 41, .t 42],
 op1 14 .mv [.t 43]] [38, 39, 40, 41, 42, 43])))
def F_impl_CostBy_W0 : LC := .loop F_impl_CostBy_L0
def F_impl_CostBy : LF :=
 { nparams := 4, results := [.t 8, .t 9, .t 10], body :=
 (.seq
 (.region false [op1 8 .mv [.c (.i 0)],
 op1 9 .mv [.c (.i 0)],
 op1 10 .mv [.c (.b false)]] [8, 9, 10])
 (.seq
 (.region false [op1 16 .mv [.t 0],
 op1 17 .len [.t 16],
 op1 11 .mv [.t 17]] [16, 17])
 (.seq
 (.seq
 (.region false [op1 18 .mv [.t 0],
 op1 19 (.call n_impl_TestsOk 9728) [.t 18],
 op1 20 (.un .not) [.t 19],
 op1 21 .mv [.t 20],
 op2 22 .mv [.t 11] 21 false,
 op2 23 .mv [.t 1] 21 false,
 op2 24 .mv [.t 2] 21 false,
 op2 25 (.call n_impl_PlanOk 12800) [.t 22, .t 23, .t 24] 21 false,
 op2 26 (.un .not) [.t 25] 21 false,
 op1 27 .pick [.t 21, .c (.b true), .t 26],
 op1 28 .mv [.t 27],
 op2 29 .mv [.t 11] 28 false,
 op2 30 .mv [.t 3] 28 false,
 op2 31 (.call n_impl_StateOk 15872) [.t 29, .t 30] 28 false,
 op2 32 (.un .not) [.t 31] 28 false,
 op1 33 .pick [.t 28, .c (.b true), .t 32]] [1, 11, 18, 19, 20, 21, 22, 23, 24, 25, 26, 27, 28, 29, 30, 31, 32])
 (.cond (.t 33) [33]
 (.seq
 (.region false [op1 8 .mv [.c (.i 0)],
 op1 9 .mv [.c (.i 0)],
 op1 10 .mv [.c (.b false)]] [0, 2, 3])
 .ret)
 .skip))
 (.seq
 (.region false [op1 12 .mv [.c (.i 0)],
 op1 13 .mv [.c (.i 0)]] [])
 (.seq
 (.seq
 (.region false [op1 34 .mv [.t 2],
 op1 35 (.call n_impl_firstOf 17920) [.t 34],
 op1 14 .mv [.t 35]] [34, 35])
 (.block 0
 F_impl_CostBy_W0))
 (.seq
 (.region false [op1 60 .mv [.t 12],
 op1 61 .mv [.t 13],
 op1 8 .mv [.t 60],
 op1 9 .mv [.t 61],
 op1 10 .mv [.c (.b true)]] [0, 2, 3, 12, 13, 14, 60, 61])
 .ret)))))) }
/-- slices.rotateRight[int] -/
def F_slices_rotateRight_int : LF :=
 { nparams := 2, results := [], body :=
 (.region false [op1 4 .mv [.t 0],
 op1 5 .mv [.t 0],
 op1 6 .len [.t 5],
 op1 7 .mv [.t 1],
 op1 8 (.bin .sub) [.t 6, .t 7],
 op1 9 (.call n_slices_rotateLeft_int 4608) [.t 4, .t 8]] [0, 1, 4, 5, 6, 7, 8, 9]) }
/-- impl.statesSaying -/
def F_impl_statesSaying : LF :=
 { gl := [2], nparams := 2, results := [.t 4], body :=
 (.seq
 (.region false [op1 4 .mv [.c (.w (0#32))]] [4])
 (.seq
 (.seq
 (.region false [op1 5 .mv [.t 1],
 op1 6 (.bin .eql) [.t 5, .c (.i 1)]] [1, 5])
 (.cond (.t 6) [6]
 (.seq
 (.region false [op1 7 .mv [.t 0],
 op1 8 (.idxp 5 1) [.t 1048578, .t 7],
 op1 9 (.load 1 false) [.t 8],
 op1 4 .mv [.t 9]] [0, 7, 8, 9])
 .ret)
 .skip))
 (.seq
 (.region false [op1 10 .mv [.t 0],
 op1 11 (.idxp 5 1) [.t 1048578, .t 10],
 op1 12 (.load 1 false) [.t 11],
 op1 13 (.un .xor) [.t 12],
 op1 4 .mv [.t 13]] [0, 10, 11, 12, 13])
 .ret))) }
/-- spec.l20Order -/
def F_spec_l20Order_L0 : LC :=
 (.ghost (.rename 7 5640)
 (.seq
 (.seq
 (.region false [op1 12 .mv [.t 8],
 op1 13 .mv [.t 1],
 op1 14 (.bin .lss) [.t 12, .t 13]] [12, 13])
 (.cond (.t 14) [14]
 .skip
 (.exit 0)))
 (.seq
 (.block 1
 (.seq
 (.region false [op1 17 .mv [.t 0],
 op1 18 .mv [.t 7],
 op1 19 .len [.t 18],
 op1 20 (.bin .add) [.t 19, .c (.i 1)],
 op1 21 (.call n_spec_l20Rd_pick 10752) [.t 17, .t 20],
 op1 9 .mv [.t 21]] [17, 18, 19, 20, 21])
 (.seq
 (.region false [op1 22 (.bslice 11272 0 1 (.i 0) []) [],
 op1 23 .mv [.t 7],
 op1 24 .mv [.t 9],
 op1 25 (.slice false true 1) [.t 23, .t 24],
 op1 26 (.app 13320 1) [.t 22, .t 25],
 op1 10 .mv [.t 26]] [22, 23, 24, 25, 26])
 (.seq
 (.region false [op1 27 .mv [.t 10],
 op1 28 .mv [.t 8],
 op1 29 (.bslice 14856 1 1 (.i 0) [0]) [.t 28],
 op1 30 (.app 15368 1) [.t 27, .t 29],
 op1 10 .mv [.t 30]] [27, 28, 29, 30])
 (.region false [op1 31 .mv [.t 10],
 op1 32 .mv [.t 7],
 op1 33 .mv [.t 9],
 op1 34 (.slice true false 1) [.t 32, .t 33],
 op1 35 (.app 17928 1) [.t 31, .t 34],
 op1 7 .mv [.t 35]] [9, 10, 31, 32, 33, 34, 35])))))
 (.region false [op1 15 .mv [.t 8],
 op1 16 (.bin .add) [.t 15, .c (.i 1)],
 op1 8 .mv [.t 16]] [15, 16]))))
def F_spec_l20Order_W0 : LC := .loop F_spec_l20Order_L0
def F_spec_l20Order : LF :=
 { nparams := 3, results := [.t 6], body :=
 (.seq
 (.region false [op1 6 (.newnil 3080) []] [6])
 (.seq
 (.region false [op1 11 (.bslice 5640 0 1 (.i 0) []) [],
 op1 7 .mv [.t 11]] [11])
 (.seq
 (.seq
 (.region false [op1 8 .mv [.c (.i 0)]] [])
 (.block 0
 F_spec_l20Order_W0))
 (.seq
 (.seq
 (.region false [op1 36 .mv [.t 0],
 op1 37 .mv [.t 2],
 op1 38 (.call n_spec_l20Rd_odd 19456) [.t 36, .t 37]] [1, 2, 8, 36, 37])
 (.cond (.t 38) [38]
 (.seq
 (.region false [op1 39 .mv [.t 0],
 op1 40 (.call n_spec_l20Rd_pick 20480) [.t 39, .c (.i 2)]] [39])
 (.block 2
 (.seq
 (.region false [op1 52 (.bin .eql) [.t 40, .c (.i 0)],
 op1 51 .mv [.t 52]] [40, 52])
 (.cond (.t 51) [51]
 (.seq
 (.region false [op1 53 .mv [.t 7],
 op1 54 (.bslice 27656 1 1 (.i 0) [0]) [.c (.i 0)],
 op1 55 (.app 28168 1) [.t 53, .t 54],
 op1 6 .mv [.t 55]] [7, 53, 54, 55])
 .ret)
 (.seq
 (.region false [op1 41 .mv [.t 7],
 op1 42 .len [.t 41],
 op1 43 (.bin .gtr) [.t 42, .c (.i 0)]] [41, 42])
 (.cond (.t 43) [43]
 (.region false [op1 44 .mv [.t 7],
 op1 45 (.bslice 23048 2 1 (.i 0) [0, 1]) [.c (.i 5), .c (.i (-1))],
 op1 46 .mv [.t 0],
 op1 47 (.call n_spec_l20Rd_pick 24064) [.t 46, .c (.i 2)],
 op1 48 (.idxa 1) [.t 45, .t 47],
 op1 49 (.load 1 false) [.t 48],
 op1 50 (.idxa 1) [.t 44, .c (.i 0)],
 ⟨none, .store 1, [.t 50, .t 49], none⟩] [44, 45, 46, 47, 48, 49, 50])
 .skip))))))
 .skip))
 (.seq
 (.region false [op1 56 .mv [.t 7],
 op1 6 .mv [.t 56]] [7, 56])
 .ret))))) }
/-- impl.askedGroup] -/
def F_slices_Insert_impl_askedGroup_impl_askedGroup : LF :=
 { nparams := 3, results := [], body := .skip, prim := some (insPS 4) }
/-- slices.Contains[[]int,int] -/
def F_slices_Contains_int_int : LF :=
 { nparams := 2, results := [.t 4], body :=
 (.seq
 (.region false [op1 4 .mv [.c (.b false)]] [4])
 (.seq
 (.region false [op1 5 .mv [.t 0],
 op1 6 .mv [.t 1],
 op1 7 (.call n_slices_Index_int_int 3584) [.t 5, .t 6],
 op1 8 (.bin .geq) [.t 7, .c (.i 0)],
 op1 4 .mv [.t 8]] [0, 1, 5, 6, 7, 8])
 .ret)) }
/-- impl.Choice] -/
def F_slices_Grow_impl_Choice_impl_Choice : LF :=
 { nparams := 2, results := [], body := .skip, prim := some (growP 3) }
/-- impl.Choice).nextIn -/
def F_impl_Choice_nextIn : LF :=
 { nparams := 2, results := [.t 4], body :=
 (.seq
 (.region false [op1 2 (.box 1048) [.t 0],
 op1 4 .mv [.c (.i 0)]] [0, 4])
 (.seq
 (.seq
 (.region false [op1 5 .mv [.t 1],
 op1 6 (.fld 0 1 false) [.t 2],
 op1 7 (.load 1 false) [.t 6],
 op1 8 (.call n_impl_outcomeIn 4096) [.t 5, .t 7],
 op1 9 (.bin .eql) [.t 8, .c (.i 1)]] [1, 5, 6, 7, 8])
 (.cond (.t 9) [9]
 (.seq
 (.region false [op1 10 (.fld 2 1 false) [.t 2],
 op1 11 (.load 1 false) [.t 10],
 op1 4 .mv [.t 11]] [2, 10, 11])
 .ret)
 .skip))
 (.seq
 (.region false [op1 12 (.fld 1 1 false) [.t 2],
 op1 13 (.load 1 false) [.t 12],
 op1 4 .mv [.t 13]] [2, 12, 13])
 .ret))) }
/-- slices.rotateLeft[int] -/
def F_slices_rotateLeft_int : LF :=
 { nparams := 2, results := [], body :=
 (.seq
 (.region false [op1 4 .mv [.t 0],
 op1 5 .mv [.t 1],
 op1 6 (.slice false true 1) [.t 4, .t 5],
 op1 7 (.call n_slices_Reverse_int_int 3584) [.t 6]] [4, 5, 6, 7])
 (.seq
 (.region false [op1 8 .mv [.t 0],
 op1 9 .mv [.t 1],
 op1 10 (.slice true false 1) [.t 8, .t 9],
 op1 11 (.call n_slices_Reverse_int_int 5632) [.t 10]] [1, 8, 9, 10, 11])
 (.region false [op1 12 .mv [.t 0],
 op1 13 (.call n_slices_Reverse_int_int 6656) [.t 12]] [0, 12, 13]))) }
/-- impl.askedGroup] -/
def F_slices_rotateRight_impl_askedGroup : LF :=
 { nparams := 2, results := [], body :=
 (.region false [op1 4 .mv [.t 0],
 op1 5 .mv [.t 0],
 op1 6 .len [.t 5],
 op1 7 .mv [.t 1],
 op1 8 (.bin .sub) [.t 6, .t 7],
 op1 9 (.call n_slices_rotateLeft_impl_askedGroup 4608) [.t 4, .t 8]] [0, 1, 4, 5, 6, 7, 8, 9]) }
/-- slices.Index[[]int,int] -/
def F_slices_Index_int_int_L0 : LC :=
 (.seq
 (.region false [op1 9 (.bin .lss) [.t 8, .t 7]] [])
 (.seq
 (.cond (.t 9) [9]
 .skip
 (.exit 0))
 (.seq
 (.block 1
 (.seq
 (.region false [op1 10 .mv [.t 8],
 op1 5 .mv [.t 10]] [10])
 (.seq
 (.region false [op1 11 .mv [.t 1],
 op1 12 .mv [.t 0],
 op1 13 .mv [.t 5],
 op1 14 (.idxa 1) [.t 12, .t 13],
 op1 15 (.load 1 false) [.t 14],
 op1 16 (.bin .eql) [.t 11, .t 15]] [11, 12, 13, 14, 15])
 (.cond (.t 16) [16]
 (.seq
 (.region false [op1 17 .mv [.t 5],
 op1 4 .mv [.t 17]] [0, 1, 5, 7, 8, 17])
 .ret)
 .skip))))
 (.region false [op1 18 (.bin .add) [.t 8, .c (.i 1)],
 op1 8 .mv [.t 18]] [5, 18]))))
def F_slices_Index_int_int_W0 : LC := .loop F_slices_Index_int_int_L0
def F_slices_Index_int_int : LF :=
 { nparams := 2, results := [.t 4], body :=
 (.seq
 (.region false [op1 4 .mv [.c (.i 0)]] [4])
 (.seq
 (.seq
 (.region false [op1 6 .mv [.t 0],
 op1 7 .len [.t 6],
 op1 8 .mv [.c (.i 0)]] [6])
 (.block 0
 F_slices_Index_int_int_W0))
 (.seq
 (.region false [op1 4 .mv [.c (.i (-1))]] [0, 1, 7, 8])
 .ret))) }
/-- slices.Reverse[[]int,int] -/
def F_slices_Reverse_int_int_L0 : LC :=
 (.seq
 (.seq
 (.region false [op1 7 .mv [.t 2],
 op1 8 .mv [.t 3],
 op1 9 (.bin .lss) [.t 7, .t 8]] [7, 8])
 (.cond (.t 9) [9]
 .skip
 (.exit 0)))
 (.seq
 (.block 1
 (.region true [op1 14 .mv [.t 0],
 op1 15 .mv [.t 2],
 op1 16 .mv [.t 0],
 op1 17 .mv [.t 3],
 op1 18 .mv [.t 0],
 op1 19 .mv [.t 3],
 op1 20 (.idxa 1) [.t 18, .t 19],
 op1 21 (.load 1 false) [.t 20],
 op1 22 .mv [.t 0],
 op1 23 .mv [.t 2],
 op1 24 (.idxa 1) [.t 22, .t 23],
 op1 25 (.load 1 false) [.t 24],
 op1 26 (.idxa 1) [.t 14, .t 15],
 ⟨none, .store 1, [.t 26, .t 21], none⟩,
 op1 27 (.idxa 1) [.t 16, .t 17],
 ⟨none, .store 1, [.t 27, .t 25], none⟩] [14, 15, 16, 17, 18, 19, 20, 21, 22, 23, 24, 25, 26, 27]))
 (.region false [op1 10 .mv [.t 2],
 op1 11 (.bin .add) [.t 10, .c (.i 1)],
 op1 12 .mv [.t 3],
 op1 13 (.bin .sub) [.t 12, .c (.i 1)],
 op1 2 .mv [.t 11],
 op1 3 .mv [.t 13]] [10, 11, 12, 13])))
def F_slices_Reverse_int_int_W0 : LC := .loop F_slices_Reverse_int_int_L0
def F_slices_Reverse_int_int : LF :=
 { nparams := 1, results := [], body :=
 (.seq
 (.region false [op1 4 .mv [.t 0],
 op1 5 .len [.t 4],
 op1 6 (.bin .sub) [.t 5, .c (.i 1)],
 op1 2 .mv [.c (.i 0)],
 op1 3 .mv [.t 6]] [4, 5, 6])
 (.block 0
 F_slices_Reverse_int_int_W0)) }
/-- impl.askedGroup] -/
def F_slices_rotateLeft_impl_askedGroup : LF :=
 { nparams := 2, results := [], body :=
 (.seq
 (.region false [op1 4 .mv [.t 0],
 op1 5 .mv [.t 1],
 op1 6 (.slice false true 4) [.t 4, .t 5],
 op1 7 (.call n_slices_Reverse_impl_askedGroup_impl_askedGroup 3584) [.t 6]] [4, 5, 6, 7])
 (.seq
 (.region false [op1 8 .mv [.t 0],
 op1 9 .mv [.t 1],
 op1 10 (.slice true false 4) [.t 8, .t 9],
 op1 11 (.call n_slices_Reverse_impl_askedGroup_impl_askedGroup 5632) [.t 10]] [1, 8, 9, 10, 11])
 (.region false [op1 12 .mv [.t 0],
 op1 13 (.call n_slices_Reverse_impl_askedGroup_impl_askedGroup 6656) [.t 12]] [0, 12, 13]))) }
/-- impl.askedGroup] -/
def F_slices_Reverse_impl_askedGroup_impl_askedGroup_L0 : LC :=
 (.seq
 (.seq
 (.region false [op1 7 .mv [.t 2],
 op1 8 .mv [.t 3],
 op1 9 (.bin .lss) [.t 7, .t 8]] [7, 8])
 (.cond (.t 9) [9]
 .skip
 (.exit 0)))
 (.seq
 (.block 1
 (.region true [op1 14 .mv [.t 0],
 op1 15 .mv [.t 2],
 op1 16 .mv [.t 0],
 op1 17 .mv [.t 3],
 op1 18 .mv [.t 0],
 op1 19 .mv [.t 3],
 op1 20 (.idxa 4) [.t 18, .t 19],
 op1 21 (.load 4 true) [.t 20],
 op1 22 .mv [.t 0],
 op1 23 .mv [.t 2],
 op1 24 (.idxa 4) [.t 22, .t 23],
 op1 25 (.load 4 true) [.t 24],
 op1 26 (.idxa 4) [.t 14, .t 15],
 ⟨none, .store 4, [.t 26, .t 21], none⟩,
 op1 27 (.idxa 4) [.t 16, .t 17],
 ⟨none, .store 4, [.t 27, .t 25], none⟩] [14, 15, 16, 17, 18, 19, 20, 21, 22, 23, 24, 25, 26, 27]))
 (.region false [op1 10 .mv [.t 2],
 op1 11 (.bin .add) [.t 10, .c (.i 1)],
 op1 12 .mv [.t 3],
 op1 13 (.bin .sub) [.t 12, .c (.i 1)],
 op1 2 .mv [.t 11],
 op1 3 .mv [.t 13]] [10, 11, 12, 13])))
def F_slices_Reverse_impl_askedGroup_impl_askedGroup_W0 : LC := .loop F_slices_Reverse_impl_askedGroup_impl_askedGroup_L0
def F_slices_Reverse_impl_askedGroup_impl_askedGroup : LF :=
 { nparams := 1, results := [], body :=
 (.seq
 (.region false [op1 4 .mv [.t 0],
 op1 5 .len [.t 4],
 op1 6 (.bin .sub) [.t 5, .c (.i 1)],
 op1 2 .mv [.c (.i 0)],
 op1 3 .mv [.t 6]] [4, 5, 6])
 (.block 0
 F_slices_Reverse_impl_askedGroup_impl_askedGroup_W0)) }
def lf : Nat → Option LF
 | 7 => some F_laws_FnGroupPlan
 | 15 => some F_laws_alive
 | 20 => some F_impl_RowAverage
 | 21 => some F_impl_RatioOrder
 | 29 => some F_spec_TestsOk
 | 33 => some F_spec_DrawGroupPlan
 | 34 => some F_impl_GroupPlan
 | 35 => some F_spec_GroupPlan
 | 36 => some F_laws_samePlan
 | 37 => some F_impl_GroupTerm
 | 38 => some F_impl_PlanOk
 | 39 => some F_impl_AverageBy
 | 40 => some F_impl_GroupAverage
 | 47 => some F_spec_l20Open
 | 48 => some F_spec_l20Tests
 | 49 => some F_spec_l20Rd_pick
 | 51 => some F_impl_TestsOk
 | 52 => some F_impl_StateOk
 | 53 => some F_impl_isWithin
 | 58 => some F_spec_l1In
 | 67 => some F_spec_l1Power
 | 68 => some F_impl_OrderOk
 | 69 => some F_impl_rowOk
 | 70 => some F_impl_wholeOf
 | 71 => some F_impl_endChance
 | 72 => some F_impl_RatioOrder_1
 | 73 => some F_impl_ratioOf
 | 74 => some F_impl_ratio_isLess
 | 75 => some F_impl_inserted_int
 | 78 => some F_impl_TermOk
 | 80 => some F_impl_startOf
 | 82 => some F_impl_manyOk
 | 86 => some F_impl_trueStates
 | 87 => some F_impl_statesOf
 | 88 => some F_impl_WeightOf
 | 89 => some F_spec_l20Grouped
 | 90 => some F_impl_groupsByRatios
 | 91 => some F_impl_planFrom
 | 92 => some F_impl_GroupPlan_1
 | 93 => some F_impl_nextInGroups
 | 94 => some F_spec_SortedGroups
 | 95 => some F_spec_l7Grow
 | 96 => some F_impl_GroupsOk
 | 97 => some F_impl_pointsOf
 | 98 => some F_impl_costsBy
 | 106 => some F_spec_l7Cost
 | 107 => some F_spec_l20Rd_odd
 | 109 => some F_impl_hasTest
 | 114 => some F_slices_Insert_int_int
 | 115 => some F_impl_partsTaken
 | 116 => some F_impl_markOk
 | 117 => some F_impl_point_isForced
 | 118 => some F_impl_point_canAsk
 | 119 => some F_impl_point_answered
 | 127 => some F_impl_foldTerm_uint32
 | 128 => some F_impl_statesOfPart
 | 129 => some F_impl_outcomeIn
 | 130 => some F_spec_l20Groups
 | 131 => some F_impl_groupsByRatios_1
 | 132 => some F_impl_inserted_impl_askedGroup
 | 133 => some F_impl_groupOf
 | 134 => some F_slices_Concat_impl_Choice_impl_Choice
 | 135 => some F_slices_IndexFunc_impl_askedGroup_impl_askedGroup
 | 136 => some F_impl_nextInGroups_1
 | 137 => some F_impl_valueAmong
 | 138 => some F_impl_statesWithYes
 | 139 => some F_slices_IndexFunc_int_int
 | 140 => some F_spec_GroupsOk
 | 141 => some F_spec_l7Inside
 | 142 => some F_impl_comesTo
 | 143 => some F_impl_firstOf
 | 144 => some F_impl_CostBy
 | 153 => some F_slices_rotateRight_int
 | 154 => some F_impl_statesSaying
 | 157 => some F_spec_l20Order
 | 158 => some F_slices_Insert_impl_askedGroup_impl_askedGroup
 | 159 => some F_slices_Contains_int_int
 | 160 => some F_slices_Grow_impl_Choice_impl_Choice
 | 161 => some F_impl_Choice_nextIn
 | 165 => some F_slices_rotateLeft_int
 | 168 => some F_slices_rotateRight_impl_askedGroup
 | 169 => some F_slices_Index_int_int
 | 170 => some F_slices_Reverse_int_int
 | 171 => some F_slices_rotateLeft_impl_askedGroup
 | 172 => some F_slices_Reverse_impl_askedGroup_impl_askedGroup
 | _ => none
theorem w_impl_RowAverage_0 (S : LS) : ex lf F_impl_RowAverage_W0 S = match ex lf F_impl_RowAverage_L0 S with | some (.normal, S1) => ex lf F_impl_RowAverage_W0 S1 | r => r := ex_loop lf F_impl_RowAverage_L0 S
theorem w_impl_RatioOrder_0 (S : LS) : ex lf F_impl_RatioOrder_W0 S = match ex lf F_impl_RatioOrder_L0 S with | some (.normal, S1) => ex lf F_impl_RatioOrder_W0 S1 | r => r := ex_loop lf F_impl_RatioOrder_L0 S
theorem w_spec_TestsOk_0 (S : LS) : ex lf F_spec_TestsOk_W0 S = match ex lf F_spec_TestsOk_L0 S with | some (.normal, S1) => ex lf F_spec_TestsOk_W0 S1 | r => r := ex_loop lf F_spec_TestsOk_L0 S
theorem w_laws_samePlan_0 (S : LS) : ex lf F_laws_samePlan_W0 S = match ex lf F_laws_samePlan_L0 S with | some (.normal, S1) => ex lf F_laws_samePlan_W0 S1 | r => r := ex_loop lf F_laws_samePlan_L0 S
theorem w_impl_GroupTerm_1 (S : LS) : ex lf F_impl_GroupTerm_W1 S = match ex lf F_impl_GroupTerm_L1 S with | some (.normal, S1) => ex lf F_impl_GroupTerm_W1 S1 | r => r := ex_loop lf F_impl_GroupTerm_L1 S
theorem w_impl_GroupTerm_0 (S : LS) : ex lf F_impl_GroupTerm_W0 S = match ex lf F_impl_GroupTerm_L0 S with | some (.normal, S1) => ex lf F_impl_GroupTerm_W0 S1 | r => r := ex_loop lf F_impl_GroupTerm_L0 S
theorem w_impl_AverageBy_0 (S : LS) : ex lf F_impl_AverageBy_W0 S = match ex lf F_impl_AverageBy_L0 S with | some (.normal, S1) => ex lf F_impl_AverageBy_W0 S1 | r => r := ex_loop lf F_impl_AverageBy_L0 S
theorem w_impl_GroupAverage_0 (S : LS) : ex lf F_impl_GroupAverage_W0 S = match ex lf F_impl_GroupAverage_L0 S with | some (.normal, S1) => ex lf F_impl_GroupAverage_W0 S1 | r => r := ex_loop lf F_impl_GroupAverage_L0 S
theorem w_spec_l20Tests_0 (S : LS) : ex lf F_spec_l20Tests_W0 S = match ex lf F_spec_l20Tests_L0 S with | some (.normal, S1) => ex lf F_spec_l20Tests_W0 S1 | r => r := ex_loop lf F_spec_l20Tests_L0 S
theorem w_impl_TestsOk_0 (S : LS) : ex lf F_impl_TestsOk_W0 S = match ex lf F_impl_TestsOk_L0 S with | some (.normal, S1) => ex lf F_impl_TestsOk_W0 S1 | r => r := ex_loop lf F_impl_TestsOk_L0 S
theorem w_spec_l1Power_0 (S : LS) : ex lf F_spec_l1Power_W0 S = match ex lf F_spec_l1Power_L0 S with | some (.normal, S1) => ex lf F_spec_l1Power_W0 S1 | r => r := ex_loop lf F_spec_l1Power_L0 S
theorem w_impl_OrderOk_0 (S : LS) : ex lf F_impl_OrderOk_W0 S = match ex lf F_impl_OrderOk_L0 S with | some (.normal, S1) => ex lf F_impl_OrderOk_W0 S1 | r => r := ex_loop lf F_impl_OrderOk_L0 S
theorem w_impl_wholeOf_0 (S : LS) : ex lf F_impl_wholeOf_W0 S = match ex lf F_impl_wholeOf_L0 S with | some (.normal, S1) => ex lf F_impl_wholeOf_W0 S1 | r => r := ex_loop lf F_impl_wholeOf_L0 S
theorem w_impl_inserted_int_0 (S : LS) : ex lf F_impl_inserted_int_W0 S = match ex lf F_impl_inserted_int_L0 S with | some (.normal, S1) => ex lf F_impl_inserted_int_W0 S1 | r => r := ex_loop lf F_impl_inserted_int_L0 S
theorem w_impl_TermOk_0 (S : LS) : ex lf F_impl_TermOk_W0 S = match ex lf F_impl_TermOk_L0 S with | some (.normal, S1) => ex lf F_impl_TermOk_W0 S1 | r => r := ex_loop lf F_impl_TermOk_L0 S
theorem w_impl_WeightOf_0 (S : LS) : ex lf F_impl_WeightOf_W0 S = match ex lf F_impl_WeightOf_L0 S with | some (.normal, S1) => ex lf F_impl_WeightOf_W0 S1 | r => r := ex_loop lf F_impl_WeightOf_L0 S
theorem w_impl_groupsByRatios_0 (S : LS) : ex lf F_impl_groupsByRatios_W0 S = match ex lf F_impl_groupsByRatios_L0 S with | some (.normal, S1) => ex lf F_impl_groupsByRatios_W0 S1 | r => r := ex_loop lf F_impl_groupsByRatios_L0 S
theorem w_spec_SortedGroups_1 (S : LS) : ex lf F_spec_SortedGroups_W1 S = match ex lf F_spec_SortedGroups_L1 S with | some (.normal, S1) => ex lf F_spec_SortedGroups_W1 S1 | r => r := ex_loop lf F_spec_SortedGroups_L1 S
theorem w_spec_SortedGroups_0 (S : LS) : ex lf F_spec_SortedGroups_W0 S = match ex lf F_spec_SortedGroups_L0 S with | some (.normal, S1) => ex lf F_spec_SortedGroups_W0 S1 | r => r := ex_loop lf F_spec_SortedGroups_L0 S
theorem w_impl_GroupsOk_0 (S : LS) : ex lf F_impl_GroupsOk_W0 S = match ex lf F_impl_GroupsOk_L0 S with | some (.normal, S1) => ex lf F_impl_GroupsOk_W0 S1 | r => r := ex_loop lf F_impl_GroupsOk_L0 S
theorem w_impl_pointsOf_0 (S : LS) : ex lf F_impl_pointsOf_W0 S = match ex lf F_impl_pointsOf_L0 S with | some (.normal, S1) => ex lf F_impl_pointsOf_W0 S1 | r => r := ex_loop lf F_impl_pointsOf_L0 S
theorem w_impl_costsBy_0 (S : LS) : ex lf F_impl_costsBy_W0 S = match ex lf F_impl_costsBy_L0 S with | some (.normal, S1) => ex lf F_impl_costsBy_W0 S1 | r => r := ex_loop lf F_impl_costsBy_L0 S
theorem w_spec_l7Cost_0 (S : LS) : ex lf F_spec_l7Cost_W0 S = match ex lf F_spec_l7Cost_L0 S with | some (.normal, S1) => ex lf F_spec_l7Cost_W0 S1 | r => r := ex_loop lf F_spec_l7Cost_L0 S
theorem w_impl_foldTerm_uint32_0 (S : LS) : ex lf F_impl_foldTerm_uint32_W0 S = match ex lf F_impl_foldTerm_uint32_L0 S with | some (.normal, S1) => ex lf F_impl_foldTerm_uint32_W0 S1 | r => r := ex_loop lf F_impl_foldTerm_uint32_L0 S
theorem w_spec_l20Groups_0 (S : LS) : ex lf F_spec_l20Groups_W0 S = match ex lf F_spec_l20Groups_L0 S with | some (.normal, S1) => ex lf F_spec_l20Groups_W0 S1 | r => r := ex_loop lf F_spec_l20Groups_L0 S
theorem w_impl_inserted_impl_askedGroup_0 (S : LS) : ex lf F_impl_inserted_impl_askedGroup_W0 S = match ex lf F_impl_inserted_impl_askedGroup_L0 S with | some (.normal, S1) => ex lf F_impl_inserted_impl_askedGroup_W0 S1 | r => r := ex_loop lf F_impl_inserted_impl_askedGroup_L0 S
theorem w_impl_groupOf_0 (S : LS) : ex lf F_impl_groupOf_W0 S = match ex lf F_impl_groupOf_L0 S with | some (.normal, S1) => ex lf F_impl_groupOf_W0 S1 | r => r := ex_loop lf F_impl_groupOf_L0 S
theorem w_slices_Concat_impl_Choice_impl_Choice_0 (S : LS) : ex lf F_slices_Concat_impl_Choice_impl_Choice_W0 S = match ex lf F_slices_Concat_impl_Choice_impl_Choice_L0 S with | some (.normal, S1) => ex lf F_slices_Concat_impl_Choice_impl_Choice_W0 S1 | r => r := ex_loop lf F_slices_Concat_impl_Choice_impl_Choice_L0 S
theorem w_slices_Concat_impl_Choice_impl_Choice_1 (S : LS) : ex lf F_slices_Concat_impl_Choice_impl_Choice_W1 S = match ex lf F_slices_Concat_impl_Choice_impl_Choice_L1 S with | some (.normal, S1) => ex lf F_slices_Concat_impl_Choice_impl_Choice_W1 S1 | r => r := ex_loop lf F_slices_Concat_impl_Choice_impl_Choice_L1 S
theorem w_slices_IndexFunc_impl_askedGroup_impl_askedGroup_0 (S : LS) : ex lf F_slices_IndexFunc_impl_askedGroup_impl_askedGroup_W0 S = match ex lf F_slices_IndexFunc_impl_askedGroup_impl_askedGroup_L0 S with | some (.normal, S1) => ex lf F_slices_IndexFunc_impl_askedGroup_impl_askedGroup_W0 S1 | r => r := ex_loop lf F_slices_IndexFunc_impl_askedGroup_impl_askedGroup_L0 S
theorem w_impl_statesWithYes_0 (S : LS) : ex lf F_impl_statesWithYes_W0 S = match ex lf F_impl_statesWithYes_L0 S with | some (.normal, S1) => ex lf F_impl_statesWithYes_W0 S1 | r => r := ex_loop lf F_impl_statesWithYes_L0 S
theorem w_slices_IndexFunc_int_int_0 (S : LS) : ex lf F_slices_IndexFunc_int_int_W0 S = match ex lf F_slices_IndexFunc_int_int_L0 S with | some (.normal, S1) => ex lf F_slices_IndexFunc_int_int_W0 S1 | r => r := ex_loop lf F_slices_IndexFunc_int_int_L0 S
theorem w_spec_GroupsOk_1 (S : LS) : ex lf F_spec_GroupsOk_W1 S = match ex lf F_spec_GroupsOk_L1 S with | some (.normal, S1) => ex lf F_spec_GroupsOk_W1 S1 | r => r := ex_loop lf F_spec_GroupsOk_L1 S
theorem w_spec_GroupsOk_0 (S : LS) : ex lf F_spec_GroupsOk_W0 S = match ex lf F_spec_GroupsOk_L0 S with | some (.normal, S1) => ex lf F_spec_GroupsOk_W0 S1 | r => r := ex_loop lf F_spec_GroupsOk_L0 S
theorem w_spec_l7Inside_1 (S : LS) : ex lf F_spec_l7Inside_W1 S = match ex lf F_spec_l7Inside_L1 S with | some (.normal, S1) => ex lf F_spec_l7Inside_W1 S1 | r => r := ex_loop lf F_spec_l7Inside_L1 S
theorem w_spec_l7Inside_0 (S : LS) : ex lf F_spec_l7Inside_W0 S = match ex lf F_spec_l7Inside_L0 S with | some (.normal, S1) => ex lf F_spec_l7Inside_W0 S1 | r => r := ex_loop lf F_spec_l7Inside_L0 S
theorem w_impl_CostBy_0 (S : LS) : ex lf F_impl_CostBy_W0 S = match ex lf F_impl_CostBy_L0 S with | some (.normal, S1) => ex lf F_impl_CostBy_W0 S1 | r => r := ex_loop lf F_impl_CostBy_L0 S
theorem w_spec_l20Order_0 (S : LS) : ex lf F_spec_l20Order_W0 S = match ex lf F_spec_l20Order_L0 S with | some (.normal, S1) => ex lf F_spec_l20Order_W0 S1 | r => r := ex_loop lf F_spec_l20Order_L0 S
theorem w_slices_Index_int_int_0 (S : LS) : ex lf F_slices_Index_int_int_W0 S = match ex lf F_slices_Index_int_int_L0 S with | some (.normal, S1) => ex lf F_slices_Index_int_int_W0 S1 | r => r := ex_loop lf F_slices_Index_int_int_L0 S
theorem w_slices_Reverse_int_int_0 (S : LS) : ex lf F_slices_Reverse_int_int_W0 S = match ex lf F_slices_Reverse_int_int_L0 S with | some (.normal, S1) => ex lf F_slices_Reverse_int_int_W0 S1 | r => r := ex_loop lf F_slices_Reverse_int_int_L0 S
theorem w_slices_Reverse_impl_askedGroup_impl_askedGroup_0 (S : LS) : ex lf F_slices_Reverse_impl_askedGroup_impl_askedGroup_W0 S = match ex lf F_slices_Reverse_impl_askedGroup_impl_askedGroup_L0 S with | some (.normal, S1) => ex lf F_slices_Reverse_impl_askedGroup_impl_askedGroup_W0 S1 | r => r := ex_loop lf F_slices_Reverse_impl_askedGroup_impl_askedGroup_L0 S
end Zz
