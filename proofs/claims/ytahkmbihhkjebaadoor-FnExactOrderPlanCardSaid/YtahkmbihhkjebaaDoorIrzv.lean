/- The functions of the program, read as data. No conditions. -/
import Derived.Test.YtahkmbihhkjebaaDoorLgEzv
set_option linter.unusedSectionVars false
set_option linter.unusedVariables false
set_option linter.unusedSimpArgs false
namespace Zz
open Go.Lg
instance : GL := ⟨[(2, .st [.w (2863311530#32), .w (3435973836#32), .w (4042322160#32), .w (4278255360#32), .w (4294901760#32)])], [23, 24, 25, 34, 43, 131], ["l4_orders.go:82"], [], [(67, [3]), (84, [4]), (91, [5]), (103, [0]), (112, [0]), (137, [0, 2]), (139, [0, 2]), (144, [0])], [], ["l20_draw.go:447"]⟩
theorem gEnv_2 : gEnv [2] = [(1048578, .adr (.st [.w (2863311530#32), .w (3435973836#32), .w (4042322160#32), .w (4278255360#32), .w (4294901760#32)]))] := rfl
def n_laws_FnExactOrderPlan : Nat := 9
def n_laws_eqChoiceS : Nat := 21
def n_laws_markChoiceS : Nat := 25
def n_laws_heldChoiceS : Nat := 26
def n_laws_szMarkS : Nat := 27
def n_laws_toMarkS : Nat := 29
def n_laws_eqMarkS : Nat := 31
def n_laws_markMarkS : Nat := 34
def n_spec_OrderPlan : Nat := 39
def n_laws_toIntS : Nat := 40
def n_impl_OrderPlan : Nat := 41
def n_laws_eqIntS : Nat := 42
def n_laws_markIntS : Nat := 43
def n_spec_l1In : Nat := 46
def n_impl_isWithin : Nat := 52
def n_impl_sizeOf : Nat := 53
def n_impl_planFrom : Nat := 69
def n_impl_startOf : Nat := 70
def n_laws_eqChoice : Nat := 74
def n_spec_TermOk : Nat := 75
def n_spec_l3Table : Nat := 77
def n_spec_l4None : Nat := 78
def n_laws_toMark : Nat := 79
def n_impl_TermOk : Nat := 80
def n_laws_eqMark : Nat := 83
def n_impl_point_howManyAsked : Nat := 89
def n_spec_OrderOk : Nat := 90
def n_spec_l6Line : Nat := 91
def n_impl_OrderOk : Nat := 92
def n_impl_OrderPlan_1 : Nat := 93
def n_impl_manyOk : Nat := 95
def n_math_bits_OnesCount : Nat := 97
def n_impl_hasTest : Nat := 98
def n_impl_point_isForced : Nat := 114
def n_impl_point_answered : Nat := 115
def n_slices_Concat_impl_Choice_impl_Choice : Nat := 116
def n_impl_trueStates : Nat := 117
def n_impl_valueAmong : Nat := 120
def n_spec_l3Forced : Nat := 124
def n_spec_l3Value : Nat := 125
def n_impl_partsTaken : Nat := 126
def n_impl_markOk : Nat := 127
def n_math_bits_OnesCount32 : Nat := 134
def n_math_bits_OnesCount64 : Nat := 135
def n_impl_statesSaying : Nat := 143
def n_slices_Grow_impl_Choice_impl_Choice : Nat := 144
def n_impl_foldTerm_uint32 : Nat := 145
def n_impl_statesOfPart : Nat := 146
def n_spec_l1Agrees : Nat := 147
def n_spec_l2Starts : Nat := 148
/-- laws.FnExactOrderPlan -/
def F_laws_FnExactOrderPlan : LF :=
 { nparams := 3, results := [.t 6], body :=
 (.seq
 (.region false [⟨some 6, .mv, [.c (.b false)], none⟩] [6])
 (.seq
 (.seq
 (.region false [⟨some 19, .mv, [.t 2], none⟩,
 ⟨some 20, .len, [.t 19], none⟩,
 ⟨some 21, .bin .gtr, [.t 20, .c (.i 1048576)], none⟩] [19, 20])
 (.cond (.t 21) [21]
 (.seq
 (.region false [⟨some 6, .mv, [.c (.b true)], none⟩] [0, 1, 2])
 .ret)
 .skip))
 (.seq
 (.region false [⟨some 7, .mv, [.c (.i 1048576)], none⟩] [])
 (.seq
 (.region false [⟨some 22, .mv, [.t 1], none⟩,
 ⟨some 23, .mv, [.t 7], none⟩,
 ⟨some 24, .call n_laws_szMarkS 12288, [.t 22, .t 23], none⟩,
 ⟨some 7, .mv, [.t 24], none⟩] [22, 23, 24])
 (.seq
 (.seq
 (.region false [⟨some 25, .mv, [.t 7], none⟩,
 ⟨some 26, .bin .lss, [.t 25, .c (.i 0)], none⟩] [7, 25])
 (.cond (.t 26) [26]
 (.seq
 (.region false [⟨some 6, .mv, [.c (.b true)], none⟩] [0, 1, 2])
 .ret)
 .skip))
 (.seq
 (.region false [⟨some 28, .mv, [.t 0], none⟩,
 ⟨some 29, .mv, [.t 1], none⟩,
 ⟨some 30, .call n_laws_toMarkS 15360, [.t 29], none⟩,
 ⟨some 31, .mv, [.t 2], none⟩,
 ⟨some 32, .call n_laws_toIntS 16384, [.t 31], none⟩,
 ⟨some 33, .call n_spec_OrderPlan 16896, [.t 28, .t 30, .t 32], none⟩,
 ⟨some 27, .mv, [.t 33], none⟩,
 ⟨some 34, .ext 0, [.t 27], none⟩,
 ⟨some 35, .ext 1, [.t 27], none⟩,
 ⟨some 8, .mv, [.t 34], none⟩,
 ⟨some 9, .mv, [.t 35], none⟩] [27, 28, 29, 30, 31, 32, 33, 34, 35])
 (.seq
 (.region false [⟨some 36, .mv, [.t 1], none⟩,
 ⟨some 37, .call n_laws_toMarkS 18944, [.t 36], none⟩,
 ⟨some 10, .mv, [.t 37], none⟩] [36, 37])
 (.seq
 (.region false [⟨some 38, .mv, [.t 2], none⟩,
 ⟨some 39, .call n_laws_toIntS 19968, [.t 38], none⟩,
 ⟨some 11, .mv, [.t 39], none⟩] [38, 39])
 (.seq
 (.region false [⟨some 41, .mv, [.t 0], none⟩,
 ⟨some 42, .mv, [.t 10], none⟩,
 ⟨some 43, .mv, [.t 11], none⟩,
 ⟨some 44, .call n_impl_OrderPlan 22528, [.t 41, .t 42, .t 43], none⟩,
 ⟨some 40, .mv, [.t 44], none⟩,
 ⟨some 45, .ext 0, [.t 40], none⟩,
 ⟨some 46, .ext 1, [.t 40], none⟩,
 ⟨some 12, .mv, [.t 45], none⟩,
 ⟨some 13, .mv, [.t 46], none⟩] [40, 41, 42, 43, 44, 45, 46])
 (.seq
 (.seq
 (.region false [⟨some 47, .mv, [.t 12], none⟩,
 ⟨some 48, .mv, [.t 8], none⟩,
 ⟨some 49, .call n_laws_eqChoiceS 25088, [.t 47, .t 48], none⟩,
 ⟨some 50, .un .not, [.t 49], none⟩,
 ⟨some 51, .mv, [.t 50], none⟩,
 ⟨some 52, .mv, [.t 13], some (51, false)⟩,
 ⟨some 53, .mv, [.t 9], some (51, false)⟩,
 ⟨some 54, .eqb true, [.t 52, .t 53], some (51, false)⟩,
 ⟨some 55, .pick, [.t 51, .c (.b true), .t 54], none⟩] [47, 48, 49, 50, 51, 52, 53, 54])
 (.cond (.t 55) [55]
 (.seq
 (.region false [⟨some 6, .mv, [.c (.b false)], none⟩] [0, 1, 2, 8, 9, 10, 11, 12, 13])
 .ret)
 .skip))
 (.seq
 (.seq
 (.region false [⟨some 56, .mv, [.t 10], none⟩,
 ⟨some 57, .mv, [.t 1], none⟩,
 ⟨some 58, .call n_laws_toMarkS 29696, [.t 57], none⟩,
 ⟨some 59, .call n_laws_eqMarkS 30208, [.t 56, .t 58], none⟩,
 ⟨some 60, .un .not, [.t 59], none⟩] [56, 57, 58, 59])
 (.cond (.t 60) [60]
 (.seq
 (.region false [⟨some 6, .mv, [.c (.b false)], none⟩] [0, 1, 2, 8, 9, 10, 11, 12, 13])
 .ret)
 .skip))
 (.seq
 (.seq
 (.region false [⟨some 61, .mv, [.t 11], none⟩,
 ⟨some 62, .mv, [.t 2], none⟩,
 ⟨some 63, .call n_laws_toIntS 32256, [.t 62], none⟩,
 ⟨some 64, .call n_laws_eqIntS 32768, [.t 61, .t 63], none⟩,
 ⟨some 65, .un .not, [.t 64], none⟩] [61, 62, 63, 64])
 (.cond (.t 65) [65]
 (.seq
 (.region false [⟨some 6, .mv, [.c (.b false)], none⟩] [0, 1, 2, 8, 9, 10, 11, 12, 13])
 .ret)
 .skip))
 (.seq
 (.region false [⟨some 14, .mv, [.c (.i 1)], none⟩] [])
 (.seq
 (.region false [⟨some 66, .mv, [.t 10], none⟩,
 ⟨some 67, .mv, [.t 14], none⟩,
 ⟨some 68, .call n_laws_markMarkS 34820, [.t 66, .t 67], none⟩,
 ⟨some 14, .mv, [.t 68], none⟩] [10, 66, 67, 68])
 (.seq
 (.region false [⟨some 69, .mv, [.t 11], none⟩,
 ⟨some 70, .mv, [.t 14], none⟩,
 ⟨some 71, .call n_laws_markIntS 36356, [.t 69, .t 70], none⟩,
 ⟨some 14, .mv, [.t 71], none⟩] [11, 69, 70, 71])
 (.seq
 (.seq
 (.region false [⟨some 72, .mv, [.t 14], none⟩,
 ⟨some 73, .bin .lss, [.t 72, .c (.i 0)], none⟩,
 ⟨some 74, .mv, [.t 73], none⟩,
 ⟨some 75, .mv, [.t 12], some (74, false)⟩,
 ⟨some 76, .mv, [.t 8], some (74, false)⟩,
 ⟨some 77, .call n_laws_eqChoiceS 39424, [.t 75, .t 76], some (74, false)⟩,
 ⟨some 78, .un .not, [.t 77], some (74, false)⟩,
 ⟨some 79, .pick, [.t 74, .c (.b true), .t 78], none⟩,
 ⟨some 80, .mv, [.t 79], none⟩,
 ⟨some 81, .mv, [.t 13], some (80, false)⟩,
 ⟨some 82, .mv, [.t 9], some (80, false)⟩,
 ⟨some 83, .eqb true, [.t 81, .t 82], some (80, false)⟩,
 ⟨some 84, .pick, [.t 80, .c (.b true), .t 83], none⟩] [13, 14, 72, 73, 74, 75, 76, 77, 78, 79, 80, 81, 82, 83])
 (.cond (.t 84) [84]
 (.seq
 (.region false [⟨some 6, .mv, [.c (.b false)], none⟩] [0, 1, 2, 8, 9, 12])
 .ret)
 .skip))
 (.seq
 (.region false [⟨some 15, .mv, [.c (.i 1)], none⟩] [])
 (.seq
 (.region false [⟨some 85, .mv, [.t 12], none⟩,
 ⟨some 86, .mv, [.t 15], none⟩,
 ⟨some 87, .call n_laws_markChoiceS 44548, [.t 85, .t 86], none⟩,
 ⟨some 15, .mv, [.t 87], none⟩] [85, 86, 87])
 (.seq
 (.region false [⟨some 16, .mv, [.c (.i 1)], none⟩] [])
 (.seq
 (.region false [⟨some 88, .mv, [.t 12], none⟩,
 ⟨some 89, .mv, [.t 16], none⟩,
 ⟨some 90, .call n_laws_heldChoiceS 46080, [.t 88, .t 89], none⟩,
 ⟨some 16, .mv, [.t 90], none⟩] [88, 89, 90])
 (.seq
 (.seq
 (.region false [⟨some 91, .mv, [.t 16], none⟩,
 ⟨some 92, .bin .lss, [.t 91, .c (.i 0)], none⟩] [91])
 (.cond (.t 92) [92]
 (.seq
 (.region false [⟨some 6, .mv, [.c (.b false)], none⟩] [0, 1, 2, 8, 9, 12, 15, 16])
 .ret)
 .skip))
 (.seq
 (.seq
 (.region false [⟨some 93, .mv, [.t 16], none⟩,
 ⟨some 94, .mv, [.t 15], none⟩,
 ⟨some 95, .bin .neq, [.t 93, .t 94], none⟩] [16, 93, 94])
 (.cond (.t 95) [95]
 (.seq
 (.region false [⟨some 6, .mv, [.c (.b false)], none⟩] [0, 1, 2, 8, 9, 12, 15])
 .ret)
 .skip))
 (.seq
 (.region false [⟨some 97, .mv, [.t 0], none⟩,
 ⟨some 98, .mv, [.t 1], none⟩,
 ⟨some 99, .call n_laws_toMarkS 50688, [.t 98], none⟩,
 ⟨some 100, .mv, [.t 2], none⟩,
 ⟨some 101, .call n_laws_toIntS 51712, [.t 100], none⟩,
 ⟨some 102, .call n_impl_OrderPlan 52224, [.t 97, .t 99, .t 101], none⟩,
 ⟨some 96, .mv, [.t 102], none⟩,
 ⟨some 103, .ext 0, [.t 96], none⟩,
 ⟨some 104, .ext 1, [.t 96], none⟩,
 ⟨some 17, .mv, [.t 103], none⟩,
 ⟨some 18, .mv, [.t 104], none⟩] [0, 1, 2, 96, 97, 98, 99, 100, 101, 102, 103, 104])
 (.seq
 (.seq
 (.region false [⟨some 105, .mv, [.t 17], none⟩,
 ⟨some 106, .mv, [.t 8], none⟩,
 ⟨some 107, .call n_laws_eqChoiceS 54784, [.t 105, .t 106], none⟩,
 ⟨some 108, .un .not, [.t 107], none⟩,
 ⟨some 109, .mv, [.t 108], none⟩,
 ⟨some 110, .mv, [.t 18], some (109, false)⟩,
 ⟨some 111, .mv, [.t 9], some (109, false)⟩,
 ⟨some 112, .eqb true, [.t 110, .t 111], some (109, false)⟩,
 ⟨some 113, .pick, [.t 109, .c (.b true), .t 112], none⟩] [8, 9, 17, 18, 105, 106, 107, 108, 109, 110, 111, 112])
 (.cond (.t 113) [113]
 (.seq
 (.region false [⟨some 6, .mv, [.c (.b false)], none⟩] [12, 15])
 .ret)
 .skip))
 (.seq
 (.region false [⟨some 16, .mv, [.c (.i 1)], none⟩] [])
 (.seq
 (.region false [⟨some 114, .mv, [.t 12], none⟩,
 ⟨some 115, .mv, [.t 16], none⟩,
 ⟨some 116, .call n_laws_heldChoiceS 59392, [.t 114, .t 115], none⟩,
 ⟨some 16, .mv, [.t 116], none⟩] [12, 114, 115, 116])
 (.seq
 (.seq
 (.region false [⟨some 117, .mv, [.t 16], none⟩,
 ⟨some 118, .bin .lss, [.t 117, .c (.i 0)], none⟩] [117])
 (.cond (.t 118) [118]
 (.seq
 (.region false [⟨some 6, .mv, [.c (.b false)], none⟩] [15, 16])
 .ret)
 .skip))
 (.seq
 (.seq
 (.region false [⟨some 119, .mv, [.t 16], none⟩,
 ⟨some 120, .mv, [.t 15], none⟩,
 ⟨some 121, .bin .neq, [.t 119, .t 120], none⟩] [15, 16, 119, 120])
 (.cond (.t 121) [121]
 (.seq
 (.region false [⟨some 6, .mv, [.c (.b false)], none⟩] [])
 .ret)
 .skip))
 (.seq
 (.region false [⟨some 6, .mv, [.c (.b true)], none⟩] [])
 .ret))))))))))))))))))))))))))))) }
/-- laws.eqChoiceS -/
def F_laws_eqChoiceS_L0 : LC :=
 (.seq
 (.seq
 (.region false [⟨some 11, .mv, [.t 5], none⟩,
 ⟨some 12, .mv, [.t 0], none⟩,
 ⟨some 13, .len, [.t 12], none⟩,
 ⟨some 14, .bin .lss, [.t 11, .t 13], none⟩] [11, 12, 13])
 (.cond (.t 14) [14]
 .skip
 (.exit 0)))
 (.seq
 (.block 1
 (.seq
 (.region true [⟨some 17, .mv, [.t 0], none⟩,
 ⟨some 18, .mv, [.t 5], none⟩,
 ⟨some 19, .idxa 3, [.t 17, .t 18], none⟩,
 ⟨some 20, .load 3 true, [.t 19], none⟩,
 ⟨some 21, .mv, [.t 1], none⟩,
 ⟨some 22, .mv, [.t 5], none⟩,
 ⟨some 23, .idxa 3, [.t 21, .t 22], none⟩,
 ⟨some 24, .load 3 true, [.t 23], none⟩,
 ⟨some 25, .call n_laws_eqChoice 12800, [.t 20, .t 24], none⟩,
 ⟨some 26, .un .not, [.t 25], none⟩] [17, 18, 19, 20, 21, 22, 23, 24, 25])
 (.cond (.t 26) [26]
 (.seq
 (.region false [⟨some 4, .mv, [.c (.b false)], none⟩] [0, 1, 5])
 .ret)
 .skip)))
 (.region false [⟨some 15, .mv, [.t 5], none⟩,
 ⟨some 16, .bin .add, [.t 15, .c (.i 1)], none⟩,
 ⟨some 5, .mv, [.t 16], none⟩] [15, 16])))
def F_laws_eqChoiceS_W0 : LC := .loop F_laws_eqChoiceS_L0
def F_laws_eqChoiceS : LF :=
 { nparams := 2, results := [.t 4], body :=
 (.seq
 (.region false [⟨some 4, .mv, [.c (.b false)], none⟩] [4])
 (.seq
 (.seq
 (.region false [⟨some 6, .mv, [.t 0], none⟩,
 ⟨some 7, .len, [.t 6], none⟩,
 ⟨some 8, .mv, [.t 1], none⟩,
 ⟨some 9, .len, [.t 8], none⟩,
 ⟨some 10, .bin .neq, [.t 7, .t 9], none⟩] [6, 7, 8, 9])
 (.cond (.t 10) [10]
 (.seq
 (.region false [⟨some 4, .mv, [.c (.b false)], none⟩] [0, 1])
 .ret)
 .skip))
 (.seq
 (.seq
 (.region false [⟨some 5, .mv, [.c (.i 0)], none⟩] [])
 (.block 0
 F_laws_eqChoiceS_W0))
 (.seq
 (.region false [⟨some 4, .mv, [.c (.b true)], none⟩] [0, 1, 5])
 .ret)))) }
/-- laws.markChoiceS -/
def F_laws_markChoiceS_L0 : LC :=
 (.seq
 (.seq
 (.region false [⟨some 6, .mv, [.t 5], none⟩,
 ⟨some 7, .mv, [.t 0], none⟩,
 ⟨some 8, .len, [.t 7], none⟩,
 ⟨some 9, .bin .lss, [.t 6, .t 8], none⟩] [6, 7, 8])
 (.cond (.t 9) [9]
 .skip
 (.exit 0)))
 (.seq
 (.block 1
 (.seq
 (.region false [⟨some 12, .mv, [.t 0], none⟩,
 ⟨some 13, .mv, [.t 5], none⟩,
 ⟨some 14, .mv, [.t 1], none⟩,
 ⟨some 15, .idxa 3, [.t 12, .t 13], none⟩,
 ⟨some 16, .fld 0 1 false, [.t 15], none⟩,
 ⟨none, .store 1, [.t 16, .t 14], none⟩] [12, 13, 14, 15, 16])
 (.seq
 (.region false [⟨some 17, .mv, [.t 1], none⟩,
 ⟨some 18, .bin .add, [.t 17, .c (.i 1)], none⟩,
 ⟨some 1, .mv, [.t 18], none⟩] [17, 18])
 (.seq
 (.region false [⟨some 19, .mv, [.t 0], none⟩,
 ⟨some 20, .mv, [.t 5], none⟩,
 ⟨some 21, .mv, [.t 1], none⟩,
 ⟨some 22, .idxa 3, [.t 19, .t 20], none⟩,
 ⟨some 23, .fld 1 1 false, [.t 22], none⟩,
 ⟨none, .store 1, [.t 23, .t 21], none⟩] [19, 20, 21, 22, 23])
 (.seq
 (.region false [⟨some 24, .mv, [.t 1], none⟩,
 ⟨some 25, .bin .add, [.t 24, .c (.i 1)], none⟩,
 ⟨some 1, .mv, [.t 25], none⟩] [24, 25])
 (.seq
 (.region false [⟨some 26, .mv, [.t 0], none⟩,
 ⟨some 27, .mv, [.t 5], none⟩,
 ⟨some 28, .mv, [.t 1], none⟩,
 ⟨some 29, .idxa 3, [.t 26, .t 27], none⟩,
 ⟨some 30, .fld 2 1 false, [.t 29], none⟩,
 ⟨none, .store 1, [.t 30, .t 28], none⟩] [26, 27, 28, 29, 30])
 (.region false [⟨some 31, .mv, [.t 1], none⟩,
 ⟨some 32, .bin .add, [.t 31, .c (.i 1)], none⟩,
 ⟨some 1, .mv, [.t 32], none⟩] [31, 32])))))))
 (.region false [⟨some 10, .mv, [.t 5], none⟩,
 ⟨some 11, .bin .add, [.t 10, .c (.i 1)], none⟩,
 ⟨some 5, .mv, [.t 11], none⟩] [10, 11])))
def F_laws_markChoiceS_W0 : LC := .loop F_laws_markChoiceS_L0
def F_laws_markChoiceS : LF :=
 { nparams := 2, results := [.t 4], body :=
 (.seq
 (.region false [⟨some 4, .mv, [.c (.i 0)], none⟩] [4])
 (.seq
 (.seq
 (.region false [⟨some 5, .mv, [.c (.i 0)], none⟩] [])
 (.block 0
 F_laws_markChoiceS_W0))
 (.seq
 (.region false [⟨some 33, .mv, [.t 1], none⟩,
 ⟨some 4, .mv, [.t 33], none⟩] [1, 5, 33])
 .ret))) }
/-- laws.heldChoiceS -/
def F_laws_heldChoiceS_L0 : LC :=
 (.seq
 (.seq
 (.region false [⟨some 6, .mv, [.t 5], none⟩,
 ⟨some 7, .mv, [.t 0], none⟩,
 ⟨some 8, .len, [.t 7], none⟩,
 ⟨some 9, .bin .lss, [.t 6, .t 8], none⟩] [6, 7, 8])
 (.cond (.t 9) [9]
 .skip
 (.exit 0)))
 (.seq
 (.block 1
 (.seq
 (.seq
 (.region false [⟨some 12, .mv, [.t 0], none⟩,
 ⟨some 13, .mv, [.t 5], none⟩,
 ⟨some 14, .idxa 3, [.t 12, .t 13], none⟩,
 ⟨some 15, .fld 0 1 false, [.t 14], none⟩,
 ⟨some 16, .load 1 false, [.t 15], none⟩,
 ⟨some 17, .mv, [.t 1], none⟩,
 ⟨some 18, .bin .neq, [.t 16, .t 17], none⟩] [12, 13, 14, 15, 16, 17])
 (.cond (.t 18) [18]
 (.seq
 (.region false [⟨some 4, .mv, [.c (.i (-1))], none⟩] [0, 1, 5])
 .ret)
 .skip))
 (.seq
 (.region false [⟨some 19, .mv, [.t 1], none⟩,
 ⟨some 20, .bin .add, [.t 19, .c (.i 1)], none⟩,
 ⟨some 1, .mv, [.t 20], none⟩] [19, 20])
 (.seq
 (.seq
 (.region false [⟨some 21, .mv, [.t 0], none⟩,
 ⟨some 22, .mv, [.t 5], none⟩,
 ⟨some 23, .idxa 3, [.t 21, .t 22], none⟩,
 ⟨some 24, .fld 1 1 false, [.t 23], none⟩,
 ⟨some 25, .load 1 false, [.t 24], none⟩,
 ⟨some 26, .mv, [.t 1], none⟩,
 ⟨some 27, .bin .neq, [.t 25, .t 26], none⟩] [21, 22, 23, 24, 25, 26])
 (.cond (.t 27) [27]
 (.seq
 (.region false [⟨some 4, .mv, [.c (.i (-1))], none⟩] [0, 1, 5])
 .ret)
 .skip))
 (.seq
 (.region false [⟨some 28, .mv, [.t 1], none⟩,
 ⟨some 29, .bin .add, [.t 28, .c (.i 1)], none⟩,
 ⟨some 1, .mv, [.t 29], none⟩] [28, 29])
 (.seq
 (.seq
 (.region false [⟨some 30, .mv, [.t 0], none⟩,
 ⟨some 31, .mv, [.t 5], none⟩,
 ⟨some 32, .idxa 3, [.t 30, .t 31], none⟩,
 ⟨some 33, .fld 2 1 false, [.t 32], none⟩,
 ⟨some 34, .load 1 false, [.t 33], none⟩,
 ⟨some 35, .mv, [.t 1], none⟩,
 ⟨some 36, .bin .neq, [.t 34, .t 35], none⟩] [30, 31, 32, 33, 34, 35])
 (.cond (.t 36) [36]
 (.seq
 (.region false [⟨some 4, .mv, [.c (.i (-1))], none⟩] [0, 1, 5])
 .ret)
 .skip))
 (.region false [⟨some 37, .mv, [.t 1], none⟩,
 ⟨some 38, .bin .add, [.t 37, .c (.i 1)], none⟩,
 ⟨some 1, .mv, [.t 38], none⟩] [37, 38])))))))
 (.region false [⟨some 10, .mv, [.t 5], none⟩,
 ⟨some 11, .bin .add, [.t 10, .c (.i 1)], none⟩,
 ⟨some 5, .mv, [.t 11], none⟩] [10, 11])))
def F_laws_heldChoiceS_W0 : LC := .loop F_laws_heldChoiceS_L0
def F_laws_heldChoiceS : LF :=
 { nparams := 2, results := [.t 4], body :=
 (.seq
 (.region false [⟨some 4, .mv, [.c (.i 0)], none⟩] [4])
 (.seq
 (.seq
 (.region false [⟨some 5, .mv, [.c (.i 0)], none⟩] [])
 (.block 0
 F_laws_heldChoiceS_W0))
 (.seq
 (.region false [⟨some 39, .mv, [.t 1], none⟩,
 ⟨some 4, .mv, [.t 39], none⟩] [0, 1, 5, 39])
 .ret))) }
/-- laws.szMarkS -/
def F_laws_szMarkS : LF :=
 { nparams := 2, results := [.t 4], body :=
 (.seq
 (.region false [⟨some 4, .mv, [.c (.i 0)], none⟩] [4])
 (.seq
 (.region false [⟨some 5, .mv, [.t 1], none⟩,
 ⟨some 6, .mv, [.t 0], none⟩,
 ⟨some 7, .len, [.t 6], none⟩,
 ⟨some 8, .bin .sub, [.t 5, .t 7], none⟩,
 ⟨some 1, .mv, [.t 8], none⟩] [0, 5, 6, 7, 8])
 (.seq
 (.seq
 (.region false [⟨some 9, .mv, [.t 1], none⟩,
 ⟨some 10, .bin .lss, [.t 9, .c (.i 0)], none⟩] [9])
 (.cond (.t 10) [10]
 (.seq
 (.region false [⟨some 4, .mv, [.c (.i (-1))], none⟩] [1])
 .ret)
 .skip))
 (.seq
 (.region false [⟨some 11, .mv, [.t 1], none⟩,
 ⟨some 4, .mv, [.t 11], none⟩] [1, 11])
 .ret)))) }
/-- laws.toMarkS -/
def F_laws_toMarkS_L0 : LC :=
 (.seq
 (.seq
 (.region false [⟨some 8, .mv, [.t 4], none⟩,
 ⟨some 9, .mv, [.t 0], none⟩,
 ⟨some 10, .len, [.t 9], none⟩,
 ⟨some 11, .bin .lss, [.t 8, .t 10], none⟩] [8, 9, 10])
 (.cond (.t 11) [11]
 .skip
 (.exit 0)))
 (.seq
 (.block 1
 (.region false [⟨some 14, .mv, [.t 3], none⟩,
 ⟨some 15, .mv, [.t 4], none⟩,
 ⟨some 16, .mv, [.t 0], none⟩,
 ⟨some 17, .mv, [.t 4], none⟩,
 ⟨some 18, .idxa 2, [.t 16, .t 17], none⟩,
 ⟨some 19, .load 2 true, [.t 18], none⟩,
 ⟨some 20, .call n_laws_toMark 10240, [.t 19], none⟩,
 ⟨some 21, .idxa 2, [.t 14, .t 15], none⟩,
 ⟨none, .store 2, [.t 21, .t 20], none⟩] [14, 15, 16, 17, 18, 19, 20, 21]))
 (.region false [⟨some 12, .mv, [.t 4], none⟩,
 ⟨some 13, .bin .add, [.t 12, .c (.i 1)], none⟩,
 ⟨some 4, .mv, [.t 13], none⟩] [12, 13])))
def F_laws_toMarkS_W0 : LC := .loop F_laws_toMarkS_L0
def F_laws_toMarkS : LF :=
 { nparams := 1, results := [.t 2], body :=
 (.seq
 (.region false [⟨some 2, .newnil 1040, [], none⟩] [2])
 (.seq
 (.region false [⟨some 5, .mv, [.t 0], none⟩,
 ⟨some 6, .len, [.t 5], none⟩,
 ⟨some 7, .make 3600 2 (.st [.i 0, .i 0]), [.t 6, .t 6], none⟩,
 ⟨some 3, .mv, [.t 7], none⟩] [5, 6, 7])
 (.seq
 (.seq
 (.region false [⟨some 4, .mv, [.c (.i 0)], none⟩] [])
 (.block 0
 F_laws_toMarkS_W0))
 (.seq
 (.region false [⟨some 22, .mv, [.t 3], none⟩,
 ⟨some 2, .mv, [.t 22], none⟩] [0, 3, 4, 22])
 .ret)))) }
/-- laws.eqMarkS -/
def F_laws_eqMarkS_L0 : LC :=
 (.seq
 (.seq
 (.region false [⟨some 11, .mv, [.t 5], none⟩,
 ⟨some 12, .mv, [.t 0], none⟩,
 ⟨some 13, .len, [.t 12], none⟩,
 ⟨some 14, .bin .lss, [.t 11, .t 13], none⟩] [11, 12, 13])
 (.cond (.t 14) [14]
 .skip
 (.exit 0)))
 (.seq
 (.block 1
 (.seq
 (.region true [⟨some 17, .mv, [.t 0], none⟩,
 ⟨some 18, .mv, [.t 5], none⟩,
 ⟨some 19, .idxa 2, [.t 17, .t 18], none⟩,
 ⟨some 20, .load 2 true, [.t 19], none⟩,
 ⟨some 21, .mv, [.t 1], none⟩,
 ⟨some 22, .mv, [.t 5], none⟩,
 ⟨some 23, .idxa 2, [.t 21, .t 22], none⟩,
 ⟨some 24, .load 2 true, [.t 23], none⟩,
 ⟨some 25, .call n_laws_eqMark 12800, [.t 20, .t 24], none⟩,
 ⟨some 26, .un .not, [.t 25], none⟩] [17, 18, 19, 20, 21, 22, 23, 24, 25])
 (.cond (.t 26) [26]
 (.seq
 (.region false [⟨some 4, .mv, [.c (.b false)], none⟩] [0, 1, 5])
 .ret)
 .skip)))
 (.region false [⟨some 15, .mv, [.t 5], none⟩,
 ⟨some 16, .bin .add, [.t 15, .c (.i 1)], none⟩,
 ⟨some 5, .mv, [.t 16], none⟩] [15, 16])))
def F_laws_eqMarkS_W0 : LC := .loop F_laws_eqMarkS_L0
def F_laws_eqMarkS : LF :=
 { nparams := 2, results := [.t 4], body :=
 (.seq
 (.region false [⟨some 4, .mv, [.c (.b false)], none⟩] [4])
 (.seq
 (.seq
 (.region false [⟨some 6, .mv, [.t 0], none⟩,
 ⟨some 7, .len, [.t 6], none⟩,
 ⟨some 8, .mv, [.t 1], none⟩,
 ⟨some 9, .len, [.t 8], none⟩,
 ⟨some 10, .bin .neq, [.t 7, .t 9], none⟩] [6, 7, 8, 9])
 (.cond (.t 10) [10]
 (.seq
 (.region false [⟨some 4, .mv, [.c (.b false)], none⟩] [0, 1])
 .ret)
 .skip))
 (.seq
 (.seq
 (.region false [⟨some 5, .mv, [.c (.i 0)], none⟩] [])
 (.block 0
 F_laws_eqMarkS_W0))
 (.seq
 (.region false [⟨some 4, .mv, [.c (.b true)], none⟩] [0, 1, 5])
 .ret)))) }
/-- laws.markMarkS -/
def F_laws_markMarkS_L0 : LC :=
 (.seq
 (.seq
 (.region false [⟨some 6, .mv, [.t 5], none⟩,
 ⟨some 7, .mv, [.t 0], none⟩,
 ⟨some 8, .len, [.t 7], none⟩,
 ⟨some 9, .bin .lss, [.t 6, .t 8], none⟩] [6, 7, 8])
 (.cond (.t 9) [9]
 .skip
 (.exit 0)))
 (.seq
 (.block 1
 (.seq
 (.region false [⟨some 12, .mv, [.t 0], none⟩,
 ⟨some 13, .mv, [.t 5], none⟩,
 ⟨some 14, .mv, [.t 1], none⟩,
 ⟨some 15, .idxa 2, [.t 12, .t 13], none⟩,
 ⟨some 16, .fld 0 1 false, [.t 15], none⟩,
 ⟨none, .store 1, [.t 16, .t 14], none⟩] [12, 13, 14, 15, 16])
 (.seq
 (.region false [⟨some 17, .mv, [.t 1], none⟩,
 ⟨some 18, .bin .add, [.t 17, .c (.i 1)], none⟩,
 ⟨some 1, .mv, [.t 18], none⟩] [17, 18])
 (.seq
 (.region false [⟨some 19, .mv, [.t 0], none⟩,
 ⟨some 20, .mv, [.t 5], none⟩,
 ⟨some 21, .mv, [.t 1], none⟩,
 ⟨some 22, .idxa 2, [.t 19, .t 20], none⟩,
 ⟨some 23, .fld 1 1 false, [.t 22], none⟩,
 ⟨none, .store 1, [.t 23, .t 21], none⟩] [19, 20, 21, 22, 23])
 (.region false [⟨some 24, .mv, [.t 1], none⟩,
 ⟨some 25, .bin .add, [.t 24, .c (.i 1)], none⟩,
 ⟨some 1, .mv, [.t 25], none⟩] [24, 25])))))
 (.region false [⟨some 10, .mv, [.t 5], none⟩,
 ⟨some 11, .bin .add, [.t 10, .c (.i 1)], none⟩,
 ⟨some 5, .mv, [.t 11], none⟩] [10, 11])))
def F_laws_markMarkS_W0 : LC := .loop F_laws_markMarkS_L0
def F_laws_markMarkS : LF :=
 { nparams := 2, results := [.t 4], body :=
 (.seq
 (.region false [⟨some 4, .mv, [.c (.i 0)], none⟩] [4])
 (.seq
 (.seq
 (.region false [⟨some 5, .mv, [.c (.i 0)], none⟩] [])
 (.block 0
 F_laws_markMarkS_W0))
 (.seq
 (.region false [⟨some 26, .mv, [.t 1], none⟩,
 ⟨some 4, .mv, [.t 26], none⟩] [1, 5, 26])
 .ret))) }
/-- spec.OrderPlan -/
def F_spec_OrderPlan : LF :=
 { nparams := 3, results := [.t 6, .t 7], body :=
 (.seq
 (.region false [⟨some 6, .newnil 3096, [], none⟩,
 ⟨some 7, .mv, [.c (.b false)], none⟩] [6, 7])
 (.seq
 (.seq
 (.region false [⟨some 10, .mv, [.t 0], none⟩,
 ⟨some 11, .mv, [.t 1], none⟩,
 ⟨some 12, .call n_spec_TermOk 6144, [.t 10, .t 11], none⟩,
 ⟨some 13, .un .not, [.t 12], none⟩,
 ⟨some 14, .mv, [.t 13], none⟩,
 ⟨some 15, .mv, [.t 0], some (14, false)⟩,
 ⟨some 16, .mv, [.t 2], some (14, false)⟩,
 ⟨some 17, .call n_spec_OrderOk 8704, [.t 15, .t 16], some (14, false)⟩,
 ⟨some 18, .un .not, [.t 17], some (14, false)⟩,
 ⟨some 19, .pick, [.t 14, .c (.b true), .t 18], none⟩] [10, 11, 12, 13, 14, 15, 16, 17, 18])
 (.cond (.t 19) [19]
 (.seq
 (.region false [⟨some 20, .bslice 10264 0 3 (.st [.i 0, .i 0, .i 0]) [], [], none⟩,
 ⟨some 6, .mv, [.t 20], none⟩,
 ⟨some 7, .mv, [.c (.b false)], none⟩] [0, 1, 2, 20])
 .ret)
 .skip))
 (.seq
 (.region false [⟨some 22, .mv, [.t 0], none⟩,
 ⟨some 23, .mv, [.t 0], none⟩,
 ⟨some 24, .mv, [.t 1], none⟩,
 ⟨some 25, .call n_spec_l3Table 12800, [.t 23, .t 24], none⟩,
 ⟨some 26, .mv, [.t 2], none⟩,
 ⟨some 27, .mv, [.t 0], none⟩,
 ⟨some 28, .call n_spec_l4None 14336, [.t 27], none⟩,
 ⟨some 29, .bslice 14872 0 3 (.st [.i 0, .i 0, .i 0]) [], [], none⟩,
 ⟨some 30, .callm n_spec_l6Line [5] 15360, [.t 22, .t 25, .t 26, .c (.i 0), .t 28, .t 29], none⟩,
 ⟨some 21, .mv, [.t 30], none⟩,
 ⟨some 31, .ext 0, [.t 21], none⟩,
 ⟨some 32, .ext 1, [.t 21], none⟩,
 ⟨some 8, .mv, [.t 31], none⟩,
 ⟨some 9, .mv, [.t 32], none⟩] [0, 1, 2, 9, 21, 22, 23, 24, 25, 26, 27, 28, 29, 30, 31, 32])
 (.seq
 (.region false [⟨some 33, .mv, [.t 8], none⟩,
 ⟨some 6, .mv, [.t 33], none⟩,
 ⟨some 7, .mv, [.c (.b true)], none⟩] [8, 33])
 .ret)))) }
/-- laws.toIntS -/
def F_laws_toIntS_L0 : LC :=
 (.seq
 (.seq
 (.region false [⟨some 8, .mv, [.t 4], none⟩,
 ⟨some 9, .mv, [.t 0], none⟩,
 ⟨some 10, .len, [.t 9], none⟩,
 ⟨some 11, .bin .lss, [.t 8, .t 10], none⟩] [8, 9, 10])
 (.cond (.t 11) [11]
 .skip
 (.exit 0)))
 (.seq
 (.block 1
 (.region false [⟨some 14, .mv, [.t 3], none⟩,
 ⟨some 15, .mv, [.t 4], none⟩,
 ⟨some 16, .mv, [.t 0], none⟩,
 ⟨some 17, .mv, [.t 4], none⟩,
 ⟨some 18, .idxa 1, [.t 16, .t 17], none⟩,
 ⟨some 19, .load 1 false, [.t 18], none⟩,
 ⟨some 20, .idxa 1, [.t 14, .t 15], none⟩,
 ⟨none, .store 1, [.t 20, .t 19], none⟩] [14, 15, 16, 17, 18, 19, 20]))
 (.region false [⟨some 12, .mv, [.t 4], none⟩,
 ⟨some 13, .bin .add, [.t 12, .c (.i 1)], none⟩,
 ⟨some 4, .mv, [.t 13], none⟩] [12, 13])))
def F_laws_toIntS_W0 : LC := .loop F_laws_toIntS_L0
def F_laws_toIntS : LF :=
 { nparams := 1, results := [.t 2], body :=
 (.seq
 (.region false [⟨some 2, .newnil 1032, [], none⟩] [2])
 (.seq
 (.region false [⟨some 5, .mv, [.t 0], none⟩,
 ⟨some 6, .len, [.t 5], none⟩,
 ⟨some 7, .make 3592 1 (.i 0), [.t 6, .t 6], none⟩,
 ⟨some 3, .mv, [.t 7], none⟩] [5, 6, 7])
 (.seq
 (.seq
 (.region false [⟨some 4, .mv, [.c (.i 0)], none⟩] [])
 (.block 0
 F_laws_toIntS_W0))
 (.seq
 (.region false [⟨some 21, .mv, [.t 3], none⟩,
 ⟨some 2, .mv, [.t 21], none⟩] [0, 3, 4, 21])
 .ret)))) }
/-- impl.OrderPlan -/
def F_impl_OrderPlan : LF :=
 { nparams := 3, results := [.t 6, .t 7], body :=
 (.seq
 (.region false [⟨some 5, .box 2568, [.t 2], none⟩,
 ⟨some 6, .newnil 3096, [], none⟩,
 ⟨some 7, .mv, [.c (.b false)], none⟩] [2, 6, 7])
 (.seq
 (.seq
 (.region false [⟨some 9, .mv, [.t 0], none⟩,
 ⟨some 10, .mv, [.t 1], none⟩,
 ⟨some 11, .call n_impl_TermOk 5632, [.t 9, .t 10], none⟩,
 ⟨some 12, .un .not, [.t 11], none⟩,
 ⟨some 13, .mv, [.t 12], none⟩,
 ⟨some 14, .mv, [.t 0], some (13, false)⟩,
 ⟨some 15, .load 1 false, [.t 5], some (13, false)⟩,
 ⟨some 16, .call n_impl_OrderOk 8192, [.t 14, .t 15], some (13, false)⟩,
 ⟨some 17, .un .not, [.t 16], some (13, false)⟩,
 ⟨some 18, .pick, [.t 13, .c (.b true), .t 17], none⟩] [9, 10, 11, 12, 13, 14, 15, 16, 17])
 (.cond (.t 18) [18]
 (.seq
 (.region false [⟨some 6, .newnil 3096, [], none⟩,
 ⟨some 7, .mv, [.c (.b false)], none⟩] [0, 1, 5])
 .ret)
 .skip))
 (.seq
 (.region false [⟨some 19, .mv, [.t 0], none⟩,
 ⟨some 20, .mv, [.t 1], none⟩,
 ⟨some 21, .call n_impl_startOf 10752, [.t 19, .t 20], none⟩,
 ⟨some 22, .mkfn (mkNo n_impl_OrderPlan_1 0), [.t 5], none⟩,
 ⟨some 23, .call n_impl_planFrom 11776, [.t 21, .c (.i 0), .t 22], none⟩,
 ⟨some 8, .mv, [.t 23], none⟩] [0, 1, 5, 19, 20, 21, 22, 23])
 (.seq
 (.region false [⟨some 24, .mv, [.t 8], none⟩,
 ⟨some 6, .mv, [.t 24], none⟩,
 ⟨some 7, .mv, [.c (.b true)], none⟩] [8, 24])
 .ret)))) }
/-- laws.eqIntS -/
def F_laws_eqIntS_L0 : LC :=
 (.seq
 (.seq
 (.region false [⟨some 11, .mv, [.t 5], none⟩,
 ⟨some 12, .mv, [.t 0], none⟩,
 ⟨some 13, .len, [.t 12], none⟩,
 ⟨some 14, .bin .lss, [.t 11, .t 13], none⟩] [11, 12, 13])
 (.cond (.t 14) [14]
 .skip
 (.exit 0)))
 (.seq
 (.block 1
 (.seq
 (.region true [⟨some 17, .mv, [.t 0], none⟩,
 ⟨some 18, .mv, [.t 5], none⟩,
 ⟨some 19, .idxa 1, [.t 17, .t 18], none⟩,
 ⟨some 20, .load 1 false, [.t 19], none⟩,
 ⟨some 21, .mv, [.t 1], none⟩,
 ⟨some 22, .mv, [.t 5], none⟩,
 ⟨some 23, .idxa 1, [.t 21, .t 22], none⟩,
 ⟨some 24, .load 1 false, [.t 23], none⟩,
 ⟨some 25, .bin .neq, [.t 20, .t 24], none⟩] [17, 18, 19, 20, 21, 22, 23, 24])
 (.cond (.t 25) [25]
 (.seq
 (.region false [⟨some 4, .mv, [.c (.b false)], none⟩] [0, 1, 5])
 .ret)
 .skip)))
 (.region false [⟨some 15, .mv, [.t 5], none⟩,
 ⟨some 16, .bin .add, [.t 15, .c (.i 1)], none⟩,
 ⟨some 5, .mv, [.t 16], none⟩] [15, 16])))
def F_laws_eqIntS_W0 : LC := .loop F_laws_eqIntS_L0
def F_laws_eqIntS : LF :=
 { nparams := 2, results := [.t 4], body :=
 (.seq
 (.region false [⟨some 4, .mv, [.c (.b false)], none⟩] [4])
 (.seq
 (.seq
 (.region false [⟨some 6, .mv, [.t 0], none⟩,
 ⟨some 7, .len, [.t 6], none⟩,
 ⟨some 8, .mv, [.t 1], none⟩,
 ⟨some 9, .len, [.t 8], none⟩,
 ⟨some 10, .bin .neq, [.t 7, .t 9], none⟩] [6, 7, 8, 9])
 (.cond (.t 10) [10]
 (.seq
 (.region false [⟨some 4, .mv, [.c (.b false)], none⟩] [0, 1])
 .ret)
 .skip))
 (.seq
 (.seq
 (.region false [⟨some 5, .mv, [.c (.i 0)], none⟩] [])
 (.block 0
 F_laws_eqIntS_W0))
 (.seq
 (.region false [⟨some 4, .mv, [.c (.b true)], none⟩] [0, 1, 5])
 .ret)))) }
/-- laws.markIntS -/
def F_laws_markIntS_L0 : LC :=
 (.seq
 (.seq
 (.region false [⟨some 6, .mv, [.t 5], none⟩,
 ⟨some 7, .mv, [.t 0], none⟩,
 ⟨some 8, .len, [.t 7], none⟩,
 ⟨some 9, .bin .lss, [.t 6, .t 8], none⟩] [6, 7, 8])
 (.cond (.t 9) [9]
 .skip
 (.exit 0)))
 (.seq
 (.block 1
 (.seq
 (.region false [⟨some 12, .mv, [.t 0], none⟩,
 ⟨some 13, .mv, [.t 5], none⟩,
 ⟨some 14, .mv, [.t 1], none⟩,
 ⟨some 15, .idxa 1, [.t 12, .t 13], none⟩,
 ⟨none, .store 1, [.t 15, .t 14], none⟩] [12, 13, 14, 15])
 (.region false [⟨some 16, .mv, [.t 1], none⟩,
 ⟨some 17, .bin .add, [.t 16, .c (.i 1)], none⟩,
 ⟨some 1, .mv, [.t 17], none⟩] [16, 17])))
 (.region false [⟨some 10, .mv, [.t 5], none⟩,
 ⟨some 11, .bin .add, [.t 10, .c (.i 1)], none⟩,
 ⟨some 5, .mv, [.t 11], none⟩] [10, 11])))
def F_laws_markIntS_W0 : LC := .loop F_laws_markIntS_L0
def F_laws_markIntS : LF :=
 { nparams := 2, results := [.t 4], body :=
 (.seq
 (.region false [⟨some 4, .mv, [.c (.i 0)], none⟩] [4])
 (.seq
 (.seq
 (.region false [⟨some 5, .mv, [.c (.i 0)], none⟩] [])
 (.block 0
 F_laws_markIntS_W0))
 (.seq
 (.region false [⟨some 18, .mv, [.t 1], none⟩,
 ⟨some 4, .mv, [.t 18], none⟩] [1, 5, 18])
 .ret))) }
/-- spec.l1In -/
def F_spec_l1In : LF :=
 { nparams := 3, results := [.t 6], body :=
 (.seq
 (.region false [⟨some 6, .mv, [.c (.b false)], none⟩] [6])
 (.seq
 (.region false [⟨some 7, .mv, [.t 0], none⟩,
 ⟨some 8, .mv, [.t 1], none⟩,
 ⟨some 9, .bin .geq, [.t 7, .t 8], none⟩,
 ⟨some 10, .mv, [.t 9], none⟩,
 ⟨some 11, .mv, [.t 0], some (10, true)⟩,
 ⟨some 12, .mv, [.t 2], some (10, true)⟩,
 ⟨some 13, .bin .leq, [.t 11, .t 12], some (10, true)⟩,
 ⟨some 14, .pick, [.t 10, .t 13, .c (.b false)], none⟩,
 ⟨some 6, .mv, [.t 14], none⟩] [0, 1, 2, 7, 8, 9, 10, 11, 12, 13, 14])
 .ret)) }
/-- impl.isWithin -/
def F_impl_isWithin : LF :=
 { nparams := 3, results := [.t 6], body :=
 (.seq
 (.region false [⟨some 6, .mv, [.c (.b false)], none⟩] [6])
 (.seq
 (.region false [⟨some 7, .mv, [.t 1], none⟩,
 ⟨some 8, .mv, [.t 0], none⟩,
 ⟨some 9, .bin .leq, [.t 7, .t 8], none⟩,
 ⟨some 10, .mv, [.t 9], none⟩,
 ⟨some 11, .mv, [.t 0], some (10, true)⟩,
 ⟨some 12, .mv, [.t 2], some (10, true)⟩,
 ⟨some 13, .bin .leq, [.t 11, .t 12], some (10, true)⟩,
 ⟨some 14, .pick, [.t 10, .t 13, .c (.b false)], none⟩,
 ⟨some 6, .mv, [.t 14], none⟩] [0, 1, 2, 7, 8, 9, 10, 11, 12, 13, 14])
 .ret)) }
/-- impl.sizeOf -/
def F_impl_sizeOf : LF :=
 { nparams := 1, results := [.t 2], body :=
 (.seq
 (.region false [⟨some 2, .mv, [.c (.i 0)], none⟩] [2])
 (.seq
 (.region false [⟨some 3, .mv, [.t 0], none⟩,
 ⟨some 4, .conv .i2q 2048, [.t 3], none⟩,
 ⟨some 5, .call n_math_bits_OnesCount 2560, [.t 4], none⟩,
 ⟨some 2, .mv, [.t 5], none⟩] [0, 3, 4, 5])
 .ret)) }
/-- impl.planFrom -/
def F_impl_planFrom : LF :=
 { nparams := 3, results := [.t 6], body :=
 (.seq
 (.region false [⟨some 3, .box 1568, [.t 0], none⟩,
 ⟨some 6, .newnil 3096, [], none⟩] [0, 6])
 (.seq
 (.seq
 (.region false [⟨some 11, .load 4 true, [.t 3], none⟩,
 ⟨some 12, .call n_impl_point_isForced 6144, [.t 11], none⟩] [11])
 (.cond (.t 12) [12]
 (.seq
 (.region false [⟨some 6, .newnil 3096, [], none⟩] [1, 2, 3])
 .ret)
 .skip))
 (.seq
 (.region false [⟨some 13, .mv, [.t 2], none⟩,
 ⟨some 14, .load 4 true, [.t 3], none⟩,
 ⟨some 15, .calld 7680, [.t 13, .t 14], none⟩,
 ⟨some 7, .mv, [.t 15], none⟩] [13, 14, 15])
 (.seq
 (.region false [⟨some 16, .load 4 true, [.t 3], none⟩,
 ⟨some 17, .mv, [.t 7], none⟩,
 ⟨some 18, .call n_impl_point_answered 9216, [.t 16, .t 17, .c (.i 0)], none⟩,
 ⟨some 19, .mv, [.t 1], none⟩,
 ⟨some 20, .bin .add, [.t 19, .c (.i 1)], none⟩,
 ⟨some 21, .mv, [.t 2], none⟩,
 ⟨some 22, .call n_impl_planFrom 11264, [.t 18, .t 20, .t 21], none⟩,
 ⟨some 8, .mv, [.t 22], none⟩] [16, 17, 18, 19, 20, 21, 22])
 (.seq
 (.region false [⟨some 23, .load 4 true, [.t 3], none⟩,
 ⟨some 24, .mv, [.t 7], none⟩,
 ⟨some 25, .call n_impl_point_answered 12800, [.t 23, .t 24, .c (.i 1)], none⟩,
 ⟨some 26, .mv, [.t 1], none⟩,
 ⟨some 27, .bin .add, [.t 26, .c (.i 1)], none⟩,
 ⟨some 28, .mv, [.t 8], none⟩,
 ⟨some 29, .len, [.t 28], none⟩,
 ⟨some 30, .bin .add, [.t 27, .t 29], none⟩,
 ⟨some 31, .mv, [.t 2], none⟩,
 ⟨some 32, .call n_impl_planFrom 16384, [.t 25, .t 30, .t 31], none⟩,
 ⟨some 9, .mv, [.t 32], none⟩] [2, 3, 23, 24, 25, 26, 27, 28, 29, 30, 31, 32])
 (.seq
 (.region false [⟨some 33, .mv, [.t 7], none⟩,
 ⟨some 34, .build [.i 0, .i 0, .i 0] [(0, 1), (1, 1), (2, 1)], [.t 33, .c (.i (-1)), .c (.i (-1))], none⟩,
 ⟨some 10, .alloc 5144 (.st [.i 0, .i 0, .i 0]), [], none⟩,
 ⟨none, .store 3, [.t 10, .t 34], none⟩] [7, 33, 34])
 (.seq
 (.seq
 (.region false [⟨some 35, .mv, [.t 8], none⟩,
 ⟨some 36, .len, [.t 35], none⟩,
 ⟨some 37, .bin .gtr, [.t 36, .c (.i 0)], none⟩] [35, 36])
 (.cond (.t 37) [37]
 (.region false [⟨some 38, .mv, [.t 1], none⟩,
 ⟨some 39, .bin .add, [.t 38, .c (.i 1)], none⟩,
 ⟨some 40, .fld 1 1 false, [.t 10], none⟩,
 ⟨none, .store 1, [.t 40, .t 39], none⟩] [38, 39, 40])
 .skip))
 (.seq
 (.seq
 (.region false [⟨some 41, .mv, [.t 9], none⟩,
 ⟨some 42, .len, [.t 41], none⟩,
 ⟨some 43, .bin .gtr, [.t 42, .c (.i 0)], none⟩] [41, 42])
 (.cond (.t 43) [43]
 (.region false [⟨some 44, .mv, [.t 1], none⟩,
 ⟨some 45, .bin .add, [.t 44, .c (.i 1)], none⟩,
 ⟨some 46, .mv, [.t 8], none⟩,
 ⟨some 47, .len, [.t 46], none⟩,
 ⟨some 48, .bin .add, [.t 45, .t 47], none⟩,
 ⟨some 49, .fld 2 1 false, [.t 10], none⟩,
 ⟨none, .store 1, [.t 49, .t 48], none⟩] [1, 44, 45, 46, 47, 48, 49])
 .skip))
 (.seq
 (.region false [⟨some 50, .load 3 true, [.t 10], none⟩,
 ⟨some 51, .bslice 26136 1 3 (.st [.i 0, .i 0, .i 0]) [0], [.t 50], none⟩,
 ⟨some 52, .mv, [.t 8], none⟩,
 ⟨some 53, .mv, [.t 9], none⟩,
 ⟨some 54, .bslice 27656 3 1 (.sl 1 []) [0, 1, 2], [.t 51, .t 52, .t 53], none⟩,
 ⟨some 55, .call n_slices_Concat_impl_Choice_impl_Choice 28160, [.t 54], none⟩,
 ⟨some 6, .mv, [.t 55], none⟩] [1, 8, 9, 10, 50, 51, 52, 53, 54, 55])
 .ret))))))))) }
/-- impl.startOf -/
def F_impl_startOf : LF :=
 { nparams := 2, results := [.c 4 4 true], body :=
 (.seq
 (.region false [⟨some 4, .alloc 2080 (.st [.i 0, .i 0, .w (0#32), .w (0#32)]), [], none⟩] [])
 (.seq
 (.region false [⟨some 5, .mv, [.t 0], none⟩,
 ⟨some 6, .mv, [.t 1], none⟩,
 ⟨some 7, .call n_impl_trueStates 3584, [.t 6], none⟩,
 ⟨some 8, .build [.i 0, .i 0, .w (0#32), .w (0#32)] [(0, 1), (2, 1), (3, 1)], [.t 5, .c (.w (4294967295#32)), .t 7], none⟩,
 ⟨none, .store 4, [.t 4, .t 8], none⟩] [0, 1, 5, 6, 7, 8])
 .ret)) }
/-- laws.eqChoice -/
def F_laws_eqChoice : LF :=
 { nparams := 2, results := [.t 4], body :=
 (.seq
 (.region false [⟨some 2, .box 1048, [.t 0], none⟩,
 ⟨some 3, .box 1560, [.t 1], none⟩,
 ⟨some 4, .mv, [.c (.b false)], none⟩] [0, 1, 4])
 (.seq
 (.seq
 (.region false [⟨some 5, .fld 0 1 false, [.t 2], none⟩,
 ⟨some 6, .load 1 false, [.t 5], none⟩,
 ⟨some 7, .fld 0 1 false, [.t 3], none⟩,
 ⟨some 8, .load 1 false, [.t 7], none⟩,
 ⟨some 9, .bin .neq, [.t 6, .t 8], none⟩] [5, 6, 7, 8])
 (.cond (.t 9) [9]
 (.seq
 (.region false [⟨some 4, .mv, [.c (.b false)], none⟩] [2, 3])
 .ret)
 .skip))
 (.seq
 (.seq
 (.region false [⟨some 10, .fld 1 1 false, [.t 2], none⟩,
 ⟨some 11, .load 1 false, [.t 10], none⟩,
 ⟨some 12, .fld 1 1 false, [.t 3], none⟩,
 ⟨some 13, .load 1 false, [.t 12], none⟩,
 ⟨some 14, .bin .neq, [.t 11, .t 13], none⟩] [10, 11, 12, 13])
 (.cond (.t 14) [14]
 (.seq
 (.region false [⟨some 4, .mv, [.c (.b false)], none⟩] [2, 3])
 .ret)
 .skip))
 (.seq
 (.seq
 (.region false [⟨some 15, .fld 2 1 false, [.t 2], none⟩,
 ⟨some 16, .load 1 false, [.t 15], none⟩,
 ⟨some 17, .fld 2 1 false, [.t 3], none⟩,
 ⟨some 18, .load 1 false, [.t 17], none⟩,
 ⟨some 19, .bin .neq, [.t 16, .t 18], none⟩] [2, 3, 15, 16, 17, 18])
 (.cond (.t 19) [19]
 (.seq
 (.region false [⟨some 4, .mv, [.c (.b false)], none⟩] [])
 .ret)
 .skip))
 (.seq
 (.region false [⟨some 4, .mv, [.c (.b true)], none⟩] [])
 .ret))))) }
/-- spec.TermOk -/
def F_spec_TermOk_L0 : LC :=
 (.seq
 (.seq
 (.region false [⟨some 7, .mv, [.t 6], none⟩,
 ⟨some 8, .mv, [.t 1], none⟩,
 ⟨some 9, .len, [.t 8], none⟩,
 ⟨some 10, .bin .lss, [.t 7, .t 9], none⟩] [7, 8, 9])
 (.cond (.t 10) [10]
 .skip
 (.exit 0)))
 (.seq
 (.block 1
 (.block 2
 (.seq
 (.region false [⟨some 14, .mv, [.t 1], none⟩,
 ⟨some 15, .mv, [.t 6], none⟩,
 ⟨some 16, .idxa 2, [.t 14, .t 15], none⟩,
 ⟨some 17, .fld 0 1 false, [.t 16], none⟩,
 ⟨some 18, .load 1 false, [.t 17], none⟩,
 ⟨some 19, .bin .eql, [.t 18, .c (.i 0)], none⟩,
 ⟨some 20, .mv, [.t 19], none⟩,
 ⟨some 21, .mv, [.t 1], some (20, true)⟩,
 ⟨some 22, .mv, [.t 6], some (20, true)⟩,
 ⟨some 23, .idxa 2, [.t 21, .t 22], some (20, true)⟩,
 ⟨some 24, .fld 1 1 false, [.t 23], some (20, true)⟩,
 ⟨some 25, .load 1 false, [.t 24], some (20, true)⟩,
 ⟨some 26, .bin .geq, [.t 25, .c (.i 0)], some (20, true)⟩,
 ⟨some 27, .pick, [.t 20, .t 26, .c (.b false)], none⟩,
 ⟨some 28, .mv, [.t 27], none⟩,
 ⟨some 29, .mv, [.t 1], some (28, true)⟩,
 ⟨some 30, .mv, [.t 6], some (28, true)⟩,
 ⟨some 31, .idxa 2, [.t 29, .t 30], some (28, true)⟩,
 ⟨some 32, .fld 1 1 false, [.t 31], some (28, true)⟩,
 ⟨some 33, .load 1 false, [.t 32], some (28, true)⟩,
 ⟨some 34, .mv, [.t 0], some (28, true)⟩,
 ⟨some 35, .bin .lss, [.t 33, .t 34], some (28, true)⟩,
 ⟨some 36, .pick, [.t 28, .t 35, .c (.b false)], none⟩,
 ⟨some 13, .mv, [.t 36], none⟩] [14, 15, 16, 17, 18, 19, 20, 21, 22, 23, 24, 25, 26, 27, 28, 29, 30, 31, 32, 33, 34, 35, 36])
 (.cond (.t 13) [13]
 (.region false [⟨some 37, .mv, [.t 5], none⟩,
 ⟨some 38, .bin .add, [.t 37, .c (.i 1)], none⟩,
 ⟨some 5, .mv, [.t 38], none⟩] [37, 38])
 (.seq
 (.region false [⟨some 40, .mv, [.t 1], none⟩,
 ⟨some 41, .mv, [.t 6], none⟩,
 ⟨some 42, .idxa 2, [.t 40, .t 41], none⟩,
 ⟨some 43, .load 2 true, [.t 42], none⟩,
 ⟨some 44, .build [.i 0, .i 0] [(0, 1)], [.c (.i 1)], none⟩,
 ⟨some 45, .eqs false 2, [.t 43, .t 44], none⟩,
 ⟨some 46, .mv, [.t 45], none⟩,
 ⟨some 47, .mv, [.t 5], some (46, true)⟩,
 ⟨some 48, .bin .geq, [.t 47, .c (.i 1)], some (46, true)⟩,
 ⟨some 49, .pick, [.t 46, .t 48, .c (.b false)], none⟩,
 ⟨some 39, .mv, [.t 49], none⟩] [40, 41, 42, 43, 44, 45, 46, 47, 48, 49])
 (.cond (.t 39) [39]
 .skip
 (.seq
 (.region false [⟨some 51, .mv, [.t 1], none⟩,
 ⟨some 52, .mv, [.t 6], none⟩,
 ⟨some 53, .idxa 2, [.t 51, .t 52], none⟩,
 ⟨some 54, .load 2 true, [.t 53], none⟩,
 ⟨some 55, .build [.i 0, .i 0] [(0, 1)], [.c (.i 2)], none⟩,
 ⟨some 56, .eqs false 2, [.t 54, .t 55], none⟩,
 ⟨some 57, .mv, [.t 56], none⟩,
 ⟨some 58, .mv, [.t 1], some (57, false)⟩,
 ⟨some 59, .mv, [.t 6], some (57, false)⟩,
 ⟨some 60, .idxa 2, [.t 58, .t 59], some (57, false)⟩,
 ⟨some 61, .load 2 true, [.t 60], some (57, false)⟩,
 ⟨some 62, .build [.i 0, .i 0] [(0, 1)], [.c (.i 3)], some (57, false)⟩,
 ⟨some 63, .eqs false 2, [.t 61, .t 62], some (57, false)⟩,
 ⟨some 64, .pick, [.t 57, .c (.b true), .t 63], none⟩,
 ⟨some 65, .mv, [.t 64], none⟩,
 ⟨some 66, .mv, [.t 5], some (65, true)⟩,
 ⟨some 67, .bin .geq, [.t 66, .c (.i 2)], some (65, true)⟩,
 ⟨some 68, .pick, [.t 65, .t 67, .c (.b false)], none⟩,
 ⟨some 50, .mv, [.t 68], none⟩] [51, 52, 53, 54, 55, 56, 57, 58, 59, 60, 61, 62, 63, 64, 65, 66, 67, 68])
 (.cond (.t 50) [50]
 (.region false [⟨some 69, .mv, [.t 5], none⟩,
 ⟨some 70, .bin .sub, [.t 69, .c (.i 1)], none⟩,
 ⟨some 5, .mv, [.t 70], none⟩] [69, 70])
 (.seq
 (.region false [⟨some 4, .mv, [.c (.b false)], none⟩] [0, 1, 5, 6])
 .ret)))))))))
 (.region false [⟨some 11, .mv, [.t 6], none⟩,
 ⟨some 12, .bin .add, [.t 11, .c (.i 1)], none⟩,
 ⟨some 6, .mv, [.t 12], none⟩] [11, 12])))
def F_spec_TermOk_W0 : LC := .loop F_spec_TermOk_L0
def F_spec_TermOk : LF :=
 { nparams := 2, results := [.t 4], body :=
 (.seq
 (.region false [⟨some 4, .mv, [.c (.b false)], none⟩] [4])
 (.seq
 (.region false [⟨some 5, .mv, [.c (.i 0)], none⟩] [])
 (.seq
 (.seq
 (.region false [⟨some 6, .mv, [.c (.i 0)], none⟩] [])
 (.block 0
 F_spec_TermOk_W0))
 (.seq
 (.region false [⟨some 71, .mv, [.t 0], none⟩,
 ⟨some 72, .call n_spec_l1In 36864, [.t 71, .c (.i 1), .c (.i 5)], none⟩,
 ⟨some 73, .mv, [.t 72], none⟩,
 ⟨some 74, .mv, [.t 5], some (73, true)⟩,
 ⟨some 75, .bin .eql, [.t 74, .c (.i 1)], some (73, true)⟩,
 ⟨some 76, .pick, [.t 73, .t 75, .c (.b false)], none⟩,
 ⟨some 77, .mv, [.t 76], none⟩,
 ⟨some 78, .mv, [.t 1], some (77, true)⟩,
 ⟨some 79, .len, [.t 78], some (77, true)⟩,
 ⟨some 80, .bin .leq, [.t 79, .c (.i 13)], some (77, true)⟩,
 ⟨some 81, .pick, [.t 77, .t 80, .c (.b false)], none⟩,
 ⟨some 4, .mv, [.t 81], none⟩] [0, 1, 5, 6, 71, 72, 73, 74, 75, 76, 77, 78, 79, 80, 81])
 .ret)))) }
/-- spec.l3Table -/
def F_spec_l3Table_L0 : LC :=
 (.seq
 (.seq
 (.region false [⟨some 7, .mv, [.t 6], none⟩,
 ⟨some 8, .mv, [.t 0], none⟩,
 ⟨some 9, .bin .shl, [.c (.i 1), .t 8], none⟩,
 ⟨some 10, .bin .lss, [.t 7, .t 9], none⟩] [7, 8, 9])
 (.cond (.t 10) [10]
 .skip
 (.exit 0)))
 (.seq
 (.block 1
 (.region false [⟨some 13, .mv, [.t 5], none⟩,
 ⟨some 14, .mv, [.t 1], none⟩,
 ⟨some 15, .mv, [.t 6], none⟩,
 ⟨some 16, .call n_spec_l3Value 8192, [.t 14, .t 15], none⟩,
 ⟨some 17, .mv, [.t 6], none⟩,
 ⟨some 18, .bin .shl, [.t 16, .t 17], none⟩,
 ⟨some 19, .bin .or, [.t 13, .t 18], none⟩,
 ⟨some 5, .mv, [.t 19], none⟩] [13, 14, 15, 16, 17, 18, 19]))
 (.region false [⟨some 11, .mv, [.t 6], none⟩,
 ⟨some 12, .bin .add, [.t 11, .c (.i 1)], none⟩,
 ⟨some 6, .mv, [.t 12], none⟩] [11, 12])))
def F_spec_l3Table_W0 : LC := .loop F_spec_l3Table_L0
def F_spec_l3Table : LF :=
 { nparams := 2, results := [.t 4], body :=
 (.seq
 (.region false [⟨some 4, .mv, [.c (.i 0)], none⟩] [4])
 (.seq
 (.region false [⟨some 5, .mv, [.c (.i 0)], none⟩] [])
 (.seq
 (.seq
 (.region false [⟨some 6, .mv, [.c (.i 0)], none⟩] [])
 (.block 0
 F_spec_l3Table_W0))
 (.seq
 (.region false [⟨some 20, .mv, [.t 5], none⟩,
 ⟨some 4, .mv, [.t 20], none⟩] [0, 1, 5, 6, 20])
 .ret)))) }
/-- spec.l4None -/
def F_spec_l4None_L0 : LC :=
 (.seq
 (.seq
 (.region false [⟨some 6, .mv, [.t 4], none⟩,
 ⟨some 7, .mv, [.t 0], none⟩,
 ⟨some 8, .bin .lss, [.t 6, .t 7], none⟩] [6, 7])
 (.cond (.t 8) [8]
 .skip
 (.exit 0)))
 (.seq
 (.block 1
 (.region false [⟨some 11, .mv, [.t 3], none⟩,
 ⟨some 12, .bslice 6152 1 1 (.i 0) [0], [.c (.i (-1))], none⟩,
 ⟨some 13, .app 6664 1, [.t 11, .t 12], none⟩,
 ⟨some 3, .mv, [.t 13], none⟩] [11, 12, 13]))
 (.region false [⟨some 9, .mv, [.t 4], none⟩,
 ⟨some 10, .bin .add, [.t 9, .c (.i 1)], none⟩,
 ⟨some 4, .mv, [.t 10], none⟩] [9, 10])))
def F_spec_l4None_W0 : LC := .loop F_spec_l4None_L0
def F_spec_l4None : LF :=
 { nparams := 1, results := [.t 2], body :=
 (.seq
 (.region false [⟨some 2, .newnil 1032, [], none⟩] [2])
 (.seq
 (.region false [⟨some 5, .bslice 2568 0 1 (.i 0) [], [], none⟩,
 ⟨some 3, .mv, [.t 5], none⟩] [5])
 (.seq
 (.seq
 (.region false [⟨some 4, .mv, [.c (.i 0)], none⟩] [])
 (.block 0
 F_spec_l4None_W0))
 (.seq
 (.region false [⟨some 14, .mv, [.t 3], none⟩,
 ⟨some 2, .mv, [.t 14], none⟩] [0, 3, 4, 14])
 .ret)))) }
/-- laws.toMark -/
def F_laws_toMark : LF :=
 { nparams := 1, results := [.c 2 2 true], body :=
 (.seq
 (.region false [⟨some 1, .box 528, [.t 0], none⟩,
 ⟨some 2, .alloc 1040 (.st [.i 0, .i 0]), [], none⟩] [0])
 (.seq
 (.region false [⟨some 3, .alloc 1552 (.st [.i 0, .i 0]), [], none⟩] [])
 (.seq
 (.region false [⟨some 4, .fld 0 1 false, [.t 1], none⟩,
 ⟨some 5, .load 1 false, [.t 4], none⟩,
 ⟨some 6, .fld 0 1 false, [.t 3], none⟩,
 ⟨none, .store 1, [.t 6, .t 5], none⟩] [4, 5, 6])
 (.seq
 (.region false [⟨some 7, .fld 1 1 false, [.t 1], none⟩,
 ⟨some 8, .load 1 false, [.t 7], none⟩,
 ⟨some 9, .fld 1 1 false, [.t 3], none⟩,
 ⟨none, .store 1, [.t 9, .t 8], none⟩] [1, 7, 8, 9])
 (.seq
 (.region false [⟨some 10, .load 2 true, [.t 3], none⟩,
 ⟨none, .store 2, [.t 2, .t 10], none⟩] [3, 10])
 .ret))))) }
/-- impl.TermOk -/
def F_impl_TermOk_L0 : LC :=
 (.seq
 (.region false [⟨some 21, .bin .lss, [.t 20, .t 19], none⟩] [])
 (.seq
 (.cond (.t 21) [21]
 .skip
 (.exit 0))
 (.seq
 (.block 1
 (.seq
 (.region false [⟨some 22, .idxa 2, [.t 18, .t 20], none⟩,
 ⟨some 23, .load 2 true, [.t 22], none⟩,
 ⟨some 7, .alloc 3600 (.st [.i 0, .i 0]), [], none⟩,
 ⟨none, .store 2, [.t 7, .t 23], none⟩] [22, 23])
 (.seq
 (.region false [⟨some 24, .fld 0 1 false, [.t 7], none⟩,
 ⟨some 25, .load 1 false, [.t 24], none⟩,
 ⟨some 26, .call n_impl_partsTaken 13312, [.t 25], none⟩,
 ⟨some 8, .mv, [.t 26], none⟩] [24, 25, 26])
 (.seq
 (.seq
 (.region false [⟨some 27, .mv, [.t 0], none⟩,
 ⟨some 28, .load 2 true, [.t 7], none⟩,
 ⟨some 29, .call n_impl_markOk 14848, [.t 27, .t 28], none⟩,
 ⟨some 30, .un .not, [.t 29], none⟩,
 ⟨some 31, .mv, [.t 30], none⟩,
 ⟨some 32, .mv, [.t 5], some (31, false)⟩,
 ⟨some 33, .mv, [.t 8], some (31, false)⟩,
 ⟨some 34, .bin .lss, [.t 32, .t 33], some (31, false)⟩,
 ⟨some 35, .pick, [.t 31, .c (.b true), .t 34], none⟩] [7, 27, 28, 29, 30, 31, 32, 33, 34])
 (.cond (.t 35) [35]
 (.seq
 (.region false [⟨some 4, .mv, [.c (.b false)], none⟩] [0, 5, 8, 18, 19, 20])
 .ret)
 .skip))
 (.region false [⟨some 36, .mv, [.t 5], none⟩,
 ⟨some 37, .mv, [.t 8], none⟩,
 ⟨some 38, .bin .sub, [.c (.i 1), .t 37], none⟩,
 ⟨some 39, .bin .add, [.t 36, .t 38], none⟩,
 ⟨some 5, .mv, [.t 39], none⟩] [8, 36, 37, 38, 39])))))
 (.region false [⟨some 40, .bin .add, [.t 20, .c (.i 1)], none⟩,
 ⟨some 20, .mv, [.t 40], none⟩] [40]))))
def F_impl_TermOk_W0 : LC := .loop F_impl_TermOk_L0
def F_impl_TermOk : LF :=
 { nparams := 2, results := [.t 4], body :=
 (.seq
 (.region false [⟨some 4, .mv, [.c (.b false)], none⟩] [4])
 (.seq
 (.seq
 (.region false [⟨some 9, .mv, [.t 0], none⟩,
 ⟨some 10, .call n_impl_manyOk 5120, [.t 9], none⟩,
 ⟨some 11, .un .not, [.t 10], none⟩,
 ⟨some 12, .mv, [.t 11], none⟩,
 ⟨some 13, .mv, [.t 1], some (12, false)⟩,
 ⟨some 14, .len, [.t 13], some (12, false)⟩,
 ⟨some 15, .call n_impl_isWithin 7680, [.t 14, .c (.i 1), .c (.i 13)], some (12, false)⟩,
 ⟨some 16, .un .not, [.t 15], some (12, false)⟩,
 ⟨some 17, .pick, [.t 12, .c (.b true), .t 16], none⟩] [9, 10, 11, 12, 13, 14, 15, 16])
 (.cond (.t 17) [17]
 (.seq
 (.region false [⟨some 4, .mv, [.c (.b false)], none⟩] [0, 1])
 .ret)
 .skip))
 (.seq
 (.region false [⟨some 5, .mv, [.c (.i 0)], none⟩] [])
 (.seq
 (.seq
 (.region false [⟨some 18, .mv, [.t 1], none⟩,
 ⟨some 19, .len, [.t 18], none⟩,
 ⟨some 20, .mv, [.c (.i 0)], none⟩] [1])
 (.block 0
 F_impl_TermOk_W0))
 (.seq
 (.region false [⟨some 41, .mv, [.t 5], none⟩,
 ⟨some 42, .bin .eql, [.t 41, .c (.i 1)], none⟩,
 ⟨some 4, .mv, [.t 42], none⟩] [0, 5, 18, 19, 20, 41, 42])
 .ret))))) }
/-- laws.eqMark -/
def F_laws_eqMark : LF :=
 { nparams := 2, results := [.t 4], body :=
 (.seq
 (.region false [⟨some 2, .box 1040, [.t 0], none⟩,
 ⟨some 3, .box 1552, [.t 1], none⟩,
 ⟨some 4, .mv, [.c (.b false)], none⟩] [0, 1, 4])
 (.seq
 (.seq
 (.region false [⟨some 5, .fld 0 1 false, [.t 2], none⟩,
 ⟨some 6, .load 1 false, [.t 5], none⟩,
 ⟨some 7, .fld 0 1 false, [.t 3], none⟩,
 ⟨some 8, .load 1 false, [.t 7], none⟩,
 ⟨some 9, .bin .neq, [.t 6, .t 8], none⟩] [5, 6, 7, 8])
 (.cond (.t 9) [9]
 (.seq
 (.region false [⟨some 4, .mv, [.c (.b false)], none⟩] [2, 3])
 .ret)
 .skip))
 (.seq
 (.seq
 (.region false [⟨some 10, .fld 1 1 false, [.t 2], none⟩,
 ⟨some 11, .load 1 false, [.t 10], none⟩,
 ⟨some 12, .fld 1 1 false, [.t 3], none⟩,
 ⟨some 13, .load 1 false, [.t 12], none⟩,
 ⟨some 14, .bin .neq, [.t 11, .t 13], none⟩] [2, 3, 10, 11, 12, 13])
 (.cond (.t 14) [14]
 (.seq
 (.region false [⟨some 4, .mv, [.c (.b false)], none⟩] [])
 .ret)
 .skip))
 (.seq
 (.region false [⟨some 4, .mv, [.c (.b true)], none⟩] [])
 .ret)))) }
/-- impl.point).howManyAsked -/
def F_impl_point_howManyAsked : LF :=
 { nparams := 1, results := [.t 2], body :=
 (.seq
 (.region false [⟨some 1, .box 544, [.t 0], none⟩,
 ⟨some 2, .mv, [.c (.i 0)], none⟩] [0, 2])
 (.seq
 (.region false [⟨some 3, .fld 1 1 false, [.t 1], none⟩,
 ⟨some 4, .load 1 false, [.t 3], none⟩,
 ⟨some 5, .call n_impl_sizeOf 2560, [.t 4], none⟩,
 ⟨some 2, .mv, [.t 5], none⟩] [1, 3, 4, 5])
 .ret)) }
/-- spec.OrderOk -/
def F_spec_OrderOk_L0 : LC :=
 (.seq
 (.seq
 (.region false [⟨some 7, .mv, [.t 6], none⟩,
 ⟨some 8, .mv, [.t 1], none⟩,
 ⟨some 9, .len, [.t 8], none⟩,
 ⟨some 10, .bin .lss, [.t 7, .t 9], none⟩] [7, 8, 9])
 (.cond (.t 10) [10]
 .skip
 (.exit 0)))
 (.seq
 (.block 1
 (.seq
 (.seq
 (.region false [⟨some 13, .mv, [.t 1], none⟩,
 ⟨some 14, .mv, [.t 6], none⟩,
 ⟨some 15, .idxa 1, [.t 13, .t 14], none⟩,
 ⟨some 16, .load 1 false, [.t 15], none⟩,
 ⟨some 17, .bin .lss, [.t 16, .c (.i 0)], none⟩,
 ⟨some 18, .mv, [.t 17], none⟩,
 ⟨some 19, .mv, [.t 1], some (18, false)⟩,
 ⟨some 20, .mv, [.t 6], some (18, false)⟩,
 ⟨some 21, .idxa 1, [.t 19, .t 20], some (18, false)⟩,
 ⟨some 22, .load 1 false, [.t 21], some (18, false)⟩,
 ⟨some 23, .mv, [.t 0], some (18, false)⟩,
 ⟨some 24, .bin .geq, [.t 22, .t 23], some (18, false)⟩,
 ⟨some 25, .pick, [.t 18, .c (.b true), .t 24], none⟩,
 ⟨some 26, .mv, [.t 25], none⟩,
 ⟨some 27, .mv, [.t 1], some (26, false)⟩,
 ⟨some 28, .mv, [.t 6], some (26, false)⟩,
 ⟨some 29, .idxa 1, [.t 27, .t 28], some (26, false)⟩,
 ⟨some 30, .load 1 false, [.t 29], some (26, false)⟩,
 ⟨some 31, .bin .geq, [.t 30, .c (.i 5)], some (26, false)⟩,
 ⟨some 32, .pick, [.t 26, .c (.b true), .t 31], none⟩,
 ⟨some 33, .mv, [.t 32], none⟩,
 ⟨some 34, .mv, [.t 5], some (33, false)⟩,
 ⟨some 35, .mv, [.t 1], some (33, false)⟩,
 ⟨some 36, .mv, [.t 6], some (33, false)⟩,
 ⟨some 37, .idxa 1, [.t 35, .t 36], some (33, false)⟩,
 ⟨some 38, .load 1 false, [.t 37], some (33, false)⟩,
 ⟨some 39, .bin .shr, [.t 34, .t 38], some (33, false)⟩,
 ⟨some 40, .bin .rem, [.t 39, .c (.i 2)], some (33, false)⟩,
 ⟨some 41, .bin .eql, [.t 40, .c (.i 1)], some (33, false)⟩,
 ⟨some 42, .pick, [.t 33, .c (.b true), .t 41], none⟩] [13, 14, 15, 16, 17, 18, 19, 20, 21, 22, 23, 24, 25, 26, 27, 28, 29, 30, 31, 32, 33, 34, 35, 36, 37, 38, 39, 40, 41])
 (.cond (.t 42) [42]
 (.seq
 (.region false [⟨some 4, .mv, [.c (.b false)], none⟩] [0, 1, 5, 6])
 .ret)
 .skip))
 (.region false [⟨some 43, .mv, [.t 5], none⟩,
 ⟨some 44, .mv, [.t 1], none⟩,
 ⟨some 45, .mv, [.t 6], none⟩,
 ⟨some 46, .idxa 1, [.t 44, .t 45], none⟩,
 ⟨some 47, .load 1 false, [.t 46], none⟩,
 ⟨some 48, .bin .shl, [.c (.i 1), .t 47], none⟩,
 ⟨some 49, .bin .or, [.t 43, .t 48], none⟩,
 ⟨some 5, .mv, [.t 49], none⟩] [43, 44, 45, 46, 47, 48, 49])))
 (.region false [⟨some 11, .mv, [.t 6], none⟩,
 ⟨some 12, .bin .add, [.t 11, .c (.i 1)], none⟩,
 ⟨some 6, .mv, [.t 12], none⟩] [11, 12])))
def F_spec_OrderOk_W0 : LC := .loop F_spec_OrderOk_L0
def F_spec_OrderOk : LF :=
 { nparams := 2, results := [.t 4], body :=
 (.seq
 (.region false [⟨some 4, .mv, [.c (.b false)], none⟩] [4])
 (.seq
 (.region false [⟨some 5, .mv, [.c (.i 0)], none⟩] [])
 (.seq
 (.seq
 (.region false [⟨some 6, .mv, [.c (.i 0)], none⟩] [])
 (.block 0
 F_spec_OrderOk_W0))
 (.seq
 (.region false [⟨some 50, .mv, [.t 0], none⟩,
 ⟨some 51, .call n_spec_l1In 26112, [.t 50, .c (.i 1), .c (.i 5)], none⟩,
 ⟨some 52, .mv, [.t 51], none⟩,
 ⟨some 53, .mv, [.t 1], some (52, true)⟩,
 ⟨some 54, .len, [.t 53], some (52, true)⟩,
 ⟨some 55, .mv, [.t 0], some (52, true)⟩,
 ⟨some 56, .bin .eql, [.t 54, .t 55], some (52, true)⟩,
 ⟨some 57, .pick, [.t 52, .t 56, .c (.b false)], none⟩,
 ⟨some 4, .mv, [.t 57], none⟩] [0, 1, 5, 6, 50, 51, 52, 53, 54, 55, 56, 57])
 .ret)))) }
/-- spec.l6Line -/
def F_spec_l6Line : LF :=
 { nparams := 6, results := [.t 12, .t 13], body :=
 (.seq
 (.region false [⟨some 12, .newnil 6168, [], none⟩,
 ⟨some 13, .mv, [.c (.i 0)], none⟩] [12, 13])
 (.seq
 (.seq
 (.region false [⟨some 20, .mv, [.t 0], none⟩,
 ⟨some 21, .mv, [.t 1], none⟩,
 ⟨some 22, .mv, [.t 4], none⟩,
 ⟨some 23, .call n_spec_l3Forced 11776, [.t 20, .t 21, .t 22], none⟩,
 ⟨some 24, .bin .neq, [.t 23, .c (.i (-1))], none⟩] [20, 21, 22, 23])
 (.cond (.t 24) [24]
 (.seq
 (.region false [⟨some 25, .mv, [.t 5], none⟩,
 ⟨some 12, .mv, [.t 25], none⟩,
 ⟨some 13, .mv, [.c (.i (-1))], none⟩] [0, 1, 2, 3, 4, 5, 25])
 .ret)
 .skip))
 (.seq
 (.region false [⟨some 26, .mv, [.t 5], none⟩,
 ⟨some 27, .len, [.t 26], none⟩,
 ⟨some 14, .mv, [.t 27], none⟩] [26, 27])
 (.seq
 (.region false [⟨some 28, .mv, [.t 2], none⟩,
 ⟨some 29, .mv, [.t 3], none⟩,
 ⟨some 30, .idxa 1, [.t 28, .t 29], none⟩,
 ⟨some 31, .load 1 false, [.t 30], none⟩,
 ⟨some 15, .mv, [.t 31], none⟩] [28, 29, 30, 31])
 (.seq
 (.region false [⟨some 32, .bslice 16408 0 3 (.st [.i 0, .i 0, .i 0]) [], [], none⟩,
 ⟨some 33, .mv, [.t 5], none⟩,
 ⟨some 34, .app 17432 3, [.t 32, .t 33], none⟩,
 ⟨some 35, .mv, [.t 15], none⟩,
 ⟨some 36, .build [.i 0, .i 0, .i 0] [(0, 1), (1, 1), (2, 1)], [.t 35, .c (.i (-1)), .c (.i (-1))], none⟩,
 ⟨some 37, .bslice 18968 1 3 (.st [.i 0, .i 0, .i 0]) [0], [.t 36], none⟩,
 ⟨some 38, .app 19480 3, [.t 34, .t 37], none⟩,
 ⟨some 5, .mv, [.t 38], none⟩] [32, 33, 34, 35, 36, 37, 38])
 (.seq
 (.region false [⟨some 39, .bslice 19976 0 1 (.i 0) [], [], none⟩,
 ⟨some 40, .mv, [.t 4], none⟩,
 ⟨some 41, .app 21000 1, [.t 39, .t 40], none⟩,
 ⟨some 16, .mv, [.t 41], none⟩] [39, 40, 41])
 (.seq
 (.region false [⟨some 42, .mv, [.t 16], none⟩,
 ⟨some 43, .mv, [.t 15], none⟩,
 ⟨some 44, .idxa 1, [.t 42, .t 43], none⟩,
 ⟨none, .store 1, [.t 44, .c (.i 0)], none⟩] [42, 43, 44])
 (.seq
 (.region false [⟨some 45, .bslice 23048 0 1 (.i 0) [], [], none⟩,
 ⟨some 46, .mv, [.t 4], none⟩,
 ⟨some 47, .app 24072 1, [.t 45, .t 46], none⟩,
 ⟨some 17, .mv, [.t 47], none⟩] [4, 45, 46, 47])
 (.seq
 (.region false [⟨some 48, .mv, [.t 17], none⟩,
 ⟨some 49, .mv, [.t 15], none⟩,
 ⟨some 50, .idxa 1, [.t 48, .t 49], none⟩,
 ⟨none, .store 1, [.t 50, .c (.i 1)], none⟩] [48, 49, 50])
 (.seq
 (.region false [⟨some 52, .mv, [.t 0], none⟩,
 ⟨some 53, .mv, [.t 1], none⟩,
 ⟨some 54, .mv, [.t 2], none⟩,
 ⟨some 55, .mv, [.t 3], none⟩,
 ⟨some 56, .bin .add, [.t 55, .c (.i 1)], none⟩,
 ⟨some 57, .mv, [.t 16], none⟩,
 ⟨some 58, .mv, [.t 5], none⟩,
 ⟨some 59, .callm n_spec_l6Line [5] 30208, [.t 52, .t 53, .t 54, .t 56, .t 57, .t 58], none⟩,
 ⟨some 51, .mv, [.t 59], none⟩,
 ⟨some 60, .ext 0, [.t 51], none⟩,
 ⟨some 61, .ext 1, [.t 51], none⟩,
 ⟨some 5, .mv, [.t 60], none⟩,
 ⟨some 18, .mv, [.t 61], none⟩] [16, 51, 52, 53, 54, 55, 56, 57, 58, 59, 60, 61])
 (.seq
 (.region false [⟨some 63, .mv, [.t 0], none⟩,
 ⟨some 64, .mv, [.t 1], none⟩,
 ⟨some 65, .mv, [.t 2], none⟩,
 ⟨some 66, .mv, [.t 3], none⟩,
 ⟨some 67, .bin .add, [.t 66, .c (.i 1)], none⟩,
 ⟨some 68, .mv, [.t 17], none⟩,
 ⟨some 69, .mv, [.t 5], none⟩,
 ⟨some 70, .callm n_spec_l6Line [5] 35840, [.t 63, .t 64, .t 65, .t 67, .t 68, .t 69], none⟩,
 ⟨some 62, .mv, [.t 70], none⟩,
 ⟨some 71, .ext 0, [.t 62], none⟩,
 ⟨some 72, .ext 1, [.t 62], none⟩,
 ⟨some 5, .mv, [.t 71], none⟩,
 ⟨some 19, .mv, [.t 72], none⟩] [0, 1, 2, 3, 17, 62, 63, 64, 65, 66, 67, 68, 69, 70, 71, 72])
 (.seq
 (.region false [⟨some 73, .mv, [.t 5], none⟩,
 ⟨some 74, .mv, [.t 14], none⟩,
 ⟨some 75, .mv, [.t 15], none⟩,
 ⟨some 76, .mv, [.t 18], none⟩,
 ⟨some 77, .mv, [.t 19], none⟩,
 ⟨some 78, .build [.i 0, .i 0, .i 0] [(0, 1), (1, 1), (2, 1)], [.t 75, .t 76, .t 77], none⟩,
 ⟨some 79, .idxa 3, [.t 73, .t 74], none⟩,
 ⟨none, .store 3, [.t 79, .t 78], none⟩] [15, 18, 19, 73, 74, 75, 76, 77, 78, 79])
 (.seq
 (.region false [⟨some 80, .mv, [.t 5], none⟩,
 ⟨some 81, .mv, [.t 14], none⟩,
 ⟨some 12, .mv, [.t 80], none⟩,
 ⟨some 13, .mv, [.t 81], none⟩] [5, 14, 80, 81])
 .ret))))))))))))) }
/-- impl.OrderOk -/
def F_impl_OrderOk_L0 : LC :=
 (.seq
 (.region false [⟨some 20, .bin .lss, [.t 19, .t 18], none⟩] [])
 (.seq
 (.cond (.t 20) [20]
 .skip
 (.exit 0))
 (.seq
 (.block 1
 (.seq
 (.region false [⟨some 21, .idxa 1, [.t 17, .t 19], none⟩,
 ⟨some 22, .load 1 false, [.t 21], none⟩,
 ⟨some 7, .mv, [.t 22], none⟩] [21, 22])
 (.seq
 (.seq
 (.region false [⟨some 23, .mv, [.t 7], none⟩,
 ⟨some 24, .mv, [.t 0], none⟩,
 ⟨some 25, .bin .sub, [.t 24, .c (.i 1)], none⟩,
 ⟨some 26, .call n_impl_isWithin 13312, [.t 23, .c (.i 0), .t 25], none⟩,
 ⟨some 27, .un .not, [.t 26], none⟩,
 ⟨some 28, .mv, [.t 27], none⟩,
 ⟨some 29, .mv, [.t 5], some (28, false)⟩,
 ⟨some 30, .mv, [.t 7], some (28, false)⟩,
 ⟨some 31, .call n_impl_hasTest 15872, [.t 29, .t 30], some (28, false)⟩,
 ⟨some 32, .pick, [.t 28, .c (.b true), .t 31], none⟩] [23, 24, 25, 26, 27, 28, 29, 30, 31])
 (.cond (.t 32) [32]
 (.seq
 (.region false [⟨some 4, .mv, [.c (.b false)], none⟩] [0, 5, 7, 17, 18, 19])
 .ret)
 .skip))
 (.region false [⟨some 33, .mv, [.t 5], none⟩,
 ⟨some 34, .mv, [.t 7], none⟩,
 ⟨some 35, .bin .shl, [.c (.i 1), .t 34], none⟩,
 ⟨some 36, .bin .or, [.t 33, .t 35], none⟩,
 ⟨some 5, .mv, [.t 36], none⟩] [7, 33, 34, 35, 36]))))
 (.region false [⟨some 37, .bin .add, [.t 19, .c (.i 1)], none⟩,
 ⟨some 19, .mv, [.t 37], none⟩] [37]))))
def F_impl_OrderOk_W0 : LC := .loop F_impl_OrderOk_L0
def F_impl_OrderOk : LF :=
 { nparams := 2, results := [.t 4], body :=
 (.seq
 (.region false [⟨some 4, .mv, [.c (.b false)], none⟩] [4])
 (.seq
 (.seq
 (.region false [⟨some 8, .mv, [.t 0], none⟩,
 ⟨some 9, .call n_impl_manyOk 4608, [.t 8], none⟩,
 ⟨some 10, .un .not, [.t 9], none⟩,
 ⟨some 11, .mv, [.t 10], none⟩,
 ⟨some 12, .mv, [.t 1], some (11, false)⟩,
 ⟨some 13, .len, [.t 12], some (11, false)⟩,
 ⟨some 14, .mv, [.t 0], some (11, false)⟩,
 ⟨some 15, .bin .neq, [.t 13, .t 14], some (11, false)⟩,
 ⟨some 16, .pick, [.t 11, .c (.b true), .t 15], none⟩] [8, 9, 10, 11, 12, 13, 14, 15])
 (.cond (.t 16) [16]
 (.seq
 (.region false [⟨some 4, .mv, [.c (.b false)], none⟩] [0, 1])
 .ret)
 .skip))
 (.seq
 (.region false [⟨some 5, .mv, [.c (.i 0)], none⟩] [])
 (.seq
 (.seq
 (.region false [⟨some 17, .mv, [.t 1], none⟩,
 ⟨some 18, .len, [.t 17], none⟩,
 ⟨some 19, .mv, [.c (.i 0)], none⟩] [1])
 (.block 0
 F_impl_OrderOk_W0))
 (.seq
 (.region false [⟨some 4, .mv, [.c (.b true)], none⟩] [0, 5, 17, 18, 19])
 .ret))))) }
/-- impl.OrderPlan$1 -/
def F_impl_OrderPlan_1 : LF :=
 { nparams := 2, results := [.t 3], body :=
 (.seq
 (.region false [⟨some 2, .box 1056, [.t 0], none⟩,
 ⟨some 3, .mv, [.c (.i 0)], none⟩] [0, 3])
 (.seq
 (.region true [⟨some 4, .load 1 false, [.t 1], none⟩,
 ⟨some 5, .load 4 true, [.t 2], none⟩,
 ⟨some 6, .call n_impl_point_howManyAsked 3072, [.t 5], none⟩,
 ⟨some 7, .idxa 1, [.t 4, .t 6], none⟩,
 ⟨some 8, .load 1 false, [.t 7], none⟩,
 ⟨some 3, .mv, [.t 8], none⟩] [1, 2, 4, 5, 6, 7, 8])
 .ret)) }
/-- impl.manyOk -/
def F_impl_manyOk : LF :=
 { nparams := 1, results := [.t 2], body :=
 (.seq
 (.region false [⟨some 2, .mv, [.c (.b false)], none⟩] [2])
 (.seq
 (.region false [⟨some 3, .mv, [.t 0], none⟩,
 ⟨some 4, .call n_impl_isWithin 2048, [.t 3, .c (.i 1), .c (.i 5)], none⟩,
 ⟨some 2, .mv, [.t 4], none⟩] [0, 3, 4])
 .ret)) }
/-- bits.OnesCount -/
def F_math_bits_OnesCount : LF :=
 { nparams := 1, results := [.t 2], body :=
 (.seq
 (.region false [⟨some 2, .mv, [.c (.i 0)], none⟩] [2])
 (.seq
 (.cond (.c (.b false)) []
 (.seq
 .void
 .ret)
 .skip)
 (.seq
 (.region false [⟨some 6, .mv, [.t 0], none⟩,
 ⟨some 7, .call n_math_bits_OnesCount64 3584, [.t 6], none⟩,
 ⟨some 2, .mv, [.t 7], none⟩] [0, 6, 7])
 .ret))) }
/-- impl.hasTest -/
def F_impl_hasTest : LF :=
 { nparams := 2, results := [.t 4], body :=
 (.seq
 (.region false [⟨some 4, .mv, [.c (.b false)], none⟩] [4])
 (.seq
 (.region false [⟨some 5, .mv, [.t 0], none⟩,
 ⟨some 6, .mv, [.t 1], none⟩,
 ⟨some 7, .bin .shr, [.t 5, .t 6], none⟩,
 ⟨some 8, .bin .and, [.t 7, .c (.i 1)], none⟩,
 ⟨some 9, .bin .eql, [.t 8, .c (.i 1)], none⟩,
 ⟨some 4, .mv, [.t 9], none⟩] [0, 1, 5, 6, 7, 8, 9])
 .ret)) }
/-- impl.point).isForced -/
def F_impl_point_isForced : LF :=
 { nparams := 1, results := [.t 2], body :=
 (.seq
 (.region false [⟨some 1, .box 544, [.t 0], none⟩,
 ⟨some 2, .mv, [.c (.b false)], none⟩] [0, 2])
 (.seq
 (.region false [⟨some 3, .fld 3 1 false, [.t 1], none⟩,
 ⟨some 4, .load 1 false, [.t 3], none⟩,
 ⟨some 5, .fld 2 1 false, [.t 1], none⟩,
 ⟨some 6, .load 1 false, [.t 5], none⟩,
 ⟨some 7, .call n_impl_valueAmong 3584, [.t 4, .t 6], none⟩,
 ⟨some 8, .bin .neq, [.t 7, .c (.i (-1))], none⟩,
 ⟨some 2, .mv, [.t 8], none⟩] [1, 3, 4, 5, 6, 7, 8])
 .ret)) }
/-- impl.point).answered -/
def F_impl_point_answered : LF :=
 { nparams := 3, results := [.c 6 4 true], body :=
 (.seq
 (.region false [⟨some 3, .box 1568, [.t 0], none⟩,
 ⟨some 6, .alloc 3104 (.st [.i 0, .i 0, .w (0#32), .w (0#32)]), [], none⟩] [0])
 (.seq
 (.region true [⟨some 7, .fld 1 1 false, [.t 3], none⟩,
 ⟨some 8, .load 1 false, [.t 7], none⟩,
 ⟨some 9, .mv, [.t 1], none⟩,
 ⟨some 10, .bin .shl, [.c (.i 1), .t 9], none⟩,
 ⟨some 11, .bin .or, [.t 8, .t 10], none⟩,
 ⟨some 12, .fld 1 1 false, [.t 3], none⟩,
 ⟨none, .store 1, [.t 12, .t 11], none⟩] [7, 8, 9, 10, 11, 12])
 (.seq
 (.region true [⟨some 13, .fld 2 1 false, [.t 3], none⟩,
 ⟨some 14, .load 1 false, [.t 13], none⟩,
 ⟨some 15, .mv, [.t 1], none⟩,
 ⟨some 16, .mv, [.t 2], none⟩,
 ⟨some 17, .call n_impl_statesSaying 8704, [.t 15, .t 16], none⟩,
 ⟨some 18, .bin .and, [.t 14, .t 17], none⟩,
 ⟨some 19, .fld 2 1 false, [.t 3], none⟩,
 ⟨none, .store 1, [.t 19, .t 18], none⟩] [1, 2, 13, 14, 15, 16, 17, 18, 19])
 (.seq
 (.region false [⟨some 20, .load 4 true, [.t 3], none⟩,
 ⟨none, .store 4, [.t 6, .t 20], none⟩] [3, 20])
 .ret)))) }
/-- impl.Choice] -/
def F_slices_Concat_impl_Choice_impl_Choice_L0 : LC :=
 (.seq
 (.region false [⟨some 12, .bin .lss, [.t 11, .t 10], none⟩] [])
 (.seq
 (.cond (.t 12) [12]
 .skip
 (.exit 0))
 (.seq
 (.block 1
 (.seq
 (.region false [⟨some 13, .idxa 1, [.t 9, .t 11], none⟩,
 ⟨some 14, .load 1 false, [.t 13], none⟩,
 ⟨some 5, .mv, [.t 14], none⟩] [13, 14])
 (.seq
 (.region false [⟨some 15, .mv, [.t 3], none⟩,
 ⟨some 16, .mv, [.t 5], none⟩,
 ⟨some 17, .len, [.t 16], none⟩,
 ⟨some 18, .bin .add, [.t 15, .t 17], none⟩,
 ⟨some 3, .mv, [.t 18], none⟩] [5, 15, 16, 17, 18])
 (.seq
 (.region false [⟨some 19, .mv, [.t 3], none⟩,
 ⟨some 20, .bin .lss, [.t 19, .c (.i 0)], none⟩] [19])
 (.cond (.t 20) [20]
 .void
 .skip)))))
 (.region false [⟨some 22, .bin .add, [.t 11, .c (.i 1)], none⟩,
 ⟨some 11, .mv, [.t 22], none⟩] [22]))))
def F_slices_Concat_impl_Choice_impl_Choice_W0 : LC := .loop F_slices_Concat_impl_Choice_impl_Choice_L0
def F_slices_Concat_impl_Choice_impl_Choice_L1 : LC :=
 (.seq
 (.region false [⟨some 28, .bin .lss, [.t 27, .t 26], none⟩] [])
 (.seq
 (.cond (.t 28) [28]
 .skip
 (.exit 2))
 (.seq
 (.block 3
 (.seq
 (.region false [⟨some 29, .idxa 1, [.t 25, .t 27], none⟩,
 ⟨some 30, .load 1 false, [.t 29], none⟩,
 ⟨some 8, .mv, [.t 30], none⟩] [29, 30])
 (.region false [⟨some 31, .mv, [.t 6], none⟩,
 ⟨some 32, .mv, [.t 8], none⟩,
 ⟨some 33, .app 16920 3, [.t 31, .t 32], none⟩,
 ⟨some 6, .mv, [.t 33], none⟩] [8, 31, 32, 33])))
 (.region false [⟨some 34, .bin .add, [.t 27, .c (.i 1)], none⟩,
 ⟨some 27, .mv, [.t 34], none⟩] [34]))))
def F_slices_Concat_impl_Choice_impl_Choice_W1 : LC := .loop F_slices_Concat_impl_Choice_impl_Choice_L1
def F_slices_Concat_impl_Choice_impl_Choice : LF :=
 { nparams := 1, results := [.t 2], body :=
 (.seq
 (.region false [⟨some 2, .newnil 1048, [], none⟩] [2])
 (.seq
 (.region false [⟨some 3, .mv, [.c (.i 0)], none⟩] [])
 (.seq
 (.seq
 (.region false [⟨some 9, .mv, [.t 0], none⟩,
 ⟨some 10, .len, [.t 9], none⟩,
 ⟨some 11, .mv, [.c (.i 0)], none⟩] [])
 (.block 0
 F_slices_Concat_impl_Choice_impl_Choice_W0))
 (.seq
 (.region false [⟨some 23, .mv, [.t 3], none⟩,
 ⟨some 24, .callm n_slices_Grow_impl_Choice_impl_Choice [0] 12288, [.c (.nil), .t 23], none⟩,
 ⟨some 6, .mv, [.t 24], none⟩] [3, 9, 10, 11, 23, 24])
 (.seq
 (.seq
 (.region false [⟨some 25, .mv, [.t 0], none⟩,
 ⟨some 26, .len, [.t 25], none⟩,
 ⟨some 27, .mv, [.c (.i 0)], none⟩] [0])
 (.block 2
 F_slices_Concat_impl_Choice_impl_Choice_W1))
 (.seq
 (.region false [⟨some 35, .mv, [.t 6], none⟩,
 ⟨some 2, .mv, [.t 35], none⟩] [6, 25, 26, 27, 35])
 .ret)))))) }
/-- impl.trueStates -/
def F_impl_trueStates : LF :=
 { nparams := 1, results := [.t 2], body :=
 (.seq
 (.region false [⟨some 2, .mv, [.c (.w (0#32))], none⟩] [2])
 (.seq
 (.region false [⟨some 3, .mv, [.t 0], none⟩,
 ⟨some 4, .call n_impl_foldTerm_uint32 2048, [.t 3, .c (.fn n_impl_statesOfPart [])], none⟩,
 ⟨some 2, .mv, [.t 4], none⟩] [0, 3, 4])
 .ret)) }
/-- impl.valueAmong -/
def F_impl_valueAmong : LF :=
 { nparams := 2, results := [.t 4], body :=
 (.seq
 (.region false [⟨some 4, .mv, [.c (.i 0)], none⟩] [4])
 (.seq
 (.seq
 (.region false [⟨some 5, .mv, [.t 0], none⟩,
 ⟨some 6, .mv, [.t 1], none⟩,
 ⟨some 7, .bin .and, [.t 5, .t 6], none⟩] [0, 5, 6])
 (.block 0
 (.seq
 (.region false [⟨some 9, .mv, [.t 1], none⟩,
 ⟨some 10, .bin .eql, [.t 7, .t 9], none⟩,
 ⟨some 8, .mv, [.t 10], none⟩] [1, 9, 10])
 (.cond (.t 8) [8]
 (.seq
 (.region false [⟨some 4, .mv, [.c (.i 1)], none⟩] [7])
 .ret)
 (.seq
 (.region false [⟨some 12, .bin .eql, [.t 7, .c (.w (0#32))], none⟩,
 ⟨some 11, .mv, [.t 12], none⟩] [7, 12])
 (.cond (.t 11) [11]
 (.seq
 (.region false [⟨some 4, .mv, [.c (.i 0)], none⟩] [])
 .ret)
 .skip))))))
 (.seq
 (.region false [⟨some 4, .mv, [.c (.i (-1))], none⟩] [])
 .ret))) }
/-- spec.l3Forced -/
def F_spec_l3Forced_L0 : LC :=
 (.seq
 (.seq
 (.region false [⟨some 11, .mv, [.t 9], none⟩,
 ⟨some 12, .mv, [.t 0], none⟩,
 ⟨some 13, .bin .shl, [.c (.i 1), .t 12], none⟩,
 ⟨some 14, .bin .lss, [.t 11, .t 13], none⟩] [11, 12, 13])
 (.cond (.t 14) [14]
 .skip
 (.exit 0)))
 (.seq
 (.block 1
 (.seq
 (.seq
 (.region false [⟨some 17, .mv, [.t 2], none⟩,
 ⟨some 18, .mv, [.t 9], none⟩,
 ⟨some 19, .call n_spec_l1Agrees 9728, [.t 17, .t 18], none⟩,
 ⟨some 20, .un .not, [.t 19], none⟩] [17, 18, 19])
 (.cond (.t 20) [20]
 (.exit 1)
 .skip))
 (.seq
 (.region false [⟨some 21, .mv, [.t 1], none⟩,
 ⟨some 22, .mv, [.t 9], none⟩,
 ⟨some 23, .bin .shr, [.t 21, .t 22], none⟩,
 ⟨some 24, .bin .rem, [.t 23, .c (.i 2)], none⟩,
 ⟨some 10, .mv, [.t 24], none⟩] [21, 22, 23, 24])
 (.seq
 (.seq
 (.region false [⟨some 25, .mv, [.t 8], none⟩,
 ⟨some 26, .un .not, [.t 25], none⟩,
 ⟨some 27, .mv, [.t 26], none⟩,
 ⟨some 28, .mv, [.t 10], some (27, true)⟩,
 ⟨some 29, .mv, [.t 7], some (27, true)⟩,
 ⟨some 30, .bin .neq, [.t 28, .t 29], some (27, true)⟩,
 ⟨some 31, .pick, [.t 27, .t 30, .c (.b false)], none⟩] [7, 8, 25, 26, 27, 28, 29, 30])
 (.cond (.t 31) [31]
 (.seq
 (.region false [⟨some 6, .mv, [.c (.i (-1))], none⟩] [0, 1, 2, 9, 10])
 .ret)
 .skip))
 (.seq
 (.region false [⟨some 32, .mv, [.t 10], none⟩,
 ⟨some 7, .mv, [.t 32], none⟩] [10, 32])
 (.region false [⟨some 8, .mv, [.c (.b false)], none⟩] []))))))
 (.region false [⟨some 15, .mv, [.t 9], none⟩,
 ⟨some 16, .bin .add, [.t 15, .c (.i 1)], none⟩,
 ⟨some 9, .mv, [.t 16], none⟩] [15, 16])))
def F_spec_l3Forced_W0 : LC := .loop F_spec_l3Forced_L0
def F_spec_l3Forced : LF :=
 { nparams := 3, results := [.t 6], body :=
 (.seq
 (.region false [⟨some 6, .mv, [.c (.i 0)], none⟩] [6])
 (.seq
 (.region false [⟨some 7, .mv, [.c (.i (-1))], none⟩] [])
 (.seq
 (.region false [⟨some 8, .mv, [.c (.b true)], none⟩] [])
 (.seq
 (.seq
 (.region false [⟨some 9, .mv, [.c (.i 0)], none⟩] [])
 (.block 0
 F_spec_l3Forced_W0))
 (.seq
 (.region false [⟨some 33, .mv, [.t 7], none⟩,
 ⟨some 6, .mv, [.t 33], none⟩] [0, 1, 2, 7, 8, 9, 33])
 .ret))))) }
/-- spec.l3Value -/
def F_spec_l3Value : LF :=
 { nparams := 2, results := [.t 4], body :=
 (.seq
 (.region false [⟨some 4, .mv, [.c (.i 0)], none⟩] [4])
 (.seq
 (.region false [⟨some 9, .mv, [.t 0], none⟩,
 ⟨some 10, .len, [.t 9], none⟩,
 ⟨some 11, .bin .sub, [.t 10, .c (.i 1)], none⟩,
 ⟨some 5, .mv, [.t 11], none⟩] [9, 10, 11])
 (.seq
 (.seq
 (.region false [⟨some 12, .mv, [.t 0], none⟩,
 ⟨some 13, .mv, [.t 5], none⟩,
 ⟨some 14, .idxa 2, [.t 12, .t 13], none⟩,
 ⟨some 15, .fld 0 1 false, [.t 14], none⟩,
 ⟨some 16, .load 1 false, [.t 15], none⟩] [12, 13, 14, 15])
 (.block 0
 (.seq
 (.region false [⟨some 18, .bin .eql, [.t 16, .c (.i 0)], none⟩,
 ⟨some 17, .mv, [.t 18], none⟩] [18])
 (.cond (.t 17) [17]
 (.seq
 (.region false [⟨some 19, .mv, [.t 1], none⟩,
 ⟨some 20, .mv, [.t 0], none⟩,
 ⟨some 21, .mv, [.t 5], none⟩,
 ⟨some 22, .idxa 2, [.t 20, .t 21], none⟩,
 ⟨some 23, .fld 1 1 false, [.t 22], none⟩,
 ⟨some 24, .load 1 false, [.t 23], none⟩,
 ⟨some 25, .bin .shr, [.t 19, .t 24], none⟩,
 ⟨some 26, .bin .rem, [.t 25, .c (.i 2)], none⟩,
 ⟨some 4, .mv, [.t 26], none⟩] [0, 1, 5, 16, 19, 20, 21, 22, 23, 24, 25, 26])
 .ret)
 (.seq
 (.region false [⟨some 28, .bin .eql, [.t 16, .c (.i 1)], none⟩,
 ⟨some 27, .mv, [.t 28], none⟩] [16, 28])
 (.cond (.t 27) [27]
 (.seq
 (.region false [⟨some 29, .mv, [.t 0], none⟩,
 ⟨some 30, .mv, [.t 5], none⟩,
 ⟨some 31, .slice false true 2, [.t 29, .t 30], none⟩,
 ⟨some 32, .mv, [.t 1], none⟩,
 ⟨some 33, .call n_spec_l3Value 16896, [.t 31, .t 32], none⟩,
 ⟨some 34, .bin .sub, [.c (.i 1), .t 33], none⟩,
 ⟨some 4, .mv, [.t 34], none⟩] [0, 1, 5, 29, 30, 31, 32, 33, 34])
 .ret)
 .skip))))))
 (.seq
 (.region false [⟨some 35, .mv, [.t 0], none⟩,
 ⟨some 36, .mv, [.t 5], none⟩,
 ⟨some 37, .bin .sub, [.t 36, .c (.i 1)], none⟩,
 ⟨some 38, .call n_spec_l2Starts 19456, [.t 35, .t 37], none⟩,
 ⟨some 6, .mv, [.t 38], none⟩] [35, 36, 37, 38])
 (.seq
 (.region false [⟨some 39, .mv, [.t 0], none⟩,
 ⟨some 40, .mv, [.t 6], none⟩,
 ⟨some 41, .slice false true 2, [.t 39, .t 40], none⟩,
 ⟨some 42, .mv, [.t 1], none⟩,
 ⟨some 43, .call n_spec_l3Value 22016, [.t 41, .t 42], none⟩,
 ⟨some 7, .mv, [.t 43], none⟩] [39, 40, 41, 42, 43])
 (.seq
 (.region false [⟨some 44, .mv, [.t 0], none⟩,
 ⟨some 45, .mv, [.t 6], none⟩,
 ⟨some 46, .mv, [.t 5], none⟩,
 ⟨some 47, .slice true true 2, [.t 44, .t 45, .t 46], none⟩,
 ⟨some 48, .mv, [.t 1], none⟩,
 ⟨some 49, .call n_spec_l3Value 25088, [.t 47, .t 48], none⟩,
 ⟨some 8, .mv, [.t 49], none⟩] [1, 6, 44, 45, 46, 47, 48, 49])
 (.seq
 (.seq
 (.region false [⟨some 50, .mv, [.t 0], none⟩,
 ⟨some 51, .mv, [.t 5], none⟩,
 ⟨some 52, .idxa 2, [.t 50, .t 51], none⟩,
 ⟨some 53, .fld 0 1 false, [.t 52], none⟩,
 ⟨some 54, .load 1 false, [.t 53], none⟩,
 ⟨some 55, .bin .eql, [.t 54, .c (.i 3)], none⟩] [0, 5, 50, 51, 52, 53, 54])
 (.cond (.t 55) [55]
 (.seq
 (.region false [⟨some 56, .mv, [.t 7], none⟩,
 ⟨some 57, .mv, [.t 8], none⟩,
 ⟨some 58, .mm true, [.t 56, .t 57], none⟩,
 ⟨some 4, .mv, [.t 58], none⟩] [7, 8, 56, 57, 58])
 .ret)
 .skip))
 (.seq
 (.region false [⟨some 59, .mv, [.t 7], none⟩,
 ⟨some 60, .mv, [.t 8], none⟩,
 ⟨some 61, .mm false, [.t 59, .t 60], none⟩,
 ⟨some 4, .mv, [.t 61], none⟩] [7, 8, 59, 60, 61])
 .ret)))))))) }
/-- impl.partsTaken -/
def F_impl_partsTaken : LF :=
 { nparams := 1, results := [.t 2], body :=
 (.seq
 (.region false [⟨some 2, .mv, [.c (.i 0)], none⟩] [2])
 (.seq
 (.seq
 (.region false [⟨some 3, .mv, [.t 0], none⟩] [0])
 (.block 0
 (.seq
 (.region false [⟨some 5, .bin .eql, [.t 3, .c (.i 0)], none⟩,
 ⟨some 4, .mv, [.t 5], none⟩] [5])
 (.cond (.t 4) [4]
 (.seq
 (.region false [⟨some 2, .mv, [.c (.i 0)], none⟩] [3])
 .ret)
 (.seq
 (.region false [⟨some 7, .bin .eql, [.t 3, .c (.i 1)], none⟩,
 ⟨some 6, .mv, [.t 7], none⟩] [3, 7])
 (.cond (.t 6) [6]
 (.seq
 (.region false [⟨some 2, .mv, [.c (.i 1)], none⟩] [])
 .ret)
 .skip))))))
 (.seq
 (.region false [⟨some 2, .mv, [.c (.i 2)], none⟩] [])
 .ret))) }
/-- impl.markOk -/
def F_impl_markOk : LF :=
 { nparams := 2, results := [.t 4], body :=
 (.seq
 (.region false [⟨some 3, .box 1552, [.t 1], none⟩,
 ⟨some 4, .mv, [.c (.b false)], none⟩] [1, 4])
 (.seq
 (.seq
 (.region false [⟨some 5, .fld 0 1 false, [.t 3], none⟩,
 ⟨some 6, .load 1 false, [.t 5], none⟩,
 ⟨some 7, .bin .eql, [.t 6, .c (.i 0)], none⟩] [5, 6])
 (.cond (.t 7) [7]
 (.seq
 (.region false [⟨some 8, .fld 1 1 false, [.t 3], none⟩,
 ⟨some 9, .load 1 false, [.t 8], none⟩,
 ⟨some 10, .mv, [.t 0], none⟩,
 ⟨some 11, .bin .sub, [.t 10, .c (.i 1)], none⟩,
 ⟨some 12, .call n_impl_isWithin 6144, [.t 9, .c (.i 0), .t 11], none⟩,
 ⟨some 4, .mv, [.t 12], none⟩] [0, 3, 8, 9, 10, 11, 12])
 .ret)
 .skip))
 (.seq
 (.region false [⟨some 13, .fld 0 1 false, [.t 3], none⟩,
 ⟨some 14, .load 1 false, [.t 13], none⟩,
 ⟨some 15, .call n_impl_isWithin 7680, [.t 14, .c (.i 1), .c (.i 3)], none⟩,
 ⟨some 16, .mv, [.t 15], none⟩,
 ⟨some 17, .fld 1 1 false, [.t 3], some (16, true)⟩,
 ⟨some 18, .load 1 false, [.t 17], some (16, true)⟩,
 ⟨some 19, .bin .eql, [.t 18, .c (.i 0)], some (16, true)⟩,
 ⟨some 20, .pick, [.t 16, .t 19, .c (.b false)], none⟩,
 ⟨some 4, .mv, [.t 20], none⟩] [0, 3, 13, 14, 15, 16, 17, 18, 19, 20])
 .ret))) }
/-- bits.OnesCount64 -/
def F_math_bits_OnesCount64 : LF :=
 { nparams := 1, results := [.t 2], body :=
 (.seq
 (.region false [⟨some 2, .mv, [.c (.i 0)], none⟩] [2])
 (.seq
 (.region false [⟨some 3, .mv, [.t 0], none⟩,
 ⟨some 4, .bin .shr, [.t 3, .c (.q 1)], none⟩,
 ⟨some 5, .bin .and, [.t 4, .c (.q 6148914691236517205)], none⟩,
 ⟨some 6, .mv, [.t 0], none⟩,
 ⟨some 7, .bin .and, [.t 6, .c (.q 6148914691236517205)], none⟩,
 ⟨some 8, .bin .add, [.t 5, .t 7], none⟩,
 ⟨some 0, .mv, [.t 8], none⟩] [3, 4, 5, 6, 7, 8])
 (.seq
 (.region false [⟨some 9, .mv, [.t 0], none⟩,
 ⟨some 10, .bin .shr, [.t 9, .c (.q 2)], none⟩,
 ⟨some 11, .bin .and, [.t 10, .c (.q 3689348814741910323)], none⟩,
 ⟨some 12, .mv, [.t 0], none⟩,
 ⟨some 13, .bin .and, [.t 12, .c (.q 3689348814741910323)], none⟩,
 ⟨some 14, .bin .add, [.t 11, .t 13], none⟩,
 ⟨some 0, .mv, [.t 14], none⟩] [9, 10, 11, 12, 13, 14])
 (.seq
 (.region false [⟨some 15, .mv, [.t 0], none⟩,
 ⟨some 16, .bin .shr, [.t 15, .c (.q 4)], none⟩,
 ⟨some 17, .mv, [.t 0], none⟩,
 ⟨some 18, .bin .add, [.t 16, .t 17], none⟩,
 ⟨some 19, .bin .and, [.t 18, .c (.q 1085102592571150095)], none⟩,
 ⟨some 0, .mv, [.t 19], none⟩] [15, 16, 17, 18, 19])
 (.seq
 (.region false [⟨some 20, .mv, [.t 0], none⟩,
 ⟨some 21, .mv, [.t 0], none⟩,
 ⟨some 22, .bin .shr, [.t 21, .c (.q 8)], none⟩,
 ⟨some 23, .bin .add, [.t 20, .t 22], none⟩,
 ⟨some 0, .mv, [.t 23], none⟩] [20, 21, 22, 23])
 (.seq
 (.region false [⟨some 24, .mv, [.t 0], none⟩,
 ⟨some 25, .mv, [.t 0], none⟩,
 ⟨some 26, .bin .shr, [.t 25, .c (.q 16)], none⟩,
 ⟨some 27, .bin .add, [.t 24, .t 26], none⟩,
 ⟨some 0, .mv, [.t 27], none⟩] [24, 25, 26, 27])
 (.seq
 (.region false [⟨some 28, .mv, [.t 0], none⟩,
 ⟨some 29, .mv, [.t 0], none⟩,
 ⟨some 30, .bin .shr, [.t 29, .c (.q 32)], none⟩,
 ⟨some 31, .bin .add, [.t 28, .t 30], none⟩,
 ⟨some 0, .mv, [.t 31], none⟩] [28, 29, 30, 31])
 (.seq
 (.region false [⟨some 32, .mv, [.t 0], none⟩,
 ⟨some 33, .conv .q2i 16896, [.t 32], none⟩,
 ⟨some 34, .bin .and, [.t 33, .c (.i 127)], none⟩,
 ⟨some 2, .mv, [.t 34], none⟩] [0, 32, 33, 34])
 .ret)))))))) }
/-- impl.statesSaying -/
def F_impl_statesSaying : LF :=
 { gl := [2], nparams := 2, results := [.t 4], body :=
 (.seq
 (.region false [⟨some 4, .mv, [.c (.w (0#32))], none⟩] [4])
 (.seq
 (.seq
 (.region false [⟨some 5, .mv, [.t 1], none⟩,
 ⟨some 6, .bin .eql, [.t 5, .c (.i 1)], none⟩] [1, 5])
 (.cond (.t 6) [6]
 (.seq
 (.region false [⟨some 7, .mv, [.t 0], none⟩,
 ⟨some 8, .idxp 5 1, [.t 1048578, .t 7], none⟩,
 ⟨some 9, .load 1 false, [.t 8], none⟩,
 ⟨some 4, .mv, [.t 9], none⟩] [0, 7, 8, 9])
 .ret)
 .skip))
 (.seq
 (.region false [⟨some 10, .mv, [.t 0], none⟩,
 ⟨some 11, .idxp 5 1, [.t 1048578, .t 10], none⟩,
 ⟨some 12, .load 1 false, [.t 11], none⟩,
 ⟨some 13, .un .xor, [.t 12], none⟩,
 ⟨some 4, .mv, [.t 13], none⟩] [0, 10, 11, 12, 13])
 .ret))) }
/-- impl.Choice] -/
def F_slices_Grow_impl_Choice_impl_Choice : LF :=
 { nparams := 2, results := [], body := .skip, prim := some (growP 3) }
/-- impl.foldTerm[uint32] -/
def F_impl_foldTerm_uint32_L0 : LC :=
 (.seq
 (.region false [⟨some 13, .bin .lss, [.t 12, .t 11], none⟩] [])
 (.seq
 (.cond (.t 13) [13]
 .skip
 (.exit 0))
 (.seq
 (.block 1
 (.seq
 (.region false [⟨some 14, .idxa 2, [.t 10, .t 12], none⟩,
 ⟨some 15, .load 2 true, [.t 14], none⟩,
 ⟨some 7, .alloc 3600 (.st [.i 0, .i 0]), [], none⟩,
 ⟨none, .store 2, [.t 7, .t 15], none⟩] [14, 15])
 (.seq
 (.region false [⟨some 16, .mv, [.t 5], none⟩,
 ⟨some 17, .len, [.t 16], none⟩,
 ⟨some 18, .fld 0 1 false, [.t 7], none⟩,
 ⟨some 19, .load 1 false, [.t 18], none⟩,
 ⟨some 20, .call n_impl_partsTaken 10240, [.t 19], none⟩,
 ⟨some 21, .bin .sub, [.t 17, .t 20], none⟩,
 ⟨some 8, .mv, [.t 21], none⟩] [16, 17, 18, 19, 20, 21])
 (.seq
 (.region true [⟨some 22, .mv, [.t 1], none⟩,
 ⟨some 23, .load 2 true, [.t 7], none⟩,
 ⟨some 24, .mv, [.t 5], none⟩,
 ⟨some 25, .mv, [.t 8], none⟩,
 ⟨some 26, .slice true false 1, [.t 24, .t 25], none⟩,
 ⟨some 27, .calld 13824, [.t 22, .t 23, .t 26], none⟩,
 ⟨some 9, .mv, [.t 27], none⟩] [7, 22, 23, 24, 25, 26, 27])
 (.region false [⟨some 28, .mv, [.t 5], none⟩,
 ⟨some 29, .mv, [.t 8], none⟩,
 ⟨some 30, .slice false true 1, [.t 28, .t 29], none⟩,
 ⟨some 31, .mv, [.t 9], none⟩,
 ⟨some 32, .bslice 16392 1 1 (.w (0#32)) [0], [.t 31], none⟩,
 ⟨some 33, .app 16904 1, [.t 30, .t 32], none⟩,
 ⟨some 5, .mv, [.t 33], none⟩] [8, 9, 28, 29, 30, 31, 32, 33])))))
 (.region false [⟨some 34, .bin .add, [.t 12, .c (.i 1)], none⟩,
 ⟨some 12, .mv, [.t 34], none⟩] [34]))))
def F_impl_foldTerm_uint32_W0 : LC := .loop F_impl_foldTerm_uint32_L0
def F_impl_foldTerm_uint32 : LF :=
 { nparams := 2, results := [.t 4], body :=
 (.seq
 (.region false [⟨some 4, .mv, [.c (.w (0#32))], none⟩] [4])
 (.seq
 (.region false [⟨some 5, .newnil 2568, [], none⟩] [])
 (.seq
 (.seq
 (.region false [⟨some 10, .mv, [.t 0], none⟩,
 ⟨some 11, .len, [.t 10], none⟩,
 ⟨some 12, .mv, [.c (.i 0)], none⟩] [0])
 (.block 0
 F_impl_foldTerm_uint32_W0))
 (.seq
 (.region false [⟨some 35, .mv, [.t 5], none⟩,
 ⟨some 36, .idxa 1, [.t 35, .c (.i 0)], none⟩,
 ⟨some 37, .load 1 false, [.t 36], none⟩,
 ⟨some 4, .mv, [.t 37], none⟩] [1, 5, 10, 11, 12, 35, 36, 37])
 .ret)))) }
/-- impl.statesOfPart -/
def F_impl_statesOfPart : LF :=
 { gl := [2], nparams := 2, results := [.t 4], body :=
 (.seq
 (.region false [⟨some 2, .box 1040, [.t 0], none⟩,
 ⟨some 4, .mv, [.c (.w (0#32))], none⟩] [0, 4])
 (.seq
 (.seq
 (.region false [⟨some 5, .fld 0 1 false, [.t 2], none⟩,
 ⟨some 6, .load 1 false, [.t 5], none⟩] [5])
 (.block 0
 (.seq
 (.region false [⟨some 8, .bin .eql, [.t 6, .c (.i 0)], none⟩,
 ⟨some 7, .mv, [.t 8], none⟩] [8])
 (.cond (.t 7) [7]
 (.seq
 (.region false [⟨some 9, .fld 1 1 false, [.t 2], none⟩,
 ⟨some 10, .load 1 false, [.t 9], none⟩,
 ⟨some 11, .idxp 5 1, [.t 1048578, .t 10], none⟩,
 ⟨some 12, .load 1 false, [.t 11], none⟩,
 ⟨some 4, .mv, [.t 12], none⟩] [1, 2, 6, 9, 10, 11, 12])
 .ret)
 (.seq
 (.region false [⟨some 14, .bin .eql, [.t 6, .c (.i 1)], none⟩,
 ⟨some 13, .mv, [.t 14], none⟩] [2, 14])
 (.cond (.t 13) [13]
 (.seq
 (.region false [⟨some 15, .mv, [.t 1], none⟩,
 ⟨some 16, .idxa 1, [.t 15, .c (.i 0)], none⟩,
 ⟨some 17, .load 1 false, [.t 16], none⟩,
 ⟨some 18, .un .xor, [.t 17], none⟩,
 ⟨some 4, .mv, [.t 18], none⟩] [1, 6, 15, 16, 17, 18])
 .ret)
 (.seq
 (.region false [⟨some 20, .bin .eql, [.t 6, .c (.i 2)], none⟩,
 ⟨some 19, .mv, [.t 20], none⟩] [6, 20])
 (.cond (.t 19) [19]
 (.seq
 (.region true [⟨some 21, .mv, [.t 1], none⟩,
 ⟨some 22, .idxa 1, [.t 21, .c (.i 0)], none⟩,
 ⟨some 23, .load 1 false, [.t 22], none⟩,
 ⟨some 24, .mv, [.t 1], none⟩,
 ⟨some 25, .idxa 1, [.t 24, .c (.i 1)], none⟩,
 ⟨some 26, .load 1 false, [.t 25], none⟩,
 ⟨some 27, .bin .and, [.t 23, .t 26], none⟩,
 ⟨some 4, .mv, [.t 27], none⟩] [1, 21, 22, 23, 24, 25, 26, 27])
 .ret)
 .skip))))))))
 (.seq
 (.region true [⟨some 28, .mv, [.t 1], none⟩,
 ⟨some 29, .idxa 1, [.t 28, .c (.i 0)], none⟩,
 ⟨some 30, .load 1 false, [.t 29], none⟩,
 ⟨some 31, .mv, [.t 1], none⟩,
 ⟨some 32, .idxa 1, [.t 31, .c (.i 1)], none⟩,
 ⟨some 33, .load 1 false, [.t 32], none⟩,
 ⟨some 34, .bin .or, [.t 30, .t 33], none⟩,
 ⟨some 4, .mv, [.t 34], none⟩] [1, 28, 29, 30, 31, 32, 33, 34])
 .ret))) }
/-- spec.l1Agrees -/
def F_spec_l1Agrees_L0 : LC :=
 (.seq
 (.seq
 (.region false [⟨some 6, .mv, [.t 5], none⟩,
 ⟨some 7, .mv, [.t 0], none⟩,
 ⟨some 8, .len, [.t 7], none⟩,
 ⟨some 9, .bin .lss, [.t 6, .t 8], none⟩] [6, 7, 8])
 (.cond (.t 9) [9]
 .skip
 (.exit 0)))
 (.seq
 (.block 1
 (.seq
 (.region true [⟨some 12, .mv, [.t 0], none⟩,
 ⟨some 13, .mv, [.t 5], none⟩,
 ⟨some 14, .idxa 1, [.t 12, .t 13], none⟩,
 ⟨some 15, .load 1 false, [.t 14], none⟩,
 ⟨some 16, .bin .neq, [.t 15, .c (.i (-1))], none⟩,
 ⟨some 17, .mv, [.t 16], none⟩,
 ⟨some 18, .mv, [.t 0], some (17, true)⟩,
 ⟨some 19, .mv, [.t 5], some (17, true)⟩,
 ⟨some 20, .idxa 1, [.t 18, .t 19], some (17, true)⟩,
 ⟨some 21, .load 1 false, [.t 20], some (17, true)⟩,
 ⟨some 22, .mv, [.t 1], some (17, true)⟩,
 ⟨some 23, .mv, [.t 5], some (17, true)⟩,
 ⟨some 24, .bin .shr, [.t 22, .t 23], some (17, true)⟩,
 ⟨some 25, .bin .rem, [.t 24, .c (.i 2)], some (17, true)⟩,
 ⟨some 26, .bin .neq, [.t 21, .t 25], some (17, true)⟩,
 ⟨some 27, .pick, [.t 17, .t 26, .c (.b false)], none⟩] [12, 13, 14, 15, 16, 17, 18, 19, 20, 21, 22, 23, 24, 25, 26])
 (.cond (.t 27) [27]
 (.seq
 (.region false [⟨some 4, .mv, [.c (.b false)], none⟩] [0, 1, 5])
 .ret)
 .skip)))
 (.region false [⟨some 10, .mv, [.t 5], none⟩,
 ⟨some 11, .bin .add, [.t 10, .c (.i 1)], none⟩,
 ⟨some 5, .mv, [.t 11], none⟩] [10, 11])))
def F_spec_l1Agrees_W0 : LC := .loop F_spec_l1Agrees_L0
def F_spec_l1Agrees : LF :=
 { nparams := 2, results := [.t 4], body :=
 (.seq
 (.region false [⟨some 4, .mv, [.c (.b false)], none⟩] [4])
 (.seq
 (.seq
 (.region false [⟨some 5, .mv, [.c (.i 0)], none⟩] [])
 (.block 0
 F_spec_l1Agrees_W0))
 (.seq
 (.region false [⟨some 4, .mv, [.c (.b true)], none⟩] [0, 1, 5])
 .ret))) }
/-- spec.l2Starts -/
def F_spec_l2Starts_L0 : LC :=
 (.seq
 (.seq
 (.region false [⟨some 8, .mv, [.t 5], none⟩,
 ⟨some 9, .bin .gtr, [.t 8, .c (.i 0)], none⟩] [8])
 (.cond (.t 9) [9]
 .skip
 (.exit 0)))
 (.block 1
 (.seq
 (.seq
 (.region false [⟨some 10, .mv, [.t 0], none⟩,
 ⟨some 11, .mv, [.t 6], none⟩,
 ⟨some 12, .idxa 2, [.t 10, .t 11], none⟩,
 ⟨some 13, .fld 0 1 false, [.t 12], none⟩,
 ⟨some 14, .load 1 false, [.t 13], none⟩] [10, 11, 12, 13])
 (.block 2
 (.seq
 (.region false [⟨some 18, .bin .eql, [.t 14, .c (.i 0)], none⟩,
 ⟨some 17, .mv, [.t 18], none⟩] [18])
 (.cond (.t 17) [17]
 (.region false [⟨some 19, .mv, [.t 5], none⟩,
 ⟨some 20, .bin .sub, [.t 19, .c (.i 1)], none⟩,
 ⟨some 5, .mv, [.t 20], none⟩] [14, 19, 20])
 (.seq
 (.region false [⟨some 22, .bin .eql, [.t 14, .c (.i 1)], none⟩,
 ⟨some 21, .mv, [.t 22], none⟩] [14, 22])
 (.cond (.t 21) [21]
 .skip
 (.region false [⟨some 15, .mv, [.t 5], none⟩,
 ⟨some 16, .bin .add, [.t 15, .c (.i 1)], none⟩,
 ⟨some 5, .mv, [.t 16], none⟩] [15, 16])))))))
 (.region false [⟨some 23, .mv, [.t 6], none⟩,
 ⟨some 24, .bin .sub, [.t 23, .c (.i 1)], none⟩,
 ⟨some 6, .mv, [.t 24], none⟩] [23, 24]))))
def F_spec_l2Starts_W0 : LC := .loop F_spec_l2Starts_L0
def F_spec_l2Starts : LF :=
 { nparams := 2, results := [.t 4], body :=
 (.seq
 (.region false [⟨some 4, .mv, [.c (.i 0)], none⟩] [4])
 (.seq
 (.region false [⟨some 5, .mv, [.c (.i 1)], none⟩] [])
 (.seq
 (.region false [⟨some 7, .mv, [.t 1], none⟩,
 ⟨some 6, .mv, [.t 7], none⟩] [1, 7])
 (.seq
 (.block 0
 F_spec_l2Starts_W0)
 (.seq
 (.region false [⟨some 25, .mv, [.t 6], none⟩,
 ⟨some 26, .bin .add, [.t 25, .c (.i 1)], none⟩,
 ⟨some 4, .mv, [.t 26], none⟩] [0, 5, 6, 25, 26])
 .ret))))) }
def lf : Nat → Option LF
 | 9 => some F_laws_FnExactOrderPlan
 | 21 => some F_laws_eqChoiceS
 | 25 => some F_laws_markChoiceS
 | 26 => some F_laws_heldChoiceS
 | 27 => some F_laws_szMarkS
 | 29 => some F_laws_toMarkS
 | 31 => some F_laws_eqMarkS
 | 34 => some F_laws_markMarkS
 | 39 => some F_spec_OrderPlan
 | 40 => some F_laws_toIntS
 | 41 => some F_impl_OrderPlan
 | 42 => some F_laws_eqIntS
 | 43 => some F_laws_markIntS
 | 46 => some F_spec_l1In
 | 52 => some F_impl_isWithin
 | 53 => some F_impl_sizeOf
 | 69 => some F_impl_planFrom
 | 70 => some F_impl_startOf
 | 74 => some F_laws_eqChoice
 | 75 => some F_spec_TermOk
 | 77 => some F_spec_l3Table
 | 78 => some F_spec_l4None
 | 79 => some F_laws_toMark
 | 80 => some F_impl_TermOk
 | 83 => some F_laws_eqMark
 | 89 => some F_impl_point_howManyAsked
 | 90 => some F_spec_OrderOk
 | 91 => some F_spec_l6Line
 | 92 => some F_impl_OrderOk
 | 93 => some F_impl_OrderPlan_1
 | 95 => some F_impl_manyOk
 | 97 => some F_math_bits_OnesCount
 | 98 => some F_impl_hasTest
 | 114 => some F_impl_point_isForced
 | 115 => some F_impl_point_answered
 | 116 => some F_slices_Concat_impl_Choice_impl_Choice
 | 117 => some F_impl_trueStates
 | 120 => some F_impl_valueAmong
 | 124 => some F_spec_l3Forced
 | 125 => some F_spec_l3Value
 | 126 => some F_impl_partsTaken
 | 127 => some F_impl_markOk
 | 135 => some F_math_bits_OnesCount64
 | 143 => some F_impl_statesSaying
 | 144 => some F_slices_Grow_impl_Choice_impl_Choice
 | 145 => some F_impl_foldTerm_uint32
 | 146 => some F_impl_statesOfPart
 | 147 => some F_spec_l1Agrees
 | 148 => some F_spec_l2Starts
 | _ => none
theorem w_laws_eqChoiceS_0 (S : LS) : ex lf F_laws_eqChoiceS_W0 S = match ex lf F_laws_eqChoiceS_L0 S with | some (.normal, S1) => ex lf F_laws_eqChoiceS_W0 S1 | r => r := ex_loop lf F_laws_eqChoiceS_L0 S
theorem w_laws_markChoiceS_0 (S : LS) : ex lf F_laws_markChoiceS_W0 S = match ex lf F_laws_markChoiceS_L0 S with | some (.normal, S1) => ex lf F_laws_markChoiceS_W0 S1 | r => r := ex_loop lf F_laws_markChoiceS_L0 S
theorem w_laws_heldChoiceS_0 (S : LS) : ex lf F_laws_heldChoiceS_W0 S = match ex lf F_laws_heldChoiceS_L0 S with | some (.normal, S1) => ex lf F_laws_heldChoiceS_W0 S1 | r => r := ex_loop lf F_laws_heldChoiceS_L0 S
theorem w_laws_toMarkS_0 (S : LS) : ex lf F_laws_toMarkS_W0 S = match ex lf F_laws_toMarkS_L0 S with | some (.normal, S1) => ex lf F_laws_toMarkS_W0 S1 | r => r := ex_loop lf F_laws_toMarkS_L0 S
theorem w_laws_eqMarkS_0 (S : LS) : ex lf F_laws_eqMarkS_W0 S = match ex lf F_laws_eqMarkS_L0 S with | some (.normal, S1) => ex lf F_laws_eqMarkS_W0 S1 | r => r := ex_loop lf F_laws_eqMarkS_L0 S
theorem w_laws_markMarkS_0 (S : LS) : ex lf F_laws_markMarkS_W0 S = match ex lf F_laws_markMarkS_L0 S with | some (.normal, S1) => ex lf F_laws_markMarkS_W0 S1 | r => r := ex_loop lf F_laws_markMarkS_L0 S
theorem w_laws_toIntS_0 (S : LS) : ex lf F_laws_toIntS_W0 S = match ex lf F_laws_toIntS_L0 S with | some (.normal, S1) => ex lf F_laws_toIntS_W0 S1 | r => r := ex_loop lf F_laws_toIntS_L0 S
theorem w_laws_eqIntS_0 (S : LS) : ex lf F_laws_eqIntS_W0 S = match ex lf F_laws_eqIntS_L0 S with | some (.normal, S1) => ex lf F_laws_eqIntS_W0 S1 | r => r := ex_loop lf F_laws_eqIntS_L0 S
theorem w_laws_markIntS_0 (S : LS) : ex lf F_laws_markIntS_W0 S = match ex lf F_laws_markIntS_L0 S with | some (.normal, S1) => ex lf F_laws_markIntS_W0 S1 | r => r := ex_loop lf F_laws_markIntS_L0 S
theorem w_spec_TermOk_0 (S : LS) : ex lf F_spec_TermOk_W0 S = match ex lf F_spec_TermOk_L0 S with | some (.normal, S1) => ex lf F_spec_TermOk_W0 S1 | r => r := ex_loop lf F_spec_TermOk_L0 S
theorem w_spec_l3Table_0 (S : LS) : ex lf F_spec_l3Table_W0 S = match ex lf F_spec_l3Table_L0 S with | some (.normal, S1) => ex lf F_spec_l3Table_W0 S1 | r => r := ex_loop lf F_spec_l3Table_L0 S
theorem w_spec_l4None_0 (S : LS) : ex lf F_spec_l4None_W0 S = match ex lf F_spec_l4None_L0 S with | some (.normal, S1) => ex lf F_spec_l4None_W0 S1 | r => r := ex_loop lf F_spec_l4None_L0 S
theorem w_impl_TermOk_0 (S : LS) : ex lf F_impl_TermOk_W0 S = match ex lf F_impl_TermOk_L0 S with | some (.normal, S1) => ex lf F_impl_TermOk_W0 S1 | r => r := ex_loop lf F_impl_TermOk_L0 S
theorem w_spec_OrderOk_0 (S : LS) : ex lf F_spec_OrderOk_W0 S = match ex lf F_spec_OrderOk_L0 S with | some (.normal, S1) => ex lf F_spec_OrderOk_W0 S1 | r => r := ex_loop lf F_spec_OrderOk_L0 S
theorem w_impl_OrderOk_0 (S : LS) : ex lf F_impl_OrderOk_W0 S = match ex lf F_impl_OrderOk_L0 S with | some (.normal, S1) => ex lf F_impl_OrderOk_W0 S1 | r => r := ex_loop lf F_impl_OrderOk_L0 S
theorem w_slices_Concat_impl_Choice_impl_Choice_0 (S : LS) : ex lf F_slices_Concat_impl_Choice_impl_Choice_W0 S = match ex lf F_slices_Concat_impl_Choice_impl_Choice_L0 S with | some (.normal, S1) => ex lf F_slices_Concat_impl_Choice_impl_Choice_W0 S1 | r => r := ex_loop lf F_slices_Concat_impl_Choice_impl_Choice_L0 S
theorem w_slices_Concat_impl_Choice_impl_Choice_1 (S : LS) : ex lf F_slices_Concat_impl_Choice_impl_Choice_W1 S = match ex lf F_slices_Concat_impl_Choice_impl_Choice_L1 S with | some (.normal, S1) => ex lf F_slices_Concat_impl_Choice_impl_Choice_W1 S1 | r => r := ex_loop lf F_slices_Concat_impl_Choice_impl_Choice_L1 S
theorem w_spec_l3Forced_0 (S : LS) : ex lf F_spec_l3Forced_W0 S = match ex lf F_spec_l3Forced_L0 S with | some (.normal, S1) => ex lf F_spec_l3Forced_W0 S1 | r => r := ex_loop lf F_spec_l3Forced_L0 S
theorem w_impl_foldTerm_uint32_0 (S : LS) : ex lf F_impl_foldTerm_uint32_W0 S = match ex lf F_impl_foldTerm_uint32_L0 S with | some (.normal, S1) => ex lf F_impl_foldTerm_uint32_W0 S1 | r => r := ex_loop lf F_impl_foldTerm_uint32_L0 S
theorem w_spec_l1Agrees_0 (S : LS) : ex lf F_spec_l1Agrees_W0 S = match ex lf F_spec_l1Agrees_L0 S with | some (.normal, S1) => ex lf F_spec_l1Agrees_W0 S1 | r => r := ex_loop lf F_spec_l1Agrees_L0 S
theorem w_spec_l2Starts_0 (S : LS) : ex lf F_spec_l2Starts_W0 S = match ex lf F_spec_l2Starts_L0 S with | some (.normal, S1) => ex lf F_spec_l2Starts_W0 S1 | r => r := ex_loop lf F_spec_l2Starts_L0 S
end Zz
