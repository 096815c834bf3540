/- The functions of the program, read as data. No conditions. -/
import Derived.Test.YtldepejkagfdmaaLgEzd
set_option linter.unusedSectionVars false
set_option linter.unusedVariables false
set_option linter.unusedSimpArgs false
namespace Zz
open Go.Lg
instance : GL := ⟨[], [28, 29, 30, 37], ["l4_orders.go:82"], [], [(84, [0]), (92, [0]), (97, [0, 2]), (99, [0, 2])], [(28, 97, 6)], ["l20_draw.go:447"]⟩
def n_laws_FnChainOrder : Nat := 11
def n_impl_KeepsChains : Nat := 24
def n_spec_ChainOrder : Nat := 26
def n_impl_ChainOrder : Nat := 27
def n_impl_ChainBest : Nat := 33
def n_laws_alive : Nat := 43
def n_spec_GroupsOk : Nat := 46
def n_laws_sameInts : Nat := 47
def n_spec_DrawChainOrder : Nat := 48
def n_impl_RowAverage : Nat := 49
def n_impl_RatioOrder : Nat := 50
def n_spec_TestsOk : Nat := 53
def n_spec_l1In : Nat := 54
def n_spec_l9Ratio : Nat := 55
def n_impl_TestsOk : Nat := 57
def n_impl_GroupsOk : Nat := 58
def n_impl_isWithin : Nat := 59
def n_impl_ratioOfPart : Nat := 60
def n_impl_OrderOk : Nat := 62
def n_impl_KeepsChains_1 : Nat := 63
def n_slices_Index_int_int : Nat := 64
def n_slices_IsSortedFunc_int_int : Nat := 65
def n_impl_leastPart : Nat := 66
def n_impl_behindPart : Nat := 67
def n_impl_leastAlong : Nat := 69
def n_spec_l20Open : Nat := 74
def n_spec_l20Grouped : Nat := 75
def n_spec_l20Rd_pick : Nat := 76
def n_spec_l20Order : Nat := 77
def n_impl_rowOk : Nat := 78
def n_impl_wholeOf : Nat := 79
def n_impl_endChance : Nat := 80
def n_impl_RatioOrder_1 : Nat := 81
def n_impl_ratioOf : Nat := 82
def n_impl_ratio_isLess : Nat := 83
def n_impl_inserted_int : Nat := 84
def n_spec_l1Power : Nat := 85
def n_impl_manyOk : Nat := 86
def n_impl_hasTest : Nat := 87
def n_slices_Clone_int_int : Nat := 88
def n_impl_averageAsking : Nat := 90
def n_spec_l20Tests : Nat := 94
def n_spec_l20Groups : Nat := 95
def n_spec_l20Rd_odd : Nat := 96
def n_slices_Insert_int_int : Nat := 97
def n_slices_rotateRight_int : Nat := 103
def n_slices_rotateLeft_int : Nat := 108
def n_slices_Reverse_int_int : Nat := 111
/-- laws.FnChainOrder -/
def F_laws_FnChainOrder_L0 : LC :=
 (.seq
 (.seq
 (.region false [⟨some 31, .mv, [.t 7], none⟩,
 ⟨some 32, .mv, [.t 3], none⟩,
 ⟨some 33, .len, [.t 32], none⟩,
 ⟨some 34, .bin .lss, [.t 31, .t 33], none⟩] [31, 32, 33])
 (.cond (.t 34) [34]
 .skip
 (.exit 0)))
 (.seq
 (.block 1
 (.region false [⟨some 37, .mv, [.t 6], none⟩,
 ⟨some 38, .mv, [.t 7], none⟩,
 ⟨some 39, .bslice 19976 1 1 (.i 0) [0], [.t 38], none⟩,
 ⟨some 40, .bslice 20488 1 1 (.sl 1 []) [0], [.t 39], none⟩,
 ⟨some 41, .app 21000 1, [.t 37, .t 40], none⟩,
 ⟨some 6, .mv, [.t 41], none⟩] [37, 38, 39, 40, 41]))
 (.region false [⟨some 35, .mv, [.t 7], none⟩,
 ⟨some 36, .bin .add, [.t 35, .c (.i 1)], none⟩,
 ⟨some 7, .mv, [.t 36], none⟩] [35, 36])))
def F_laws_FnChainOrder_W0 : LC := .loop F_laws_FnChainOrder_L0
def F_laws_FnChainOrder : LF :=
 { nparams := 1, results := [.t 2], body :=
 (.seq
 (.region false [⟨some 2, .mv, [.c (.b false)], none⟩] [2])
 (.seq
 (.seq
 (.region false [⟨some 9, .mv, [.t 0], none⟩,
 ⟨some 10, .len, [.t 9], none⟩,
 ⟨some 11, .bin .gtr, [.t 10, .c (.i 1048576)], none⟩] [9, 10])
 (.cond (.t 11) [11]
 (.seq
 (.region false [⟨some 2, .mv, [.c (.b true)], none⟩] [0])
 .ret)
 .skip))
 (.seq
 (.region false [⟨some 13, .mv, [.t 0], none⟩,
 ⟨some 14, .call n_spec_DrawChainOrder 7168, [.t 13], none⟩,
 ⟨some 12, .mv, [.t 14], none⟩,
 ⟨some 15, .ext 0, [.t 12], none⟩,
 ⟨some 16, .ext 1, [.t 12], none⟩,
 ⟨some 3, .mv, [.t 15], none⟩,
 ⟨some 4, .mv, [.t 16], none⟩] [0, 12, 13, 14, 15, 16])
 (.seq
 (.region false [⟨some 17, .mv, [.t 3], none⟩,
 ⟨some 18, .mv, [.t 4], none⟩,
 ⟨some 19, .call n_impl_ChainOrder 9728, [.t 17, .t 18], none⟩,
 ⟨some 5, .mv, [.t 19], none⟩] [17, 18, 19])
 (.seq
 (.seq
 (.region false [⟨some 20, .mv, [.t 5], none⟩,
 ⟨some 21, .mv, [.t 3], none⟩,
 ⟨some 22, .mv, [.t 4], none⟩,
 ⟨some 23, .call n_spec_ChainOrder 11776, [.t 21, .t 22], none⟩,
 ⟨some 24, .call n_laws_sameInts 12288, [.t 20, .t 23], none⟩,
 ⟨some 25, .un .not, [.t 24], none⟩] [20, 21, 22, 23, 24])
 (.cond (.t 25) [25]
 (.seq
 (.region false [⟨some 2, .mv, [.c (.b false)], none⟩] [3, 4, 5])
 .ret)
 .skip))
 (.seq
 (.seq
 (.region false [⟨some 26, .mv, [.t 5], none⟩,
 ⟨some 27, .len, [.t 26], none⟩,
 ⟨some 28, .bin .eql, [.t 27, .c (.i 0)], none⟩] [26, 27])
 (.cond (.t 28) [28]
 (.seq
 (.region false [⟨some 29, .call n_laws_alive 14848, [], none⟩,
 ⟨some 2, .mv, [.t 29], none⟩] [3, 4, 5, 29])
 .ret)
 .skip))
 (.seq
 (.region false [⟨some 30, .bslice 15368 0 1 (.sl 1 []) [], [], none⟩,
 ⟨some 6, .mv, [.t 30], none⟩] [30])
 (.seq
 (.seq
 (.region false [⟨some 7, .mv, [.c (.i 0)], none⟩] [])
 (.block 0
 F_laws_FnChainOrder_W0))
 (.seq
 (.region false [⟨some 42, .mv, [.t 3], none⟩,
 ⟨some 43, .mv, [.t 6], none⟩,
 ⟨some 44, .call n_impl_ChainOrder 22528, [.t 42, .t 43], none⟩,
 ⟨some 8, .mv, [.t 44], none⟩] [6, 7, 42, 43, 44])
 (.seq
 (.region false [⟨some 45, .mv, [.t 3], none⟩,
 ⟨some 46, .len, [.t 45], none⟩,
 ⟨some 47, .mv, [.t 4], none⟩,
 ⟨some 48, .mv, [.t 5], none⟩,
 ⟨some 49, .call n_impl_KeepsChains 25088, [.t 46, .t 47, .t 48], none⟩,
 ⟨some 50, .mv, [.t 49], none⟩,
 ⟨some 51, .mv, [.t 3], some (50, true)⟩,
 ⟨some 52, .mv, [.t 5], some (50, true)⟩,
 ⟨some 53, .call n_impl_RowAverage 27136, [.t 51, .t 52, .c (.i 0)], some (50, true)⟩,
 ⟨some 54, .mv, [.t 3], some (50, true)⟩,
 ⟨some 55, .mv, [.t 4], some (50, true)⟩,
 ⟨some 56, .call n_impl_ChainBest 28672, [.t 54, .t 55], some (50, true)⟩,
 ⟨some 57, .bin .eql, [.t 53, .t 56], some (50, true)⟩,
 ⟨some 58, .pick, [.t 50, .t 57, .c (.b false)], none⟩,
 ⟨some 59, .mv, [.t 58], none⟩,
 ⟨some 60, .mv, [.t 3], some (59, true)⟩,
 ⟨some 61, .mv, [.t 8], some (59, true)⟩,
 ⟨some 62, .call n_impl_RowAverage 31744, [.t 60, .t 61, .c (.i 0)], some (59, true)⟩,
 ⟨some 63, .mv, [.t 3], some (59, true)⟩,
 ⟨some 64, .mv, [.t 3], some (59, true)⟩,
 ⟨some 65, .call n_impl_RatioOrder 33280, [.t 64, .c (.i 0)], some (59, true)⟩,
 ⟨some 66, .call n_impl_RowAverage 33792, [.t 63, .t 65, .c (.i 0)], some (59, true)⟩,
 ⟨some 67, .bin .eql, [.t 62, .t 66], some (59, true)⟩,
 ⟨some 68, .pick, [.t 59, .t 67, .c (.b false)], none⟩,
 ⟨some 2, .mv, [.t 68], none⟩] [3, 4, 5, 8, 45, 46, 47, 48, 49, 50, 51, 52, 53, 54, 55, 56, 57, 58, 59, 60, 61, 62, 63, 64, 65, 66, 67, 68])
 .ret)))))))))) }
/-- impl.KeepsChains -/
def F_impl_KeepsChains_L0 : LC :=
 (.seq
 (.region false [⟨some 24, .bin .lss, [.t 23, .t 22], none⟩] [])
 (.seq
 (.cond (.t 24) [24]
 .skip
 (.exit 0))
 (.seq
 (.block 1
 (.seq
 (.region false [⟨some 25, .idxa 1, [.t 21, .t 23], none⟩,
 ⟨some 26, .load 1 false, [.t 25], none⟩,
 ⟨some 9, .mv, [.t 26], none⟩] [25, 26])
 (.seq
 (.region false [⟨some 27, .mv, [.t 9], none⟩,
 ⟨some 28, .mv, [.t 7], none⟩,
 ⟨some 29, .call n_slices_IsSortedFunc_int_int 14848, [.t 27, .t 28], none⟩,
 ⟨some 30, .un .not, [.t 29], none⟩] [9, 27, 28, 29])
 (.cond (.t 30) [30]
 (.seq
 (.region false [⟨some 6, .mv, [.c (.b false)], none⟩] [7, 21, 22, 23])
 .ret)
 .skip))))
 (.region false [⟨some 31, .bin .add, [.t 23, .c (.i 1)], none⟩,
 ⟨some 23, .mv, [.t 31], none⟩] [31]))))
def F_impl_KeepsChains_W0 : LC := .loop F_impl_KeepsChains_L0
def F_impl_KeepsChains : LF :=
 { nparams := 3, results := [.t 6], body :=
 (.seq
 (.region false [⟨some 5, .box 2568, [.t 2], none⟩,
 ⟨some 6, .mv, [.c (.b false)], none⟩] [2, 6])
 (.ghost (.close_ 5)
 (.seq
 (.seq
 (.region false [⟨some 10, .mv, [.t 0], none⟩,
 ⟨some 11, .load 1 false, [.t 5], none⟩,
 ⟨some 12, .call n_impl_OrderOk 6144, [.t 10, .t 11], none⟩,
 ⟨some 13, .un .not, [.t 12], none⟩,
 ⟨some 14, .mv, [.t 13], none⟩,
 ⟨some 15, .mv, [.t 0], some (14, false)⟩,
 ⟨some 16, .mv, [.t 1], some (14, false)⟩,
 ⟨some 17, .call n_impl_GroupsOk 8704, [.t 15, .t 16], some (14, false)⟩,
 ⟨some 18, .un .not, [.t 17], some (14, false)⟩,
 ⟨some 19, .pick, [.t 14, .c (.b true), .t 18], none⟩] [0, 10, 11, 12, 13, 14, 15, 16, 17, 18])
 (.cond (.t 19) [19]
 (.seq
 (.region false [⟨some 6, .mv, [.c (.b false)], none⟩] [1, 5])
 .ret)
 .skip))
 (.seq
 (.region false [⟨some 20, .mkfn (mkNo n_impl_KeepsChains_1 0), [.t 5], none⟩,
 ⟨some 7, .mv, [.t 20], none⟩] [5, 20])
 (.seq
 (.seq
 (.region false [⟨some 21, .mv, [.t 1], none⟩,
 ⟨some 22, .len, [.t 21], none⟩,
 ⟨some 23, .mv, [.c (.i 0)], none⟩] [1])
 (.block 0
 F_impl_KeepsChains_W0))
 (.seq
 (.region false [⟨some 6, .mv, [.c (.b true)], none⟩] [7, 21, 22, 23])
 .ret)))))) }
/-- spec.ChainOrder -/
def F_spec_ChainOrder_L2 : LC :=
 (.seq
 (.seq
 (.region true [⟨some 41, .mv, [.t 6], none⟩,
 ⟨some 42, .mv, [.t 11], none⟩,
 ⟨some 43, .idxa 1, [.t 41, .t 42], none⟩,
 ⟨some 44, .load 1 false, [.t 43], none⟩,
 ⟨some 45, .mv, [.t 12], none⟩,
 ⟨some 46, .bin .add, [.t 44, .t 45], none⟩,
 ⟨some 47, .mv, [.t 1], none⟩,
 ⟨some 48, .mv, [.t 11], none⟩,
 ⟨some 49, .idxa 1, [.t 47, .t 48], none⟩,
 ⟨some 50, .load 1 false, [.t 49], none⟩,
 ⟨some 51, .len, [.t 50], none⟩,
 ⟨some 52, .bin .leq, [.t 46, .t 51], none⟩] [41, 42, 43, 44, 45, 46, 47, 48, 49, 50, 51])
 (.cond (.t 52) [52]
 .skip
 (.exit 4)))
 (.seq
 (.block 5
 (.seq
 (.region true [⟨some 56, .mv, [.t 0], none⟩,
 ⟨some 57, .mv, [.t 1], none⟩,
 ⟨some 58, .mv, [.t 11], none⟩,
 ⟨some 59, .idxa 1, [.t 57, .t 58], none⟩,
 ⟨some 60, .load 1 false, [.t 59], none⟩,
 ⟨some 61, .mv, [.t 6], none⟩,
 ⟨some 62, .mv, [.t 11], none⟩,
 ⟨some 63, .idxa 1, [.t 61, .t 62], none⟩,
 ⟨some 64, .load 1 false, [.t 63], none⟩,
 ⟨some 65, .mv, [.t 6], none⟩,
 ⟨some 66, .mv, [.t 11], none⟩,
 ⟨some 67, .idxa 1, [.t 65, .t 66], none⟩,
 ⟨some 68, .load 1 false, [.t 67], none⟩,
 ⟨some 69, .mv, [.t 12], none⟩,
 ⟨some 70, .bin .add, [.t 68, .t 69], none⟩,
 ⟨some 71, .slice true true 1, [.t 60, .t 64, .t 70], none⟩,
 ⟨some 72, .call n_spec_l9Ratio 36864, [.t 56, .t 71], none⟩,
 ⟨some 55, .mv, [.t 72], none⟩,
 ⟨some 73, .ext 0, [.t 55], none⟩,
 ⟨some 74, .ext 1, [.t 55], none⟩,
 ⟨some 13, .mv, [.t 73], none⟩,
 ⟨some 14, .mv, [.t 74], none⟩] [55, 56, 57, 58, 59, 60, 61, 62, 63, 64, 65, 66, 67, 68, 69, 70, 71, 72, 73, 74])
 (.seq
 (.region false [⟨some 75, .mv, [.t 7], none⟩,
 ⟨some 76, .bin .lss, [.t 75, .c (.i 0)], none⟩,
 ⟨some 77, .mv, [.t 76], none⟩,
 ⟨some 78, .mv, [.t 13], some (77, false)⟩,
 ⟨some 79, .mv, [.t 10], some (77, false)⟩,
 ⟨some 80, .bin .mul, [.t 78, .t 79], some (77, false)⟩,
 ⟨some 81, .mv, [.t 9], some (77, false)⟩,
 ⟨some 82, .mv, [.t 14], some (77, false)⟩,
 ⟨some 83, .bin .mul, [.t 81, .t 82], some (77, false)⟩,
 ⟨some 84, .bin .lss, [.t 80, .t 83], some (77, false)⟩,
 ⟨some 85, .pick, [.t 77, .c (.b true), .t 84], none⟩] [75, 76, 77, 78, 79, 80, 81, 82, 83, 84])
 (.cond (.t 85) [85]
 (.seq
 (.region false [⟨some 86, .mv, [.t 11], none⟩,
 ⟨some 7, .mv, [.t 86], none⟩] [8, 9, 10, 86])
 (.seq
 (.region false [⟨some 87, .mv, [.t 12], none⟩,
 ⟨some 8, .mv, [.t 87], none⟩] [87])
 (.seq
 (.region false [⟨some 88, .mv, [.t 13], none⟩,
 ⟨some 9, .mv, [.t 88], none⟩] [13, 88])
 (.region false [⟨some 89, .mv, [.t 14], none⟩,
 ⟨some 10, .mv, [.t 89], none⟩] [14, 89]))))
 .skip))))
 (.region false [⟨some 53, .mv, [.t 12], none⟩,
 ⟨some 54, .bin .add, [.t 53, .c (.i 1)], none⟩,
 ⟨some 12, .mv, [.t 54], none⟩] [13, 14, 53, 54])))
def F_spec_ChainOrder_W2 : LC := .loop F_spec_ChainOrder_L2
def F_spec_ChainOrder_L1 : LC :=
 (.seq
 (.seq
 (.region false [⟨some 35, .mv, [.t 11], none⟩,
 ⟨some 36, .mv, [.t 1], none⟩,
 ⟨some 37, .len, [.t 36], none⟩,
 ⟨some 38, .bin .lss, [.t 35, .t 37], none⟩] [35, 36, 37])
 (.cond (.t 38) [38]
 .skip
 (.exit 2)))
 (.seq
 (.block 3
 (.seq
 (.region false [⟨some 12, .mv, [.c (.i 1)], none⟩] [])
 (.block 4
 F_spec_ChainOrder_W2)))
 (.region false [⟨some 39, .mv, [.t 11], none⟩,
 ⟨some 40, .bin .add, [.t 39, .c (.i 1)], none⟩,
 ⟨some 11, .mv, [.t 40], none⟩] [12, 39, 40])))
def F_spec_ChainOrder_W1 : LC := .loop F_spec_ChainOrder_L1
def F_spec_ChainOrder_L0 : LC :=
 (.seq
 (.seq
 (.region false [⟨some 30, .mv, [.t 5], none⟩,
 ⟨some 31, .len, [.t 30], none⟩,
 ⟨some 32, .mv, [.t 0], none⟩,
 ⟨some 33, .len, [.t 32], none⟩,
 ⟨some 34, .bin .lss, [.t 31, .t 33], none⟩] [30, 31, 32, 33])
 (.cond (.t 34) [34]
 .skip
 (.exit 0)))
 (.block 1
 (.seq
 (.region false [⟨some 7, .mv, [.c (.i (-1))], none⟩] [])
 (.seq
 (.region false [⟨some 8, .mv, [.c (.i 0)], none⟩] [])
 (.seq
 (.region false [⟨some 9, .mv, [.c (.i 0)], none⟩] [])
 (.seq
 (.region false [⟨some 10, .mv, [.c (.i 1)], none⟩] [])
 (.seq
 (.seq
 (.region false [⟨some 11, .mv, [.c (.i 0)], none⟩] [])
 (.block 2
 F_spec_ChainOrder_W1))
 (.seq
 (.region true [⟨some 90, .mv, [.t 5], none⟩,
 ⟨some 91, .mv, [.t 1], none⟩,
 ⟨some 92, .mv, [.t 7], none⟩,
 ⟨some 93, .idxa 1, [.t 91, .t 92], none⟩,
 ⟨some 94, .load 1 false, [.t 93], none⟩,
 ⟨some 95, .mv, [.t 6], none⟩,
 ⟨some 96, .mv, [.t 7], none⟩,
 ⟨some 97, .idxa 1, [.t 95, .t 96], none⟩,
 ⟨some 98, .load 1 false, [.t 97], none⟩,
 ⟨some 99, .mv, [.t 6], none⟩,
 ⟨some 100, .mv, [.t 7], none⟩,
 ⟨some 101, .idxa 1, [.t 99, .t 100], none⟩,
 ⟨some 102, .load 1 false, [.t 101], none⟩,
 ⟨some 103, .mv, [.t 8], none⟩,
 ⟨some 104, .bin .add, [.t 102, .t 103], none⟩,
 ⟨some 105, .slice true true 1, [.t 94, .t 98, .t 104], none⟩,
 ⟨some 106, .app 54280 1, [.t 90, .t 105], none⟩,
 ⟨some 5, .mv, [.t 106], none⟩] [9, 10, 11, 90, 91, 92, 93, 94, 95, 96, 97, 98, 99, 100, 101, 102, 103, 104, 105, 106])
 (.region false [⟨some 107, .mv, [.t 6], none⟩,
 ⟨some 108, .mv, [.t 7], none⟩,
 ⟨some 109, .mv, [.t 6], none⟩,
 ⟨some 110, .mv, [.t 7], none⟩,
 ⟨some 111, .idxa 1, [.t 109, .t 110], none⟩,
 ⟨some 112, .load 1 false, [.t 111], none⟩,
 ⟨some 113, .mv, [.t 8], none⟩,
 ⟨some 114, .bin .add, [.t 112, .t 113], none⟩,
 ⟨some 115, .idxa 1, [.t 107, .t 108], none⟩,
 ⟨none, .store 1, [.t 115, .t 114], none⟩] [7, 8, 107, 108, 109, 110, 111, 112, 113, 114, 115])))))))))
def F_spec_ChainOrder_W0 : LC := .loop F_spec_ChainOrder_L0
def F_spec_ChainOrder : LF :=
 { nparams := 2, results := [.t 4], body :=
 (.seq
 (.region false [⟨some 4, .newnil 2056, [], none⟩] [4])
 (.seq
 (.region false [⟨some 15, .bslice 7688 0 1 (.i 0) [], [], none⟩,
 ⟨some 5, .mv, [.t 15], none⟩] [15])
 (.seq
 (.seq
 (.region false [⟨some 16, .mv, [.t 0], none⟩,
 ⟨some 17, .call n_spec_TestsOk 8704, [.t 16], none⟩,
 ⟨some 18, .un .not, [.t 17], none⟩,
 ⟨some 19, .mv, [.t 18], none⟩,
 ⟨some 20, .mv, [.t 0], some (19, false)⟩,
 ⟨some 21, .len, [.t 20], some (19, false)⟩,
 ⟨some 22, .mv, [.t 1], some (19, false)⟩,
 ⟨some 23, .call n_spec_GroupsOk 11776, [.t 21, .t 22], some (19, false)⟩,
 ⟨some 24, .un .not, [.t 23], some (19, false)⟩,
 ⟨some 25, .pick, [.t 19, .c (.b true), .t 24], none⟩] [16, 17, 18, 19, 20, 21, 22, 23, 24])
 (.cond (.t 25) [25]
 (.seq
 (.region false [⟨some 26, .mv, [.t 5], none⟩,
 ⟨some 4, .mv, [.t 26], none⟩] [0, 1, 5, 26])
 .ret)
 .skip))
 (.seq
 (.region false [⟨some 27, .mv, [.t 1], none⟩,
 ⟨some 28, .len, [.t 27], none⟩,
 ⟨some 29, .make 14856 1 (.i 0), [.t 28, .t 28], none⟩,
 ⟨some 6, .mv, [.t 29], none⟩] [27, 28, 29])
 (.seq
 (.block 0
 F_spec_ChainOrder_W0)
 (.seq
 (.region false [⟨some 116, .mv, [.t 5], none⟩,
 ⟨some 4, .mv, [.t 116], none⟩] [0, 1, 5, 6, 116])
 .ret)))))) }
/-- impl.ChainOrder -/
def F_impl_ChainOrder_L0 : LC :=
 (.seq
 (.seq
 (.region false [⟨some 19, .mv, [.t 5], none⟩,
 ⟨some 20, .len, [.t 19], none⟩,
 ⟨some 21, .mv, [.t 0], none⟩,
 ⟨some 22, .len, [.t 21], none⟩,
 ⟨some 23, .bin .lss, [.t 20, .t 22], none⟩] [19, 20, 21, 22])
 (.cond (.t 23) [23]
 .skip
 (.exit 0)))
 (.block 1
 (.seq
 (.region false [⟨some 24, .mv, [.t 0], none⟩,
 ⟨some 25, .mv, [.t 6], none⟩,
 ⟨some 26, .call n_impl_leastPart 13312, [.t 24, .t 25], none⟩,
 ⟨some 7, .alloc 3600 (.st [.i 0, .i 0]), [], none⟩,
 ⟨none, .store 2, [.t 7, .t 26], none⟩] [24, 25, 26])
 (.seq
 (.region true [⟨some 27, .mv, [.t 5], none⟩,
 ⟨some 28, .mv, [.t 6], none⟩,
 ⟨some 29, .fld 0 1 false, [.t 7], none⟩,
 ⟨some 30, .load 1 false, [.t 29], none⟩,
 ⟨some 31, .idxa 1, [.t 28, .t 30], none⟩,
 ⟨some 32, .load 1 false, [.t 31], none⟩,
 ⟨some 33, .fld 1 1 false, [.t 7], none⟩,
 ⟨some 34, .load 1 false, [.t 33], none⟩,
 ⟨some 35, .slice false true 1, [.t 32, .t 34], none⟩,
 ⟨some 36, .app 18440 1, [.t 27, .t 35], none⟩,
 ⟨some 5, .mv, [.t 36], none⟩] [27, 28, 29, 30, 31, 32, 33, 34, 35, 36])
 (.region false [⟨some 37, .mv, [.t 6], none⟩,
 ⟨some 38, .load 2 true, [.t 7], none⟩,
 ⟨some 39, .call n_impl_behindPart 19968, [.t 37, .t 38], none⟩,
 ⟨some 6, .mv, [.t 39], none⟩] [7, 37, 38, 39])))))
def F_impl_ChainOrder_W0 : LC := .loop F_impl_ChainOrder_L0
def F_impl_ChainOrder : LF :=
 { nparams := 2, results := [.t 4], body :=
 (.seq
 (.region false [⟨some 4, .newnil 2056, [], none⟩] [4])
 (.seq
 (.seq
 (.region false [⟨some 8, .mv, [.t 0], none⟩,
 ⟨some 9, .call n_impl_TestsOk 4608, [.t 8], none⟩,
 ⟨some 10, .un .not, [.t 9], none⟩,
 ⟨some 11, .mv, [.t 10], none⟩,
 ⟨some 12, .mv, [.t 0], some (11, false)⟩,
 ⟨some 13, .len, [.t 12], some (11, false)⟩,
 ⟨some 14, .mv, [.t 1], some (11, false)⟩,
 ⟨some 15, .call n_impl_GroupsOk 7680, [.t 13, .t 14], some (11, false)⟩,
 ⟨some 16, .un .not, [.t 15], some (11, false)⟩,
 ⟨some 17, .pick, [.t 11, .c (.b true), .t 16], none⟩] [8, 9, 10, 11, 12, 13, 14, 15, 16])
 (.cond (.t 17) [17]
 (.seq
 (.region false [⟨some 4, .newnil 2056, [], none⟩] [0, 1])
 .ret)
 .skip))
 (.seq
 (.region false [⟨some 5, .newnil 2568, [], none⟩] [])
 (.seq
 (.region false [⟨some 18, .mv, [.t 1], none⟩,
 ⟨some 6, .mv, [.t 18], none⟩] [1, 18])
 (.seq
 (.block 0
 F_impl_ChainOrder_W0)
 (.seq
 (.region false [⟨some 40, .mv, [.t 5], none⟩,
 ⟨some 4, .mv, [.t 40], none⟩] [0, 5, 6, 40])
 .ret)))))) }
/-- impl.ChainBest -/
def F_impl_ChainBest : LF :=
 { nparams := 2, results := [.t 4], body :=
 (.seq
 (.region false [⟨some 4, .mv, [.c (.i 0)], none⟩] [4])
 (.seq
 (.seq
 (.region false [⟨some 5, .mv, [.t 0], none⟩,
 ⟨some 6, .call n_impl_TestsOk 3072, [.t 5], none⟩,
 ⟨some 7, .un .not, [.t 6], none⟩,
 ⟨some 8, .mv, [.t 7], none⟩,
 ⟨some 9, .mv, [.t 0], some (8, false)⟩,
 ⟨some 10, .len, [.t 9], some (8, false)⟩,
 ⟨some 11, .mv, [.t 1], some (8, false)⟩,
 ⟨some 12, .call n_impl_GroupsOk 6144, [.t 10, .t 11], some (8, false)⟩,
 ⟨some 13, .un .not, [.t 12], some (8, false)⟩,
 ⟨some 14, .pick, [.t 8, .c (.b true), .t 13], none⟩] [5, 6, 7, 8, 9, 10, 11, 12, 13])
 (.cond (.t 14) [14]
 (.seq
 (.region false [⟨some 4, .mv, [.c (.i (-1))], none⟩] [0, 1])
 .ret)
 .skip))
 (.seq
 (.region false [⟨some 15, .mv, [.t 0], none⟩,
 ⟨some 16, .mv, [.t 1], none⟩,
 ⟨some 17, .mv, [.t 0], none⟩,
 ⟨some 18, .len, [.t 17], none⟩,
 ⟨some 19, .call n_impl_leastAlong 9728, [.t 15, .t 16, .t 18], none⟩,
 ⟨some 4, .mv, [.t 19], none⟩] [0, 1, 15, 16, 17, 18, 19])
 .ret))) }
/-- laws.alive -/
def F_laws_alive : LF :=
 { nparams := 0, results := [.t 0], body :=
 (.seq
 (.region false [⟨some 0, .mv, [.c (.b false)], none⟩] [0])
 (.seq
 (.region false [⟨some 1, .build [.i 0, .i 0] [(0, 1), (1, 1)], [.c (.i 1), .c (.i 1)], none⟩,
 ⟨some 2, .bslice 1040 1 2 (.st [.i 0, .i 0]) [0], [.t 1], none⟩,
 ⟨some 3, .call n_impl_TestsOk 1536, [.t 2], none⟩,
 ⟨some 4, .mv, [.t 3], none⟩,
 ⟨some 5, .build [.i 0, .i 0] [], [], some (4, true)⟩,
 ⟨some 6, .bslice 3088 1 2 (.st [.i 0, .i 0]) [0], [.t 5], some (4, true)⟩,
 ⟨some 7, .call n_impl_TestsOk 3584, [.t 6], some (4, true)⟩,
 ⟨some 8, .un .not, [.t 7], some (4, true)⟩,
 ⟨some 9, .pick, [.t 4, .t 8, .c (.b false)], none⟩,
 ⟨some 0, .mv, [.t 9], none⟩] [1, 2, 3, 4, 5, 6, 7, 8, 9])
 .ret)) }
/-- spec.GroupsOk -/
def F_spec_GroupsOk_L1 : LC :=
 (.seq
 (.seq
 (.region false [⟨some 22, .mv, [.t 8], none⟩,
 ⟨some 23, .mv, [.t 1], none⟩,
 ⟨some 24, .mv, [.t 7], none⟩,
 ⟨some 25, .idxa 1, [.t 23, .t 24], none⟩,
 ⟨some 26, .load 1 false, [.t 25], none⟩,
 ⟨some 27, .len, [.t 26], none⟩,
 ⟨some 28, .bin .lss, [.t 22, .t 27], none⟩] [22, 23, 24, 25, 26, 27])
 (.cond (.t 28) [28]
 .skip
 (.exit 2)))
 (.seq
 (.block 3
 (.seq
 (.region false [⟨some 31, .mv, [.t 1], none⟩,
 ⟨some 32, .mv, [.t 7], none⟩,
 ⟨some 33, .idxa 1, [.t 31, .t 32], none⟩,
 ⟨some 34, .load 1 false, [.t 33], none⟩,
 ⟨some 35, .mv, [.t 8], none⟩,
 ⟨some 36, .idxa 1, [.t 34, .t 35], none⟩,
 ⟨some 37, .load 1 false, [.t 36], none⟩,
 ⟨some 9, .mv, [.t 37], none⟩] [31, 32, 33, 34, 35, 36, 37])
 (.seq
 (.seq
 (.region false [⟨some 38, .mv, [.t 9], none⟩,
 ⟨some 39, .bin .lss, [.t 38, .c (.i 0)], none⟩,
 ⟨some 40, .mv, [.t 39], none⟩,
 ⟨some 41, .mv, [.t 9], some (40, false)⟩,
 ⟨some 42, .mv, [.t 0], some (40, false)⟩,
 ⟨some 43, .bin .geq, [.t 41, .t 42], some (40, false)⟩,
 ⟨some 44, .pick, [.t 40, .c (.b true), .t 43], none⟩,
 ⟨some 45, .mv, [.t 44], none⟩,
 ⟨some 46, .mv, [.t 9], some (45, false)⟩,
 ⟨some 47, .bin .geq, [.t 46, .c (.i 5)], some (45, false)⟩,
 ⟨some 48, .pick, [.t 45, .c (.b true), .t 47], none⟩,
 ⟨some 49, .mv, [.t 48], none⟩,
 ⟨some 50, .mv, [.t 5], some (49, false)⟩,
 ⟨some 51, .mv, [.t 9], some (49, false)⟩,
 ⟨some 52, .bin .shr, [.t 50, .t 51], some (49, false)⟩,
 ⟨some 53, .bin .rem, [.t 52, .c (.i 2)], some (49, false)⟩,
 ⟨some 54, .bin .eql, [.t 53, .c (.i 1)], some (49, false)⟩,
 ⟨some 55, .pick, [.t 49, .c (.b true), .t 54], none⟩] [38, 39, 40, 41, 42, 43, 44, 45, 46, 47, 48, 49, 50, 51, 52, 53, 54])
 (.cond (.t 55) [55]
 (.seq
 (.region false [⟨some 4, .mv, [.c (.b false)], none⟩] [0, 1, 5, 6, 7, 8, 9])
 .ret)
 .skip))
 (.seq
 (.region false [⟨some 56, .mv, [.t 5], none⟩,
 ⟨some 57, .mv, [.t 9], none⟩,
 ⟨some 58, .bin .shl, [.c (.i 1), .t 57], none⟩,
 ⟨some 59, .bin .or, [.t 56, .t 58], none⟩,
 ⟨some 5, .mv, [.t 59], none⟩] [9, 56, 57, 58, 59])
 (.region false [⟨some 60, .mv, [.t 6], none⟩,
 ⟨some 61, .bin .add, [.t 60, .c (.i 1)], none⟩,
 ⟨some 6, .mv, [.t 61], none⟩] [60, 61])))))
 (.region false [⟨some 29, .mv, [.t 8], none⟩,
 ⟨some 30, .bin .add, [.t 29, .c (.i 1)], none⟩,
 ⟨some 8, .mv, [.t 30], none⟩] [29, 30])))
def F_spec_GroupsOk_W1 : LC := .loop F_spec_GroupsOk_L1
def F_spec_GroupsOk_L0 : LC :=
 (.seq
 (.seq
 (.region false [⟨some 10, .mv, [.t 7], none⟩,
 ⟨some 11, .mv, [.t 1], none⟩,
 ⟨some 12, .len, [.t 11], none⟩,
 ⟨some 13, .bin .lss, [.t 10, .t 12], none⟩] [10, 11, 12])
 (.cond (.t 13) [13]
 .skip
 (.exit 0)))
 (.seq
 (.block 1
 (.seq
 (.seq
 (.region false [⟨some 16, .mv, [.t 1], none⟩,
 ⟨some 17, .mv, [.t 7], none⟩,
 ⟨some 18, .idxa 1, [.t 16, .t 17], none⟩,
 ⟨some 19, .load 1 false, [.t 18], none⟩,
 ⟨some 20, .len, [.t 19], none⟩,
 ⟨some 21, .bin .eql, [.t 20, .c (.i 0)], none⟩] [16, 17, 18, 19, 20])
 (.cond (.t 21) [21]
 (.seq
 (.region false [⟨some 4, .mv, [.c (.b false)], none⟩] [0, 1, 5, 6, 7])
 .ret)
 .skip))
 (.seq
 (.region false [⟨some 8, .mv, [.c (.i 0)], none⟩] [])
 (.block 2
 F_spec_GroupsOk_W1))))
 (.region false [⟨some 14, .mv, [.t 7], none⟩,
 ⟨some 15, .bin .add, [.t 14, .c (.i 1)], none⟩,
 ⟨some 7, .mv, [.t 15], none⟩] [8, 14, 15])))
def F_spec_GroupsOk_W0 : LC := .loop F_spec_GroupsOk_L0
def F_spec_GroupsOk : LF :=
 { nparams := 2, results := [.t 4], body :=
 (.seq
 (.region false [⟨some 4, .mv, [.c (.b false)], none⟩] [4])
 (.seq
 (.region false [⟨some 5, .mv, [.c (.i 0)], none⟩] [])
 (.seq
 (.region false [⟨some 6, .mv, [.c (.i 0)], none⟩] [])
 (.seq
 (.seq
 (.region false [⟨some 7, .mv, [.c (.i 0)], none⟩] [])
 (.block 0
 F_spec_GroupsOk_W0))
 (.seq
 (.region false [⟨some 62, .mv, [.t 0], none⟩,
 ⟨some 63, .call n_spec_l1In 32256, [.t 62, .c (.i 1), .c (.i 5)], none⟩,
 ⟨some 64, .mv, [.t 63], none⟩,
 ⟨some 65, .mv, [.t 6], some (64, true)⟩,
 ⟨some 66, .mv, [.t 0], some (64, true)⟩,
 ⟨some 67, .bin .eql, [.t 65, .t 66], some (64, true)⟩,
 ⟨some 68, .pick, [.t 64, .t 67, .c (.b false)], none⟩,
 ⟨some 4, .mv, [.t 68], none⟩] [0, 1, 5, 6, 7, 62, 63, 64, 65, 66, 67, 68])
 .ret))))) }
/-- laws.sameInts -/
def F_laws_sameInts_L0 : LC :=
 (.seq
 (.seq
 (.region false [⟨some 11, .mv, [.t 5], none⟩,
 ⟨some 12, .mv, [.t 0], none⟩,
 ⟨some 13, .len, [.t 12], none⟩,
 ⟨some 14, .bin .lss, [.t 11, .t 13], none⟩] [11, 12, 13])
 (.cond (.t 14) [14]
 .skip
 (.exit 0)))
 (.seq
 (.block 1
 (.seq
 (.region true [⟨some 17, .mv, [.t 0], none⟩,
 ⟨some 18, .mv, [.t 5], none⟩,
 ⟨some 19, .idxa 1, [.t 17, .t 18], none⟩,
 ⟨some 20, .load 1 false, [.t 19], none⟩,
 ⟨some 21, .mv, [.t 1], none⟩,
 ⟨some 22, .mv, [.t 5], none⟩,
 ⟨some 23, .idxa 1, [.t 21, .t 22], none⟩,
 ⟨some 24, .load 1 false, [.t 23], none⟩,
 ⟨some 25, .bin .neq, [.t 20, .t 24], none⟩] [17, 18, 19, 20, 21, 22, 23, 24])
 (.cond (.t 25) [25]
 (.seq
 (.region false [⟨some 4, .mv, [.c (.b false)], none⟩] [0, 1, 5])
 .ret)
 .skip)))
 (.region false [⟨some 15, .mv, [.t 5], none⟩,
 ⟨some 16, .bin .add, [.t 15, .c (.i 1)], none⟩,
 ⟨some 5, .mv, [.t 16], none⟩] [15, 16])))
def F_laws_sameInts_W0 : LC := .loop F_laws_sameInts_L0
def F_laws_sameInts : LF :=
 { nparams := 2, results := [.t 4], body :=
 (.seq
 (.region false [⟨some 4, .mv, [.c (.b false)], none⟩] [4])
 (.seq
 (.seq
 (.region false [⟨some 6, .mv, [.t 0], none⟩,
 ⟨some 7, .len, [.t 6], none⟩,
 ⟨some 8, .mv, [.t 1], none⟩,
 ⟨some 9, .len, [.t 8], none⟩,
 ⟨some 10, .bin .neq, [.t 7, .t 9], none⟩] [6, 7, 8, 9])
 (.cond (.t 10) [10]
 (.seq
 (.region false [⟨some 4, .mv, [.c (.b false)], none⟩] [0, 1])
 .ret)
 .skip))
 (.seq
 (.seq
 (.region false [⟨some 5, .mv, [.c (.i 0)], none⟩] [])
 (.block 0
 F_laws_sameInts_W0))
 (.seq
 (.region false [⟨some 4, .mv, [.c (.b true)], none⟩] [0, 1, 5])
 .ret)))) }
/-- spec.DrawChainOrder -/
def F_spec_DrawChainOrder : LF :=
 { nparams := 1, results := [.t 2, .t 3], body :=
 (.seq
 (.region false [⟨some 2, .newnil 1040, [], none⟩,
 ⟨some 3, .newnil 1544, [], none⟩] [2, 3])
 (.seq
 (.region false [⟨some 4, .mv, [.t 0], none⟩,
 ⟨some 5, .call n_spec_l20Open 2560, [.t 4], none⟩,
 ⟨some 6, .call n_spec_l20Grouped 3072, [.t 5], none⟩,
 ⟨some 7, .ext 0, [.t 6], none⟩,
 ⟨some 8, .ext 1, [.t 6], none⟩,
 ⟨some 2, .mv, [.t 7], none⟩,
 ⟨some 3, .mv, [.t 8], none⟩] [0, 4, 5, 6, 7, 8])
 .ret)) }
/-- impl.RowAverage -/
def F_impl_RowAverage_L0 : LC :=
 (.seq
 (.region false [⟨some 33, .bin .lss, [.t 32, .t 31], none⟩] [])
 (.seq
 (.cond (.t 33) [33]
 .skip
 (.exit 0))
 (.seq
 (.block 1
 (.seq
 (.region false [⟨some 34, .idxa 1, [.t 30, .t 32], none⟩,
 ⟨some 35, .load 1 false, [.t 34], none⟩,
 ⟨some 11, .mv, [.t 35], none⟩] [34, 35])
 (.seq
 (.region false [⟨some 36, .mv, [.t 8], none⟩,
 ⟨some 37, .mv, [.t 0], none⟩,
 ⟨some 38, .mv, [.t 11], none⟩,
 ⟨some 39, .idxa 2, [.t 37, .t 38], none⟩,
 ⟨some 40, .fld 0 1 false, [.t 39], none⟩,
 ⟨some 41, .load 1 false, [.t 40], none⟩,
 ⟨some 42, .mv, [.t 9], none⟩,
 ⟨some 43, .bin .mul, [.t 41, .t 42], none⟩,
 ⟨some 44, .bin .add, [.t 36, .t 43], none⟩,
 ⟨some 8, .mv, [.t 44], none⟩] [36, 37, 38, 39, 40, 41, 42, 43, 44])
 (.region false [⟨some 45, .mv, [.t 9], none⟩,
 ⟨some 46, .bin .quo, [.t 45, .c (.i 6)], none⟩,
 ⟨some 47, .mv, [.t 0], none⟩,
 ⟨some 48, .mv, [.t 11], none⟩,
 ⟨some 49, .idxa 2, [.t 47, .t 48], none⟩,
 ⟨some 50, .load 2 true, [.t 49], none⟩,
 ⟨some 51, .mv, [.t 2], none⟩,
 ⟨some 52, .call n_impl_endChance 26624, [.t 50, .t 51], none⟩,
 ⟨some 53, .bin .sub, [.c (.i 6), .t 52], none⟩,
 ⟨some 54, .bin .mul, [.t 46, .t 53], none⟩,
 ⟨some 9, .mv, [.t 54], none⟩] [11, 45, 46, 47, 48, 49, 50, 51, 52, 53, 54]))))
 (.region false [⟨some 55, .bin .add, [.t 32, .c (.i 1)], none⟩,
 ⟨some 32, .mv, [.t 55], none⟩] [55]))))
def F_impl_RowAverage_W0 : LC := .loop F_impl_RowAverage_L0
def F_impl_RowAverage : LF :=
 { nparams := 3, results := [.t 6], body :=
 (.seq
 (.region false [⟨some 6, .mv, [.c (.i 0)], none⟩] [6])
 (.seq
 (.region false [⟨some 12, .mv, [.t 0], none⟩,
 ⟨some 13, .len, [.t 12], none⟩,
 ⟨some 7, .mv, [.t 13], none⟩] [12, 13])
 (.seq
 (.seq
 (.region false [⟨some 14, .mv, [.t 0], none⟩,
 ⟨some 15, .call n_impl_TestsOk 7680, [.t 14], none⟩,
 ⟨some 16, .un .not, [.t 15], none⟩,
 ⟨some 17, .mv, [.t 16], none⟩,
 ⟨some 18, .mv, [.t 7], some (17, false)⟩,
 ⟨some 19, .mv, [.t 1], some (17, false)⟩,
 ⟨some 20, .call n_impl_OrderOk 10240, [.t 18, .t 19], some (17, false)⟩,
 ⟨some 21, .un .not, [.t 20], some (17, false)⟩,
 ⟨some 22, .pick, [.t 17, .c (.b true), .t 21], none⟩,
 ⟨some 23, .mv, [.t 22], none⟩,
 ⟨some 24, .mv, [.t 2], some (23, false)⟩,
 ⟨some 25, .call n_impl_rowOk 12800, [.t 24], some (23, false)⟩,
 ⟨some 26, .un .not, [.t 25], some (23, false)⟩,
 ⟨some 27, .pick, [.t 23, .c (.b true), .t 26], none⟩] [14, 15, 16, 17, 18, 19, 20, 21, 22, 23, 24, 25, 26])
 (.cond (.t 27) [27]
 (.seq
 (.region false [⟨some 6, .mv, [.c (.i (-1))], none⟩] [0, 1, 2, 7])
 .ret)
 .skip))
 (.seq
 (.region false [⟨some 28, .mv, [.t 7], none⟩,
 ⟨some 29, .call n_impl_wholeOf 14848, [.t 28], none⟩,
 ⟨some 8, .mv, [.c (.i 0)], none⟩,
 ⟨some 9, .mv, [.t 29], none⟩] [7, 28, 29])
 (.seq
 (.seq
 (.region false [⟨some 30, .mv, [.t 1], none⟩,
 ⟨some 31, .len, [.t 30], none⟩,
 ⟨some 32, .mv, [.c (.i 0)], none⟩] [1])
 (.block 0
 F_impl_RowAverage_W0))
 (.seq
 (.region false [⟨some 56, .mv, [.t 8], none⟩,
 ⟨some 6, .mv, [.t 56], none⟩] [0, 2, 8, 9, 30, 31, 32, 56])
 .ret)))))) }
/-- impl.RatioOrder -/
def F_impl_RatioOrder_L0 : LC :=
 (.ghost (.rename 6 3080)
 (.seq
 (.region false [⟨some 20, .bin .lss, [.t 19, .t 18], none⟩] [])
 (.seq
 (.cond (.t 20) [20]
 .skip
 (.exit 0))
 (.seq
 (.block 1
 (.seq
 (.region false [⟨some 21, .mv, [.t 19], none⟩,
 ⟨some 7, .mv, [.t 21], none⟩] [21])
 (.region false [⟨some 22, .mv, [.t 6], none⟩,
 ⟨some 23, .mv, [.t 7], none⟩,
 ⟨some 24, .mv, [.t 5], none⟩,
 ⟨some 25, .callm n_impl_inserted_int [0] 12800, [.t 22, .t 23, .t 24], none⟩,
 ⟨some 6, .mv, [.t 25], none⟩] [7, 22, 23, 24, 25])))
 (.region false [⟨some 26, .bin .add, [.t 19, .c (.i 1)], none⟩,
 ⟨some 19, .mv, [.t 26], none⟩] [26])))))
def F_impl_RatioOrder_W0 : LC := .loop F_impl_RatioOrder_L0
def F_impl_RatioOrder : LF :=
 { nparams := 2, results := [.t 4], body :=
 (.seq
 (.region false [⟨some 2, .box 1032, [.t 0], none⟩,
 ⟨some 3, .box 1544, [.t 1], none⟩,
 ⟨some 4, .newnil 2056, [], none⟩] [0, 1, 4])
 (.ghost (.close_ 2)
(.ghost (.close_ 3)
 (.seq
 (.seq
 (.region false [⟨some 8, .load 1 false, [.t 2], none⟩,
 ⟨some 9, .call n_impl_TestsOk 4608, [.t 8], none⟩,
 ⟨some 10, .un .not, [.t 9], none⟩,
 ⟨some 11, .mv, [.t 10], none⟩,
 ⟨some 12, .load 1 false, [.t 3], some (11, false)⟩,
 ⟨some 13, .call n_impl_rowOk 6656, [.t 12], some (11, false)⟩,
 ⟨some 14, .un .not, [.t 13], some (11, false)⟩,
 ⟨some 15, .pick, [.t 11, .c (.b true), .t 14], none⟩] [8, 9, 10, 11, 12, 13, 14])
 (.cond (.t 15) [15]
 (.seq
 (.region false [⟨some 4, .newnil 2056, [], none⟩] [2, 3])
 .ret)
 .skip))
 (.seq
 (.region false [⟨some 16, .mkfn (mkNo n_impl_RatioOrder_1 0), [.t 2, .t 3], none⟩,
 ⟨some 5, .mv, [.t 16], none⟩] [3, 16])
 (.seq
 (.region false [⟨some 6, .newnil 3080, [], none⟩] [])
 (.seq
 (.seq
 (.region false [⟨some 17, .load 1 false, [.t 2], none⟩,
 ⟨some 18, .len, [.t 17], none⟩,
 ⟨some 19, .mv, [.c (.i 0)], none⟩] [2, 17])
 (.block 0
 F_impl_RatioOrder_W0))
 (.seq
 (.region false [⟨some 27, .mv, [.t 6], none⟩,
 ⟨some 4, .mv, [.t 27], none⟩] [5, 6, 18, 19, 27])
 .ret)))))))) }
/-- spec.TestsOk -/
def F_spec_TestsOk_L0 : LC :=
 (.seq
 (.seq
 (.region false [⟨some 4, .mv, [.t 3], none⟩,
 ⟨some 5, .mv, [.t 0], none⟩,
 ⟨some 6, .len, [.t 5], none⟩,
 ⟨some 7, .bin .lss, [.t 4, .t 6], none⟩] [4, 5, 6])
 (.cond (.t 7) [7]
 .skip
 (.exit 0)))
 (.seq
 (.block 1
 (.seq
 (.region false [⟨some 10, .mv, [.t 0], none⟩,
 ⟨some 11, .mv, [.t 3], none⟩,
 ⟨some 12, .idxa 2, [.t 10, .t 11], none⟩,
 ⟨some 13, .fld 0 1 false, [.t 12], none⟩,
 ⟨some 14, .load 1 false, [.t 13], none⟩,
 ⟨some 15, .call n_spec_l1In 7680, [.t 14, .c (.i 1), .c (.i 9)], none⟩,
 ⟨some 16, .un .not, [.t 15], none⟩,
 ⟨some 17, .mv, [.t 16], none⟩,
 ⟨some 18, .mv, [.t 0], some (17, false)⟩,
 ⟨some 19, .mv, [.t 3], some (17, false)⟩,
 ⟨some 20, .idxa 2, [.t 18, .t 19], some (17, false)⟩,
 ⟨some 21, .fld 1 1 false, [.t 20], some (17, false)⟩,
 ⟨some 22, .load 1 false, [.t 21], some (17, false)⟩,
 ⟨some 23, .call n_spec_l1In 11776, [.t 22, .c (.i 1), .c (.i 5)], some (17, false)⟩,
 ⟨some 24, .un .not, [.t 23], some (17, false)⟩,
 ⟨some 25, .pick, [.t 17, .c (.b true), .t 24], none⟩] [10, 11, 12, 13, 14, 15, 16, 17, 18, 19, 20, 21, 22, 23, 24])
 (.cond (.t 25) [25]
 (.seq
 (.region false [⟨some 2, .mv, [.c (.b false)], none⟩] [0, 3])
 .ret)
 .skip)))
 (.region false [⟨some 8, .mv, [.t 3], none⟩,
 ⟨some 9, .bin .add, [.t 8, .c (.i 1)], none⟩,
 ⟨some 3, .mv, [.t 9], none⟩] [8, 9])))
def F_spec_TestsOk_W0 : LC := .loop F_spec_TestsOk_L0
def F_spec_TestsOk : LF :=
 { nparams := 1, results := [.t 2], body :=
 (.seq
 (.region false [⟨some 2, .mv, [.c (.b false)], none⟩] [2])
 (.seq
 (.seq
 (.region false [⟨some 3, .mv, [.c (.i 0)], none⟩] [])
 (.block 0
 F_spec_TestsOk_W0))
 (.seq
 (.region false [⟨some 26, .mv, [.t 0], none⟩,
 ⟨some 27, .len, [.t 26], none⟩,
 ⟨some 28, .call n_spec_l1In 14336, [.t 27, .c (.i 1), .c (.i 5)], none⟩,
 ⟨some 2, .mv, [.t 28], none⟩] [0, 3, 26, 27, 28])
 .ret))) }
/-- spec.l1In -/
def F_spec_l1In : LF :=
 { nparams := 3, results := [.t 6], body :=
 (.seq
 (.region false [⟨some 6, .mv, [.c (.b false)], none⟩] [6])
 (.seq
 (.region false [⟨some 7, .mv, [.t 0], none⟩,
 ⟨some 8, .mv, [.t 1], none⟩,
 ⟨some 9, .bin .geq, [.t 7, .t 8], none⟩,
 ⟨some 10, .mv, [.t 9], none⟩,
 ⟨some 11, .mv, [.t 0], some (10, true)⟩,
 ⟨some 12, .mv, [.t 2], some (10, true)⟩,
 ⟨some 13, .bin .leq, [.t 11, .t 12], some (10, true)⟩,
 ⟨some 14, .pick, [.t 10, .t 13, .c (.b false)], none⟩,
 ⟨some 6, .mv, [.t 14], none⟩] [0, 1, 2, 7, 8, 9, 10, 11, 12, 13, 14])
 .ret)) }
/-- spec.l9Ratio -/
def F_spec_l9Ratio_L0 : LC :=
 (.seq
 (.seq
 (.region false [⟨some 9, .mv, [.t 8], none⟩,
 ⟨some 10, .mv, [.t 1], none⟩,
 ⟨some 11, .len, [.t 10], none⟩,
 ⟨some 12, .bin .lss, [.t 9, .t 11], none⟩] [9, 10, 11])
 (.cond (.t 12) [12]
 .skip
 (.exit 0)))
 (.seq
 (.block 1
 (.seq
 (.region true [⟨some 15, .mv, [.t 6], none⟩,
 ⟨some 16, .mv, [.t 0], none⟩,
 ⟨some 17, .mv, [.t 1], none⟩,
 ⟨some 18, .mv, [.t 8], none⟩,
 ⟨some 19, .idxa 1, [.t 17, .t 18], none⟩,
 ⟨some 20, .load 1 false, [.t 19], none⟩,
 ⟨some 21, .idxa 2, [.t 16, .t 20], none⟩,
 ⟨some 22, .fld 0 1 false, [.t 21], none⟩,
 ⟨some 23, .load 1 false, [.t 22], none⟩,
 ⟨some 24, .mv, [.t 7], none⟩,
 ⟨some 25, .bin .mul, [.t 23, .t 24], none⟩,
 ⟨some 26, .mv, [.t 1], none⟩,
 ⟨some 27, .len, [.t 26], none⟩,
 ⟨some 28, .mv, [.t 8], none⟩,
 ⟨some 29, .bin .sub, [.t 27, .t 28], none⟩,
 ⟨some 30, .call n_spec_l1Power 15360, [.t 29], none⟩,
 ⟨some 31, .bin .mul, [.t 25, .t 30], none⟩,
 ⟨some 32, .bin .add, [.t 15, .t 31], none⟩,
 ⟨some 6, .mv, [.t 32], none⟩] [15, 16, 17, 18, 19, 20, 21, 22, 23, 24, 25, 26, 27, 28, 29, 30, 31, 32])
 (.region false [⟨some 33, .mv, [.t 7], none⟩,
 ⟨some 34, .mv, [.t 0], none⟩,
 ⟨some 35, .mv, [.t 1], none⟩,
 ⟨some 36, .mv, [.t 8], none⟩,
 ⟨some 37, .idxa 1, [.t 35, .t 36], none⟩,
 ⟨some 38, .load 1 false, [.t 37], none⟩,
 ⟨some 39, .idxa 2, [.t 34, .t 38], none⟩,
 ⟨some 40, .fld 1 1 false, [.t 39], none⟩,
 ⟨some 41, .load 1 false, [.t 40], none⟩,
 ⟨some 42, .bin .mul, [.t 33, .t 41], none⟩,
 ⟨some 7, .mv, [.t 42], none⟩] [33, 34, 35, 36, 37, 38, 39, 40, 41, 42])))
 (.region false [⟨some 13, .mv, [.t 8], none⟩,
 ⟨some 14, .bin .add, [.t 13, .c (.i 1)], none⟩,
 ⟨some 8, .mv, [.t 14], none⟩] [13, 14])))
def F_spec_l9Ratio_W0 : LC := .loop F_spec_l9Ratio_L0
def F_spec_l9Ratio : LF :=
 { nparams := 2, results := [.t 4, .t 5], body :=
 (.seq
 (.region false [⟨some 4, .mv, [.c (.i 0)], none⟩,
 ⟨some 5, .mv, [.c (.i 0)], none⟩] [4, 5])
 (.seq
 (.region false [⟨some 6, .mv, [.c (.i 0)], none⟩] [])
 (.seq
 (.region false [⟨some 7, .mv, [.c (.i 1)], none⟩] [])
 (.seq
 (.seq
 (.region false [⟨some 8, .mv, [.c (.i 0)], none⟩] [])
 (.block 0
 F_spec_l9Ratio_W0))
 (.seq
 (.region false [⟨some 43, .mv, [.t 6], none⟩,
 ⟨some 44, .mv, [.t 1], none⟩,
 ⟨some 45, .len, [.t 44], none⟩,
 ⟨some 46, .call n_spec_l1Power 23552, [.t 45], none⟩,
 ⟨some 47, .mv, [.t 7], none⟩,
 ⟨some 48, .bin .sub, [.t 46, .t 47], none⟩,
 ⟨some 4, .mv, [.t 43], none⟩,
 ⟨some 5, .mv, [.t 48], none⟩] [0, 1, 6, 7, 8, 43, 44, 45, 46, 47, 48])
 .ret))))) }
/-- impl.TestsOk -/
def F_impl_TestsOk_L0 : LC :=
 (.seq
 (.region false [⟨some 12, .bin .lss, [.t 11, .t 10], none⟩] [])
 (.seq
 (.cond (.t 12) [12]
 .skip
 (.exit 0))
 (.seq
 (.block 1
 (.seq
 (.region false [⟨some 13, .idxa 2, [.t 9, .t 11], none⟩,
 ⟨some 14, .load 2 true, [.t 13], none⟩,
 ⟨some 4, .alloc 2064 (.st [.i 0, .i 0]), [], none⟩,
 ⟨none, .store 2, [.t 4, .t 14], none⟩] [13, 14])
 (.seq
 (.region false [⟨some 15, .fld 0 1 false, [.t 4], none⟩,
 ⟨some 16, .load 1 false, [.t 15], none⟩,
 ⟨some 17, .call n_impl_isWithin 8704, [.t 16, .c (.i 1), .c (.i 9)], none⟩,
 ⟨some 18, .un .not, [.t 17], none⟩,
 ⟨some 19, .mv, [.t 18], none⟩,
 ⟨some 20, .fld 1 1 false, [.t 4], some (19, false)⟩,
 ⟨some 21, .load 1 false, [.t 20], some (19, false)⟩,
 ⟨some 22, .call n_impl_isWithin 11264, [.t 21, .c (.i 1), .c (.i 5)], some (19, false)⟩,
 ⟨some 23, .un .not, [.t 22], some (19, false)⟩,
 ⟨some 24, .pick, [.t 19, .c (.b true), .t 23], none⟩] [4, 15, 16, 17, 18, 19, 20, 21, 22, 23])
 (.cond (.t 24) [24]
 (.seq
 (.region false [⟨some 2, .mv, [.c (.b false)], none⟩] [9, 10, 11])
 .ret)
 .skip))))
 (.region false [⟨some 25, .bin .add, [.t 11, .c (.i 1)], none⟩,
 ⟨some 11, .mv, [.t 25], none⟩] [25]))))
def F_impl_TestsOk_W0 : LC := .loop F_impl_TestsOk_L0
def F_impl_TestsOk : LF :=
 { nparams := 1, results := [.t 2], body :=
 (.seq
 (.region false [⟨some 2, .mv, [.c (.b false)], none⟩] [2])
 (.seq
 (.seq
 (.region false [⟨some 5, .mv, [.t 0], none⟩,
 ⟨some 6, .len, [.t 5], none⟩,
 ⟨some 7, .call n_impl_manyOk 3584, [.t 6], none⟩,
 ⟨some 8, .un .not, [.t 7], none⟩] [5, 6, 7])
 (.cond (.t 8) [8]
 (.seq
 (.region false [⟨some 2, .mv, [.c (.b false)], none⟩] [0])
 .ret)
 .skip))
 (.seq
 (.seq
 (.region false [⟨some 9, .mv, [.t 0], none⟩,
 ⟨some 10, .len, [.t 9], none⟩,
 ⟨some 11, .mv, [.c (.i 0)], none⟩] [0])
 (.block 0
 F_impl_TestsOk_W0))
 (.seq
 (.region false [⟨some 2, .mv, [.c (.b true)], none⟩] [9, 10, 11])
 .ret)))) }
/-- impl.GroupsOk -/
def F_impl_GroupsOk_L0 : LC :=
 (.seq
 (.region false [⟨some 14, .bin .lss, [.t 13, .t 12], none⟩] [])
 (.seq
 (.cond (.t 14) [14]
 .skip
 (.exit 0))
 (.seq
 (.block 1
 (.seq
 (.region false [⟨some 15, .idxa 1, [.t 11, .t 13], none⟩,
 ⟨some 16, .load 1 false, [.t 15], none⟩,
 ⟨some 7, .mv, [.t 16], none⟩] [15, 16])
 (.seq
 (.seq
 (.region false [⟨some 17, .mv, [.t 7], none⟩,
 ⟨some 18, .len, [.t 17], none⟩,
 ⟨some 19, .mv, [.t 0], none⟩,
 ⟨some 20, .mv, [.t 5], none⟩,
 ⟨some 21, .len, [.t 20], none⟩,
 ⟨some 22, .bin .sub, [.t 19, .t 21], none⟩,
 ⟨some 23, .call n_impl_isWithin 11776, [.t 18, .c (.i 1), .t 22], none⟩,
 ⟨some 24, .un .not, [.t 23], none⟩] [17, 18, 19, 20, 21, 22, 23])
 (.cond (.t 24) [24]
 (.seq
 (.region false [⟨some 4, .mv, [.c (.b false)], none⟩] [0, 5, 7, 11, 12, 13])
 .ret)
 .skip))
 (.region false [⟨some 25, .mv, [.t 5], none⟩,
 ⟨some 26, .mv, [.t 7], none⟩,
 ⟨some 27, .app 13832 1, [.t 25, .t 26], none⟩,
 ⟨some 5, .mv, [.t 27], none⟩] [7, 25, 26, 27]))))
 (.region false [⟨some 28, .bin .add, [.t 13, .c (.i 1)], none⟩,
 ⟨some 13, .mv, [.t 28], none⟩] [28]))))
def F_impl_GroupsOk_W0 : LC := .loop F_impl_GroupsOk_L0
def F_impl_GroupsOk : LF :=
 { nparams := 2, results := [.t 4], body :=
 (.seq
 (.region false [⟨some 4, .mv, [.c (.b false)], none⟩] [4])
 (.seq
 (.seq
 (.region false [⟨some 8, .mv, [.t 0], none⟩,
 ⟨some 9, .call n_impl_manyOk 4608, [.t 8], none⟩,
 ⟨some 10, .un .not, [.t 9], none⟩] [8, 9])
 (.cond (.t 10) [10]
 (.seq
 (.region false [⟨some 4, .mv, [.c (.b false)], none⟩] [0, 1])
 .ret)
 .skip))
 (.seq
 (.region false [⟨some 5, .newnil 2568, [], none⟩] [])
 (.seq
 (.seq
 (.region false [⟨some 11, .mv, [.t 1], none⟩,
 ⟨some 12, .len, [.t 11], none⟩,
 ⟨some 13, .mv, [.c (.i 0)], none⟩] [1])
 (.block 0
 F_impl_GroupsOk_W0))
 (.seq
 (.region false [⟨some 29, .mv, [.t 0], none⟩,
 ⟨some 30, .mv, [.t 5], none⟩,
 ⟨some 31, .call n_impl_OrderOk 15872, [.t 29, .t 30], none⟩,
 ⟨some 4, .mv, [.t 31], none⟩] [0, 5, 11, 12, 13, 29, 30, 31])
 .ret))))) }
/-- impl.isWithin -/
def F_impl_isWithin : LF :=
 { nparams := 3, results := [.t 6], body :=
 (.seq
 (.region false [⟨some 6, .mv, [.c (.b false)], none⟩] [6])
 (.seq
 (.region false [⟨some 7, .mv, [.t 1], none⟩,
 ⟨some 8, .mv, [.t 0], none⟩,
 ⟨some 9, .bin .leq, [.t 7, .t 8], none⟩,
 ⟨some 10, .mv, [.t 9], none⟩,
 ⟨some 11, .mv, [.t 0], some (10, true)⟩,
 ⟨some 12, .mv, [.t 2], some (10, true)⟩,
 ⟨some 13, .bin .leq, [.t 11, .t 12], some (10, true)⟩,
 ⟨some 14, .pick, [.t 10, .t 13, .c (.b false)], none⟩,
 ⟨some 6, .mv, [.t 14], none⟩] [0, 1, 2, 7, 8, 9, 10, 11, 12, 13, 14])
 .ret)) }
/-- impl.ratioOfPart -/
def F_impl_ratioOfPart_L0 : LC :=
 (.seq
 (.region false [⟨some 12, .bin .lss, [.t 11, .t 10], none⟩] [])
 (.seq
 (.cond (.t 12) [12]
 .skip
 (.exit 0))
 (.seq
 (.block 1
 (.seq
 (.region false [⟨some 13, .idxa 1, [.t 9, .t 11], none⟩,
 ⟨some 14, .load 1 false, [.t 13], none⟩,
 ⟨some 8, .mv, [.t 14], none⟩] [13, 14])
 (.seq
 (.region false [⟨some 15, .mv, [.t 5], none⟩,
 ⟨some 16, .mv, [.t 0], none⟩,
 ⟨some 17, .mv, [.t 8], none⟩,
 ⟨some 18, .idxa 2, [.t 16, .t 17], none⟩,
 ⟨some 19, .fld 0 1 false, [.t 18], none⟩,
 ⟨some 20, .load 1 false, [.t 19], none⟩,
 ⟨some 21, .mv, [.t 6], none⟩,
 ⟨some 22, .bin .mul, [.t 20, .t 21], none⟩,
 ⟨some 23, .bin .add, [.t 15, .t 22], none⟩,
 ⟨some 24, .bin .mul, [.c (.i 6), .t 23], none⟩,
 ⟨some 5, .mv, [.t 24], none⟩] [15, 16, 17, 18, 19, 20, 21, 22, 23, 24])
 (.region false [⟨some 25, .mv, [.t 6], none⟩,
 ⟨some 26, .mv, [.t 0], none⟩,
 ⟨some 27, .mv, [.t 8], none⟩,
 ⟨some 28, .idxa 2, [.t 26, .t 27], none⟩,
 ⟨some 29, .fld 1 1 false, [.t 28], none⟩,
 ⟨some 30, .load 1 false, [.t 29], none⟩,
 ⟨some 31, .bin .mul, [.t 25, .t 30], none⟩,
 ⟨some 6, .mv, [.t 31], none⟩] [8, 25, 26, 27, 28, 29, 30, 31]))))
 (.region false [⟨some 32, .bin .add, [.t 11, .c (.i 1)], none⟩,
 ⟨some 11, .mv, [.t 32], none⟩] [32]))))
def F_impl_ratioOfPart_W0 : LC := .loop F_impl_ratioOfPart_L0
def F_impl_ratioOfPart : LF :=
 { nparams := 2, results := [.c 4 2 true], body :=
 (.seq
 (.region false [⟨some 4, .alloc 2064 (.st [.i 0, .i 0]), [], none⟩] [])
 (.seq
 (.region false [⟨some 5, .mv, [.c (.i 0)], none⟩,
 ⟨some 6, .mv, [.c (.i 1)], none⟩] [])
 (.seq
 (.seq
 (.region false [⟨some 9, .mv, [.t 1], none⟩,
 ⟨some 10, .len, [.t 9], none⟩,
 ⟨some 11, .mv, [.c (.i 0)], none⟩] [])
 (.block 0
 F_impl_ratioOfPart_W0))
 (.seq
 (.region false [⟨some 33, .mv, [.t 5], none⟩,
 ⟨some 34, .mv, [.t 1], none⟩,
 ⟨some 35, .len, [.t 34], none⟩,
 ⟨some 36, .call n_impl_wholeOf 18432, [.t 35], none⟩,
 ⟨some 37, .mv, [.t 6], none⟩,
 ⟨some 38, .bin .sub, [.t 36, .t 37], none⟩,
 ⟨some 39, .build [.i 0, .i 0] [(0, 1), (1, 1)], [.t 33, .t 38], none⟩,
 ⟨none, .store 2, [.t 4, .t 39], none⟩] [0, 1, 5, 6, 9, 10, 11, 33, 34, 35, 36, 37, 38, 39])
 .ret)))) }
/-- impl.OrderOk -/
def F_impl_OrderOk_L0 : LC :=
 (.seq
 (.region false [⟨some 20, .bin .lss, [.t 19, .t 18], none⟩] [])
 (.seq
 (.cond (.t 20) [20]
 .skip
 (.exit 0))
 (.seq
 (.block 1
 (.seq
 (.region false [⟨some 21, .idxa 1, [.t 17, .t 19], none⟩,
 ⟨some 22, .load 1 false, [.t 21], none⟩,
 ⟨some 7, .mv, [.t 22], none⟩] [21, 22])
 (.seq
 (.seq
 (.region false [⟨some 23, .mv, [.t 7], none⟩,
 ⟨some 24, .mv, [.t 0], none⟩,
 ⟨some 25, .bin .sub, [.t 24, .c (.i 1)], none⟩,
 ⟨some 26, .call n_impl_isWithin 13312, [.t 23, .c (.i 0), .t 25], none⟩,
 ⟨some 27, .un .not, [.t 26], none⟩,
 ⟨some 28, .mv, [.t 27], none⟩,
 ⟨some 29, .mv, [.t 5], some (28, false)⟩,
 ⟨some 30, .mv, [.t 7], some (28, false)⟩,
 ⟨some 31, .call n_impl_hasTest 15872, [.t 29, .t 30], some (28, false)⟩,
 ⟨some 32, .pick, [.t 28, .c (.b true), .t 31], none⟩] [23, 24, 25, 26, 27, 28, 29, 30, 31])
 (.cond (.t 32) [32]
 (.seq
 (.region false [⟨some 4, .mv, [.c (.b false)], none⟩] [0, 5, 7, 17, 18, 19])
 .ret)
 .skip))
 (.region false [⟨some 33, .mv, [.t 5], none⟩,
 ⟨some 34, .mv, [.t 7], none⟩,
 ⟨some 35, .bin .shl, [.c (.i 1), .t 34], none⟩,
 ⟨some 36, .bin .or, [.t 33, .t 35], none⟩,
 ⟨some 5, .mv, [.t 36], none⟩] [7, 33, 34, 35, 36]))))
 (.region false [⟨some 37, .bin .add, [.t 19, .c (.i 1)], none⟩,
 ⟨some 19, .mv, [.t 37], none⟩] [37]))))
def F_impl_OrderOk_W0 : LC := .loop F_impl_OrderOk_L0
def F_impl_OrderOk : LF :=
 { nparams := 2, results := [.t 4], body :=
 (.seq
 (.region false [⟨some 4, .mv, [.c (.b false)], none⟩] [4])
 (.seq
 (.seq
 (.region false [⟨some 8, .mv, [.t 0], none⟩,
 ⟨some 9, .call n_impl_manyOk 4608, [.t 8], none⟩,
 ⟨some 10, .un .not, [.t 9], none⟩,
 ⟨some 11, .mv, [.t 10], none⟩,
 ⟨some 12, .mv, [.t 1], some (11, false)⟩,
 ⟨some 13, .len, [.t 12], some (11, false)⟩,
 ⟨some 14, .mv, [.t 0], some (11, false)⟩,
 ⟨some 15, .bin .neq, [.t 13, .t 14], some (11, false)⟩,
 ⟨some 16, .pick, [.t 11, .c (.b true), .t 15], none⟩] [8, 9, 10, 11, 12, 13, 14, 15])
 (.cond (.t 16) [16]
 (.seq
 (.region false [⟨some 4, .mv, [.c (.b false)], none⟩] [0, 1])
 .ret)
 .skip))
 (.seq
 (.region false [⟨some 5, .mv, [.c (.i 0)], none⟩] [])
 (.seq
 (.seq
 (.region false [⟨some 17, .mv, [.t 1], none⟩,
 ⟨some 18, .len, [.t 17], none⟩,
 ⟨some 19, .mv, [.c (.i 0)], none⟩] [1])
 (.block 0
 F_impl_OrderOk_W0))
 (.seq
 (.region false [⟨some 4, .mv, [.c (.b true)], none⟩] [0, 5, 17, 18, 19])
 .ret))))) }
/-- impl.KeepsChains$1 -/
def F_impl_KeepsChains_1 : LF :=
 { nparams := 3, results := [.t 5], body :=
 (.seq
 (.region false [⟨some 5, .mv, [.c (.i 0)], none⟩] [5])
 (.seq
 (.region true [⟨some 6, .load 1 false, [.t 2], none⟩,
 ⟨some 7, .mv, [.t 0], none⟩,
 ⟨some 8, .call n_slices_Index_int_int 4096, [.t 6, .t 7], none⟩,
 ⟨some 9, .load 1 false, [.t 2], none⟩,
 ⟨some 10, .mv, [.t 1], none⟩,
 ⟨some 11, .call n_slices_Index_int_int 5632, [.t 9, .t 10], none⟩,
 ⟨some 12, .bin .sub, [.t 8, .t 11], none⟩,
 ⟨some 5, .mv, [.t 12], none⟩] [0, 1, 2, 6, 7, 8, 9, 10, 11, 12])
 .ret)) }
/-- slices.Index[[]int,int] -/
def F_slices_Index_int_int_L0 : LC :=
 (.seq
 (.region false [⟨some 9, .bin .lss, [.t 8, .t 7], none⟩] [])
 (.seq
 (.cond (.t 9) [9]
 .skip
 (.exit 0))
 (.seq
 (.block 1
 (.seq
 (.region false [⟨some 10, .mv, [.t 8], none⟩,
 ⟨some 5, .mv, [.t 10], none⟩] [10])
 (.seq
 (.region false [⟨some 11, .mv, [.t 1], none⟩,
 ⟨some 12, .mv, [.t 0], none⟩,
 ⟨some 13, .mv, [.t 5], none⟩,
 ⟨some 14, .idxa 1, [.t 12, .t 13], none⟩,
 ⟨some 15, .load 1 false, [.t 14], none⟩,
 ⟨some 16, .bin .eql, [.t 11, .t 15], none⟩] [11, 12, 13, 14, 15])
 (.cond (.t 16) [16]
 (.seq
 (.region false [⟨some 17, .mv, [.t 5], none⟩,
 ⟨some 4, .mv, [.t 17], none⟩] [0, 1, 5, 7, 8, 17])
 .ret)
 .skip))))
 (.region false [⟨some 18, .bin .add, [.t 8, .c (.i 1)], none⟩,
 ⟨some 8, .mv, [.t 18], none⟩] [5, 18]))))
def F_slices_Index_int_int_W0 : LC := .loop F_slices_Index_int_int_L0
def F_slices_Index_int_int : LF :=
 { nparams := 2, results := [.t 4], body :=
 (.seq
 (.region false [⟨some 4, .mv, [.c (.i 0)], none⟩] [4])
 (.seq
 (.seq
 (.region false [⟨some 6, .mv, [.t 0], none⟩,
 ⟨some 7, .len, [.t 6], none⟩,
 ⟨some 8, .mv, [.c (.i 0)], none⟩] [6])
 (.block 0
 F_slices_Index_int_int_W0))
 (.seq
 (.region false [⟨some 4, .mv, [.c (.i (-1))], none⟩] [0, 1, 7, 8])
 .ret))) }
/-- slices.IsSortedFunc[[]int,int] -/
def F_slices_IsSortedFunc_int_int_L0 : LC :=
 (.seq
 (.seq
 (.region false [⟨some 9, .mv, [.t 5], none⟩,
 ⟨some 10, .bin .gtr, [.t 9, .c (.i 0)], none⟩] [9])
 (.cond (.t 10) [10]
 .skip
 (.exit 0)))
 (.seq
 (.block 1
 (.seq
 (.region true [⟨some 13, .mv, [.t 1], none⟩,
 ⟨some 14, .mv, [.t 0], none⟩,
 ⟨some 15, .mv, [.t 5], none⟩,
 ⟨some 16, .idxa 1, [.t 14, .t 15], none⟩,
 ⟨some 17, .load 1 false, [.t 16], none⟩,
 ⟨some 18, .mv, [.t 0], none⟩,
 ⟨some 19, .mv, [.t 5], none⟩,
 ⟨some 20, .bin .sub, [.t 19, .c (.i 1)], none⟩,
 ⟨some 21, .idxa 1, [.t 18, .t 20], none⟩,
 ⟨some 22, .load 1 false, [.t 21], none⟩,
 ⟨some 23, .calld 11776, [.t 13, .t 17, .t 22], none⟩,
 ⟨some 24, .bin .lss, [.t 23, .c (.i 0)], none⟩] [13, 14, 15, 16, 17, 18, 19, 20, 21, 22, 23])
 (.cond (.t 24) [24]
 (.seq
 (.region false [⟨some 4, .mv, [.c (.b false)], none⟩] [0, 1, 5])
 .ret)
 .skip)))
 (.region false [⟨some 11, .mv, [.t 5], none⟩,
 ⟨some 12, .bin .sub, [.t 11, .c (.i 1)], none⟩,
 ⟨some 5, .mv, [.t 12], none⟩] [11, 12])))
def F_slices_IsSortedFunc_int_int_W0 : LC := .loop F_slices_IsSortedFunc_int_int_L0
def F_slices_IsSortedFunc_int_int : LF :=
 { nparams := 2, results := [.t 4], body :=
 (.seq
 (.region false [⟨some 4, .mv, [.c (.b false)], none⟩] [4])
 (.seq
 (.seq
 (.region false [⟨some 6, .mv, [.t 0], none⟩,
 ⟨some 7, .len, [.t 6], none⟩,
 ⟨some 8, .bin .sub, [.t 7, .c (.i 1)], none⟩,
 ⟨some 5, .mv, [.t 8], none⟩] [6, 7, 8])
 (.block 0
 F_slices_IsSortedFunc_int_int_W0))
 (.seq
 (.region false [⟨some 4, .mv, [.c (.b true)], none⟩] [0, 1, 5])
 .ret))) }
/-- impl.leastPart -/
def F_impl_leastPart_L1 : LC :=
 (.seq
 (.seq
 (.region false [⟨some 18, .mv, [.t 9], none⟩,
 ⟨some 19, .mv, [.t 8], none⟩,
 ⟨some 20, .len, [.t 19], none⟩,
 ⟨some 21, .bin .leq, [.t 18, .t 20], none⟩] [18, 19, 20])
 (.cond (.t 21) [21]
 .skip
 (.exit 2)))
 (.seq
 (.block 3
 (.seq
 (.region false [⟨some 24, .mv, [.t 0], none⟩,
 ⟨some 25, .mv, [.t 8], none⟩,
 ⟨some 26, .mv, [.t 9], none⟩,
 ⟨some 27, .slice false true 1, [.t 25, .t 26], none⟩,
 ⟨some 28, .call n_impl_ratioOfPart 14336, [.t 24, .t 27], none⟩,
 ⟨some 10, .alloc 5136 (.st [.i 0, .i 0]), [], none⟩,
 ⟨none, .store 2, [.t 10, .t 28], none⟩] [24, 25, 26, 27, 28])
 (.seq
 (.region false [⟨some 29, .fld 1 1 false, [.t 5], none⟩,
 ⟨some 30, .load 1 false, [.t 29], none⟩,
 ⟨some 31, .bin .eql, [.t 30, .c (.i 0)], none⟩,
 ⟨some 32, .mv, [.t 31], none⟩,
 ⟨some 33, .load 2 true, [.t 10], some (32, false)⟩,
 ⟨some 34, .load 2 true, [.t 6], some (32, false)⟩,
 ⟨some 35, .call n_impl_ratio_isLess 17920, [.t 33, .t 34], some (32, false)⟩,
 ⟨some 36, .pick, [.t 32, .c (.b true), .t 35], none⟩] [29, 30, 31, 32, 33, 34, 35])
 (.cond (.t 36) [36]
 (.region true [⟨some 37, .mv, [.t 7], none⟩,
 ⟨some 38, .mv, [.t 9], none⟩,
 ⟨some 39, .build [.i 0, .i 0] [(0, 1), (1, 1)], [.t 37, .t 38], none⟩,
 ⟨some 40, .load 2 true, [.t 10], none⟩,
 ⟨none, .store 2, [.t 5, .t 39], none⟩,
 ⟨none, .store 2, [.t 6, .t 40], none⟩] [10, 37, 38, 39, 40])
 .skip))))
 (.region false [⟨some 22, .mv, [.t 9], none⟩,
 ⟨some 23, .bin .add, [.t 22, .c (.i 1)], none⟩,
 ⟨some 9, .mv, [.t 23], none⟩] [10, 22, 23])))
def F_impl_leastPart_W1 : LC := .loop F_impl_leastPart_L1
def F_impl_leastPart_L0 : LC :=
 (.seq
 (.region false [⟨some 14, .bin .lss, [.t 13, .t 12], none⟩] [])
 (.seq
 (.cond (.t 14) [14]
 .skip
 (.exit 0))
 (.seq
 (.block 1
 (.seq
 (.region false [⟨some 15, .mv, [.t 13], none⟩,
 ⟨some 16, .idxa 1, [.t 11, .t 13], none⟩,
 ⟨some 17, .load 1 false, [.t 16], none⟩,
 ⟨some 7, .mv, [.t 15], none⟩,
 ⟨some 8, .mv, [.t 17], none⟩] [15, 16, 17])
 (.seq
 (.region false [⟨some 9, .mv, [.c (.i 1)], none⟩] [])
 (.block 2
 F_impl_leastPart_W1))))
 (.region false [⟨some 41, .bin .add, [.t 13, .c (.i 1)], none⟩,
 ⟨some 13, .mv, [.t 41], none⟩] [7, 8, 9, 41]))))
def F_impl_leastPart_W0 : LC := .loop F_impl_leastPart_L0
def F_impl_leastPart : LF :=
 { nparams := 2, results := [.c 4 2 true], body :=
 (.seq
 (.region false [⟨some 4, .alloc 2064 (.st [.i 0, .i 0]), [], none⟩] [])
 (.seq
 (.region false [⟨some 5, .alloc 2576 (.st [.i 0, .i 0]), [], none⟩] [])
 (.seq
 (.region false [⟨some 6, .alloc 3088 (.st [.i 0, .i 0]), [], none⟩] [])
 (.seq
 (.seq
 (.region false [⟨some 11, .mv, [.t 1], none⟩,
 ⟨some 12, .len, [.t 11], none⟩,
 ⟨some 13, .mv, [.c (.i 0)], none⟩] [1])
 (.block 0
 F_impl_leastPart_W0))
 (.seq
 (.region false [⟨some 42, .load 2 true, [.t 5], none⟩,
 ⟨none, .store 2, [.t 4, .t 42], none⟩] [0, 5, 6, 11, 12, 13, 42])
 .ret))))) }
/-- impl.behindPart -/
def F_impl_behindPart : LF :=
 { nparams := 2, results := [.t 4], body :=
 (.seq
 (.region false [⟨some 3, .box 1552, [.t 1], none⟩,
 ⟨some 4, .newnil 2056, [], none⟩] [1, 4])
 (.seq
 (.region false [⟨some 6, .mv, [.t 0], none⟩,
 ⟨some 7, .call n_slices_Clone_int_int 3584, [.t 6], none⟩,
 ⟨some 5, .mv, [.t 7], none⟩] [0, 6, 7])
 (.seq
 (.region true [⟨some 8, .mv, [.t 5], none⟩,
 ⟨some 9, .fld 0 1 false, [.t 3], none⟩,
 ⟨some 10, .load 1 false, [.t 9], none⟩,
 ⟨some 11, .mv, [.t 5], none⟩,
 ⟨some 12, .fld 0 1 false, [.t 3], none⟩,
 ⟨some 13, .load 1 false, [.t 12], none⟩,
 ⟨some 14, .idxa 1, [.t 11, .t 13], none⟩,
 ⟨some 15, .load 1 false, [.t 14], none⟩,
 ⟨some 16, .fld 1 1 false, [.t 3], none⟩,
 ⟨some 17, .load 1 false, [.t 16], none⟩,
 ⟨some 18, .slice true false 1, [.t 15, .t 17], none⟩,
 ⟨some 19, .idxa 1, [.t 8, .t 10], none⟩,
 ⟨none, .store 1, [.t 19, .t 18], none⟩] [3, 8, 9, 10, 11, 12, 13, 14, 15, 16, 17, 18, 19])
 (.seq
 (.ghost (.freeze 5)
 (.region false [⟨some 20, .mv, [.t 5], none⟩,
 ⟨some 4, .mv, [.t 20], none⟩] [5, 20]))
 .ret)))) }
/-- impl.leastAlong -/
def F_impl_leastAlong_L0 : LC :=
 (.seq
 (.region false [⟨some 15, .bin .lss, [.t 14, .t 13], none⟩] [])
 (.seq
 (.cond (.t 15) [15]
 .skip
 (.exit 0))
 (.seq
 (.block 1
 (.seq
 (.region false [⟨some 16, .mv, [.t 14], none⟩,
 ⟨some 17, .idxa 1, [.t 12, .t 14], none⟩,
 ⟨some 18, .load 1 false, [.t 17], none⟩,
 ⟨some 8, .mv, [.t 16], none⟩,
 ⟨some 9, .mv, [.t 18], none⟩] [16, 17, 18])
 (.seq
 (.seq
 (.region false [⟨some 19, .mv, [.t 9], none⟩,
 ⟨some 20, .len, [.t 19], none⟩,
 ⟨some 21, .bin .eql, [.t 20, .c (.i 0)], none⟩] [19, 20])
 (.cond (.t 21) [21]
 (.exit 1)
 .skip))
 (.seq
 (.region false [⟨some 22, .mv, [.t 1], none⟩,
 ⟨some 23, .mv, [.t 8], none⟩,
 ⟨some 24, .build [.i 0, .i 0] [(0, 1), (1, 1)], [.t 23, .c (.i 1)], none⟩,
 ⟨some 25, .call n_impl_behindPart 12800, [.t 22, .t 24], none⟩,
 ⟨some 10, .mv, [.t 25], none⟩] [8, 22, 23, 24, 25])
 (.seq
 (.region true [⟨some 26, .mv, [.t 0], none⟩,
 ⟨some 27, .mv, [.t 9], none⟩,
 ⟨some 28, .idxa 1, [.t 27, .c (.i 0)], none⟩,
 ⟨some 29, .load 1 false, [.t 28], none⟩,
 ⟨some 30, .idxa 2, [.t 26, .t 29], none⟩,
 ⟨some 31, .load 2 true, [.t 30], none⟩,
 ⟨some 32, .mv, [.t 2], none⟩,
 ⟨some 33, .mv, [.t 0], none⟩,
 ⟨some 34, .mv, [.t 10], none⟩,
 ⟨some 35, .mv, [.t 2], none⟩,
 ⟨some 36, .bin .sub, [.t 35, .c (.i 1)], none⟩,
 ⟨some 37, .call n_impl_leastAlong 18944, [.t 33, .t 34, .t 36], none⟩,
 ⟨some 38, .call n_impl_averageAsking 19456, [.t 31, .t 32, .c (.i 0), .t 37], none⟩,
 ⟨some 11, .mv, [.t 38], none⟩] [9, 10, 26, 27, 28, 29, 30, 31, 32, 33, 34, 35, 36, 37, 38])
 (.seq
 (.region false [⟨some 39, .mv, [.t 7], none⟩,
 ⟨some 40, .bin .eql, [.t 39, .c (.i 0)], none⟩,
 ⟨some 41, .mv, [.t 40], none⟩,
 ⟨some 42, .mv, [.t 11], some (41, false)⟩,
 ⟨some 43, .mv, [.t 7], some (41, false)⟩,
 ⟨some 44, .bin .lss, [.t 42, .t 43], some (41, false)⟩,
 ⟨some 45, .pick, [.t 41, .c (.b true), .t 44], none⟩] [39, 40, 41, 42, 43, 44])
 (.cond (.t 45) [45]
 (.region false [⟨some 46, .mv, [.t 11], none⟩,
 ⟨some 7, .mv, [.t 46], none⟩] [11, 46])
 .skip)))))))
 (.region false [⟨some 47, .bin .add, [.t 14, .c (.i 1)], none⟩,
 ⟨some 14, .mv, [.t 47], none⟩] [8, 9, 11, 47]))))
def F_impl_leastAlong_W0 : LC := .loop F_impl_leastAlong_L0
def F_impl_leastAlong : LF :=
 { nparams := 3, results := [.t 6], body :=
 (.seq
 (.region false [⟨some 6, .mv, [.c (.i 0)], none⟩] [6])
 (.seq
 (.region false [⟨some 7, .mv, [.c (.i 0)], none⟩] [])
 (.seq
 (.seq
 (.region false [⟨some 12, .mv, [.t 1], none⟩,
 ⟨some 13, .len, [.t 12], none⟩,
 ⟨some 14, .mv, [.c (.i 0)], none⟩] [])
 (.block 0
 F_impl_leastAlong_W0))
 (.seq
 (.region false [⟨some 48, .mv, [.t 7], none⟩,
 ⟨some 6, .mv, [.t 48], none⟩] [0, 1, 2, 7, 12, 13, 14, 48])
 .ret)))) }
/-- spec.l20Open -/
def F_spec_l20Open : LF :=
 { nparams := 1, results := [.t 2], body :=
 (.seq
 (.region false [⟨some 2, .mv, [.c (.np)], none⟩] [2])
 (.seq
 (.seq
 (.region false [⟨some 3, .mv, [.t 0], none⟩,
 ⟨some 4, .len, [.t 3], none⟩,
 ⟨some 5, .bin .gtr, [.t 4, .c (.i 2000)], none⟩] [3, 4])
 (.cond (.t 5) [5]
 (.region false [⟨some 6, .mv, [.t 0], none⟩,
 ⟨some 7, .slice false true 1, [.t 6, .c (.i 2000)], none⟩,
 ⟨some 0, .mv, [.t 7], none⟩] [6, 7])
 .skip))
 (.seq
 (.region false [⟨some 8, .mv, [.t 0], none⟩,
 ⟨some 9, .build [.sl 1 [], .i 0] [(0, 1)], [.t 8], none⟩,
 ⟨some 10, .box 5136, [.t 9], none⟩,
 ⟨some 2, .mv, [.t 10], none⟩] [0, 8, 9, 10])
 .ret))) }
/-- spec.l20Grouped -/
def F_spec_l20Grouped : LF :=
 { nparams := 1, results := [.t 2, .t 3], body :=
 (.seq
 (.region false [⟨some 2, .newnil 1040, [], none⟩,
 ⟨some 3, .newnil 1544, [], none⟩] [2, 3])
 (.seq
 (.region false [⟨some 5, .mv, [.t 0], none⟩,
 ⟨some 6, .call n_spec_l20Tests 3072, [.t 5, .c (.i 14)], none⟩,
 ⟨some 4, .mv, [.t 6], none⟩] [5, 6])
 (.seq
 (.region false [⟨some 7, .mv, [.t 4], none⟩,
 ⟨some 8, .mv, [.t 0], none⟩,
 ⟨some 9, .mv, [.t 4], none⟩,
 ⟨some 10, .len, [.t 9], none⟩,
 ⟨some 11, .call n_spec_l20Groups 5632, [.t 8, .t 10, .c (.i 14)], none⟩,
 ⟨some 2, .mv, [.t 7], none⟩,
 ⟨some 3, .mv, [.t 11], none⟩] [4, 7, 8, 9, 10, 11])
 .ret))) }
/-- spec.l20Rd).pick -/
def F_spec_l20Rd_pick : LF :=
 { nparams := 2, results := [.t 4], body :=
 (.seq
 (.region false [⟨some 4, .mv, [.c (.i 0)], none⟩] [4])
 (.seq
 (.region false [⟨some 7, .mv, [.t 0], none⟩,
 ⟨some 8, .mv, [.t 0], none⟩,
 ⟨some 9, .chk, [.t 8], none⟩,
 ⟨some 10, .fld 1 1 false, [.t 9], none⟩,
 ⟨some 11, .load 1 false, [.t 10], none⟩,
 ⟨some 12, .bin .add, [.t 11, .c (.i 1)], none⟩,
 ⟨some 13, .chk, [.t 7], none⟩,
 ⟨some 14, .fld 1 1 false, [.t 13], none⟩,
 ⟨none, .store 1, [.t 14, .t 12], none⟩] [7, 8, 9, 10, 11, 12, 13, 14])
 (.seq
 (.seq
 (.region false [⟨some 15, .mv, [.t 1], none⟩,
 ⟨some 16, .bin .lss, [.t 15, .c (.i 1)], none⟩,
 ⟨some 17, .mv, [.t 16], none⟩,
 ⟨some 18, .mv, [.t 0], some (17, false)⟩,
 ⟨some 19, .chk, [.t 18], some (17, false)⟩,
 ⟨some 20, .fld 0 1 false, [.t 19], some (17, false)⟩,
 ⟨some 21, .load 1 false, [.t 20], some (17, false)⟩,
 ⟨some 22, .len, [.t 21], some (17, false)⟩,
 ⟨some 23, .bin .eql, [.t 22, .c (.i 0)], some (17, false)⟩,
 ⟨some 24, .pick, [.t 17, .c (.b true), .t 23], none⟩] [15, 16, 17, 18, 19, 20, 21, 22, 23])
 (.cond (.t 24) [24]
 (.seq
 (.region false [⟨some 4, .mv, [.c (.i 0)], none⟩] [1])
 .ret)
 .skip))
 (.seq
 (.region false [⟨some 25, .mv, [.t 0], none⟩,
 ⟨some 26, .chk, [.t 25], none⟩,
 ⟨some 27, .fld 1 1 false, [.t 26], none⟩,
 ⟨some 28, .load 1 false, [.t 27], none⟩,
 ⟨some 29, .bin .sub, [.t 28, .c (.i 1)], none⟩,
 ⟨some 5, .mv, [.t 29], none⟩] [25, 26, 27, 28, 29])
 (.seq
 (.seq
 (.region false [⟨some 30, .mv, [.t 5], none⟩,
 ⟨some 31, .mv, [.t 0], none⟩,
 ⟨some 32, .chk, [.t 31], none⟩,
 ⟨some 33, .fld 0 1 false, [.t 32], none⟩,
 ⟨some 34, .load 1 false, [.t 33], none⟩,
 ⟨some 35, .len, [.t 34], none⟩,
 ⟨some 36, .bin .lss, [.t 30, .t 35], none⟩] [30, 31, 32, 33, 34, 35])
 (.cond (.t 36) [36]
 (.seq
 (.region false [⟨some 37, .mv, [.t 0], none⟩,
 ⟨some 38, .chk, [.t 37], none⟩,
 ⟨some 39, .fld 0 1 false, [.t 38], none⟩,
 ⟨some 40, .load 1 false, [.t 39], none⟩,
 ⟨some 41, .mv, [.t 5], none⟩,
 ⟨some 42, .idxa 1, [.t 40, .t 41], none⟩,
 ⟨some 43, .load 1 false, [.t 42], none⟩,
 ⟨some 44, .conv .b2i 22528, [.t 43], none⟩,
 ⟨some 45, .mv, [.t 1], none⟩,
 ⟨some 46, .bin .rem, [.t 44, .t 45], none⟩,
 ⟨some 4, .mv, [.t 46], none⟩] [1, 5, 37, 38, 39, 40, 41, 42, 43, 44, 45, 46])
 .ret)
 .skip))
 (.seq
 (.region true [⟨some 47, .mv, [.t 0], none⟩,
 ⟨some 48, .chk, [.t 47], none⟩,
 ⟨some 49, .fld 0 1 false, [.t 48], none⟩,
 ⟨some 50, .load 1 false, [.t 49], none⟩,
 ⟨some 51, .mv, [.t 5], none⟩,
 ⟨some 52, .mv, [.t 0], none⟩,
 ⟨some 53, .chk, [.t 52], none⟩,
 ⟨some 54, .fld 0 1 false, [.t 53], none⟩,
 ⟨some 55, .load 1 false, [.t 54], none⟩,
 ⟨some 56, .len, [.t 55], none⟩,
 ⟨some 57, .bin .rem, [.t 51, .t 56], none⟩,
 ⟨some 58, .idxa 1, [.t 50, .t 57], none⟩,
 ⟨some 59, .load 1 false, [.t 58], none⟩,
 ⟨some 60, .conv .b2i 30720, [.t 59], none⟩,
 ⟨some 61, .bin .mul, [.t 60, .c (.i 131)], none⟩,
 ⟨some 62, .mv, [.t 0], none⟩,
 ⟨some 63, .chk, [.t 62], none⟩,
 ⟨some 64, .fld 0 1 false, [.t 63], none⟩,
 ⟨some 65, .load 1 false, [.t 64], none⟩,
 ⟨some 66, .mv, [.t 5], none⟩,
 ⟨some 67, .bin .mul, [.t 66, .c (.i 7)], none⟩,
 ⟨some 68, .bin .add, [.t 67, .c (.i 3)], none⟩,
 ⟨some 69, .mv, [.t 0], none⟩,
 ⟨some 70, .chk, [.t 69], none⟩,
 ⟨some 71, .fld 0 1 false, [.t 70], none⟩,
 ⟨some 72, .load 1 false, [.t 71], none⟩,
 ⟨some 73, .len, [.t 72], none⟩,
 ⟨some 74, .bin .rem, [.t 68, .t 73], none⟩,
 ⟨some 75, .idxa 1, [.t 65, .t 74], none⟩,
 ⟨some 76, .load 1 false, [.t 75], none⟩,
 ⟨some 77, .conv .b2i 39424, [.t 76], none⟩,
 ⟨some 78, .bin .mul, [.t 77, .c (.i 1117)], none⟩,
 ⟨some 79, .bin .add, [.t 61, .t 78], none⟩,
 ⟨some 80, .mv, [.t 5], none⟩,
 ⟨some 81, .bin .mul, [.t 80, .c (.i 29)], none⟩,
 ⟨some 82, .bin .add, [.t 79, .t 81], none⟩,
 ⟨some 83, .mv, [.t 5], none⟩,
 ⟨some 84, .mv, [.t 0], none⟩,
 ⟨some 85, .chk, [.t 84], none⟩,
 ⟨some 86, .fld 0 1 false, [.t 85], none⟩,
 ⟨some 87, .load 1 false, [.t 86], none⟩,
 ⟨some 88, .len, [.t 87], none⟩,
 ⟨some 89, .bin .quo, [.t 83, .t 88], none⟩,
 ⟨some 90, .bin .mul, [.t 89, .c (.i 53)], none⟩,
 ⟨some 91, .bin .add, [.t 82, .t 90], none⟩,
 ⟨some 6, .mv, [.t 91], none⟩] [5, 47, 48, 49, 50, 51, 52, 53, 54, 55, 56, 57, 58, 59, 60, 61, 62, 63, 64, 65, 66, 67, 68, 69, 70, 71, 72, 73, 74, 75, 76, 77, 78, 79, 80, 81, 82, 83, 84, 85, 86, 87, 88, 89, 90, 91])
 (.seq
 (.region false [⟨some 92, .mv, [.t 6], none⟩,
 ⟨some 93, .mv, [.t 6], none⟩,
 ⟨some 94, .bin .quo, [.t 93, .c (.i 64)], none⟩,
 ⟨some 95, .bin .xor, [.t 92, .t 94], none⟩,
 ⟨some 6, .mv, [.t 95], none⟩] [92, 93, 94, 95])
 (.seq
 (.region false [⟨some 96, .mv, [.t 6], none⟩,
 ⟨some 97, .mv, [.t 1], none⟩,
 ⟨some 98, .bin .rem, [.t 96, .t 97], none⟩,
 ⟨some 4, .mv, [.t 98], none⟩] [1, 6, 96, 97, 98])
 .ret)))))))) }
/-- spec.l20Order -/
def F_spec_l20Order_L0 : LC :=
 (.ghost (.rename 7 5640)
 (.seq
 (.seq
 (.region false [⟨some 12, .mv, [.t 8], none⟩,
 ⟨some 13, .mv, [.t 1], none⟩,
 ⟨some 14, .bin .lss, [.t 12, .t 13], none⟩] [12, 13])
 (.cond (.t 14) [14]
 .skip
 (.exit 0)))
 (.seq
 (.block 1
 (.seq
 (.region false [⟨some 17, .mv, [.t 0], none⟩,
 ⟨some 18, .mv, [.t 7], none⟩,
 ⟨some 19, .len, [.t 18], none⟩,
 ⟨some 20, .bin .add, [.t 19, .c (.i 1)], none⟩,
 ⟨some 21, .call n_spec_l20Rd_pick 10752, [.t 17, .t 20], none⟩,
 ⟨some 9, .mv, [.t 21], none⟩] [17, 18, 19, 20, 21])
 (.seq
 (.region false [⟨some 22, .bslice 11272 0 1 (.i 0) [], [], none⟩,
 ⟨some 23, .mv, [.t 7], none⟩,
 ⟨some 24, .mv, [.t 9], none⟩,
 ⟨some 25, .slice false true 1, [.t 23, .t 24], none⟩,
 ⟨some 26, .app 13320 1, [.t 22, .t 25], none⟩,
 ⟨some 10, .mv, [.t 26], none⟩] [22, 23, 24, 25, 26])
 (.seq
 (.region false [⟨some 27, .mv, [.t 10], none⟩,
 ⟨some 28, .mv, [.t 8], none⟩,
 ⟨some 29, .bslice 14856 1 1 (.i 0) [0], [.t 28], none⟩,
 ⟨some 30, .app 15368 1, [.t 27, .t 29], none⟩,
 ⟨some 10, .mv, [.t 30], none⟩] [27, 28, 29, 30])
 (.region false [⟨some 31, .mv, [.t 10], none⟩,
 ⟨some 32, .mv, [.t 7], none⟩,
 ⟨some 33, .mv, [.t 9], none⟩,
 ⟨some 34, .slice true false 1, [.t 32, .t 33], none⟩,
 ⟨some 35, .app 17928 1, [.t 31, .t 34], none⟩,
 ⟨some 7, .mv, [.t 35], none⟩] [9, 10, 31, 32, 33, 34, 35])))))
 (.region false [⟨some 15, .mv, [.t 8], none⟩,
 ⟨some 16, .bin .add, [.t 15, .c (.i 1)], none⟩,
 ⟨some 8, .mv, [.t 16], none⟩] [15, 16]))))
def F_spec_l20Order_W0 : LC := .loop F_spec_l20Order_L0
def F_spec_l20Order : LF :=
 { nparams := 3, results := [.t 6], body :=
 (.seq
 (.region false [⟨some 6, .newnil 3080, [], none⟩] [6])
 (.seq
 (.region false [⟨some 11, .bslice 5640 0 1 (.i 0) [], [], none⟩,
 ⟨some 7, .mv, [.t 11], none⟩] [11])
 (.seq
 (.seq
 (.region false [⟨some 8, .mv, [.c (.i 0)], none⟩] [])
 (.block 0
 F_spec_l20Order_W0))
 (.seq
 (.seq
 (.region false [⟨some 36, .mv, [.t 0], none⟩,
 ⟨some 37, .mv, [.t 2], none⟩,
 ⟨some 38, .call n_spec_l20Rd_odd 19456, [.t 36, .t 37], none⟩] [1, 2, 8, 36, 37])
 (.cond (.t 38) [38]
 (.seq
 (.region false [⟨some 39, .mv, [.t 0], none⟩,
 ⟨some 40, .call n_spec_l20Rd_pick 20480, [.t 39, .c (.i 2)], none⟩] [39])
 (.block 2
 (.seq
 (.region false [⟨some 52, .bin .eql, [.t 40, .c (.i 0)], none⟩,
 ⟨some 51, .mv, [.t 52], none⟩] [40, 52])
 (.cond (.t 51) [51]
 (.seq
 (.region false [⟨some 53, .mv, [.t 7], none⟩,
 ⟨some 54, .bslice 27656 1 1 (.i 0) [0], [.c (.i 0)], none⟩,
 ⟨some 55, .app 28168 1, [.t 53, .t 54], none⟩,
 ⟨some 6, .mv, [.t 55], none⟩] [7, 53, 54, 55])
 .ret)
 (.seq
 (.region false [⟨some 41, .mv, [.t 7], none⟩,
 ⟨some 42, .len, [.t 41], none⟩,
 ⟨some 43, .bin .gtr, [.t 42, .c (.i 0)], none⟩] [41, 42])
 (.cond (.t 43) [43]
 (.region false [⟨some 44, .mv, [.t 7], none⟩,
 ⟨some 45, .bslice 23048 2 1 (.i 0) [0, 1], [.c (.i 5), .c (.i (-1))], none⟩,
 ⟨some 46, .mv, [.t 0], none⟩,
 ⟨some 47, .call n_spec_l20Rd_pick 24064, [.t 46, .c (.i 2)], none⟩,
 ⟨some 48, .idxa 1, [.t 45, .t 47], none⟩,
 ⟨some 49, .load 1 false, [.t 48], none⟩,
 ⟨some 50, .idxa 1, [.t 44, .c (.i 0)], none⟩,
 ⟨none, .store 1, [.t 50, .t 49], none⟩] [44, 45, 46, 47, 48, 49, 50])
 .skip))))))
 .skip))
 (.seq
 (.region false [⟨some 56, .mv, [.t 7], none⟩,
 ⟨some 6, .mv, [.t 56], none⟩] [7, 56])
 .ret))))) }
/-- impl.rowOk -/
def F_impl_rowOk : LF :=
 { nparams := 1, results := [.t 2], body :=
 (.seq
 (.region false [⟨some 2, .mv, [.c (.b false)], none⟩] [2])
 (.seq
 (.region false [⟨some 3, .mv, [.t 0], none⟩,
 ⟨some 4, .bin .eql, [.t 3, .c (.i 0)], none⟩,
 ⟨some 5, .mv, [.t 4], none⟩,
 ⟨some 6, .mv, [.t 0], some (5, false)⟩,
 ⟨some 7, .bin .eql, [.t 6, .c (.i 1)], some (5, false)⟩,
 ⟨some 8, .pick, [.t 5, .c (.b true), .t 7], none⟩,
 ⟨some 2, .mv, [.t 8], none⟩] [0, 3, 4, 5, 6, 7, 8])
 .ret)) }
/-- impl.wholeOf -/
def F_impl_wholeOf_L0 : LC :=
 (.seq
 (.region false [⟨some 6, .bin .lss, [.t 5, .t 4], none⟩] [])
 (.seq
 (.cond (.t 6) [6]
 .skip
 (.exit 0))
 (.seq
 (.block 1
 (.region false [⟨some 7, .mv, [.t 3], none⟩,
 ⟨some 8, .bin .mul, [.t 7, .c (.i 6)], none⟩,
 ⟨some 3, .mv, [.t 8], none⟩] [7, 8]))
 (.region false [⟨some 9, .bin .add, [.t 5, .c (.i 1)], none⟩,
 ⟨some 5, .mv, [.t 9], none⟩] [9]))))
def F_impl_wholeOf_W0 : LC := .loop F_impl_wholeOf_L0
def F_impl_wholeOf : LF :=
 { nparams := 1, results := [.t 2], body :=
 (.seq
 (.region false [⟨some 2, .mv, [.c (.i 0)], none⟩] [2])
 (.seq
 (.region false [⟨some 3, .mv, [.c (.i 1)], none⟩] [])
 (.seq
 (.seq
 (.region false [⟨some 4, .mv, [.t 0], none⟩,
 ⟨some 5, .mv, [.c (.i 0)], none⟩] [0])
 (.block 0
 F_impl_wholeOf_W0))
 (.seq
 (.region false [⟨some 10, .mv, [.t 3], none⟩,
 ⟨some 2, .mv, [.t 10], none⟩] [3, 4, 5, 10])
 .ret)))) }
/-- impl.endChance -/
def F_impl_endChance : LF :=
 { nparams := 2, results := [.t 4], body :=
 (.seq
 (.region false [⟨some 2, .box 1040, [.t 0], none⟩,
 ⟨some 4, .mv, [.c (.i 0)], none⟩] [0, 4])
 (.seq
 (.seq
 (.region false [⟨some 5, .mv, [.t 1], none⟩,
 ⟨some 6, .bin .eql, [.t 5, .c (.i 0)], none⟩] [1, 5])
 (.cond (.t 6) [6]
 (.seq
 (.region false [⟨some 7, .fld 1 1 false, [.t 2], none⟩,
 ⟨some 8, .load 1 false, [.t 7], none⟩,
 ⟨some 9, .bin .sub, [.c (.i 6), .t 8], none⟩,
 ⟨some 4, .mv, [.t 9], none⟩] [2, 7, 8, 9])
 .ret)
 .skip))
 (.seq
 (.region false [⟨some 10, .fld 1 1 false, [.t 2], none⟩,
 ⟨some 11, .load 1 false, [.t 10], none⟩,
 ⟨some 4, .mv, [.t 11], none⟩] [2, 10, 11])
 .ret))) }
/-- impl.RatioOrder$1 -/
def F_impl_RatioOrder_1 : LF :=
 { nparams := 4, results := [.t 6], body :=
 (.seq
 (.region false [⟨some 6, .mv, [.c (.b false)], none⟩] [6])
 (.seq
 (.region true [⟨some 7, .load 1 false, [.t 2], none⟩,
 ⟨some 8, .mv, [.t 0], none⟩,
 ⟨some 9, .idxa 2, [.t 7, .t 8], none⟩,
 ⟨some 10, .load 2 true, [.t 9], none⟩,
 ⟨some 11, .load 1 false, [.t 3], none⟩,
 ⟨some 12, .call n_impl_ratioOf 6144, [.t 10, .t 11], none⟩,
 ⟨some 13, .load 1 false, [.t 2], none⟩,
 ⟨some 14, .mv, [.t 1], none⟩,
 ⟨some 15, .idxa 2, [.t 13, .t 14], none⟩,
 ⟨some 16, .load 2 true, [.t 15], none⟩,
 ⟨some 17, .load 1 false, [.t 3], none⟩,
 ⟨some 18, .call n_impl_ratioOf 9216, [.t 16, .t 17], none⟩,
 ⟨some 19, .call n_impl_ratio_isLess 9728, [.t 12, .t 18], none⟩,
 ⟨some 6, .mv, [.t 19], none⟩] [0, 1, 2, 3, 7, 8, 9, 10, 11, 12, 13, 14, 15, 16, 17, 18, 19])
 .ret)) }
/-- impl.ratioOf -/
def F_impl_ratioOf : LF :=
 { nparams := 2, results := [.c 4 2 true], body :=
 (.seq
 (.region false [⟨some 2, .box 1040, [.t 0], none⟩,
 ⟨some 4, .alloc 2064 (.st [.i 0, .i 0]), [], none⟩] [0])
 (.seq
 (.region true [⟨some 5, .fld 0 1 false, [.t 2], none⟩,
 ⟨some 6, .load 1 false, [.t 5], none⟩,
 ⟨some 7, .load 2 true, [.t 2], none⟩,
 ⟨some 8, .mv, [.t 1], none⟩,
 ⟨some 9, .call n_impl_endChance 4608, [.t 7, .t 8], none⟩,
 ⟨some 10, .build [.i 0, .i 0] [(0, 1), (1, 1)], [.t 6, .t 9], none⟩,
 ⟨none, .store 2, [.t 4, .t 10], none⟩] [1, 2, 5, 6, 7, 8, 9, 10])
 .ret)) }
/-- impl.ratio).isLess -/
def F_impl_ratio_isLess : LF :=
 { nparams := 2, results := [.t 4], body :=
 (.seq
 (.region false [⟨some 2, .box 1040, [.t 0], none⟩,
 ⟨some 3, .box 1552, [.t 1], none⟩,
 ⟨some 4, .mv, [.c (.b false)], none⟩] [0, 1, 4])
 (.seq
 (.region false [⟨some 5, .fld 0 1 false, [.t 2], none⟩,
 ⟨some 6, .load 1 false, [.t 5], none⟩,
 ⟨some 7, .fld 1 1 false, [.t 3], none⟩,
 ⟨some 8, .load 1 false, [.t 7], none⟩,
 ⟨some 9, .bin .mul, [.t 6, .t 8], none⟩,
 ⟨some 10, .fld 0 1 false, [.t 3], none⟩,
 ⟨some 11, .load 1 false, [.t 10], none⟩,
 ⟨some 12, .fld 1 1 false, [.t 2], none⟩,
 ⟨some 13, .load 1 false, [.t 12], none⟩,
 ⟨some 14, .bin .mul, [.t 11, .t 13], none⟩,
 ⟨some 15, .bin .lss, [.t 9, .t 14], none⟩,
 ⟨some 4, .mv, [.t 15], none⟩] [2, 3, 5, 6, 7, 8, 9, 10, 11, 12, 13, 14, 15])
 .ret)) }
/-- impl.inserted[int] -/
def F_impl_inserted_int_L0 : LC :=
 (.seq
 (.seq
 (.region false [⟨some 10, .mv, [.t 7], none⟩,
 ⟨some 11, .bin .gtr, [.t 10, .c (.i 0)], none⟩,
 ⟨some 12, .mv, [.t 11], none⟩,
 ⟨some 13, .mv, [.t 2], some (12, true)⟩,
 ⟨some 14, .mv, [.t 1], some (12, true)⟩,
 ⟨some 15, .mv, [.t 0], some (12, true)⟩,
 ⟨some 16, .mv, [.t 7], some (12, true)⟩,
 ⟨some 17, .bin .sub, [.t 16, .c (.i 1)], some (12, true)⟩,
 ⟨some 18, .idxa 1, [.t 15, .t 17], some (12, true)⟩,
 ⟨some 19, .load 1 false, [.t 18], some (12, true)⟩,
 ⟨some 20, .calld 10240, [.t 13, .t 14, .t 19], some (12, true)⟩,
 ⟨some 21, .pick, [.t 12, .t 20, .c (.b false)], none⟩] [10, 11, 12, 13, 14, 15, 16, 17, 18, 19, 20])
 (.cond (.t 21) [21]
 .skip
 (.exit 0)))
 (.block 1
 (.region false [⟨some 22, .mv, [.t 7], none⟩,
 ⟨some 23, .bin .sub, [.t 22, .c (.i 1)], none⟩,
 ⟨some 7, .mv, [.t 23], none⟩] [22, 23])))
def F_impl_inserted_int_W0 : LC := .loop F_impl_inserted_int_L0
def F_impl_inserted_int : LF :=
 { nparams := 3, results := [.t 6], body :=
 (.seq
 (.region false [⟨some 6, .newnil 3080, [], none⟩] [6])
 (.seq
 (.region false [⟨some 8, .mv, [.t 0], none⟩,
 ⟨some 9, .len, [.t 8], none⟩,
 ⟨some 7, .mv, [.t 9], none⟩] [8, 9])
 (.seq
 (.block 0
 F_impl_inserted_int_W0)
 (.seq
 (.region false [⟨some 24, .mv, [.t 0], none⟩,
 ⟨some 25, .mv, [.t 7], none⟩,
 ⟨some 26, .mv, [.t 1], none⟩,
 ⟨some 27, .bslice 13832 1 1 (.i 0) [0], [.t 26], none⟩,
 ⟨some 28, .callm n_slices_Insert_int_int [0, 2] 14342, [.t 24, .t 25, .t 27], none⟩,
 ⟨some 6, .mv, [.t 28], none⟩] [0, 1, 2, 7, 24, 25, 26, 27, 28])
 .ret)))) }
/-- spec.l1Power -/
def F_spec_l1Power_L0 : LC :=
 (.seq
 (.seq
 (.region false [⟨some 5, .mv, [.t 4], none⟩,
 ⟨some 6, .mv, [.t 0], none⟩,
 ⟨some 7, .bin .lss, [.t 5, .t 6], none⟩] [5, 6])
 (.cond (.t 7) [7]
 .skip
 (.exit 0)))
 (.seq
 (.block 1
 (.region false [⟨some 10, .mv, [.t 3], none⟩,
 ⟨some 11, .bin .mul, [.t 10, .c (.i 6)], none⟩,
 ⟨some 3, .mv, [.t 11], none⟩] [10, 11]))
 (.region false [⟨some 8, .mv, [.t 4], none⟩,
 ⟨some 9, .bin .add, [.t 8, .c (.i 1)], none⟩,
 ⟨some 4, .mv, [.t 9], none⟩] [8, 9])))
def F_spec_l1Power_W0 : LC := .loop F_spec_l1Power_L0
def F_spec_l1Power : LF :=
 { nparams := 1, results := [.t 2], body :=
 (.seq
 (.region false [⟨some 2, .mv, [.c (.i 0)], none⟩] [2])
 (.seq
 (.region false [⟨some 3, .mv, [.c (.i 1)], none⟩] [])
 (.seq
 (.seq
 (.region false [⟨some 4, .mv, [.c (.i 0)], none⟩] [])
 (.block 0
 F_spec_l1Power_W0))
 (.seq
 (.region false [⟨some 12, .mv, [.t 3], none⟩,
 ⟨some 2, .mv, [.t 12], none⟩] [0, 3, 4, 12])
 .ret)))) }
/-- impl.manyOk -/
def F_impl_manyOk : LF :=
 { nparams := 1, results := [.t 2], body :=
 (.seq
 (.region false [⟨some 2, .mv, [.c (.b false)], none⟩] [2])
 (.seq
 (.region false [⟨some 3, .mv, [.t 0], none⟩,
 ⟨some 4, .call n_impl_isWithin 2048, [.t 3, .c (.i 1), .c (.i 5)], none⟩,
 ⟨some 2, .mv, [.t 4], none⟩] [0, 3, 4])
 .ret)) }
/-- impl.hasTest -/
def F_impl_hasTest : LF :=
 { nparams := 2, results := [.t 4], body :=
 (.seq
 (.region false [⟨some 4, .mv, [.c (.b false)], none⟩] [4])
 (.seq
 (.region false [⟨some 5, .mv, [.t 0], none⟩,
 ⟨some 6, .mv, [.t 1], none⟩,
 ⟨some 7, .bin .shr, [.t 5, .t 6], none⟩,
 ⟨some 8, .bin .and, [.t 7, .c (.i 1)], none⟩,
 ⟨some 9, .bin .eql, [.t 8, .c (.i 1)], none⟩,
 ⟨some 4, .mv, [.t 9], none⟩] [0, 1, 5, 6, 7, 8, 9])
 .ret)) }
/-- slices.Clone[[][]int,[]int] -/
def F_slices_Clone_int_int : LF :=
 { nparams := 1, results := [.t 2], body :=
 (.seq
 (.region false [⟨some 2, .newnil 1032, [], none⟩] [2])
 (.seq
 (.seq
 (.region false [⟨some 3, .mv, [.t 0], none⟩,
 ⟨some 4, .eqn false, [.t 3], none⟩] [3])
 (.cond (.t 4) [4]
 (.seq
 (.region false [⟨some 2, .newnil 1032, [], none⟩] [0])
 .ret)
 .skip))
 (.seq
 (.region false [⟨some 5, .bslice 2568 0 1 (.sl 1 []) [], [], none⟩,
 ⟨some 6, .mv, [.t 0], none⟩,
 ⟨some 7, .app 3592 1, [.t 5, .t 6], none⟩,
 ⟨some 2, .mv, [.t 7], none⟩] [0, 5, 6, 7])
 .ret))) }
/-- impl.averageAsking -/
def F_impl_averageAsking : LF :=
 { nparams := 4, results := [.t 8], body :=
 (.seq
 (.region false [⟨some 4, .box 2064, [.t 0], none⟩,
 ⟨some 8, .mv, [.c (.i 0)], none⟩] [0, 8])
 (.seq
 (.region true [⟨some 9, .fld 0 1 false, [.t 4], none⟩,
 ⟨some 10, .load 1 false, [.t 9], none⟩,
 ⟨some 11, .mv, [.t 1], none⟩,
 ⟨some 12, .call n_impl_wholeOf 6144, [.t 11], none⟩,
 ⟨some 13, .bin .mul, [.t 10, .t 12], none⟩,
 ⟨some 14, .fld 1 1 false, [.t 4], none⟩,
 ⟨some 15, .load 1 false, [.t 14], none⟩,
 ⟨some 16, .bin .sub, [.c (.i 6), .t 15], none⟩,
 ⟨some 17, .mv, [.t 2], none⟩,
 ⟨some 18, .bin .mul, [.t 16, .t 17], none⟩,
 ⟨some 19, .bin .add, [.t 13, .t 18], none⟩,
 ⟨some 20, .fld 1 1 false, [.t 4], none⟩,
 ⟨some 21, .load 1 false, [.t 20], none⟩,
 ⟨some 22, .mv, [.t 3], none⟩,
 ⟨some 23, .bin .mul, [.t 21, .t 22], none⟩,
 ⟨some 24, .bin .add, [.t 19, .t 23], none⟩,
 ⟨some 8, .mv, [.t 24], none⟩] [1, 2, 3, 4, 9, 10, 11, 12, 13, 14, 15, 16, 17, 18, 19, 20, 21, 22, 23, 24])
 .ret)) }
/-- spec.l20Tests -/
def F_spec_l20Tests_L0 : LC :=
 (.seq
 (.seq
 (.region false [⟨some 11, .mv, [.t 6], none⟩,
 ⟨some 12, .bin .gtr, [.t 11, .c (.i 0)], none⟩] [11])
 (.cond (.t 12) [12]
 .skip
 (.exit 0)))
 (.seq
 (.block 1
 (.region false [⟨some 15, .mv, [.t 5], none⟩,
 ⟨some 16, .mv, [.t 0], none⟩,
 ⟨some 17, .call n_spec_l20Rd_pick 8704, [.t 16, .c (.i 9)], none⟩,
 ⟨some 18, .bin .add, [.c (.i 1), .t 17], none⟩,
 ⟨some 19, .mv, [.t 0], none⟩,
 ⟨some 20, .call n_spec_l20Rd_pick 10240, [.t 19, .c (.i 5)], none⟩,
 ⟨some 21, .bin .add, [.c (.i 1), .t 20], none⟩,
 ⟨some 22, .build [.i 0, .i 0] [(0, 1), (1, 1)], [.t 18, .t 21], none⟩,
 ⟨some 23, .bslice 11792 1 2 (.st [.i 0, .i 0]) [0], [.t 22], none⟩,
 ⟨some 24, .app 12304 2, [.t 15, .t 23], none⟩,
 ⟨some 5, .mv, [.t 24], none⟩] [15, 16, 17, 18, 19, 20, 21, 22, 23, 24]))
 (.region false [⟨some 13, .mv, [.t 6], none⟩,
 ⟨some 14, .bin .sub, [.t 13, .c (.i 1)], none⟩,
 ⟨some 6, .mv, [.t 14], none⟩] [13, 14])))
def F_spec_l20Tests_W0 : LC := .loop F_spec_l20Tests_L0
def F_spec_l20Tests : LF :=
 { nparams := 2, results := [.t 4], body :=
 (.seq
 (.region false [⟨some 4, .newnil 2064, [], none⟩] [4])
 (.seq
 (.region false [⟨some 7, .bslice 3600 0 2 (.st [.i 0, .i 0]) [], [], none⟩,
 ⟨some 5, .mv, [.t 7], none⟩] [7])
 (.seq
 (.seq
 (.region false [⟨some 8, .mv, [.t 0], none⟩,
 ⟨some 9, .call n_spec_l20Rd_pick 4608, [.t 8, .c (.i 5)], none⟩,
 ⟨some 10, .bin .add, [.c (.i 1), .t 9], none⟩,
 ⟨some 6, .mv, [.t 10], none⟩] [8, 9, 10])
 (.block 0
 F_spec_l20Tests_W0))
 (.seq
 (.seq
 (.region false [⟨some 25, .mv, [.t 0], none⟩,
 ⟨some 26, .mv, [.t 1], none⟩,
 ⟨some 27, .call n_spec_l20Rd_odd 13824, [.t 25, .t 26], none⟩] [1, 6, 25, 26])
 (.cond (.t 27) [27]
 (.seq
 (.region false [⟨some 28, .mv, [.t 0], none⟩,
 ⟨some 29, .call n_spec_l20Rd_pick 14848, [.t 28, .c (.i 3)], none⟩] [28])
 (.block 2
 (.seq
 (.region false [⟨some 39, .bin .eql, [.t 29, .c (.i 0)], none⟩,
 ⟨some 38, .mv, [.t 39], none⟩] [39])
 (.cond (.t 38) [38]
 (.seq
 (.region false [⟨some 40, .bslice 20496 0 2 (.st [.i 0, .i 0]) [], [], none⟩,
 ⟨some 4, .mv, [.t 40], none⟩] [5, 29, 40])
 .ret)
 (.seq
 (.region false [⟨some 42, .bin .eql, [.t 29, .c (.i 1)], none⟩,
 ⟨some 41, .mv, [.t 42], none⟩] [29, 42])
 (.cond (.t 41) [41]
 (.region false [⟨some 43, .mv, [.t 5], none⟩,
 ⟨some 44, .bslice 22536 2 1 (.i 0) [0, 1], [.c (.i 0), .c (.i 10)], none⟩,
 ⟨some 45, .mv, [.t 0], none⟩,
 ⟨some 46, .call n_spec_l20Rd_pick 23552, [.t 45, .c (.i 2)], none⟩,
 ⟨some 47, .idxa 1, [.t 44, .t 46], none⟩,
 ⟨some 48, .load 1 false, [.t 47], none⟩,
 ⟨some 49, .idxa 2, [.t 43, .c (.i 0)], none⟩,
 ⟨some 50, .fld 0 1 false, [.t 49], none⟩,
 ⟨none, .store 1, [.t 50, .t 48], none⟩] [43, 44, 45, 46, 47, 48, 49, 50])
 (.region false [⟨some 30, .mv, [.t 5], none⟩,
 ⟨some 31, .bslice 15880 2 1 (.i 0) [0, 1], [.c (.i 0), .c (.i 6)], none⟩,
 ⟨some 32, .mv, [.t 0], none⟩,
 ⟨some 33, .call n_spec_l20Rd_pick 16896, [.t 32, .c (.i 2)], none⟩,
 ⟨some 34, .idxa 1, [.t 31, .t 33], none⟩,
 ⟨some 35, .load 1 false, [.t 34], none⟩,
 ⟨some 36, .idxa 2, [.t 30, .c (.i 0)], none⟩,
 ⟨some 37, .fld 1 1 false, [.t 36], none⟩,
 ⟨none, .store 1, [.t 37, .t 35], none⟩] [30, 31, 32, 33, 34, 35, 36, 37])))))))
 .skip))
 (.seq
 (.region false [⟨some 51, .mv, [.t 5], none⟩,
 ⟨some 4, .mv, [.t 51], none⟩] [5, 51])
 .ret))))) }
/-- spec.l20Groups -/
def F_spec_l20Groups_L0 : LC :=
 (.seq
 (.seq
 (.region false [⟨some 15, .mv, [.t 9], none⟩,
 ⟨some 16, .mv, [.t 7], none⟩,
 ⟨some 17, .len, [.t 16], none⟩,
 ⟨some 18, .bin .lss, [.t 15, .t 17], none⟩] [15, 16, 17])
 (.cond (.t 18) [18]
 .skip
 (.exit 0)))
 (.seq
 (.block 1
 (.seq
 (.seq
 (.region false [⟨some 21, .mv, [.t 8], none⟩,
 ⟨some 22, .len, [.t 21], none⟩,
 ⟨some 23, .bin .eql, [.t 22, .c (.i 0)], none⟩,
 ⟨some 24, .mv, [.t 23], none⟩,
 ⟨some 25, .mv, [.t 0], some (24, false)⟩,
 ⟨some 26, .call n_spec_l20Rd_pick 13312, [.t 25, .c (.i 2)], some (24, false)⟩,
 ⟨some 27, .bin .eql, [.t 26, .c (.i 0)], some (24, false)⟩,
 ⟨some 28, .pick, [.t 24, .c (.b true), .t 27], none⟩] [21, 22, 23, 24, 25, 26, 27])
 (.cond (.t 28) [28]
 (.ghost (.shut 8)
 (.region false [⟨some 29, .mv, [.t 8], none⟩,
 ⟨some 30, .bslice 15373 0 1 (.i 0) [], [], none⟩,
 ⟨some 31, .bslice 15880 1 1 (.sl 1 []) [0], [.t 30], none⟩,
 ⟨some 32, .app 16392 1, [.t 29, .t 31], none⟩,
 ⟨some 8, .mv, [.t 32], none⟩] [29, 30, 31, 32]))
 .skip))
 (.seq
 (.region false [⟨some 33, .mv, [.t 8], none⟩,
 ⟨some 34, .len, [.t 33], none⟩,
 ⟨some 35, .bin .sub, [.t 34, .c (.i 1)], none⟩,
 ⟨some 10, .mv, [.t 35], none⟩] [33, 34, 35])
 (.region true [⟨some 36, .mv, [.t 8], none⟩,
 ⟨some 37, .mv, [.t 10], none⟩,
 ⟨some 38, .mv, [.t 8], none⟩,
 ⟨some 39, .mv, [.t 10], none⟩,
 ⟨some 40, .idxa 1, [.t 38, .t 39], none⟩,
 ⟨some 41, .load 1 false, [.t 40], none⟩,
 ⟨some 42, .mv, [.t 7], none⟩,
 ⟨some 43, .mv, [.t 9], none⟩,
 ⟨some 44, .idxa 1, [.t 42, .t 43], none⟩,
 ⟨some 45, .load 1 false, [.t 44], none⟩,
 ⟨some 46, .bslice 23560 1 1 (.i 0) [0], [.t 45], none⟩,
 ⟨some 47, .app 24072 1, [.t 41, .t 46], none⟩,
 ⟨some 48, .idxa 1, [.t 36, .t 37], none⟩,
 ⟨none, .store 1, [.t 48, .t 47], none⟩] [10, 36, 37, 38, 39, 40, 41, 42, 43, 44, 45, 46, 47, 48]))))
 (.region false [⟨some 19, .mv, [.t 9], none⟩,
 ⟨some 20, .bin .add, [.t 19, .c (.i 1)], none⟩,
 ⟨some 9, .mv, [.t 20], none⟩] [19, 20])))
def F_spec_l20Groups_W0 : LC := .loop F_spec_l20Groups_L0
def F_spec_l20Groups : LF :=
 { nparams := 3, results := [.t 6], body :=
 (.seq
 (.region false [⟨some 6, .newnil 3080, [], none⟩] [6])
 (.seq
 (.region false [⟨some 11, .mv, [.t 0], none⟩,
 ⟨some 12, .mv, [.t 1], none⟩,
 ⟨some 13, .call n_spec_l20Order 6656, [.t 11, .t 12, .c (.i 0)], none⟩,
 ⟨some 7, .mv, [.t 13], none⟩] [1, 11, 12, 13])
 (.seq
 (.region false [⟨some 14, .bslice 7176 0 1 (.sl 1 []) [], [], none⟩,
 ⟨some 8, .mv, [.t 14], none⟩] [14])
 (.seq
 (.seq
 (.region false [⟨some 9, .mv, [.c (.i 0)], none⟩] [])
 (.block 0
 F_spec_l20Groups_W0))
 (.seq
 (.seq
 (.ghost (.shut 8)
 (.region false [⟨some 49, .mv, [.t 0], none⟩,
 ⟨some 50, .mv, [.t 2], none⟩,
 ⟨some 51, .call n_spec_l20Rd_odd 26112, [.t 49, .t 50], none⟩] [2, 7, 9, 49, 50]))
 (.cond (.t 51) [51]
 (.seq
 (.region false [⟨some 52, .mv, [.t 0], none⟩,
 ⟨some 53, .call n_spec_l20Rd_pick 27136, [.t 52, .c (.i 2)], none⟩] [52])
 (.block 2
 (.seq
 (.region false [⟨some 59, .bin .eql, [.t 53, .c (.i 0)], none⟩,
 ⟨some 58, .mv, [.t 59], none⟩] [53, 59])
 (.cond (.t 58) [58]
 (.seq
 (.region false [⟨some 60, .mv, [.t 8], none⟩,
 ⟨some 61, .bslice 31240 0 1 (.i 0) [], [], none⟩,
 ⟨some 62, .bslice 31752 1 1 (.sl 1 []) [0], [.t 61], none⟩,
 ⟨some 63, .app 32264 1, [.t 60, .t 62], none⟩,
 ⟨some 6, .mv, [.t 63], none⟩] [8, 60, 61, 62, 63])
 .ret)
 (.seq
 (.region false [⟨some 54, .mv, [.t 8], none⟩,
 ⟨some 55, .bslice 28168 1 1 (.i 0) [0], [.c (.i 0)], none⟩,
 ⟨some 56, .bslice 28680 1 1 (.sl 1 []) [0], [.t 55], none⟩,
 ⟨some 57, .app 29192 1, [.t 54, .t 56], none⟩,
 ⟨some 6, .mv, [.t 57], none⟩] [8, 54, 55, 56, 57])
 .ret)))))
 .skip))
 (.seq
 (.region false [⟨some 64, .mv, [.t 8], none⟩,
 ⟨some 6, .mv, [.t 64], none⟩] [8, 64])
 .ret)))))) }
/-- spec.l20Rd).odd -/
def F_spec_l20Rd_odd : LF :=
 { nparams := 2, results := [.t 4], body :=
 (.seq
 (.region false [⟨some 4, .mv, [.c (.b false)], none⟩] [4])
 (.seq
 (.region false [⟨some 5, .mv, [.t 1], none⟩,
 ⟨some 6, .bin .gtr, [.t 5, .c (.i 0)], none⟩,
 ⟨some 7, .mv, [.t 6], none⟩,
 ⟨some 8, .mv, [.t 0], some (7, true)⟩,
 ⟨some 9, .mv, [.t 1], some (7, true)⟩,
 ⟨some 10, .call n_spec_l20Rd_pick 5120, [.t 8, .t 9], some (7, true)⟩,
 ⟨some 11, .mv, [.t 1], some (7, true)⟩,
 ⟨some 12, .bin .sub, [.t 11, .c (.i 1)], some (7, true)⟩,
 ⟨some 13, .bin .eql, [.t 10, .t 12], some (7, true)⟩,
 ⟨some 14, .pick, [.t 7, .t 13, .c (.b false)], none⟩,
 ⟨some 4, .mv, [.t 14], none⟩] [1, 5, 6, 7, 8, 9, 10, 11, 12, 13, 14])
 .ret)) }
/-- slices.Insert[[]int,int] -/
def F_slices_Insert_int_int : LF :=
 { nparams := 3, results := [], body := .skip, prim := some insP }
/-- slices.rotateRight[int] -/
def F_slices_rotateRight_int : LF :=
 { nparams := 2, results := [], body :=
 (.region false [⟨some 4, .mv, [.t 0], none⟩,
 ⟨some 5, .mv, [.t 0], none⟩,
 ⟨some 6, .len, [.t 5], none⟩,
 ⟨some 7, .mv, [.t 1], none⟩,
 ⟨some 8, .bin .sub, [.t 6, .t 7], none⟩,
 ⟨some 9, .call n_slices_rotateLeft_int 4608, [.t 4, .t 8], none⟩] [0, 1, 4, 5, 6, 7, 8, 9]) }
/-- slices.rotateLeft[int] -/
def F_slices_rotateLeft_int : LF :=
 { nparams := 2, results := [], body :=
 (.seq
 (.region false [⟨some 4, .mv, [.t 0], none⟩,
 ⟨some 5, .mv, [.t 1], none⟩,
 ⟨some 6, .slice false true 1, [.t 4, .t 5], none⟩,
 ⟨some 7, .call n_slices_Reverse_int_int 3584, [.t 6], none⟩] [4, 5, 6, 7])
 (.seq
 (.region false [⟨some 8, .mv, [.t 0], none⟩,
 ⟨some 9, .mv, [.t 1], none⟩,
 ⟨some 10, .slice true false 1, [.t 8, .t 9], none⟩,
 ⟨some 11, .call n_slices_Reverse_int_int 5632, [.t 10], none⟩] [1, 8, 9, 10, 11])
 (.region false [⟨some 12, .mv, [.t 0], none⟩,
 ⟨some 13, .call n_slices_Reverse_int_int 6656, [.t 12], none⟩] [0, 12, 13]))) }
/-- slices.Reverse[[]int,int] -/
def F_slices_Reverse_int_int_L0 : LC :=
 (.seq
 (.seq
 (.region false [⟨some 7, .mv, [.t 2], none⟩,
 ⟨some 8, .mv, [.t 3], none⟩,
 ⟨some 9, .bin .lss, [.t 7, .t 8], none⟩] [7, 8])
 (.cond (.t 9) [9]
 .skip
 (.exit 0)))
 (.seq
 (.block 1
 (.region true [⟨some 14, .mv, [.t 0], none⟩,
 ⟨some 15, .mv, [.t 2], none⟩,
 ⟨some 16, .mv, [.t 0], none⟩,
 ⟨some 17, .mv, [.t 3], none⟩,
 ⟨some 18, .mv, [.t 0], none⟩,
 ⟨some 19, .mv, [.t 3], none⟩,
 ⟨some 20, .idxa 1, [.t 18, .t 19], none⟩,
 ⟨some 21, .load 1 false, [.t 20], none⟩,
 ⟨some 22, .mv, [.t 0], none⟩,
 ⟨some 23, .mv, [.t 2], none⟩,
 ⟨some 24, .idxa 1, [.t 22, .t 23], none⟩,
 ⟨some 25, .load 1 false, [.t 24], none⟩,
 ⟨some 26, .idxa 1, [.t 14, .t 15], none⟩,
 ⟨none, .store 1, [.t 26, .t 21], none⟩,
 ⟨some 27, .idxa 1, [.t 16, .t 17], none⟩,
 ⟨none, .store 1, [.t 27, .t 25], none⟩] [14, 15, 16, 17, 18, 19, 20, 21, 22, 23, 24, 25, 26, 27]))
 (.region false [⟨some 10, .mv, [.t 2], none⟩,
 ⟨some 11, .bin .add, [.t 10, .c (.i 1)], none⟩,
 ⟨some 12, .mv, [.t 3], none⟩,
 ⟨some 13, .bin .sub, [.t 12, .c (.i 1)], none⟩,
 ⟨some 2, .mv, [.t 11], none⟩,
 ⟨some 3, .mv, [.t 13], none⟩] [10, 11, 12, 13])))
def F_slices_Reverse_int_int_W0 : LC := .loop F_slices_Reverse_int_int_L0
def F_slices_Reverse_int_int : LF :=
 { nparams := 1, results := [], body :=
 (.seq
 (.region false [⟨some 4, .mv, [.t 0], none⟩,
 ⟨some 5, .len, [.t 4], none⟩,
 ⟨some 6, .bin .sub, [.t 5, .c (.i 1)], none⟩,
 ⟨some 2, .mv, [.c (.i 0)], none⟩,
 ⟨some 3, .mv, [.t 6], none⟩] [4, 5, 6])
 (.block 0
 F_slices_Reverse_int_int_W0)) }
def lf : Nat → Option LF
 | 11 => some F_laws_FnChainOrder
 | 24 => some F_impl_KeepsChains
 | 26 => some F_spec_ChainOrder
 | 27 => some F_impl_ChainOrder
 | 33 => some F_impl_ChainBest
 | 43 => some F_laws_alive
 | 46 => some F_spec_GroupsOk
 | 47 => some F_laws_sameInts
 | 48 => some F_spec_DrawChainOrder
 | 49 => some F_impl_RowAverage
 | 50 => some F_impl_RatioOrder
 | 53 => some F_spec_TestsOk
 | 54 => some F_spec_l1In
 | 55 => some F_spec_l9Ratio
 | 57 => some F_impl_TestsOk
 | 58 => some F_impl_GroupsOk
 | 59 => some F_impl_isWithin
 | 60 => some F_impl_ratioOfPart
 | 62 => some F_impl_OrderOk
 | 63 => some F_impl_KeepsChains_1
 | 64 => some F_slices_Index_int_int
 | 65 => some F_slices_IsSortedFunc_int_int
 | 66 => some F_impl_leastPart
 | 67 => some F_impl_behindPart
 | 69 => some F_impl_leastAlong
 | 74 => some F_spec_l20Open
 | 75 => some F_spec_l20Grouped
 | 76 => some F_spec_l20Rd_pick
 | 77 => some F_spec_l20Order
 | 78 => some F_impl_rowOk
 | 79 => some F_impl_wholeOf
 | 80 => some F_impl_endChance
 | 81 => some F_impl_RatioOrder_1
 | 82 => some F_impl_ratioOf
 | 83 => some F_impl_ratio_isLess
 | 84 => some F_impl_inserted_int
 | 85 => some F_spec_l1Power
 | 86 => some F_impl_manyOk
 | 87 => some F_impl_hasTest
 | 88 => some F_slices_Clone_int_int
 | 90 => some F_impl_averageAsking
 | 94 => some F_spec_l20Tests
 | 95 => some F_spec_l20Groups
 | 96 => some F_spec_l20Rd_odd
 | 97 => some F_slices_Insert_int_int
 | 103 => some F_slices_rotateRight_int
 | 108 => some F_slices_rotateLeft_int
 | 111 => some F_slices_Reverse_int_int
 | _ => none
theorem w_laws_FnChainOrder_0 (S : LS) : ex lf F_laws_FnChainOrder_W0 S = match ex lf F_laws_FnChainOrder_L0 S with | some (.normal, S1) => ex lf F_laws_FnChainOrder_W0 S1 | r => r := ex_loop lf F_laws_FnChainOrder_L0 S
theorem w_impl_KeepsChains_0 (S : LS) : ex lf F_impl_KeepsChains_W0 S = match ex lf F_impl_KeepsChains_L0 S with | some (.normal, S1) => ex lf F_impl_KeepsChains_W0 S1 | r => r := ex_loop lf F_impl_KeepsChains_L0 S
theorem w_spec_ChainOrder_2 (S : LS) : ex lf F_spec_ChainOrder_W2 S = match ex lf F_spec_ChainOrder_L2 S with | some (.normal, S1) => ex lf F_spec_ChainOrder_W2 S1 | r => r := ex_loop lf F_spec_ChainOrder_L2 S
theorem w_spec_ChainOrder_1 (S : LS) : ex lf F_spec_ChainOrder_W1 S = match ex lf F_spec_ChainOrder_L1 S with | some (.normal, S1) => ex lf F_spec_ChainOrder_W1 S1 | r => r := ex_loop lf F_spec_ChainOrder_L1 S
theorem w_spec_ChainOrder_0 (S : LS) : ex lf F_spec_ChainOrder_W0 S = match ex lf F_spec_ChainOrder_L0 S with | some (.normal, S1) => ex lf F_spec_ChainOrder_W0 S1 | r => r := ex_loop lf F_spec_ChainOrder_L0 S
theorem w_impl_ChainOrder_0 (S : LS) : ex lf F_impl_ChainOrder_W0 S = match ex lf F_impl_ChainOrder_L0 S with | some (.normal, S1) => ex lf F_impl_ChainOrder_W0 S1 | r => r := ex_loop lf F_impl_ChainOrder_L0 S
theorem w_spec_GroupsOk_1 (S : LS) : ex lf F_spec_GroupsOk_W1 S = match ex lf F_spec_GroupsOk_L1 S with | some (.normal, S1) => ex lf F_spec_GroupsOk_W1 S1 | r => r := ex_loop lf F_spec_GroupsOk_L1 S
theorem w_spec_GroupsOk_0 (S : LS) : ex lf F_spec_GroupsOk_W0 S = match ex lf F_spec_GroupsOk_L0 S with | some (.normal, S1) => ex lf F_spec_GroupsOk_W0 S1 | r => r := ex_loop lf F_spec_GroupsOk_L0 S
theorem w_laws_sameInts_0 (S : LS) : ex lf F_laws_sameInts_W0 S = match ex lf F_laws_sameInts_L0 S with | some (.normal, S1) => ex lf F_laws_sameInts_W0 S1 | r => r := ex_loop lf F_laws_sameInts_L0 S
theorem w_impl_RowAverage_0 (S : LS) : ex lf F_impl_RowAverage_W0 S = match ex lf F_impl_RowAverage_L0 S with | some (.normal, S1) => ex lf F_impl_RowAverage_W0 S1 | r => r := ex_loop lf F_impl_RowAverage_L0 S
theorem w_impl_RatioOrder_0 (S : LS) : ex lf F_impl_RatioOrder_W0 S = match ex lf F_impl_RatioOrder_L0 S with | some (.normal, S1) => ex lf F_impl_RatioOrder_W0 S1 | r => r := ex_loop lf F_impl_RatioOrder_L0 S
theorem w_spec_TestsOk_0 (S : LS) : ex lf F_spec_TestsOk_W0 S = match ex lf F_spec_TestsOk_L0 S with | some (.normal, S1) => ex lf F_spec_TestsOk_W0 S1 | r => r := ex_loop lf F_spec_TestsOk_L0 S
theorem w_spec_l9Ratio_0 (S : LS) : ex lf F_spec_l9Ratio_W0 S = match ex lf F_spec_l9Ratio_L0 S with | some (.normal, S1) => ex lf F_spec_l9Ratio_W0 S1 | r => r := ex_loop lf F_spec_l9Ratio_L0 S
theorem w_impl_TestsOk_0 (S : LS) : ex lf F_impl_TestsOk_W0 S = match ex lf F_impl_TestsOk_L0 S with | some (.normal, S1) => ex lf F_impl_TestsOk_W0 S1 | r => r := ex_loop lf F_impl_TestsOk_L0 S
theorem w_impl_GroupsOk_0 (S : LS) : ex lf F_impl_GroupsOk_W0 S = match ex lf F_impl_GroupsOk_L0 S with | some (.normal, S1) => ex lf F_impl_GroupsOk_W0 S1 | r => r := ex_loop lf F_impl_GroupsOk_L0 S
theorem w_impl_ratioOfPart_0 (S : LS) : ex lf F_impl_ratioOfPart_W0 S = match ex lf F_impl_ratioOfPart_L0 S with | some (.normal, S1) => ex lf F_impl_ratioOfPart_W0 S1 | r => r := ex_loop lf F_impl_ratioOfPart_L0 S
theorem w_impl_OrderOk_0 (S : LS) : ex lf F_impl_OrderOk_W0 S = match ex lf F_impl_OrderOk_L0 S with | some (.normal, S1) => ex lf F_impl_OrderOk_W0 S1 | r => r := ex_loop lf F_impl_OrderOk_L0 S
theorem w_slices_Index_int_int_0 (S : LS) : ex lf F_slices_Index_int_int_W0 S = match ex lf F_slices_Index_int_int_L0 S with | some (.normal, S1) => ex lf F_slices_Index_int_int_W0 S1 | r => r := ex_loop lf F_slices_Index_int_int_L0 S
theorem w_slices_IsSortedFunc_int_int_0 (S : LS) : ex lf F_slices_IsSortedFunc_int_int_W0 S = match ex lf F_slices_IsSortedFunc_int_int_L0 S with | some (.normal, S1) => ex lf F_slices_IsSortedFunc_int_int_W0 S1 | r => r := ex_loop lf F_slices_IsSortedFunc_int_int_L0 S
theorem w_impl_leastPart_1 (S : LS) : ex lf F_impl_leastPart_W1 S = match ex lf F_impl_leastPart_L1 S with | some (.normal, S1) => ex lf F_impl_leastPart_W1 S1 | r => r := ex_loop lf F_impl_leastPart_L1 S
theorem w_impl_leastPart_0 (S : LS) : ex lf F_impl_leastPart_W0 S = match ex lf F_impl_leastPart_L0 S with | some (.normal, S1) => ex lf F_impl_leastPart_W0 S1 | r => r := ex_loop lf F_impl_leastPart_L0 S
theorem w_impl_leastAlong_0 (S : LS) : ex lf F_impl_leastAlong_W0 S = match ex lf F_impl_leastAlong_L0 S with | some (.normal, S1) => ex lf F_impl_leastAlong_W0 S1 | r => r := ex_loop lf F_impl_leastAlong_L0 S
theorem w_spec_l20Order_0 (S : LS) : ex lf F_spec_l20Order_W0 S = match ex lf F_spec_l20Order_L0 S with | some (.normal, S1) => ex lf F_spec_l20Order_W0 S1 | r => r := ex_loop lf F_spec_l20Order_L0 S
theorem w_impl_wholeOf_0 (S : LS) : ex lf F_impl_wholeOf_W0 S = match ex lf F_impl_wholeOf_L0 S with | some (.normal, S1) => ex lf F_impl_wholeOf_W0 S1 | r => r := ex_loop lf F_impl_wholeOf_L0 S
theorem w_impl_inserted_int_0 (S : LS) : ex lf F_impl_inserted_int_W0 S = match ex lf F_impl_inserted_int_L0 S with | some (.normal, S1) => ex lf F_impl_inserted_int_W0 S1 | r => r := ex_loop lf F_impl_inserted_int_L0 S
theorem w_spec_l1Power_0 (S : LS) : ex lf F_spec_l1Power_W0 S = match ex lf F_spec_l1Power_L0 S with | some (.normal, S1) => ex lf F_spec_l1Power_W0 S1 | r => r := ex_loop lf F_spec_l1Power_L0 S
theorem w_spec_l20Tests_0 (S : LS) : ex lf F_spec_l20Tests_W0 S = match ex lf F_spec_l20Tests_L0 S with | some (.normal, S1) => ex lf F_spec_l20Tests_W0 S1 | r => r := ex_loop lf F_spec_l20Tests_L0 S
theorem w_spec_l20Groups_0 (S : LS) : ex lf F_spec_l20Groups_W0 S = match ex lf F_spec_l20Groups_L0 S with | some (.normal, S1) => ex lf F_spec_l20Groups_W0 S1 | r => r := ex_loop lf F_spec_l20Groups_L0 S
theorem w_slices_Reverse_int_int_0 (S : LS) : ex lf F_slices_Reverse_int_int_W0 S = match ex lf F_slices_Reverse_int_int_L0 S with | some (.normal, S1) => ex lf F_slices_Reverse_int_int_W0 S1 | r => r := ex_loop lf F_slices_Reverse_int_int_L0 S
end Zz
