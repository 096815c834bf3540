/- The functions of the program, read as data. No conditions. -/
import Derived.Test.YtldepejkagfdmaaLgC
set_option linter.unusedSectionVars false
set_option linter.unusedVariables false
set_option linter.unusedSimpArgs false
namespace Zz
open Go.Lg
instance : GL := ⟨[], [28, 29, 30, 37], ["l4_orders.go:82"], [], [(84, [0]), (92, [0]), (97, [0, 2]), (99, [0, 2])], [], ["l20_draw.go:447"]⟩
def n_laws_FnExactFirstRatio : Nat := 3
def n_laws_FnExactKeepsChains : Nat := 4
def n_laws_FnExactChainBest : Nat := 6
def n_laws_szTestS : Nat := 14
def n_laws_szIntSS : Nat := 15
def n_spec_FirstRatio : Nat := 16
def n_laws_toTestS : Nat := 17
def n_laws_toIntSS : Nat := 18
def n_impl_FirstRatio : Nat := 19
def n_laws_eqTestS : Nat := 20
def n_laws_eqIntSS : Nat := 21
def n_spec_KeepsChains : Nat := 22
def n_laws_toIntS : Nat := 23
def n_impl_KeepsChains : Nat := 24
def n_laws_eqIntS : Nat := 25
def n_spec_ChainBest : Nat := 32
def n_impl_ChainBest : Nat := 33
def n_spec_OrderOk : Nat := 45
def n_spec_GroupsOk : Nat := 46
def n_laws_szIntS : Nat := 52
def n_spec_TestsOk : Nat := 53
def n_spec_l1In : Nat := 54
def n_spec_l9Ratio : Nat := 55
def n_laws_toTest : Nat := 56
def n_impl_TestsOk : Nat := 57
def n_impl_GroupsOk : Nat := 58
def n_impl_isWithin : Nat := 59
def n_impl_ratioOfPart : Nat := 60
def n_laws_eqTest : Nat := 61
def n_impl_OrderOk : Nat := 62
def n_impl_KeepsChains_1 : Nat := 63
def n_slices_Index_int_int : Nat := 64
def n_slices_IsSortedFunc_int_int : Nat := 65
def n_impl_behindPart : Nat := 67
def n_spec_l9Search : Nat := 68
def n_impl_leastAlong : Nat := 69
def n_impl_wholeOf : Nat := 79
def n_spec_l1Power : Nat := 85
def n_impl_manyOk : Nat := 86
def n_impl_hasTest : Nat := 87
def n_slices_Clone_int_int : Nat := 88
def n_spec_RowAverage : Nat := 89
def n_impl_averageAsking : Nat := 90
def n_spec_l5Ends : Nat := 98
/-- laws.FnExactFirstRatio -/
def F_laws_FnExactFirstRatio : LF :=
 { nparams := 4, results := [.t 8], body :=
 (.seq
 (.region false [⟨some 8, .mv, [.c (.b false)], none⟩] [8])
 (.seq
 (.region false [⟨some 9, .mv, [.c (.i 1048576)], none⟩] [])
 (.seq
 (.region false [⟨some 18, .mv, [.t 0], none⟩,
 ⟨some 19, .mv, [.t 9], none⟩,
 ⟨some 20, .call n_laws_szTestS 10240, [.t 18, .t 19], none⟩,
 ⟨some 9, .mv, [.t 20], none⟩] [18, 19, 20])
 (.seq
 (.seq
 (.region false [⟨some 21, .mv, [.t 9], none⟩,
 ⟨some 22, .bin .lss, [.t 21, .c (.i 0)], none⟩] [21])
 (.cond (.t 22) [22]
 (.seq
 (.region false [⟨some 8, .mv, [.c (.b true)], none⟩] [0, 1, 2, 3, 9])
 .ret)
 .skip))
 (.seq
 (.region false [⟨some 23, .mv, [.t 1], none⟩,
 ⟨some 24, .mv, [.t 9], none⟩,
 ⟨some 25, .call n_laws_szIntSS 12800, [.t 23, .t 24], none⟩,
 ⟨some 9, .mv, [.t 25], none⟩] [23, 24, 25])
 (.seq
 (.seq
 (.region false [⟨some 26, .mv, [.t 9], none⟩,
 ⟨some 27, .bin .lss, [.t 26, .c (.i 0)], none⟩] [9, 26])
 (.cond (.t 27) [27]
 (.seq
 (.region false [⟨some 8, .mv, [.c (.b true)], none⟩] [0, 1, 2, 3])
 .ret)
 .skip))
 (.seq
 (.region false [⟨some 29, .mv, [.t 0], none⟩,
 ⟨some 30, .call n_laws_toTestS 15360, [.t 29], none⟩,
 ⟨some 31, .mv, [.t 1], none⟩,
 ⟨some 32, .call n_laws_toIntSS 16384, [.t 31], none⟩,
 ⟨some 33, .mv, [.t 2], none⟩,
 ⟨some 34, .mv, [.t 3], none⟩,
 ⟨some 35, .call n_spec_FirstRatio 17920, [.t 30, .t 32, .t 33, .t 34], none⟩,
 ⟨some 28, .mv, [.t 35], none⟩,
 ⟨some 36, .ext 0, [.t 28], none⟩,
 ⟨some 37, .ext 1, [.t 28], none⟩,
 ⟨some 38, .ext 2, [.t 28], none⟩,
 ⟨some 10, .mv, [.t 36], none⟩,
 ⟨some 11, .mv, [.t 37], none⟩,
 ⟨some 12, .mv, [.t 38], none⟩] [28, 29, 30, 31, 32, 33, 34, 35, 36, 37, 38])
 (.seq
 (.region false [⟨some 39, .mv, [.t 0], none⟩,
 ⟨some 40, .call n_laws_toTestS 20480, [.t 39], none⟩,
 ⟨some 13, .mv, [.t 40], none⟩] [39, 40])
 (.seq
 (.region false [⟨some 41, .mv, [.t 1], none⟩,
 ⟨some 42, .call n_laws_toIntSS 21504, [.t 41], none⟩,
 ⟨some 14, .mv, [.t 42], none⟩] [41, 42])
 (.seq
 (.region false [⟨some 44, .mv, [.t 13], none⟩,
 ⟨some 45, .mv, [.t 14], none⟩,
 ⟨some 46, .mv, [.t 2], none⟩,
 ⟨some 47, .mv, [.t 3], none⟩,
 ⟨some 48, .call n_impl_FirstRatio 24576, [.t 44, .t 45, .t 46, .t 47], none⟩,
 ⟨some 43, .mv, [.t 48], none⟩,
 ⟨some 49, .ext 0, [.t 43], none⟩,
 ⟨some 50, .ext 1, [.t 43], none⟩,
 ⟨some 51, .ext 2, [.t 43], none⟩,
 ⟨some 15, .mv, [.t 49], none⟩,
 ⟨some 16, .mv, [.t 50], none⟩,
 ⟨some 17, .mv, [.t 51], none⟩] [2, 3, 43, 44, 45, 46, 47, 48, 49, 50, 51])
 (.seq
 (.seq
 (.region false [⟨some 52, .mv, [.t 15], none⟩,
 ⟨some 53, .mv, [.t 10], none⟩,
 ⟨some 54, .bin .neq, [.t 52, .t 53], none⟩,
 ⟨some 55, .mv, [.t 54], none⟩,
 ⟨some 56, .mv, [.t 16], some (55, false)⟩,
 ⟨some 57, .mv, [.t 11], some (55, false)⟩,
 ⟨some 58, .bin .neq, [.t 56, .t 57], some (55, false)⟩,
 ⟨some 59, .pick, [.t 55, .c (.b true), .t 58], none⟩,
 ⟨some 60, .mv, [.t 59], none⟩,
 ⟨some 61, .mv, [.t 17], some (60, false)⟩,
 ⟨some 62, .mv, [.t 12], some (60, false)⟩,
 ⟨some 63, .eqb true, [.t 61, .t 62], some (60, false)⟩,
 ⟨some 64, .pick, [.t 60, .c (.b true), .t 63], none⟩] [10, 11, 12, 15, 16, 17, 52, 53, 54, 55, 56, 57, 58, 59, 60, 61, 62, 63])
 (.cond (.t 64) [64]
 (.seq
 (.region false [⟨some 8, .mv, [.c (.b false)], none⟩] [0, 1, 13, 14])
 .ret)
 .skip))
 (.seq
 (.seq
 (.region false [⟨some 65, .mv, [.t 13], none⟩,
 ⟨some 66, .mv, [.t 0], none⟩,
 ⟨some 67, .call n_laws_toTestS 34304, [.t 66], none⟩,
 ⟨some 68, .call n_laws_eqTestS 34816, [.t 65, .t 67], none⟩,
 ⟨some 69, .un .not, [.t 68], none⟩] [0, 13, 65, 66, 67, 68])
 (.cond (.t 69) [69]
 (.seq
 (.region false [⟨some 8, .mv, [.c (.b false)], none⟩] [1, 14])
 .ret)
 .skip))
 (.seq
 (.seq
 (.region false [⟨some 70, .mv, [.t 14], none⟩,
 ⟨some 71, .mv, [.t 1], none⟩,
 ⟨some 72, .call n_laws_toIntSS 36864, [.t 71], none⟩,
 ⟨some 73, .call n_laws_eqIntSS 37376, [.t 70, .t 72], none⟩,
 ⟨some 74, .un .not, [.t 73], none⟩] [1, 14, 70, 71, 72, 73])
 (.cond (.t 74) [74]
 (.seq
 (.region false [⟨some 8, .mv, [.c (.b false)], none⟩] [])
 .ret)
 .skip))
 (.seq
 (.region false [⟨some 8, .mv, [.c (.b true)], none⟩] [])
 .ret)))))))))))))) }
/-- laws.FnExactKeepsChains -/
def F_laws_FnExactKeepsChains : LF :=
 { nparams := 3, results := [.t 6], body :=
 (.seq
 (.region false [⟨some 6, .mv, [.c (.b false)], none⟩] [6])
 (.seq
 (.seq
 (.region false [⟨some 12, .mv, [.t 2], none⟩,
 ⟨some 13, .len, [.t 12], none⟩,
 ⟨some 14, .bin .gtr, [.t 13, .c (.i 1048576)], none⟩] [12, 13])
 (.cond (.t 14) [14]
 (.seq
 (.region false [⟨some 6, .mv, [.c (.b true)], none⟩] [0, 1, 2])
 .ret)
 .skip))
 (.seq
 (.region false [⟨some 7, .mv, [.c (.i 1048576)], none⟩] [])
 (.seq
 (.region false [⟨some 15, .mv, [.t 1], none⟩,
 ⟨some 16, .mv, [.t 7], none⟩,
 ⟨some 17, .call n_laws_szIntSS 8704, [.t 15, .t 16], none⟩,
 ⟨some 7, .mv, [.t 17], none⟩] [15, 16, 17])
 (.seq
 (.seq
 (.region false [⟨some 18, .mv, [.t 7], none⟩,
 ⟨some 19, .bin .lss, [.t 18, .c (.i 0)], none⟩] [7, 18])
 (.cond (.t 19) [19]
 (.seq
 (.region false [⟨some 6, .mv, [.c (.b true)], none⟩] [0, 1, 2])
 .ret)
 .skip))
 (.seq
 (.region false [⟨some 20, .mv, [.t 0], none⟩,
 ⟨some 21, .mv, [.t 1], none⟩,
 ⟨some 22, .call n_laws_toIntSS 11264, [.t 21], none⟩,
 ⟨some 23, .mv, [.t 2], none⟩,
 ⟨some 24, .call n_laws_toIntS 12288, [.t 23], none⟩,
 ⟨some 25, .call n_spec_KeepsChains 12800, [.t 20, .t 22, .t 24], none⟩,
 ⟨some 8, .mv, [.t 25], none⟩] [20, 21, 22, 23, 24, 25])
 (.seq
 (.region false [⟨some 26, .mv, [.t 1], none⟩,
 ⟨some 27, .call n_laws_toIntSS 13824, [.t 26], none⟩,
 ⟨some 9, .mv, [.t 27], none⟩] [26, 27])
 (.seq
 (.region false [⟨some 28, .mv, [.t 2], none⟩,
 ⟨some 29, .call n_laws_toIntS 14848, [.t 28], none⟩,
 ⟨some 10, .mv, [.t 29], none⟩] [28, 29])
 (.seq
 (.region false [⟨some 30, .mv, [.t 0], none⟩,
 ⟨some 31, .mv, [.t 9], none⟩,
 ⟨some 32, .mv, [.t 10], none⟩,
 ⟨some 33, .call n_impl_KeepsChains 16896, [.t 30, .t 31, .t 32], none⟩,
 ⟨some 11, .mv, [.t 33], none⟩] [0, 30, 31, 32, 33])
 (.seq
 (.seq
 (.region false [⟨some 34, .mv, [.t 11], none⟩,
 ⟨some 35, .mv, [.t 8], none⟩,
 ⟨some 36, .eqb true, [.t 34, .t 35], none⟩] [8, 11, 34, 35])
 (.cond (.t 36) [36]
 (.seq
 (.region false [⟨some 6, .mv, [.c (.b false)], none⟩] [1, 2, 9, 10])
 .ret)
 .skip))
 (.seq
 (.seq
 (.region false [⟨some 37, .mv, [.t 9], none⟩,
 ⟨some 38, .mv, [.t 1], none⟩,
 ⟨some 39, .call n_laws_toIntSS 19968, [.t 38], none⟩,
 ⟨some 40, .call n_laws_eqIntSS 20480, [.t 37, .t 39], none⟩,
 ⟨some 41, .un .not, [.t 40], none⟩] [1, 9, 37, 38, 39, 40])
 (.cond (.t 41) [41]
 (.seq
 (.region false [⟨some 6, .mv, [.c (.b false)], none⟩] [2, 10])
 .ret)
 .skip))
 (.seq
 (.seq
 (.region false [⟨some 42, .mv, [.t 10], none⟩,
 ⟨some 43, .mv, [.t 2], none⟩,
 ⟨some 44, .call n_laws_toIntS 22528, [.t 43], none⟩,
 ⟨some 45, .call n_laws_eqIntS 23040, [.t 42, .t 44], none⟩,
 ⟨some 46, .un .not, [.t 45], none⟩] [2, 10, 42, 43, 44, 45])
 (.cond (.t 46) [46]
 (.seq
 (.region false [⟨some 6, .mv, [.c (.b false)], none⟩] [])
 .ret)
 .skip))
 (.seq
 (.region false [⟨some 6, .mv, [.c (.b true)], none⟩] [])
 .ret))))))))))))) }
/-- laws.FnExactChainBest -/
def F_laws_FnExactChainBest : LF :=
 { nparams := 2, results := [.t 4], body :=
 (.seq
 (.region false [⟨some 4, .mv, [.c (.b false)], none⟩] [4])
 (.seq
 (.region false [⟨some 5, .mv, [.c (.i 1048576)], none⟩] [])
 (.seq
 (.region false [⟨some 10, .mv, [.t 0], none⟩,
 ⟨some 11, .mv, [.t 5], none⟩,
 ⟨some 12, .call n_laws_szTestS 6144, [.t 10, .t 11], none⟩,
 ⟨some 5, .mv, [.t 12], none⟩] [10, 11, 12])
 (.seq
 (.seq
 (.region false [⟨some 13, .mv, [.t 5], none⟩,
 ⟨some 14, .bin .lss, [.t 13, .c (.i 0)], none⟩] [13])
 (.cond (.t 14) [14]
 (.seq
 (.region false [⟨some 4, .mv, [.c (.b true)], none⟩] [0, 1, 5])
 .ret)
 .skip))
 (.seq
 (.region false [⟨some 15, .mv, [.t 1], none⟩,
 ⟨some 16, .mv, [.t 5], none⟩,
 ⟨some 17, .call n_laws_szIntSS 8704, [.t 15, .t 16], none⟩,
 ⟨some 5, .mv, [.t 17], none⟩] [15, 16, 17])
 (.seq
 (.seq
 (.region false [⟨some 18, .mv, [.t 5], none⟩,
 ⟨some 19, .bin .lss, [.t 18, .c (.i 0)], none⟩] [5, 18])
 (.cond (.t 19) [19]
 (.seq
 (.region false [⟨some 4, .mv, [.c (.b true)], none⟩] [0, 1])
 .ret)
 .skip))
 (.seq
 (.region false [⟨some 20, .mv, [.t 0], none⟩,
 ⟨some 21, .call n_laws_toTestS 10752, [.t 20], none⟩,
 ⟨some 22, .mv, [.t 1], none⟩,
 ⟨some 23, .call n_laws_toIntSS 11776, [.t 22], none⟩,
 ⟨some 24, .call n_spec_ChainBest 12288, [.t 21, .t 23], none⟩,
 ⟨some 6, .mv, [.t 24], none⟩] [20, 21, 22, 23, 24])
 (.seq
 (.region false [⟨some 25, .mv, [.t 0], none⟩,
 ⟨some 26, .call n_laws_toTestS 13312, [.t 25], none⟩,
 ⟨some 7, .mv, [.t 26], none⟩] [25, 26])
 (.seq
 (.region false [⟨some 27, .mv, [.t 1], none⟩,
 ⟨some 28, .call n_laws_toIntSS 14336, [.t 27], none⟩,
 ⟨some 8, .mv, [.t 28], none⟩] [27, 28])
 (.seq
 (.region false [⟨some 29, .mv, [.t 7], none⟩,
 ⟨some 30, .mv, [.t 8], none⟩,
 ⟨some 31, .call n_impl_ChainBest 15872, [.t 29, .t 30], none⟩,
 ⟨some 9, .mv, [.t 31], none⟩] [29, 30, 31])
 (.seq
 (.seq
 (.region false [⟨some 32, .mv, [.t 9], none⟩,
 ⟨some 33, .mv, [.t 6], none⟩,
 ⟨some 34, .bin .neq, [.t 32, .t 33], none⟩] [6, 9, 32, 33])
 (.cond (.t 34) [34]
 (.seq
 (.region false [⟨some 4, .mv, [.c (.b false)], none⟩] [0, 1, 7, 8])
 .ret)
 .skip))
 (.seq
 (.seq
 (.region false [⟨some 35, .mv, [.t 7], none⟩,
 ⟨some 36, .mv, [.t 0], none⟩,
 ⟨some 37, .call n_laws_toTestS 18944, [.t 36], none⟩,
 ⟨some 38, .call n_laws_eqTestS 19456, [.t 35, .t 37], none⟩,
 ⟨some 39, .un .not, [.t 38], none⟩] [0, 7, 35, 36, 37, 38])
 (.cond (.t 39) [39]
 (.seq
 (.region false [⟨some 4, .mv, [.c (.b false)], none⟩] [1, 8])
 .ret)
 .skip))
 (.seq
 (.seq
 (.region false [⟨some 40, .mv, [.t 8], none⟩,
 ⟨some 41, .mv, [.t 1], none⟩,
 ⟨some 42, .call n_laws_toIntSS 21504, [.t 41], none⟩,
 ⟨some 43, .call n_laws_eqIntSS 22016, [.t 40, .t 42], none⟩,
 ⟨some 44, .un .not, [.t 43], none⟩] [1, 8, 40, 41, 42, 43])
 (.cond (.t 44) [44]
 (.seq
 (.region false [⟨some 4, .mv, [.c (.b false)], none⟩] [])
 .ret)
 .skip))
 (.seq
 (.region false [⟨some 4, .mv, [.c (.b true)], none⟩] [])
 .ret)))))))))))))) }
/-- laws.szTestS -/
def F_laws_szTestS : LF :=
 { nparams := 2, results := [.t 4], body :=
 (.seq
 (.region false [⟨some 4, .mv, [.c (.i 0)], none⟩] [4])
 (.seq
 (.region false [⟨some 5, .mv, [.t 1], none⟩,
 ⟨some 6, .mv, [.t 0], none⟩,
 ⟨some 7, .len, [.t 6], none⟩,
 ⟨some 8, .bin .sub, [.t 5, .t 7], none⟩,
 ⟨some 1, .mv, [.t 8], none⟩] [0, 5, 6, 7, 8])
 (.seq
 (.seq
 (.region false [⟨some 9, .mv, [.t 1], none⟩,
 ⟨some 10, .bin .lss, [.t 9, .c (.i 0)], none⟩] [9])
 (.cond (.t 10) [10]
 (.seq
 (.region false [⟨some 4, .mv, [.c (.i (-1))], none⟩] [1])
 .ret)
 .skip))
 (.seq
 (.region false [⟨some 11, .mv, [.t 1], none⟩,
 ⟨some 4, .mv, [.t 11], none⟩] [1, 11])
 .ret)))) }
/-- laws.szIntSS -/
def F_laws_szIntSS_L0 : LC :=
 (.seq
 (.seq
 (.region false [⟨some 12, .mv, [.t 5], none⟩,
 ⟨some 13, .mv, [.t 0], none⟩,
 ⟨some 14, .len, [.t 13], none⟩,
 ⟨some 15, .bin .lss, [.t 12, .t 14], none⟩] [12, 13, 14])
 (.cond (.t 15) [15]
 .skip
 (.exit 0)))
 (.seq
 (.block 1
 (.seq
 (.region false [⟨some 18, .mv, [.t 0], none⟩,
 ⟨some 19, .mv, [.t 5], none⟩,
 ⟨some 20, .idxa 1, [.t 18, .t 19], none⟩,
 ⟨some 21, .load 1 false, [.t 20], none⟩,
 ⟨some 22, .mv, [.t 1], none⟩,
 ⟨some 23, .call n_laws_szIntS 11776, [.t 21, .t 22], none⟩,
 ⟨some 1, .mv, [.t 23], none⟩] [18, 19, 20, 21, 22, 23])
 (.seq
 (.region false [⟨some 24, .mv, [.t 1], none⟩,
 ⟨some 25, .bin .lss, [.t 24, .c (.i 0)], none⟩] [24])
 (.cond (.t 25) [25]
 (.seq
 (.region false [⟨some 4, .mv, [.c (.i (-1))], none⟩] [0, 1, 5])
 .ret)
 .skip))))
 (.region false [⟨some 16, .mv, [.t 5], none⟩,
 ⟨some 17, .bin .add, [.t 16, .c (.i 1)], none⟩,
 ⟨some 5, .mv, [.t 17], none⟩] [16, 17])))
def F_laws_szIntSS_W0 : LC := .loop F_laws_szIntSS_L0
def F_laws_szIntSS : LF :=
 { nparams := 2, results := [.t 4], body :=
 (.seq
 (.region false [⟨some 4, .mv, [.c (.i 0)], none⟩] [4])
 (.seq
 (.region false [⟨some 6, .mv, [.t 1], none⟩,
 ⟨some 7, .mv, [.t 0], none⟩,
 ⟨some 8, .len, [.t 7], none⟩,
 ⟨some 9, .bin .sub, [.t 6, .t 8], none⟩,
 ⟨some 1, .mv, [.t 9], none⟩] [6, 7, 8, 9])
 (.seq
 (.seq
 (.region false [⟨some 10, .mv, [.t 1], none⟩,
 ⟨some 11, .bin .lss, [.t 10, .c (.i 0)], none⟩] [10])
 (.cond (.t 11) [11]
 (.seq
 (.region false [⟨some 4, .mv, [.c (.i (-1))], none⟩] [0, 1])
 .ret)
 .skip))
 (.seq
 (.seq
 (.region false [⟨some 5, .mv, [.c (.i 0)], none⟩] [])
 (.block 0
 F_laws_szIntSS_W0))
 (.seq
 (.region false [⟨some 26, .mv, [.t 1], none⟩,
 ⟨some 4, .mv, [.t 26], none⟩] [0, 1, 5, 26])
 .ret))))) }
/-- spec.FirstRatio -/
def F_spec_FirstRatio : LF :=
 { nparams := 4, results := [.t 8, .t 9, .t 10], body :=
 (.seq
 (.region false [⟨some 8, .mv, [.c (.i 0)], none⟩,
 ⟨some 9, .mv, [.c (.i 0)], none⟩,
 ⟨some 10, .mv, [.c (.b false)], none⟩] [8, 9, 10])
 (.seq
 (.seq
 (.region false [⟨some 13, .mv, [.t 0], none⟩,
 ⟨some 14, .call n_spec_TestsOk 7168, [.t 13], none⟩,
 ⟨some 15, .un .not, [.t 14], none⟩,
 ⟨some 16, .mv, [.t 15], none⟩,
 ⟨some 17, .mv, [.t 0], some (16, false)⟩,
 ⟨some 18, .len, [.t 17], some (16, false)⟩,
 ⟨some 19, .mv, [.t 1], some (16, false)⟩,
 ⟨some 20, .call n_spec_GroupsOk 10240, [.t 18, .t 19], some (16, false)⟩,
 ⟨some 21, .un .not, [.t 20], some (16, false)⟩,
 ⟨some 22, .pick, [.t 16, .c (.b true), .t 21], none⟩,
 ⟨some 23, .mv, [.t 22], none⟩,
 ⟨some 24, .mv, [.t 2], some (23, false)⟩,
 ⟨some 25, .mv, [.t 1], some (23, false)⟩,
 ⟨some 26, .len, [.t 25], some (23, false)⟩,
 ⟨some 27, .bin .sub, [.t 26, .c (.i 1)], some (23, false)⟩,
 ⟨some 28, .call n_spec_l1In 14336, [.t 24, .c (.i 0), .t 27], some (23, false)⟩,
 ⟨some 29, .un .not, [.t 28], some (23, false)⟩,
 ⟨some 30, .pick, [.t 23, .c (.b true), .t 29], none⟩,
 ⟨some 31, .mv, [.t 30], none⟩,
 ⟨some 32, .mv, [.t 3], some (31, false)⟩,
 ⟨some 33, .mv, [.t 1], some (31, false)⟩,
 ⟨some 34, .mv, [.t 2], some (31, false)⟩,
 ⟨some 35, .idxa 1, [.t 33, .t 34], some (31, false)⟩,
 ⟨some 36, .load 1 false, [.t 35], some (31, false)⟩,
 ⟨some 37, .len, [.t 36], some (31, false)⟩,
 ⟨some 38, .call n_spec_l1In 19456, [.t 32, .c (.i 1), .t 37], some (31, false)⟩,
 ⟨some 39, .un .not, [.t 38], some (31, false)⟩,
 ⟨some 40, .pick, [.t 31, .c (.b true), .t 39], none⟩] [13, 14, 15, 16, 17, 18, 19, 20, 21, 22, 23, 24, 25, 26, 27, 28, 29, 30, 31, 32, 33, 34, 35, 36, 37, 38, 39])
 (.cond (.t 40) [40]
 (.seq
 (.region false [⟨some 8, .mv, [.c (.i 0)], none⟩,
 ⟨some 9, .mv, [.c (.i 0)], none⟩,
 ⟨some 10, .mv, [.c (.b false)], none⟩] [0, 1, 2, 3])
 .ret)
 .skip))
 (.seq
 (.region false [⟨some 42, .mv, [.t 0], none⟩,
 ⟨some 43, .mv, [.t 1], none⟩,
 ⟨some 44, .mv, [.t 2], none⟩,
 ⟨some 45, .idxa 1, [.t 43, .t 44], none⟩,
 ⟨some 46, .load 1 false, [.t 45], none⟩,
 ⟨some 47, .mv, [.t 3], none⟩,
 ⟨some 48, .slice false true 1, [.t 46, .t 47], none⟩,
 ⟨some 49, .call n_spec_l9Ratio 25088, [.t 42, .t 48], none⟩,
 ⟨some 41, .mv, [.t 49], none⟩,
 ⟨some 50, .ext 0, [.t 41], none⟩,
 ⟨some 51, .ext 1, [.t 41], none⟩,
 ⟨some 11, .mv, [.t 50], none⟩,
 ⟨some 12, .mv, [.t 51], none⟩] [0, 1, 2, 3, 41, 42, 43, 44, 45, 46, 47, 48, 49, 50, 51])
 (.seq
 (.region false [⟨some 52, .mv, [.t 11], none⟩,
 ⟨some 53, .mv, [.t 12], none⟩,
 ⟨some 8, .mv, [.t 52], none⟩,
 ⟨some 9, .mv, [.t 53], none⟩,
 ⟨some 10, .mv, [.c (.b true)], none⟩] [11, 12, 52, 53])
 .ret)))) }
/-- laws.toTestS -/
def F_laws_toTestS_L0 : LC :=
 (.seq
 (.seq
 (.region false [⟨some 8, .mv, [.t 4], none⟩,
 ⟨some 9, .mv, [.t 0], none⟩,
 ⟨some 10, .len, [.t 9], none⟩,
 ⟨some 11, .bin .lss, [.t 8, .t 10], none⟩] [8, 9, 10])
 (.cond (.t 11) [11]
 .skip
 (.exit 0)))
 (.seq
 (.block 1
 (.region false [⟨some 14, .mv, [.t 3], none⟩,
 ⟨some 15, .mv, [.t 4], none⟩,
 ⟨some 16, .mv, [.t 0], none⟩,
 ⟨some 17, .mv, [.t 4], none⟩,
 ⟨some 18, .idxa 2, [.t 16, .t 17], none⟩,
 ⟨some 19, .load 2 true, [.t 18], none⟩,
 ⟨some 20, .call n_laws_toTest 10240, [.t 19], none⟩,
 ⟨some 21, .idxa 2, [.t 14, .t 15], none⟩,
 ⟨none, .store 2, [.t 21, .t 20], none⟩] [14, 15, 16, 17, 18, 19, 20, 21]))
 (.region false [⟨some 12, .mv, [.t 4], none⟩,
 ⟨some 13, .bin .add, [.t 12, .c (.i 1)], none⟩,
 ⟨some 4, .mv, [.t 13], none⟩] [12, 13])))
def F_laws_toTestS_W0 : LC := .loop F_laws_toTestS_L0
def F_laws_toTestS : LF :=
 { nparams := 1, results := [.t 2], body :=
 (.seq
 (.region false [⟨some 2, .newnil 1040, [], none⟩] [2])
 (.seq
 (.region false [⟨some 5, .mv, [.t 0], none⟩,
 ⟨some 6, .len, [.t 5], none⟩,
 ⟨some 7, .make 3600 2 (.st [.i 0, .i 0]), [.t 6, .t 6], none⟩,
 ⟨some 3, .mv, [.t 7], none⟩] [5, 6, 7])
 (.seq
 (.seq
 (.region false [⟨some 4, .mv, [.c (.i 0)], none⟩] [])
 (.block 0
 F_laws_toTestS_W0))
 (.seq
 (.region false [⟨some 22, .mv, [.t 3], none⟩,
 ⟨some 2, .mv, [.t 22], none⟩] [0, 3, 4, 22])
 .ret)))) }
/-- laws.toIntSS -/
def F_laws_toIntSS_L0 : LC :=
 (.seq
 (.seq
 (.region false [⟨some 8, .mv, [.t 4], none⟩,
 ⟨some 9, .mv, [.t 0], none⟩,
 ⟨some 10, .len, [.t 9], none⟩,
 ⟨some 11, .bin .lss, [.t 8, .t 10], none⟩] [8, 9, 10])
 (.cond (.t 11) [11]
 .skip
 (.exit 0)))
 (.seq
 (.block 1
 (.region false [⟨some 14, .mv, [.t 3], none⟩,
 ⟨some 15, .mv, [.t 4], none⟩,
 ⟨some 16, .mv, [.t 0], none⟩,
 ⟨some 17, .mv, [.t 4], none⟩,
 ⟨some 18, .idxa 1, [.t 16, .t 17], none⟩,
 ⟨some 19, .load 1 false, [.t 18], none⟩,
 ⟨some 20, .call n_laws_toIntS 10240, [.t 19], none⟩,
 ⟨some 21, .idxa 1, [.t 14, .t 15], none⟩,
 ⟨none, .store 1, [.t 21, .t 20], none⟩] [14, 15, 16, 17, 18, 19, 20, 21]))
 (.region false [⟨some 12, .mv, [.t 4], none⟩,
 ⟨some 13, .bin .add, [.t 12, .c (.i 1)], none⟩,
 ⟨some 4, .mv, [.t 13], none⟩] [12, 13])))
def F_laws_toIntSS_W0 : LC := .loop F_laws_toIntSS_L0
def F_laws_toIntSS : LF :=
 { nparams := 1, results := [.t 2], body :=
 (.seq
 (.region false [⟨some 2, .newnil 1032, [], none⟩] [2])
 (.seq
 (.region false [⟨some 5, .mv, [.t 0], none⟩,
 ⟨some 6, .len, [.t 5], none⟩,
 ⟨some 7, .make 3592 1 (.sl 1 []), [.t 6, .t 6], none⟩,
 ⟨some 3, .mv, [.t 7], none⟩] [5, 6, 7])
 (.seq
 (.seq
 (.region false [⟨some 4, .mv, [.c (.i 0)], none⟩] [])
 (.block 0
 F_laws_toIntSS_W0))
 (.seq
 (.region false [⟨some 22, .mv, [.t 3], none⟩,
 ⟨some 2, .mv, [.t 22], none⟩] [0, 3, 4, 22])
 .ret)))) }
/-- impl.FirstRatio -/
def F_impl_FirstRatio : LF :=
 { nparams := 4, results := [.t 8, .t 9, .t 10], body :=
 (.seq
 (.region false [⟨some 8, .mv, [.c (.i 0)], none⟩,
 ⟨some 9, .mv, [.c (.i 0)], none⟩,
 ⟨some 10, .mv, [.c (.b false)], none⟩] [8, 9, 10])
 (.seq
 (.seq
 (.region false [⟨some 12, .mv, [.t 0], none⟩,
 ⟨some 13, .call n_impl_TestsOk 6656, [.t 12], none⟩,
 ⟨some 14, .un .not, [.t 13], none⟩,
 ⟨some 15, .mv, [.t 14], none⟩,
 ⟨some 16, .mv, [.t 0], some (15, false)⟩,
 ⟨some 17, .len, [.t 16], some (15, false)⟩,
 ⟨some 18, .mv, [.t 1], some (15, false)⟩,
 ⟨some 19, .call n_impl_GroupsOk 9728, [.t 17, .t 18], some (15, false)⟩,
 ⟨some 20, .un .not, [.t 19], some (15, false)⟩,
 ⟨some 21, .pick, [.t 15, .c (.b true), .t 20], none⟩] [12, 13, 14, 15, 16, 17, 18, 19, 20])
 (.cond (.t 21) [21]
 (.seq
 (.region false [⟨some 8, .mv, [.c (.i 0)], none⟩,
 ⟨some 9, .mv, [.c (.i 0)], none⟩,
 ⟨some 10, .mv, [.c (.b false)], none⟩] [0, 1, 2, 3])
 .ret)
 .skip))
 (.seq
 (.seq
 (.region false [⟨some 22, .mv, [.t 2], none⟩,
 ⟨some 23, .mv, [.t 1], none⟩,
 ⟨some 24, .len, [.t 23], none⟩,
 ⟨some 25, .bin .sub, [.t 24, .c (.i 1)], none⟩,
 ⟨some 26, .call n_impl_isWithin 13312, [.t 22, .c (.i 0), .t 25], none⟩,
 ⟨some 27, .un .not, [.t 26], none⟩,
 ⟨some 28, .mv, [.t 27], none⟩,
 ⟨some 29, .mv, [.t 3], some (28, false)⟩,
 ⟨some 30, .mv, [.t 1], some (28, false)⟩,
 ⟨some 31, .mv, [.t 2], some (28, false)⟩,
 ⟨some 32, .idxa 1, [.t 30, .t 31], some (28, false)⟩,
 ⟨some 33, .load 1 false, [.t 32], some (28, false)⟩,
 ⟨some 34, .len, [.t 33], some (28, false)⟩,
 ⟨some 35, .call n_impl_isWithin 17920, [.t 29, .c (.i 1), .t 34], some (28, false)⟩,
 ⟨some 36, .un .not, [.t 35], some (28, false)⟩,
 ⟨some 37, .pick, [.t 28, .c (.b true), .t 36], none⟩] [22, 23, 24, 25, 26, 27, 28, 29, 30, 31, 32, 33, 34, 35, 36])
 (.cond (.t 37) [37]
 (.seq
 (.region false [⟨some 8, .mv, [.c (.i 0)], none⟩,
 ⟨some 9, .mv, [.c (.i 0)], none⟩,
 ⟨some 10, .mv, [.c (.b false)], none⟩] [0, 1, 2, 3])
 .ret)
 .skip))
 (.seq
 (.region false [⟨some 38, .mv, [.t 0], none⟩,
 ⟨some 39, .mv, [.t 1], none⟩,
 ⟨some 40, .mv, [.t 2], none⟩,
 ⟨some 41, .idxa 1, [.t 39, .t 40], none⟩,
 ⟨some 42, .load 1 false, [.t 41], none⟩,
 ⟨some 43, .mv, [.t 3], none⟩,
 ⟨some 44, .slice false true 1, [.t 42, .t 43], none⟩,
 ⟨some 45, .call n_impl_ratioOfPart 23040, [.t 38, .t 44], none⟩,
 ⟨some 11, .alloc 5648 (.st [.i 0, .i 0]), [], none⟩,
 ⟨none, .store 2, [.t 11, .t 45], none⟩] [0, 1, 2, 3, 38, 39, 40, 41, 42, 43, 44, 45])
 (.seq
 (.region true [⟨some 46, .fld 0 1 false, [.t 11], none⟩,
 ⟨some 47, .load 1 false, [.t 46], none⟩,
 ⟨some 48, .fld 1 1 false, [.t 11], none⟩,
 ⟨some 49, .load 1 false, [.t 48], none⟩,
 ⟨some 8, .mv, [.t 47], none⟩,
 ⟨some 9, .mv, [.t 49], none⟩,
 ⟨some 10, .mv, [.c (.b true)], none⟩] [11, 46, 47, 48, 49])
 .ret))))) }
/-- laws.eqTestS -/
def F_laws_eqTestS_L0 : LC :=
 (.seq
 (.seq
 (.region false [⟨some 11, .mv, [.t 5], none⟩,
 ⟨some 12, .mv, [.t 0], none⟩,
 ⟨some 13, .len, [.t 12], none⟩,
 ⟨some 14, .bin .lss, [.t 11, .t 13], none⟩] [11, 12, 13])
 (.cond (.t 14) [14]
 .skip
 (.exit 0)))
 (.seq
 (.block 1
 (.seq
 (.region true [⟨some 17, .mv, [.t 0], none⟩,
 ⟨some 18, .mv, [.t 5], none⟩,
 ⟨some 19, .idxa 2, [.t 17, .t 18], none⟩,
 ⟨some 20, .load 2 true, [.t 19], none⟩,
 ⟨some 21, .mv, [.t 1], none⟩,
 ⟨some 22, .mv, [.t 5], none⟩,
 ⟨some 23, .idxa 2, [.t 21, .t 22], none⟩,
 ⟨some 24, .load 2 true, [.t 23], none⟩,
 ⟨some 25, .call n_laws_eqTest 12800, [.t 20, .t 24], none⟩,
 ⟨some 26, .un .not, [.t 25], none⟩] [17, 18, 19, 20, 21, 22, 23, 24, 25])
 (.cond (.t 26) [26]
 (.seq
 (.region false [⟨some 4, .mv, [.c (.b false)], none⟩] [0, 1, 5])
 .ret)
 .skip)))
 (.region false [⟨some 15, .mv, [.t 5], none⟩,
 ⟨some 16, .bin .add, [.t 15, .c (.i 1)], none⟩,
 ⟨some 5, .mv, [.t 16], none⟩] [15, 16])))
def F_laws_eqTestS_W0 : LC := .loop F_laws_eqTestS_L0
def F_laws_eqTestS : LF :=
 { nparams := 2, results := [.t 4], body :=
 (.seq
 (.region false [⟨some 4, .mv, [.c (.b false)], none⟩] [4])
 (.seq
 (.seq
 (.region false [⟨some 6, .mv, [.t 0], none⟩,
 ⟨some 7, .len, [.t 6], none⟩,
 ⟨some 8, .mv, [.t 1], none⟩,
 ⟨some 9, .len, [.t 8], none⟩,
 ⟨some 10, .bin .neq, [.t 7, .t 9], none⟩] [6, 7, 8, 9])
 (.cond (.t 10) [10]
 (.seq
 (.region false [⟨some 4, .mv, [.c (.b false)], none⟩] [0, 1])
 .ret)
 .skip))
 (.seq
 (.seq
 (.region false [⟨some 5, .mv, [.c (.i 0)], none⟩] [])
 (.block 0
 F_laws_eqTestS_W0))
 (.seq
 (.region false [⟨some 4, .mv, [.c (.b true)], none⟩] [0, 1, 5])
 .ret)))) }
/-- laws.eqIntSS -/
def F_laws_eqIntSS_L0 : LC :=
 (.seq
 (.seq
 (.region false [⟨some 11, .mv, [.t 5], none⟩,
 ⟨some 12, .mv, [.t 0], none⟩,
 ⟨some 13, .len, [.t 12], none⟩,
 ⟨some 14, .bin .lss, [.t 11, .t 13], none⟩] [11, 12, 13])
 (.cond (.t 14) [14]
 .skip
 (.exit 0)))
 (.seq
 (.block 1
 (.seq
 (.region true [⟨some 17, .mv, [.t 0], none⟩,
 ⟨some 18, .mv, [.t 5], none⟩,
 ⟨some 19, .idxa 1, [.t 17, .t 18], none⟩,
 ⟨some 20, .load 1 false, [.t 19], none⟩,
 ⟨some 21, .mv, [.t 1], none⟩,
 ⟨some 22, .mv, [.t 5], none⟩,
 ⟨some 23, .idxa 1, [.t 21, .t 22], none⟩,
 ⟨some 24, .load 1 false, [.t 23], none⟩,
 ⟨some 25, .call n_laws_eqIntS 12800, [.t 20, .t 24], none⟩,
 ⟨some 26, .un .not, [.t 25], none⟩] [17, 18, 19, 20, 21, 22, 23, 24, 25])
 (.cond (.t 26) [26]
 (.seq
 (.region false [⟨some 4, .mv, [.c (.b false)], none⟩] [0, 1, 5])
 .ret)
 .skip)))
 (.region false [⟨some 15, .mv, [.t 5], none⟩,
 ⟨some 16, .bin .add, [.t 15, .c (.i 1)], none⟩,
 ⟨some 5, .mv, [.t 16], none⟩] [15, 16])))
def F_laws_eqIntSS_W0 : LC := .loop F_laws_eqIntSS_L0
def F_laws_eqIntSS : LF :=
 { nparams := 2, results := [.t 4], body :=
 (.seq
 (.region false [⟨some 4, .mv, [.c (.b false)], none⟩] [4])
 (.seq
 (.seq
 (.region false [⟨some 6, .mv, [.t 0], none⟩,
 ⟨some 7, .len, [.t 6], none⟩,
 ⟨some 8, .mv, [.t 1], none⟩,
 ⟨some 9, .len, [.t 8], none⟩,
 ⟨some 10, .bin .neq, [.t 7, .t 9], none⟩] [6, 7, 8, 9])
 (.cond (.t 10) [10]
 (.seq
 (.region false [⟨some 4, .mv, [.c (.b false)], none⟩] [0, 1])
 .ret)
 .skip))
 (.seq
 (.seq
 (.region false [⟨some 5, .mv, [.c (.i 0)], none⟩] [])
 (.block 0
 F_laws_eqIntSS_W0))
 (.seq
 (.region false [⟨some 4, .mv, [.c (.b true)], none⟩] [0, 1, 5])
 .ret)))) }
/-- spec.KeepsChains -/
def F_spec_KeepsChains_L0 : LC :=
 (.seq
 (.seq
 (.region false [⟨some 23, .mv, [.t 8], none⟩,
 ⟨some 24, .mv, [.t 2], none⟩,
 ⟨some 25, .len, [.t 24], none⟩,
 ⟨some 26, .bin .lss, [.t 23, .t 25], none⟩] [23, 24, 25])
 (.cond (.t 26) [26]
 .skip
 (.exit 0)))
 (.seq
 (.block 1
 (.region false [⟨some 29, .mv, [.t 7], none⟩,
 ⟨some 30, .mv, [.t 2], none⟩,
 ⟨some 31, .mv, [.t 8], none⟩,
 ⟨some 32, .idxa 1, [.t 30, .t 31], none⟩,
 ⟨some 33, .load 1 false, [.t 32], none⟩,
 ⟨some 34, .mv, [.t 8], none⟩,
 ⟨some 35, .idxa 1, [.t 29, .t 33], none⟩,
 ⟨none, .store 1, [.t 35, .t 34], none⟩] [29, 30, 31, 32, 33, 34, 35]))
 (.region false [⟨some 27, .mv, [.t 8], none⟩,
 ⟨some 28, .bin .add, [.t 27, .c (.i 1)], none⟩,
 ⟨some 8, .mv, [.t 28], none⟩] [27, 28])))
def F_spec_KeepsChains_W0 : LC := .loop F_spec_KeepsChains_L0
def F_spec_KeepsChains_L2 : LC :=
 (.seq
 (.seq
 (.region false [⟨some 42, .mv, [.t 10], none⟩,
 ⟨some 43, .mv, [.t 1], none⟩,
 ⟨some 44, .mv, [.t 9], none⟩,
 ⟨some 45, .idxa 1, [.t 43, .t 44], none⟩,
 ⟨some 46, .load 1 false, [.t 45], none⟩,
 ⟨some 47, .len, [.t 46], none⟩,
 ⟨some 48, .bin .lss, [.t 42, .t 47], none⟩] [42, 43, 44, 45, 46, 47])
 (.cond (.t 48) [48]
 .skip
 (.exit 4)))
 (.seq
 (.block 5
 (.seq
 (.region true [⟨some 51, .mv, [.t 7], none⟩,
 ⟨some 52, .mv, [.t 1], none⟩,
 ⟨some 53, .mv, [.t 9], none⟩,
 ⟨some 54, .idxa 1, [.t 52, .t 53], none⟩,
 ⟨some 55, .load 1 false, [.t 54], none⟩,
 ⟨some 56, .mv, [.t 10], none⟩,
 ⟨some 57, .bin .sub, [.t 56, .c (.i 1)], none⟩,
 ⟨some 58, .idxa 1, [.t 55, .t 57], none⟩,
 ⟨some 59, .load 1 false, [.t 58], none⟩,
 ⟨some 60, .idxa 1, [.t 51, .t 59], none⟩,
 ⟨some 61, .load 1 false, [.t 60], none⟩,
 ⟨some 62, .mv, [.t 7], none⟩,
 ⟨some 63, .mv, [.t 1], none⟩,
 ⟨some 64, .mv, [.t 9], none⟩,
 ⟨some 65, .idxa 1, [.t 63, .t 64], none⟩,
 ⟨some 66, .load 1 false, [.t 65], none⟩,
 ⟨some 67, .mv, [.t 10], none⟩,
 ⟨some 68, .idxa 1, [.t 66, .t 67], none⟩,
 ⟨some 69, .load 1 false, [.t 68], none⟩,
 ⟨some 70, .idxa 1, [.t 62, .t 69], none⟩,
 ⟨some 71, .load 1 false, [.t 70], none⟩,
 ⟨some 72, .bin .gtr, [.t 61, .t 71], none⟩] [51, 52, 53, 54, 55, 56, 57, 58, 59, 60, 61, 62, 63, 64, 65, 66, 67, 68, 69, 70, 71])
 (.cond (.t 72) [72]
 (.seq
 (.region false [⟨some 6, .mv, [.c (.b false)], none⟩] [1, 7, 9, 10])
 .ret)
 .skip)))
 (.region false [⟨some 49, .mv, [.t 10], none⟩,
 ⟨some 50, .bin .add, [.t 49, .c (.i 1)], none⟩,
 ⟨some 10, .mv, [.t 50], none⟩] [49, 50])))
def F_spec_KeepsChains_W2 : LC := .loop F_spec_KeepsChains_L2
def F_spec_KeepsChains_L1 : LC :=
 (.seq
 (.seq
 (.region false [⟨some 36, .mv, [.t 9], none⟩,
 ⟨some 37, .mv, [.t 1], none⟩,
 ⟨some 38, .len, [.t 37], none⟩,
 ⟨some 39, .bin .lss, [.t 36, .t 38], none⟩] [36, 37, 38])
 (.cond (.t 39) [39]
 .skip
 (.exit 2)))
 (.seq
 (.block 3
 (.seq
 (.region false [⟨some 10, .mv, [.c (.i 1)], none⟩] [])
 (.block 4
 F_spec_KeepsChains_W2)))
 (.region false [⟨some 40, .mv, [.t 9], none⟩,
 ⟨some 41, .bin .add, [.t 40, .c (.i 1)], none⟩,
 ⟨some 9, .mv, [.t 41], none⟩] [10, 40, 41])))
def F_spec_KeepsChains_W1 : LC := .loop F_spec_KeepsChains_L1
def F_spec_KeepsChains : LF :=
 { nparams := 3, results := [.t 6], body :=
 (.seq
 (.region false [⟨some 6, .mv, [.c (.b false)], none⟩] [6])
 (.seq
 (.seq
 (.region false [⟨some 11, .mv, [.t 0], none⟩,
 ⟨some 12, .mv, [.t 2], none⟩,
 ⟨some 13, .call n_spec_OrderOk 6656, [.t 11, .t 12], none⟩,
 ⟨some 14, .un .not, [.t 13], none⟩,
 ⟨some 15, .mv, [.t 14], none⟩,
 ⟨some 16, .mv, [.t 0], some (15, false)⟩,
 ⟨some 17, .mv, [.t 1], some (15, false)⟩,
 ⟨some 18, .call n_spec_GroupsOk 9216, [.t 16, .t 17], some (15, false)⟩,
 ⟨some 19, .un .not, [.t 18], some (15, false)⟩,
 ⟨some 20, .pick, [.t 15, .c (.b true), .t 19], none⟩] [11, 12, 13, 14, 15, 16, 17, 18, 19])
 (.cond (.t 20) [20]
 (.seq
 (.region false [⟨some 6, .mv, [.c (.b false)], none⟩] [0, 1, 2])
 .ret)
 .skip))
 (.seq
 (.region false [⟨some 21, .mv, [.t 0], none⟩,
 ⟨some 22, .make 11272 1 (.i 0), [.t 21, .t 21], none⟩,
 ⟨some 7, .mv, [.t 22], none⟩] [0, 21, 22])
 (.seq
 (.seq
 (.region false [⟨some 8, .mv, [.c (.i 0)], none⟩] [])
 (.block 0
 F_spec_KeepsChains_W0))
 (.seq
 (.seq
 (.region false [⟨some 9, .mv, [.c (.i 0)], none⟩] [2, 8])
 (.block 2
 F_spec_KeepsChains_W1))
 (.seq
 (.region false [⟨some 6, .mv, [.c (.b true)], none⟩] [1, 7, 9])
 .ret)))))) }
/-- laws.toIntS -/
def F_laws_toIntS_L0 : LC :=
 (.seq
 (.seq
 (.region false [⟨some 8, .mv, [.t 4], none⟩,
 ⟨some 9, .mv, [.t 0], none⟩,
 ⟨some 10, .len, [.t 9], none⟩,
 ⟨some 11, .bin .lss, [.t 8, .t 10], none⟩] [8, 9, 10])
 (.cond (.t 11) [11]
 .skip
 (.exit 0)))
 (.seq
 (.block 1
 (.region false [⟨some 14, .mv, [.t 3], none⟩,
 ⟨some 15, .mv, [.t 4], none⟩,
 ⟨some 16, .mv, [.t 0], none⟩,
 ⟨some 17, .mv, [.t 4], none⟩,
 ⟨some 18, .idxa 1, [.t 16, .t 17], none⟩,
 ⟨some 19, .load 1 false, [.t 18], none⟩,
 ⟨some 20, .idxa 1, [.t 14, .t 15], none⟩,
 ⟨none, .store 1, [.t 20, .t 19], none⟩] [14, 15, 16, 17, 18, 19, 20]))
 (.region false [⟨some 12, .mv, [.t 4], none⟩,
 ⟨some 13, .bin .add, [.t 12, .c (.i 1)], none⟩,
 ⟨some 4, .mv, [.t 13], none⟩] [12, 13])))
def F_laws_toIntS_W0 : LC := .loop F_laws_toIntS_L0
def F_laws_toIntS : LF :=
 { nparams := 1, results := [.t 2], body :=
 (.seq
 (.region false [⟨some 2, .newnil 1032, [], none⟩] [2])
 (.seq
 (.region false [⟨some 5, .mv, [.t 0], none⟩,
 ⟨some 6, .len, [.t 5], none⟩,
 ⟨some 7, .make 3592 1 (.i 0), [.t 6, .t 6], none⟩,
 ⟨some 3, .mv, [.t 7], none⟩] [5, 6, 7])
 (.seq
 (.seq
 (.region false [⟨some 4, .mv, [.c (.i 0)], none⟩] [])
 (.block 0
 F_laws_toIntS_W0))
 (.seq
 (.region false [⟨some 21, .mv, [.t 3], none⟩,
 ⟨some 2, .mv, [.t 21], none⟩] [0, 3, 4, 21])
 .ret)))) }
/-- impl.KeepsChains -/
def F_impl_KeepsChains_L0 : LC :=
 (.seq
 (.region false [⟨some 24, .bin .lss, [.t 23, .t 22], none⟩] [])
 (.seq
 (.cond (.t 24) [24]
 .skip
 (.exit 0))
 (.seq
 (.block 1
 (.seq
 (.region false [⟨some 25, .idxa 1, [.t 21, .t 23], none⟩,
 ⟨some 26, .load 1 false, [.t 25], none⟩,
 ⟨some 9, .mv, [.t 26], none⟩] [25, 26])
 (.seq
 (.region false [⟨some 27, .mv, [.t 9], none⟩,
 ⟨some 28, .mv, [.t 7], none⟩,
 ⟨some 29, .call n_slices_IsSortedFunc_int_int 14848, [.t 27, .t 28], none⟩,
 ⟨some 30, .un .not, [.t 29], none⟩] [9, 27, 28, 29])
 (.cond (.t 30) [30]
 (.seq
 (.region false [⟨some 6, .mv, [.c (.b false)], none⟩] [7, 21, 22, 23])
 .ret)
 .skip))))
 (.region false [⟨some 31, .bin .add, [.t 23, .c (.i 1)], none⟩,
 ⟨some 23, .mv, [.t 31], none⟩] [31]))))
def F_impl_KeepsChains_W0 : LC := .loop F_impl_KeepsChains_L0
def F_impl_KeepsChains : LF :=
 { nparams := 3, results := [.t 6], body :=
 (.seq
 (.region false [⟨some 5, .box 2568, [.t 2], none⟩,
 ⟨some 6, .mv, [.c (.b false)], none⟩] [2, 6])
 (.ghost (.close_ 5)
 (.seq
 (.seq
 (.region false [⟨some 10, .mv, [.t 0], none⟩,
 ⟨some 11, .load 1 false, [.t 5], none⟩,
 ⟨some 12, .call n_impl_OrderOk 6144, [.t 10, .t 11], none⟩,
 ⟨some 13, .un .not, [.t 12], none⟩,
 ⟨some 14, .mv, [.t 13], none⟩,
 ⟨some 15, .mv, [.t 0], some (14, false)⟩,
 ⟨some 16, .mv, [.t 1], some (14, false)⟩,
 ⟨some 17, .call n_impl_GroupsOk 8704, [.t 15, .t 16], some (14, false)⟩,
 ⟨some 18, .un .not, [.t 17], some (14, false)⟩,
 ⟨some 19, .pick, [.t 14, .c (.b true), .t 18], none⟩] [0, 10, 11, 12, 13, 14, 15, 16, 17, 18])
 (.cond (.t 19) [19]
 (.seq
 (.region false [⟨some 6, .mv, [.c (.b false)], none⟩] [1, 5])
 .ret)
 .skip))
 (.seq
 (.region false [⟨some 20, .mkfn (mkNo n_impl_KeepsChains_1 0), [.t 5], none⟩,
 ⟨some 7, .mv, [.t 20], none⟩] [5, 20])
 (.seq
 (.seq
 (.region false [⟨some 21, .mv, [.t 1], none⟩,
 ⟨some 22, .len, [.t 21], none⟩,
 ⟨some 23, .mv, [.c (.i 0)], none⟩] [1])
 (.block 0
 F_impl_KeepsChains_W0))
 (.seq
 (.region false [⟨some 6, .mv, [.c (.b true)], none⟩] [7, 21, 22, 23])
 .ret)))))) }
/-- laws.eqIntS -/
def F_laws_eqIntS_L0 : LC :=
 (.seq
 (.seq
 (.region false [⟨some 11, .mv, [.t 5], none⟩,
 ⟨some 12, .mv, [.t 0], none⟩,
 ⟨some 13, .len, [.t 12], none⟩,
 ⟨some 14, .bin .lss, [.t 11, .t 13], none⟩] [11, 12, 13])
 (.cond (.t 14) [14]
 .skip
 (.exit 0)))
 (.seq
 (.block 1
 (.seq
 (.region true [⟨some 17, .mv, [.t 0], none⟩,
 ⟨some 18, .mv, [.t 5], none⟩,
 ⟨some 19, .idxa 1, [.t 17, .t 18], none⟩,
 ⟨some 20, .load 1 false, [.t 19], none⟩,
 ⟨some 21, .mv, [.t 1], none⟩,
 ⟨some 22, .mv, [.t 5], none⟩,
 ⟨some 23, .idxa 1, [.t 21, .t 22], none⟩,
 ⟨some 24, .load 1 false, [.t 23], none⟩,
 ⟨some 25, .bin .neq, [.t 20, .t 24], none⟩] [17, 18, 19, 20, 21, 22, 23, 24])
 (.cond (.t 25) [25]
 (.seq
 (.region false [⟨some 4, .mv, [.c (.b false)], none⟩] [0, 1, 5])
 .ret)
 .skip)))
 (.region false [⟨some 15, .mv, [.t 5], none⟩,
 ⟨some 16, .bin .add, [.t 15, .c (.i 1)], none⟩,
 ⟨some 5, .mv, [.t 16], none⟩] [15, 16])))
def F_laws_eqIntS_W0 : LC := .loop F_laws_eqIntS_L0
def F_laws_eqIntS : LF :=
 { nparams := 2, results := [.t 4], body :=
 (.seq
 (.region false [⟨some 4, .mv, [.c (.b false)], none⟩] [4])
 (.seq
 (.seq
 (.region false [⟨some 6, .mv, [.t 0], none⟩,
 ⟨some 7, .len, [.t 6], none⟩,
 ⟨some 8, .mv, [.t 1], none⟩,
 ⟨some 9, .len, [.t 8], none⟩,
 ⟨some 10, .bin .neq, [.t 7, .t 9], none⟩] [6, 7, 8, 9])
 (.cond (.t 10) [10]
 (.seq
 (.region false [⟨some 4, .mv, [.c (.b false)], none⟩] [0, 1])
 .ret)
 .skip))
 (.seq
 (.seq
 (.region false [⟨some 5, .mv, [.c (.i 0)], none⟩] [])
 (.block 0
 F_laws_eqIntS_W0))
 (.seq
 (.region false [⟨some 4, .mv, [.c (.b true)], none⟩] [0, 1, 5])
 .ret)))) }
/-- spec.ChainBest -/
def F_spec_ChainBest : LF :=
 { nparams := 2, results := [.t 4], body :=
 (.seq
 (.region false [⟨some 4, .mv, [.c (.i 0)], none⟩] [4])
 (.seq
 (.seq
 (.region false [⟨some 5, .mv, [.t 0], none⟩,
 ⟨some 6, .call n_spec_TestsOk 3072, [.t 5], none⟩,
 ⟨some 7, .un .not, [.t 6], none⟩,
 ⟨some 8, .mv, [.t 7], none⟩,
 ⟨some 9, .mv, [.t 0], some (8, false)⟩,
 ⟨some 10, .len, [.t 9], some (8, false)⟩,
 ⟨some 11, .mv, [.t 1], some (8, false)⟩,
 ⟨some 12, .call n_spec_GroupsOk 6144, [.t 10, .t 11], some (8, false)⟩,
 ⟨some 13, .un .not, [.t 12], some (8, false)⟩,
 ⟨some 14, .pick, [.t 8, .c (.b true), .t 13], none⟩] [5, 6, 7, 8, 9, 10, 11, 12, 13])
 (.cond (.t 14) [14]
 (.seq
 (.region false [⟨some 4, .mv, [.c (.i (-1))], none⟩] [0, 1])
 .ret)
 .skip))
 (.seq
 (.region false [⟨some 15, .mv, [.t 0], none⟩,
 ⟨some 16, .mv, [.t 1], none⟩,
 ⟨some 17, .bslice 8712 0 1 (.i 0) [], [], none⟩,
 ⟨some 18, .call n_spec_l9Search 9216, [.t 15, .t 16, .t 17], none⟩,
 ⟨some 4, .mv, [.t 18], none⟩] [0, 1, 15, 16, 17, 18])
 .ret))) }
/-- impl.ChainBest -/
def F_impl_ChainBest : LF :=
 { nparams := 2, results := [.t 4], body :=
 (.seq
 (.region false [⟨some 4, .mv, [.c (.i 0)], none⟩] [4])
 (.seq
 (.seq
 (.region false [⟨some 5, .mv, [.t 0], none⟩,
 ⟨some 6, .call n_impl_TestsOk 3072, [.t 5], none⟩,
 ⟨some 7, .un .not, [.t 6], none⟩,
 ⟨some 8, .mv, [.t 7], none⟩,
 ⟨some 9, .mv, [.t 0], some (8, false)⟩,
 ⟨some 10, .len, [.t 9], some (8, false)⟩,
 ⟨some 11, .mv, [.t 1], some (8, false)⟩,
 ⟨some 12, .call n_impl_GroupsOk 6144, [.t 10, .t 11], some (8, false)⟩,
 ⟨some 13, .un .not, [.t 12], some (8, false)⟩,
 ⟨some 14, .pick, [.t 8, .c (.b true), .t 13], none⟩] [5, 6, 7, 8, 9, 10, 11, 12, 13])
 (.cond (.t 14) [14]
 (.seq
 (.region false [⟨some 4, .mv, [.c (.i (-1))], none⟩] [0, 1])
 .ret)
 .skip))
 (.seq
 (.region false [⟨some 15, .mv, [.t 0], none⟩,
 ⟨some 16, .mv, [.t 1], none⟩,
 ⟨some 17, .mv, [.t 0], none⟩,
 ⟨some 18, .len, [.t 17], none⟩,
 ⟨some 19, .call n_impl_leastAlong 9728, [.t 15, .t 16, .t 18], none⟩,
 ⟨some 4, .mv, [.t 19], none⟩] [0, 1, 15, 16, 17, 18, 19])
 .ret))) }
/-- spec.OrderOk -/
def F_spec_OrderOk_L0 : LC :=
 (.seq
 (.seq
 (.region false [⟨some 7, .mv, [.t 6], none⟩,
 ⟨some 8, .mv, [.t 1], none⟩,
 ⟨some 9, .len, [.t 8], none⟩,
 ⟨some 10, .bin .lss, [.t 7, .t 9], none⟩] [7, 8, 9])
 (.cond (.t 10) [10]
 .skip
 (.exit 0)))
 (.seq
 (.block 1
 (.seq
 (.seq
 (.region false [⟨some 13, .mv, [.t 1], none⟩,
 ⟨some 14, .mv, [.t 6], none⟩,
 ⟨some 15, .idxa 1, [.t 13, .t 14], none⟩,
 ⟨some 16, .load 1 false, [.t 15], none⟩,
 ⟨some 17, .bin .lss, [.t 16, .c (.i 0)], none⟩,
 ⟨some 18, .mv, [.t 17], none⟩,
 ⟨some 19, .mv, [.t 1], some (18, false)⟩,
 ⟨some 20, .mv, [.t 6], some (18, false)⟩,
 ⟨some 21, .idxa 1, [.t 19, .t 20], some (18, false)⟩,
 ⟨some 22, .load 1 false, [.t 21], some (18, false)⟩,
 ⟨some 23, .mv, [.t 0], some (18, false)⟩,
 ⟨some 24, .bin .geq, [.t 22, .t 23], some (18, false)⟩,
 ⟨some 25, .pick, [.t 18, .c (.b true), .t 24], none⟩,
 ⟨some 26, .mv, [.t 25], none⟩,
 ⟨some 27, .mv, [.t 1], some (26, false)⟩,
 ⟨some 28, .mv, [.t 6], some (26, false)⟩,
 ⟨some 29, .idxa 1, [.t 27, .t 28], some (26, false)⟩,
 ⟨some 30, .load 1 false, [.t 29], some (26, false)⟩,
 ⟨some 31, .bin .geq, [.t 30, .c (.i 5)], some (26, false)⟩,
 ⟨some 32, .pick, [.t 26, .c (.b true), .t 31], none⟩,
 ⟨some 33, .mv, [.t 32], none⟩,
 ⟨some 34, .mv, [.t 5], some (33, false)⟩,
 ⟨some 35, .mv, [.t 1], some (33, false)⟩,
 ⟨some 36, .mv, [.t 6], some (33, false)⟩,
 ⟨some 37, .idxa 1, [.t 35, .t 36], some (33, false)⟩,
 ⟨some 38, .load 1 false, [.t 37], some (33, false)⟩,
 ⟨some 39, .bin .shr, [.t 34, .t 38], some (33, false)⟩,
 ⟨some 40, .bin .rem, [.t 39, .c (.i 2)], some (33, false)⟩,
 ⟨some 41, .bin .eql, [.t 40, .c (.i 1)], some (33, false)⟩,
 ⟨some 42, .pick, [.t 33, .c (.b true), .t 41], none⟩] [13, 14, 15, 16, 17, 18, 19, 20, 21, 22, 23, 24, 25, 26, 27, 28, 29, 30, 31, 32, 33, 34, 35, 36, 37, 38, 39, 40, 41])
 (.cond (.t 42) [42]
 (.seq
 (.region false [⟨some 4, .mv, [.c (.b false)], none⟩] [0, 1, 5, 6])
 .ret)
 .skip))
 (.region false [⟨some 43, .mv, [.t 5], none⟩,
 ⟨some 44, .mv, [.t 1], none⟩,
 ⟨some 45, .mv, [.t 6], none⟩,
 ⟨some 46, .idxa 1, [.t 44, .t 45], none⟩,
 ⟨some 47, .load 1 false, [.t 46], none⟩,
 ⟨some 48, .bin .shl, [.c (.i 1), .t 47], none⟩,
 ⟨some 49, .bin .or, [.t 43, .t 48], none⟩,
 ⟨some 5, .mv, [.t 49], none⟩] [43, 44, 45, 46, 47, 48, 49])))
 (.region false [⟨some 11, .mv, [.t 6], none⟩,
 ⟨some 12, .bin .add, [.t 11, .c (.i 1)], none⟩,
 ⟨some 6, .mv, [.t 12], none⟩] [11, 12])))
def F_spec_OrderOk_W0 : LC := .loop F_spec_OrderOk_L0
def F_spec_OrderOk : LF :=
 { nparams := 2, results := [.t 4], body :=
 (.seq
 (.region false [⟨some 4, .mv, [.c (.b false)], none⟩] [4])
 (.seq
 (.region false [⟨some 5, .mv, [.c (.i 0)], none⟩] [])
 (.seq
 (.seq
 (.region false [⟨some 6, .mv, [.c (.i 0)], none⟩] [])
 (.block 0
 F_spec_OrderOk_W0))
 (.seq
 (.region false [⟨some 50, .mv, [.t 0], none⟩,
 ⟨some 51, .call n_spec_l1In 26112, [.t 50, .c (.i 1), .c (.i 5)], none⟩,
 ⟨some 52, .mv, [.t 51], none⟩,
 ⟨some 53, .mv, [.t 1], some (52, true)⟩,
 ⟨some 54, .len, [.t 53], some (52, true)⟩,
 ⟨some 55, .mv, [.t 0], some (52, true)⟩,
 ⟨some 56, .bin .eql, [.t 54, .t 55], some (52, true)⟩,
 ⟨some 57, .pick, [.t 52, .t 56, .c (.b false)], none⟩,
 ⟨some 4, .mv, [.t 57], none⟩] [0, 1, 5, 6, 50, 51, 52, 53, 54, 55, 56, 57])
 .ret)))) }
/-- spec.GroupsOk -/
def F_spec_GroupsOk_L1 : LC :=
 (.seq
 (.seq
 (.region false [⟨some 22, .mv, [.t 8], none⟩,
 ⟨some 23, .mv, [.t 1], none⟩,
 ⟨some 24, .mv, [.t 7], none⟩,
 ⟨some 25, .idxa 1, [.t 23, .t 24], none⟩,
 ⟨some 26, .load 1 false, [.t 25], none⟩,
 ⟨some 27, .len, [.t 26], none⟩,
 ⟨some 28, .bin .lss, [.t 22, .t 27], none⟩] [22, 23, 24, 25, 26, 27])
 (.cond (.t 28) [28]
 .skip
 (.exit 2)))
 (.seq
 (.block 3
 (.seq
 (.region false [⟨some 31, .mv, [.t 1], none⟩,
 ⟨some 32, .mv, [.t 7], none⟩,
 ⟨some 33, .idxa 1, [.t 31, .t 32], none⟩,
 ⟨some 34, .load 1 false, [.t 33], none⟩,
 ⟨some 35, .mv, [.t 8], none⟩,
 ⟨some 36, .idxa 1, [.t 34, .t 35], none⟩,
 ⟨some 37, .load 1 false, [.t 36], none⟩,
 ⟨some 9, .mv, [.t 37], none⟩] [31, 32, 33, 34, 35, 36, 37])
 (.seq
 (.seq
 (.region false [⟨some 38, .mv, [.t 9], none⟩,
 ⟨some 39, .bin .lss, [.t 38, .c (.i 0)], none⟩,
 ⟨some 40, .mv, [.t 39], none⟩,
 ⟨some 41, .mv, [.t 9], some (40, false)⟩,
 ⟨some 42, .mv, [.t 0], some (40, false)⟩,
 ⟨some 43, .bin .geq, [.t 41, .t 42], some (40, false)⟩,
 ⟨some 44, .pick, [.t 40, .c (.b true), .t 43], none⟩,
 ⟨some 45, .mv, [.t 44], none⟩,
 ⟨some 46, .mv, [.t 9], some (45, false)⟩,
 ⟨some 47, .bin .geq, [.t 46, .c (.i 5)], some (45, false)⟩,
 ⟨some 48, .pick, [.t 45, .c (.b true), .t 47], none⟩,
 ⟨some 49, .mv, [.t 48], none⟩,
 ⟨some 50, .mv, [.t 5], some (49, false)⟩,
 ⟨some 51, .mv, [.t 9], some (49, false)⟩,
 ⟨some 52, .bin .shr, [.t 50, .t 51], some (49, false)⟩,
 ⟨some 53, .bin .rem, [.t 52, .c (.i 2)], some (49, false)⟩,
 ⟨some 54, .bin .eql, [.t 53, .c (.i 1)], some (49, false)⟩,
 ⟨some 55, .pick, [.t 49, .c (.b true), .t 54], none⟩] [38, 39, 40, 41, 42, 43, 44, 45, 46, 47, 48, 49, 50, 51, 52, 53, 54])
 (.cond (.t 55) [55]
 (.seq
 (.region false [⟨some 4, .mv, [.c (.b false)], none⟩] [0, 1, 5, 6, 7, 8, 9])
 .ret)
 .skip))
 (.seq
 (.region false [⟨some 56, .mv, [.t 5], none⟩,
 ⟨some 57, .mv, [.t 9], none⟩,
 ⟨some 58, .bin .shl, [.c (.i 1), .t 57], none⟩,
 ⟨some 59, .bin .or, [.t 56, .t 58], none⟩,
 ⟨some 5, .mv, [.t 59], none⟩] [9, 56, 57, 58, 59])
 (.region false [⟨some 60, .mv, [.t 6], none⟩,
 ⟨some 61, .bin .add, [.t 60, .c (.i 1)], none⟩,
 ⟨some 6, .mv, [.t 61], none⟩] [60, 61])))))
 (.region false [⟨some 29, .mv, [.t 8], none⟩,
 ⟨some 30, .bin .add, [.t 29, .c (.i 1)], none⟩,
 ⟨some 8, .mv, [.t 30], none⟩] [29, 30])))
def F_spec_GroupsOk_W1 : LC := .loop F_spec_GroupsOk_L1
def F_spec_GroupsOk_L0 : LC :=
 (.seq
 (.seq
 (.region false [⟨some 10, .mv, [.t 7], none⟩,
 ⟨some 11, .mv, [.t 1], none⟩,
 ⟨some 12, .len, [.t 11], none⟩,
 ⟨some 13, .bin .lss, [.t 10, .t 12], none⟩] [10, 11, 12])
 (.cond (.t 13) [13]
 .skip
 (.exit 0)))
 (.seq
 (.block 1
 (.seq
 (.seq
 (.region false [⟨some 16, .mv, [.t 1], none⟩,
 ⟨some 17, .mv, [.t 7], none⟩,
 ⟨some 18, .idxa 1, [.t 16, .t 17], none⟩,
 ⟨some 19, .load 1 false, [.t 18], none⟩,
 ⟨some 20, .len, [.t 19], none⟩,
 ⟨some 21, .bin .eql, [.t 20, .c (.i 0)], none⟩] [16, 17, 18, 19, 20])
 (.cond (.t 21) [21]
 (.seq
 (.region false [⟨some 4, .mv, [.c (.b false)], none⟩] [0, 1, 5, 6, 7])
 .ret)
 .skip))
 (.seq
 (.region false [⟨some 8, .mv, [.c (.i 0)], none⟩] [])
 (.block 2
 F_spec_GroupsOk_W1))))
 (.region false [⟨some 14, .mv, [.t 7], none⟩,
 ⟨some 15, .bin .add, [.t 14, .c (.i 1)], none⟩,
 ⟨some 7, .mv, [.t 15], none⟩] [8, 14, 15])))
def F_spec_GroupsOk_W0 : LC := .loop F_spec_GroupsOk_L0
def F_spec_GroupsOk : LF :=
 { nparams := 2, results := [.t 4], body :=
 (.seq
 (.region false [⟨some 4, .mv, [.c (.b false)], none⟩] [4])
 (.seq
 (.region false [⟨some 5, .mv, [.c (.i 0)], none⟩] [])
 (.seq
 (.region false [⟨some 6, .mv, [.c (.i 0)], none⟩] [])
 (.seq
 (.seq
 (.region false [⟨some 7, .mv, [.c (.i 0)], none⟩] [])
 (.block 0
 F_spec_GroupsOk_W0))
 (.seq
 (.region false [⟨some 62, .mv, [.t 0], none⟩,
 ⟨some 63, .call n_spec_l1In 32256, [.t 62, .c (.i 1), .c (.i 5)], none⟩,
 ⟨some 64, .mv, [.t 63], none⟩,
 ⟨some 65, .mv, [.t 6], some (64, true)⟩,
 ⟨some 66, .mv, [.t 0], some (64, true)⟩,
 ⟨some 67, .bin .eql, [.t 65, .t 66], some (64, true)⟩,
 ⟨some 68, .pick, [.t 64, .t 67, .c (.b false)], none⟩,
 ⟨some 4, .mv, [.t 68], none⟩] [0, 1, 5, 6, 7, 62, 63, 64, 65, 66, 67, 68])
 .ret))))) }
/-- laws.szIntS -/
def F_laws_szIntS : LF :=
 { nparams := 2, results := [.t 4], body :=
 (.seq
 (.region false [⟨some 4, .mv, [.c (.i 0)], none⟩] [4])
 (.seq
 (.region false [⟨some 5, .mv, [.t 1], none⟩,
 ⟨some 6, .mv, [.t 0], none⟩,
 ⟨some 7, .len, [.t 6], none⟩,
 ⟨some 8, .bin .sub, [.t 5, .t 7], none⟩,
 ⟨some 1, .mv, [.t 8], none⟩] [0, 5, 6, 7, 8])
 (.seq
 (.seq
 (.region false [⟨some 9, .mv, [.t 1], none⟩,
 ⟨some 10, .bin .lss, [.t 9, .c (.i 0)], none⟩] [9])
 (.cond (.t 10) [10]
 (.seq
 (.region false [⟨some 4, .mv, [.c (.i (-1))], none⟩] [1])
 .ret)
 .skip))
 (.seq
 (.region false [⟨some 11, .mv, [.t 1], none⟩,
 ⟨some 4, .mv, [.t 11], none⟩] [1, 11])
 .ret)))) }
/-- spec.TestsOk -/
def F_spec_TestsOk_L0 : LC :=
 (.seq
 (.seq
 (.region false [⟨some 4, .mv, [.t 3], none⟩,
 ⟨some 5, .mv, [.t 0], none⟩,
 ⟨some 6, .len, [.t 5], none⟩,
 ⟨some 7, .bin .lss, [.t 4, .t 6], none⟩] [4, 5, 6])
 (.cond (.t 7) [7]
 .skip
 (.exit 0)))
 (.seq
 (.block 1
 (.seq
 (.region false [⟨some 10, .mv, [.t 0], none⟩,
 ⟨some 11, .mv, [.t 3], none⟩,
 ⟨some 12, .idxa 2, [.t 10, .t 11], none⟩,
 ⟨some 13, .fld 0 1 false, [.t 12], none⟩,
 ⟨some 14, .load 1 false, [.t 13], none⟩,
 ⟨some 15, .call n_spec_l1In 7680, [.t 14, .c (.i 1), .c (.i 9)], none⟩,
 ⟨some 16, .un .not, [.t 15], none⟩,
 ⟨some 17, .mv, [.t 16], none⟩,
 ⟨some 18, .mv, [.t 0], some (17, false)⟩,
 ⟨some 19, .mv, [.t 3], some (17, false)⟩,
 ⟨some 20, .idxa 2, [.t 18, .t 19], some (17, false)⟩,
 ⟨some 21, .fld 1 1 false, [.t 20], some (17, false)⟩,
 ⟨some 22, .load 1 false, [.t 21], some (17, false)⟩,
 ⟨some 23, .call n_spec_l1In 11776, [.t 22, .c (.i 1), .c (.i 5)], some (17, false)⟩,
 ⟨some 24, .un .not, [.t 23], some (17, false)⟩,
 ⟨some 25, .pick, [.t 17, .c (.b true), .t 24], none⟩] [10, 11, 12, 13, 14, 15, 16, 17, 18, 19, 20, 21, 22, 23, 24])
 (.cond (.t 25) [25]
 (.seq
 (.region false [⟨some 2, .mv, [.c (.b false)], none⟩] [0, 3])
 .ret)
 .skip)))
 (.region false [⟨some 8, .mv, [.t 3], none⟩,
 ⟨some 9, .bin .add, [.t 8, .c (.i 1)], none⟩,
 ⟨some 3, .mv, [.t 9], none⟩] [8, 9])))
def F_spec_TestsOk_W0 : LC := .loop F_spec_TestsOk_L0
def F_spec_TestsOk : LF :=
 { nparams := 1, results := [.t 2], body :=
 (.seq
 (.region false [⟨some 2, .mv, [.c (.b false)], none⟩] [2])
 (.seq
 (.seq
 (.region false [⟨some 3, .mv, [.c (.i 0)], none⟩] [])
 (.block 0
 F_spec_TestsOk_W0))
 (.seq
 (.region false [⟨some 26, .mv, [.t 0], none⟩,
 ⟨some 27, .len, [.t 26], none⟩,
 ⟨some 28, .call n_spec_l1In 14336, [.t 27, .c (.i 1), .c (.i 5)], none⟩,
 ⟨some 2, .mv, [.t 28], none⟩] [0, 3, 26, 27, 28])
 .ret))) }
/-- spec.l1In -/
def F_spec_l1In : LF :=
 { nparams := 3, results := [.t 6], body :=
 (.seq
 (.region false [⟨some 6, .mv, [.c (.b false)], none⟩] [6])
 (.seq
 (.region false [⟨some 7, .mv, [.t 0], none⟩,
 ⟨some 8, .mv, [.t 1], none⟩,
 ⟨some 9, .bin .geq, [.t 7, .t 8], none⟩,
 ⟨some 10, .mv, [.t 9], none⟩,
 ⟨some 11, .mv, [.t 0], some (10, true)⟩,
 ⟨some 12, .mv, [.t 2], some (10, true)⟩,
 ⟨some 13, .bin .leq, [.t 11, .t 12], some (10, true)⟩,
 ⟨some 14, .pick, [.t 10, .t 13, .c (.b false)], none⟩,
 ⟨some 6, .mv, [.t 14], none⟩] [0, 1, 2, 7, 8, 9, 10, 11, 12, 13, 14])
 .ret)) }
/-- spec.l9Ratio -/
def F_spec_l9Ratio_L0 : LC :=
 (.seq
 (.seq
 (.region false [⟨some 9, .mv, [.t 8], none⟩,
 ⟨some 10, .mv, [.t 1], none⟩,
 ⟨some 11, .len, [.t 10], none⟩,
 ⟨some 12, .bin .lss, [.t 9, .t 11], none⟩] [9, 10, 11])
 (.cond (.t 12) [12]
 .skip
 (.exit 0)))
 (.seq
 (.block 1
 (.seq
 (.region true [⟨some 15, .mv, [.t 6], none⟩,
 ⟨some 16, .mv, [.t 0], none⟩,
 ⟨some 17, .mv, [.t 1], none⟩,
 ⟨some 18, .mv, [.t 8], none⟩,
 ⟨some 19, .idxa 1, [.t 17, .t 18], none⟩,
 ⟨some 20, .load 1 false, [.t 19], none⟩,
 ⟨some 21, .idxa 2, [.t 16, .t 20], none⟩,
 ⟨some 22, .fld 0 1 false, [.t 21], none⟩,
 ⟨some 23, .load 1 false, [.t 22], none⟩,
 ⟨some 24, .mv, [.t 7], none⟩,
 ⟨some 25, .bin .mul, [.t 23, .t 24], none⟩,
 ⟨some 26, .mv, [.t 1], none⟩,
 ⟨some 27, .len, [.t 26], none⟩,
 ⟨some 28, .mv, [.t 8], none⟩,
 ⟨some 29, .bin .sub, [.t 27, .t 28], none⟩,
 ⟨some 30, .call n_spec_l1Power 15360, [.t 29], none⟩,
 ⟨some 31, .bin .mul, [.t 25, .t 30], none⟩,
 ⟨some 32, .bin .add, [.t 15, .t 31], none⟩,
 ⟨some 6, .mv, [.t 32], none⟩] [15, 16, 17, 18, 19, 20, 21, 22, 23, 24, 25, 26, 27, 28, 29, 30, 31, 32])
 (.region false [⟨some 33, .mv, [.t 7], none⟩,
 ⟨some 34, .mv, [.t 0], none⟩,
 ⟨some 35, .mv, [.t 1], none⟩,
 ⟨some 36, .mv, [.t 8], none⟩,
 ⟨some 37, .idxa 1, [.t 35, .t 36], none⟩,
 ⟨some 38, .load 1 false, [.t 37], none⟩,
 ⟨some 39, .idxa 2, [.t 34, .t 38], none⟩,
 ⟨some 40, .fld 1 1 false, [.t 39], none⟩,
 ⟨some 41, .load 1 false, [.t 40], none⟩,
 ⟨some 42, .bin .mul, [.t 33, .t 41], none⟩,
 ⟨some 7, .mv, [.t 42], none⟩] [33, 34, 35, 36, 37, 38, 39, 40, 41, 42])))
 (.region false [⟨some 13, .mv, [.t 8], none⟩,
 ⟨some 14, .bin .add, [.t 13, .c (.i 1)], none⟩,
 ⟨some 8, .mv, [.t 14], none⟩] [13, 14])))
def F_spec_l9Ratio_W0 : LC := .loop F_spec_l9Ratio_L0
def F_spec_l9Ratio : LF :=
 { nparams := 2, results := [.t 4, .t 5], body :=
 (.seq
 (.region false [⟨some 4, .mv, [.c (.i 0)], none⟩,
 ⟨some 5, .mv, [.c (.i 0)], none⟩] [4, 5])
 (.seq
 (.region false [⟨some 6, .mv, [.c (.i 0)], none⟩] [])
 (.seq
 (.region false [⟨some 7, .mv, [.c (.i 1)], none⟩] [])
 (.seq
 (.seq
 (.region false [⟨some 8, .mv, [.c (.i 0)], none⟩] [])
 (.block 0
 F_spec_l9Ratio_W0))
 (.seq
 (.region false [⟨some 43, .mv, [.t 6], none⟩,
 ⟨some 44, .mv, [.t 1], none⟩,
 ⟨some 45, .len, [.t 44], none⟩,
 ⟨some 46, .call n_spec_l1Power 23552, [.t 45], none⟩,
 ⟨some 47, .mv, [.t 7], none⟩,
 ⟨some 48, .bin .sub, [.t 46, .t 47], none⟩,
 ⟨some 4, .mv, [.t 43], none⟩,
 ⟨some 5, .mv, [.t 48], none⟩] [0, 1, 6, 7, 8, 43, 44, 45, 46, 47, 48])
 .ret))))) }
/-- laws.toTest -/
def F_laws_toTest : LF :=
 { nparams := 1, results := [.c 2 2 true], body :=
 (.seq
 (.region false [⟨some 1, .box 528, [.t 0], none⟩,
 ⟨some 2, .alloc 1040 (.st [.i 0, .i 0]), [], none⟩] [0])
 (.seq
 (.region false [⟨some 3, .alloc 1552 (.st [.i 0, .i 0]), [], none⟩] [])
 (.seq
 (.region false [⟨some 4, .fld 0 1 false, [.t 1], none⟩,
 ⟨some 5, .load 1 false, [.t 4], none⟩,
 ⟨some 6, .fld 0 1 false, [.t 3], none⟩,
 ⟨none, .store 1, [.t 6, .t 5], none⟩] [4, 5, 6])
 (.seq
 (.region false [⟨some 7, .fld 1 1 false, [.t 1], none⟩,
 ⟨some 8, .load 1 false, [.t 7], none⟩,
 ⟨some 9, .fld 1 1 false, [.t 3], none⟩,
 ⟨none, .store 1, [.t 9, .t 8], none⟩] [1, 7, 8, 9])
 (.seq
 (.region false [⟨some 10, .load 2 true, [.t 3], none⟩,
 ⟨none, .store 2, [.t 2, .t 10], none⟩] [3, 10])
 .ret))))) }
/-- impl.TestsOk -/
def F_impl_TestsOk_L0 : LC :=
 (.seq
 (.region false [⟨some 12, .bin .lss, [.t 11, .t 10], none⟩] [])
 (.seq
 (.cond (.t 12) [12]
 .skip
 (.exit 0))
 (.seq
 (.block 1
 (.seq
 (.region false [⟨some 13, .idxa 2, [.t 9, .t 11], none⟩,
 ⟨some 14, .load 2 true, [.t 13], none⟩,
 ⟨some 4, .alloc 2064 (.st [.i 0, .i 0]), [], none⟩,
 ⟨none, .store 2, [.t 4, .t 14], none⟩] [13, 14])
 (.seq
 (.region false [⟨some 15, .fld 0 1 false, [.t 4], none⟩,
 ⟨some 16, .load 1 false, [.t 15], none⟩,
 ⟨some 17, .call n_impl_isWithin 8704, [.t 16, .c (.i 1), .c (.i 9)], none⟩,
 ⟨some 18, .un .not, [.t 17], none⟩,
 ⟨some 19, .mv, [.t 18], none⟩,
 ⟨some 20, .fld 1 1 false, [.t 4], some (19, false)⟩,
 ⟨some 21, .load 1 false, [.t 20], some (19, false)⟩,
 ⟨some 22, .call n_impl_isWithin 11264, [.t 21, .c (.i 1), .c (.i 5)], some (19, false)⟩,
 ⟨some 23, .un .not, [.t 22], some (19, false)⟩,
 ⟨some 24, .pick, [.t 19, .c (.b true), .t 23], none⟩] [4, 15, 16, 17, 18, 19, 20, 21, 22, 23])
 (.cond (.t 24) [24]
 (.seq
 (.region false [⟨some 2, .mv, [.c (.b false)], none⟩] [9, 10, 11])
 .ret)
 .skip))))
 (.region false [⟨some 25, .bin .add, [.t 11, .c (.i 1)], none⟩,
 ⟨some 11, .mv, [.t 25], none⟩] [25]))))
def F_impl_TestsOk_W0 : LC := .loop F_impl_TestsOk_L0
def F_impl_TestsOk : LF :=
 { nparams := 1, results := [.t 2], body :=
 (.seq
 (.region false [⟨some 2, .mv, [.c (.b false)], none⟩] [2])
 (.seq
 (.seq
 (.region false [⟨some 5, .mv, [.t 0], none⟩,
 ⟨some 6, .len, [.t 5], none⟩,
 ⟨some 7, .call n_impl_manyOk 3584, [.t 6], none⟩,
 ⟨some 8, .un .not, [.t 7], none⟩] [5, 6, 7])
 (.cond (.t 8) [8]
 (.seq
 (.region false [⟨some 2, .mv, [.c (.b false)], none⟩] [0])
 .ret)
 .skip))
 (.seq
 (.seq
 (.region false [⟨some 9, .mv, [.t 0], none⟩,
 ⟨some 10, .len, [.t 9], none⟩,
 ⟨some 11, .mv, [.c (.i 0)], none⟩] [0])
 (.block 0
 F_impl_TestsOk_W0))
 (.seq
 (.region false [⟨some 2, .mv, [.c (.b true)], none⟩] [9, 10, 11])
 .ret)))) }
/-- impl.GroupsOk -/
def F_impl_GroupsOk_L0 : LC :=
 (.seq
 (.region false [⟨some 14, .bin .lss, [.t 13, .t 12], none⟩] [])
 (.seq
 (.cond (.t 14) [14]
 .skip
 (.exit 0))
 (.seq
 (.block 1
 (.seq
 (.region false [⟨some 15, .idxa 1, [.t 11, .t 13], none⟩,
 ⟨some 16, .load 1 false, [.t 15], none⟩,
 ⟨some 7, .mv, [.t 16], none⟩] [15, 16])
 (.seq
 (.seq
 (.region false [⟨some 17, .mv, [.t 7], none⟩,
 ⟨some 18, .len, [.t 17], none⟩,
 ⟨some 19, .mv, [.t 0], none⟩,
 ⟨some 20, .mv, [.t 5], none⟩,
 ⟨some 21, .len, [.t 20], none⟩,
 ⟨some 22, .bin .sub, [.t 19, .t 21], none⟩,
 ⟨some 23, .call n_impl_isWithin 11776, [.t 18, .c (.i 1), .t 22], none⟩,
 ⟨some 24, .un .not, [.t 23], none⟩] [17, 18, 19, 20, 21, 22, 23])
 (.cond (.t 24) [24]
 (.seq
 (.region false [⟨some 4, .mv, [.c (.b false)], none⟩] [0, 5, 7, 11, 12, 13])
 .ret)
 .skip))
 (.region false [⟨some 25, .mv, [.t 5], none⟩,
 ⟨some 26, .mv, [.t 7], none⟩,
 ⟨some 27, .app 13832 1, [.t 25, .t 26], none⟩,
 ⟨some 5, .mv, [.t 27], none⟩] [7, 25, 26, 27]))))
 (.region false [⟨some 28, .bin .add, [.t 13, .c (.i 1)], none⟩,
 ⟨some 13, .mv, [.t 28], none⟩] [28]))))
def F_impl_GroupsOk_W0 : LC := .loop F_impl_GroupsOk_L0
def F_impl_GroupsOk : LF :=
 { nparams := 2, results := [.t 4], body :=
 (.seq
 (.region false [⟨some 4, .mv, [.c (.b false)], none⟩] [4])
 (.seq
 (.seq
 (.region false [⟨some 8, .mv, [.t 0], none⟩,
 ⟨some 9, .call n_impl_manyOk 4608, [.t 8], none⟩,
 ⟨some 10, .un .not, [.t 9], none⟩] [8, 9])
 (.cond (.t 10) [10]
 (.seq
 (.region false [⟨some 4, .mv, [.c (.b false)], none⟩] [0, 1])
 .ret)
 .skip))
 (.seq
 (.region false [⟨some 5, .newnil 2568, [], none⟩] [])
 (.seq
 (.seq
 (.region false [⟨some 11, .mv, [.t 1], none⟩,
 ⟨some 12, .len, [.t 11], none⟩,
 ⟨some 13, .mv, [.c (.i 0)], none⟩] [1])
 (.block 0
 F_impl_GroupsOk_W0))
 (.seq
 (.region false [⟨some 29, .mv, [.t 0], none⟩,
 ⟨some 30, .mv, [.t 5], none⟩,
 ⟨some 31, .call n_impl_OrderOk 15872, [.t 29, .t 30], none⟩,
 ⟨some 4, .mv, [.t 31], none⟩] [0, 5, 11, 12, 13, 29, 30, 31])
 .ret))))) }
/-- impl.isWithin -/
def F_impl_isWithin : LF :=
 { nparams := 3, results := [.t 6], body :=
 (.seq
 (.region false [⟨some 6, .mv, [.c (.b false)], none⟩] [6])
 (.seq
 (.region false [⟨some 7, .mv, [.t 1], none⟩,
 ⟨some 8, .mv, [.t 0], none⟩,
 ⟨some 9, .bin .leq, [.t 7, .t 8], none⟩,
 ⟨some 10, .mv, [.t 9], none⟩,
 ⟨some 11, .mv, [.t 0], some (10, true)⟩,
 ⟨some 12, .mv, [.t 2], some (10, true)⟩,
 ⟨some 13, .bin .leq, [.t 11, .t 12], some (10, true)⟩,
 ⟨some 14, .pick, [.t 10, .t 13, .c (.b false)], none⟩,
 ⟨some 6, .mv, [.t 14], none⟩] [0, 1, 2, 7, 8, 9, 10, 11, 12, 13, 14])
 .ret)) }
/-- impl.ratioOfPart -/
def F_impl_ratioOfPart_L0 : LC :=
 (.seq
 (.region false [⟨some 12, .bin .lss, [.t 11, .t 10], none⟩] [])
 (.seq
 (.cond (.t 12) [12]
 .skip
 (.exit 0))
 (.seq
 (.block 1
 (.seq
 (.region false [⟨some 13, .idxa 1, [.t 9, .t 11], none⟩,
 ⟨some 14, .load 1 false, [.t 13], none⟩,
 ⟨some 8, .mv, [.t 14], none⟩] [13, 14])
 (.seq
 (.region false [⟨some 15, .mv, [.t 5], none⟩,
 ⟨some 16, .mv, [.t 0], none⟩,
 ⟨some 17, .mv, [.t 8], none⟩,
 ⟨some 18, .idxa 2, [.t 16, .t 17], none⟩,
 ⟨some 19, .fld 0 1 false, [.t 18], none⟩,
 ⟨some 20, .load 1 false, [.t 19], none⟩,
 ⟨some 21, .mv, [.t 6], none⟩,
 ⟨some 22, .bin .mul, [.t 20, .t 21], none⟩,
 ⟨some 23, .bin .add, [.t 15, .t 22], none⟩,
 ⟨some 24, .bin .mul, [.c (.i 6), .t 23], none⟩,
 ⟨some 5, .mv, [.t 24], none⟩] [15, 16, 17, 18, 19, 20, 21, 22, 23, 24])
 (.region false [⟨some 25, .mv, [.t 6], none⟩,
 ⟨some 26, .mv, [.t 0], none⟩,
 ⟨some 27, .mv, [.t 8], none⟩,
 ⟨some 28, .idxa 2, [.t 26, .t 27], none⟩,
 ⟨some 29, .fld 1 1 false, [.t 28], none⟩,
 ⟨some 30, .load 1 false, [.t 29], none⟩,
 ⟨some 31, .bin .mul, [.t 25, .t 30], none⟩,
 ⟨some 6, .mv, [.t 31], none⟩] [8, 25, 26, 27, 28, 29, 30, 31]))))
 (.region false [⟨some 32, .bin .add, [.t 11, .c (.i 1)], none⟩,
 ⟨some 11, .mv, [.t 32], none⟩] [32]))))
def F_impl_ratioOfPart_W0 : LC := .loop F_impl_ratioOfPart_L0
def F_impl_ratioOfPart : LF :=
 { nparams := 2, results := [.c 4 2 true], body :=
 (.seq
 (.region false [⟨some 4, .alloc 2064 (.st [.i 0, .i 0]), [], none⟩] [])
 (.seq
 (.region false [⟨some 5, .mv, [.c (.i 0)], none⟩,
 ⟨some 6, .mv, [.c (.i 1)], none⟩] [])
 (.seq
 (.seq
 (.region false [⟨some 9, .mv, [.t 1], none⟩,
 ⟨some 10, .len, [.t 9], none⟩,
 ⟨some 11, .mv, [.c (.i 0)], none⟩] [])
 (.block 0
 F_impl_ratioOfPart_W0))
 (.seq
 (.region false [⟨some 33, .mv, [.t 5], none⟩,
 ⟨some 34, .mv, [.t 1], none⟩,
 ⟨some 35, .len, [.t 34], none⟩,
 ⟨some 36, .call n_impl_wholeOf 18432, [.t 35], none⟩,
 ⟨some 37, .mv, [.t 6], none⟩,
 ⟨some 38, .bin .sub, [.t 36, .t 37], none⟩,
 ⟨some 39, .build [.i 0, .i 0] [(0, 1), (1, 1)], [.t 33, .t 38], none⟩,
 ⟨none, .store 2, [.t 4, .t 39], none⟩] [0, 1, 5, 6, 9, 10, 11, 33, 34, 35, 36, 37, 38, 39])
 .ret)))) }
/-- laws.eqTest -/
def F_laws_eqTest : LF :=
 { nparams := 2, results := [.t 4], body :=
 (.seq
 (.region false [⟨some 2, .box 1040, [.t 0], none⟩,
 ⟨some 3, .box 1552, [.t 1], none⟩,
 ⟨some 4, .mv, [.c (.b false)], none⟩] [0, 1, 4])
 (.seq
 (.seq
 (.region false [⟨some 5, .fld 0 1 false, [.t 2], none⟩,
 ⟨some 6, .load 1 false, [.t 5], none⟩,
 ⟨some 7, .fld 0 1 false, [.t 3], none⟩,
 ⟨some 8, .load 1 false, [.t 7], none⟩,
 ⟨some 9, .bin .neq, [.t 6, .t 8], none⟩] [5, 6, 7, 8])
 (.cond (.t 9) [9]
 (.seq
 (.region false [⟨some 4, .mv, [.c (.b false)], none⟩] [2, 3])
 .ret)
 .skip))
 (.seq
 (.seq
 (.region false [⟨some 10, .fld 1 1 false, [.t 2], none⟩,
 ⟨some 11, .load 1 false, [.t 10], none⟩,
 ⟨some 12, .fld 1 1 false, [.t 3], none⟩,
 ⟨some 13, .load 1 false, [.t 12], none⟩,
 ⟨some 14, .bin .neq, [.t 11, .t 13], none⟩] [2, 3, 10, 11, 12, 13])
 (.cond (.t 14) [14]
 (.seq
 (.region false [⟨some 4, .mv, [.c (.b false)], none⟩] [])
 .ret)
 .skip))
 (.seq
 (.region false [⟨some 4, .mv, [.c (.b true)], none⟩] [])
 .ret)))) }
/-- impl.OrderOk -/
def F_impl_OrderOk_L0 : LC :=
 (.seq
 (.region false [⟨some 20, .bin .lss, [.t 19, .t 18], none⟩] [])
 (.seq
 (.cond (.t 20) [20]
 .skip
 (.exit 0))
 (.seq
 (.block 1
 (.seq
 (.region false [⟨some 21, .idxa 1, [.t 17, .t 19], none⟩,
 ⟨some 22, .load 1 false, [.t 21], none⟩,
 ⟨some 7, .mv, [.t 22], none⟩] [21, 22])
 (.seq
 (.seq
 (.region false [⟨some 23, .mv, [.t 7], none⟩,
 ⟨some 24, .mv, [.t 0], none⟩,
 ⟨some 25, .bin .sub, [.t 24, .c (.i 1)], none⟩,
 ⟨some 26, .call n_impl_isWithin 13312, [.t 23, .c (.i 0), .t 25], none⟩,
 ⟨some 27, .un .not, [.t 26], none⟩,
 ⟨some 28, .mv, [.t 27], none⟩,
 ⟨some 29, .mv, [.t 5], some (28, false)⟩,
 ⟨some 30, .mv, [.t 7], some (28, false)⟩,
 ⟨some 31, .call n_impl_hasTest 15872, [.t 29, .t 30], some (28, false)⟩,
 ⟨some 32, .pick, [.t 28, .c (.b true), .t 31], none⟩] [23, 24, 25, 26, 27, 28, 29, 30, 31])
 (.cond (.t 32) [32]
 (.seq
 (.region false [⟨some 4, .mv, [.c (.b false)], none⟩] [0, 5, 7, 17, 18, 19])
 .ret)
 .skip))
 (.region false [⟨some 33, .mv, [.t 5], none⟩,
 ⟨some 34, .mv, [.t 7], none⟩,
 ⟨some 35, .bin .shl, [.c (.i 1), .t 34], none⟩,
 ⟨some 36, .bin .or, [.t 33, .t 35], none⟩,
 ⟨some 5, .mv, [.t 36], none⟩] [7, 33, 34, 35, 36]))))
 (.region false [⟨some 37, .bin .add, [.t 19, .c (.i 1)], none⟩,
 ⟨some 19, .mv, [.t 37], none⟩] [37]))))
def F_impl_OrderOk_W0 : LC := .loop F_impl_OrderOk_L0
def F_impl_OrderOk : LF :=
 { nparams := 2, results := [.t 4], body :=
 (.seq
 (.region false [⟨some 4, .mv, [.c (.b false)], none⟩] [4])
 (.seq
 (.seq
 (.region false [⟨some 8, .mv, [.t 0], none⟩,
 ⟨some 9, .call n_impl_manyOk 4608, [.t 8], none⟩,
 ⟨some 10, .un .not, [.t 9], none⟩,
 ⟨some 11, .mv, [.t 10], none⟩,
 ⟨some 12, .mv, [.t 1], some (11, false)⟩,
 ⟨some 13, .len, [.t 12], some (11, false)⟩,
 ⟨some 14, .mv, [.t 0], some (11, false)⟩,
 ⟨some 15, .bin .neq, [.t 13, .t 14], some (11, false)⟩,
 ⟨some 16, .pick, [.t 11, .c (.b true), .t 15], none⟩] [8, 9, 10, 11, 12, 13, 14, 15])
 (.cond (.t 16) [16]
 (.seq
 (.region false [⟨some 4, .mv, [.c (.b false)], none⟩] [0, 1])
 .ret)
 .skip))
 (.seq
 (.region false [⟨some 5, .mv, [.c (.i 0)], none⟩] [])
 (.seq
 (.seq
 (.region false [⟨some 17, .mv, [.t 1], none⟩,
 ⟨some 18, .len, [.t 17], none⟩,
 ⟨some 19, .mv, [.c (.i 0)], none⟩] [1])
 (.block 0
 F_impl_OrderOk_W0))
 (.seq
 (.region false [⟨some 4, .mv, [.c (.b true)], none⟩] [0, 5, 17, 18, 19])
 .ret))))) }
/-- impl.KeepsChains$1 -/
def F_impl_KeepsChains_1 : LF :=
 { nparams := 3, results := [.t 5], body :=
 (.seq
 (.region false [⟨some 5, .mv, [.c (.i 0)], none⟩] [5])
 (.seq
 (.region true [⟨some 6, .load 1 false, [.t 2], none⟩,
 ⟨some 7, .mv, [.t 0], none⟩,
 ⟨some 8, .call n_slices_Index_int_int 4096, [.t 6, .t 7], none⟩,
 ⟨some 9, .load 1 false, [.t 2], none⟩,
 ⟨some 10, .mv, [.t 1], none⟩,
 ⟨some 11, .call n_slices_Index_int_int 5632, [.t 9, .t 10], none⟩,
 ⟨some 12, .bin .sub, [.t 8, .t 11], none⟩,
 ⟨some 5, .mv, [.t 12], none⟩] [0, 1, 2, 6, 7, 8, 9, 10, 11, 12])
 .ret)) }
/-- slices.Index[[]int,int] -/
def F_slices_Index_int_int_L0 : LC :=
 (.seq
 (.region false [⟨some 9, .bin .lss, [.t 8, .t 7], none⟩] [])
 (.seq
 (.cond (.t 9) [9]
 .skip
 (.exit 0))
 (.seq
 (.block 1
 (.seq
 (.region false [⟨some 10, .mv, [.t 8], none⟩,
 ⟨some 5, .mv, [.t 10], none⟩] [10])
 (.seq
 (.region false [⟨some 11, .mv, [.t 1], none⟩,
 ⟨some 12, .mv, [.t 0], none⟩,
 ⟨some 13, .mv, [.t 5], none⟩,
 ⟨some 14, .idxa 1, [.t 12, .t 13], none⟩,
 ⟨some 15, .load 1 false, [.t 14], none⟩,
 ⟨some 16, .bin .eql, [.t 11, .t 15], none⟩] [11, 12, 13, 14, 15])
 (.cond (.t 16) [16]
 (.seq
 (.region false [⟨some 17, .mv, [.t 5], none⟩,
 ⟨some 4, .mv, [.t 17], none⟩] [0, 1, 5, 7, 8, 17])
 .ret)
 .skip))))
 (.region false [⟨some 18, .bin .add, [.t 8, .c (.i 1)], none⟩,
 ⟨some 8, .mv, [.t 18], none⟩] [5, 18]))))
def F_slices_Index_int_int_W0 : LC := .loop F_slices_Index_int_int_L0
def F_slices_Index_int_int : LF :=
 { nparams := 2, results := [.t 4], body :=
 (.seq
 (.region false [⟨some 4, .mv, [.c (.i 0)], none⟩] [4])
 (.seq
 (.seq
 (.region false [⟨some 6, .mv, [.t 0], none⟩,
 ⟨some 7, .len, [.t 6], none⟩,
 ⟨some 8, .mv, [.c (.i 0)], none⟩] [6])
 (.block 0
 F_slices_Index_int_int_W0))
 (.seq
 (.region false [⟨some 4, .mv, [.c (.i (-1))], none⟩] [0, 1, 7, 8])
 .ret))) }
/-- slices.IsSortedFunc[[]int,int] -/
def F_slices_IsSortedFunc_int_int_L0 : LC :=
 (.seq
 (.seq
 (.region false [⟨some 9, .mv, [.t 5], none⟩,
 ⟨some 10, .bin .gtr, [.t 9, .c (.i 0)], none⟩] [9])
 (.cond (.t 10) [10]
 .skip
 (.exit 0)))
 (.seq
 (.block 1
 (.seq
 (.region true [⟨some 13, .mv, [.t 1], none⟩,
 ⟨some 14, .mv, [.t 0], none⟩,
 ⟨some 15, .mv, [.t 5], none⟩,
 ⟨some 16, .idxa 1, [.t 14, .t 15], none⟩,
 ⟨some 17, .load 1 false, [.t 16], none⟩,
 ⟨some 18, .mv, [.t 0], none⟩,
 ⟨some 19, .mv, [.t 5], none⟩,
 ⟨some 20, .bin .sub, [.t 19, .c (.i 1)], none⟩,
 ⟨some 21, .idxa 1, [.t 18, .t 20], none⟩,
 ⟨some 22, .load 1 false, [.t 21], none⟩,
 ⟨some 23, .calld 11776, [.t 13, .t 17, .t 22], none⟩,
 ⟨some 24, .bin .lss, [.t 23, .c (.i 0)], none⟩] [13, 14, 15, 16, 17, 18, 19, 20, 21, 22, 23])
 (.cond (.t 24) [24]
 (.seq
 (.region false [⟨some 4, .mv, [.c (.b false)], none⟩] [0, 1, 5])
 .ret)
 .skip)))
 (.region false [⟨some 11, .mv, [.t 5], none⟩,
 ⟨some 12, .bin .sub, [.t 11, .c (.i 1)], none⟩,
 ⟨some 5, .mv, [.t 12], none⟩] [11, 12])))
def F_slices_IsSortedFunc_int_int_W0 : LC := .loop F_slices_IsSortedFunc_int_int_L0
def F_slices_IsSortedFunc_int_int : LF :=
 { nparams := 2, results := [.t 4], body :=
 (.seq
 (.region false [⟨some 4, .mv, [.c (.b false)], none⟩] [4])
 (.seq
 (.seq
 (.region false [⟨some 6, .mv, [.t 0], none⟩,
 ⟨some 7, .len, [.t 6], none⟩,
 ⟨some 8, .bin .sub, [.t 7, .c (.i 1)], none⟩,
 ⟨some 5, .mv, [.t 8], none⟩] [6, 7, 8])
 (.block 0
 F_slices_IsSortedFunc_int_int_W0))
 (.seq
 (.region false [⟨some 4, .mv, [.c (.b true)], none⟩] [0, 1, 5])
 .ret))) }
/-- impl.behindPart -/
def F_impl_behindPart : LF :=
 { nparams := 2, results := [.t 4], body :=
 (.seq
 (.region false [⟨some 3, .box 1552, [.t 1], none⟩,
 ⟨some 4, .newnil 2056, [], none⟩] [1, 4])
 (.seq
 (.region false [⟨some 6, .mv, [.t 0], none⟩,
 ⟨some 7, .call n_slices_Clone_int_int 3584, [.t 6], none⟩,
 ⟨some 5, .mv, [.t 7], none⟩] [0, 6, 7])
 (.seq
 (.region true [⟨some 8, .mv, [.t 5], none⟩,
 ⟨some 9, .fld 0 1 false, [.t 3], none⟩,
 ⟨some 10, .load 1 false, [.t 9], none⟩,
 ⟨some 11, .mv, [.t 5], none⟩,
 ⟨some 12, .fld 0 1 false, [.t 3], none⟩,
 ⟨some 13, .load 1 false, [.t 12], none⟩,
 ⟨some 14, .idxa 1, [.t 11, .t 13], none⟩,
 ⟨some 15, .load 1 false, [.t 14], none⟩,
 ⟨some 16, .fld 1 1 false, [.t 3], none⟩,
 ⟨some 17, .load 1 false, [.t 16], none⟩,
 ⟨some 18, .slice true false 1, [.t 15, .t 17], none⟩,
 ⟨some 19, .idxa 1, [.t 8, .t 10], none⟩,
 ⟨none, .store 1, [.t 19, .t 18], none⟩] [3, 8, 9, 10, 11, 12, 13, 14, 15, 16, 17, 18, 19])
 (.seq
 (.ghost (.freeze 5)
 (.region false [⟨some 20, .mv, [.t 5], none⟩,
 ⟨some 4, .mv, [.t 20], none⟩] [5, 20]))
 .ret)))) }
/-- spec.l9Search -/
def F_spec_l9Search_L2 : LC :=
 (.seq
 (.seq
 (.region false [⟨some 33, .mv, [.t 11], none⟩,
 ⟨some 34, .mv, [.t 1], none⟩,
 ⟨some 35, .mv, [.t 8], none⟩,
 ⟨some 36, .idxa 1, [.t 34, .t 35], none⟩,
 ⟨some 37, .load 1 false, [.t 36], none⟩,
 ⟨some 38, .len, [.t 37], none⟩,
 ⟨some 39, .bin .lss, [.t 33, .t 38], none⟩] [33, 34, 35, 36, 37, 38])
 (.cond (.t 39) [39]
 .skip
 (.exit 4)))
 (.seq
 (.block 5
 (.seq
 (.region true [⟨some 42, .mv, [.t 1], none⟩,
 ⟨some 43, .mv, [.t 8], none⟩,
 ⟨some 44, .idxa 1, [.t 42, .t 43], none⟩,
 ⟨some 45, .load 1 false, [.t 44], none⟩,
 ⟨some 46, .mv, [.t 11], none⟩,
 ⟨some 47, .idxa 1, [.t 45, .t 46], none⟩,
 ⟨some 48, .load 1 false, [.t 47], none⟩,
 ⟨some 49, .mv, [.t 2], none⟩,
 ⟨some 50, .mv, [.t 10], none⟩,
 ⟨some 51, .idxa 1, [.t 49, .t 50], none⟩,
 ⟨some 52, .load 1 false, [.t 51], none⟩,
 ⟨some 53, .bin .eql, [.t 48, .t 52], none⟩] [42, 43, 44, 45, 46, 47, 48, 49, 50, 51, 52])
 (.cond (.t 53) [53]
 (.region false [⟨some 54, .mv, [.t 9], none⟩,
 ⟨some 55, .bin .add, [.t 54, .c (.i 1)], none⟩,
 ⟨some 9, .mv, [.t 55], none⟩] [54, 55])
 .skip)))
 (.region false [⟨some 40, .mv, [.t 11], none⟩,
 ⟨some 41, .bin .add, [.t 40, .c (.i 1)], none⟩,
 ⟨some 11, .mv, [.t 41], none⟩] [40, 41])))
def F_spec_l9Search_W2 : LC := .loop F_spec_l9Search_L2
def F_spec_l9Search_L1 : LC :=
 (.seq
 (.seq
 (.region false [⟨some 27, .mv, [.t 10], none⟩,
 ⟨some 28, .mv, [.t 2], none⟩,
 ⟨some 29, .len, [.t 28], none⟩,
 ⟨some 30, .bin .lss, [.t 27, .t 29], none⟩] [27, 28, 29])
 (.cond (.t 30) [30]
 .skip
 (.exit 2)))
 (.seq
 (.block 3
 (.seq
 (.region false [⟨some 11, .mv, [.c (.i 0)], none⟩] [])
 (.block 4
 F_spec_l9Search_W2)))
 (.region false [⟨some 31, .mv, [.t 10], none⟩,
 ⟨some 32, .bin .add, [.t 31, .c (.i 1)], none⟩,
 ⟨some 10, .mv, [.t 32], none⟩] [11, 31, 32])))
def F_spec_l9Search_W1 : LC := .loop F_spec_l9Search_L1
def F_spec_l9Search_L0 : LC :=
 (.seq
 (.seq
 (.region false [⟨some 21, .mv, [.t 8], none⟩,
 ⟨some 22, .mv, [.t 1], none⟩,
 ⟨some 23, .len, [.t 22], none⟩,
 ⟨some 24, .bin .lss, [.t 21, .t 23], none⟩] [21, 22, 23])
 (.cond (.t 24) [24]
 .skip
 (.exit 0)))
 (.seq
 (.block 1
 (.seq
 (.region false [⟨some 9, .mv, [.c (.i 0)], none⟩] [])
 (.seq
 (.seq
 (.region false [⟨some 10, .mv, [.c (.i 0)], none⟩] [])
 (.block 2
 F_spec_l9Search_W1))
 (.seq
 (.seq
 (.region false [⟨some 56, .mv, [.t 9], none⟩,
 ⟨some 57, .mv, [.t 1], none⟩,
 ⟨some 58, .mv, [.t 8], none⟩,
 ⟨some 59, .idxa 1, [.t 57, .t 58], none⟩,
 ⟨some 60, .load 1 false, [.t 59], none⟩,
 ⟨some 61, .len, [.t 60], none⟩,
 ⟨some 62, .bin .eql, [.t 56, .t 61], none⟩] [10, 56, 57, 58, 59, 60, 61])
 (.cond (.t 62) [62]
 (.exit 1)
 .skip))
 (.seq
 (.region true [⟨some 63, .mv, [.t 0], none⟩,
 ⟨some 64, .mv, [.t 1], none⟩,
 ⟨some 65, .bslice 33288 0 1 (.i 0) [], [], none⟩,
 ⟨some 66, .mv, [.t 2], none⟩,
 ⟨some 67, .app 34312 1, [.t 65, .t 66], none⟩,
 ⟨some 68, .mv, [.t 1], none⟩,
 ⟨some 69, .mv, [.t 8], none⟩,
 ⟨some 70, .idxa 1, [.t 68, .t 69], none⟩,
 ⟨some 71, .load 1 false, [.t 70], none⟩,
 ⟨some 72, .mv, [.t 9], none⟩,
 ⟨some 73, .idxa 1, [.t 71, .t 72], none⟩,
 ⟨some 74, .load 1 false, [.t 73], none⟩,
 ⟨some 75, .bslice 38408 1 1 (.i 0) [0], [.t 74], none⟩,
 ⟨some 76, .app 38920 1, [.t 67, .t 75], none⟩,
 ⟨some 77, .call n_spec_l9Search 39424, [.t 63, .t 64, .t 76], none⟩,
 ⟨some 12, .mv, [.t 77], none⟩] [9, 63, 64, 65, 66, 67, 68, 69, 70, 71, 72, 73, 74, 75, 76, 77])
 (.seq
 (.region false [⟨some 78, .mv, [.t 7], none⟩,
 ⟨some 79, .bin .lss, [.t 78, .c (.i 0)], none⟩,
 ⟨some 80, .mv, [.t 79], none⟩,
 ⟨some 81, .mv, [.t 12], some (80, false)⟩,
 ⟨some 82, .mv, [.t 7], some (80, false)⟩,
 ⟨some 83, .bin .lss, [.t 81, .t 82], some (80, false)⟩,
 ⟨some 84, .pick, [.t 80, .c (.b true), .t 83], none⟩] [78, 79, 80, 81, 82, 83])
 (.cond (.t 84) [84]
 (.region false [⟨some 85, .mv, [.t 12], none⟩,
 ⟨some 7, .mv, [.t 85], none⟩] [12, 85])
 .skip)))))))
 (.region false [⟨some 25, .mv, [.t 8], none⟩,
 ⟨some 26, .bin .add, [.t 25, .c (.i 1)], none⟩,
 ⟨some 8, .mv, [.t 26], none⟩] [9, 12, 25, 26])))
def F_spec_l9Search_W0 : LC := .loop F_spec_l9Search_L0
def F_spec_l9Search : LF :=
 { nparams := 3, results := [.t 6], body :=
 (.seq
 (.region false [⟨some 6, .mv, [.c (.i 0)], none⟩] [6])
 (.seq
 (.seq
 (.region false [⟨some 13, .mv, [.t 2], none⟩,
 ⟨some 14, .len, [.t 13], none⟩,
 ⟨some 15, .mv, [.t 0], none⟩,
 ⟨some 16, .len, [.t 15], none⟩,
 ⟨some 17, .bin .eql, [.t 14, .t 16], none⟩] [13, 14, 15, 16])
 (.cond (.t 17) [17]
 (.seq
 (.region false [⟨some 18, .mv, [.t 0], none⟩,
 ⟨some 19, .mv, [.t 2], none⟩,
 ⟨some 20, .call n_spec_RowAverage 10240, [.t 18, .t 19, .c (.i 0)], none⟩,
 ⟨some 6, .mv, [.t 20], none⟩] [0, 1, 2, 18, 19, 20])
 .ret)
 .skip))
 (.seq
 (.region false [⟨some 7, .mv, [.c (.i (-1))], none⟩] [])
 (.seq
 (.seq
 (.region false [⟨some 8, .mv, [.c (.i 0)], none⟩] [])
 (.block 0
 F_spec_l9Search_W0))
 (.seq
 (.region false [⟨some 86, .mv, [.t 7], none⟩,
 ⟨some 6, .mv, [.t 86], none⟩] [0, 1, 2, 7, 8, 86])
 .ret))))) }
/-- impl.leastAlong -/
def F_impl_leastAlong_L0 : LC :=
 (.seq
 (.region false [⟨some 15, .bin .lss, [.t 14, .t 13], none⟩] [])
 (.seq
 (.cond (.t 15) [15]
 .skip
 (.exit 0))
 (.seq
 (.block 1
 (.seq
 (.region false [⟨some 16, .mv, [.t 14], none⟩,
 ⟨some 17, .idxa 1, [.t 12, .t 14], none⟩,
 ⟨some 18, .load 1 false, [.t 17], none⟩,
 ⟨some 8, .mv, [.t 16], none⟩,
 ⟨some 9, .mv, [.t 18], none⟩] [16, 17, 18])
 (.seq
 (.seq
 (.region false [⟨some 19, .mv, [.t 9], none⟩,
 ⟨some 20, .len, [.t 19], none⟩,
 ⟨some 21, .bin .eql, [.t 20, .c (.i 0)], none⟩] [19, 20])
 (.cond (.t 21) [21]
 (.exit 1)
 .skip))
 (.seq
 (.region false [⟨some 22, .mv, [.t 1], none⟩,
 ⟨some 23, .mv, [.t 8], none⟩,
 ⟨some 24, .build [.i 0, .i 0] [(0, 1), (1, 1)], [.t 23, .c (.i 1)], none⟩,
 ⟨some 25, .call n_impl_behindPart 12800, [.t 22, .t 24], none⟩,
 ⟨some 10, .mv, [.t 25], none⟩] [8, 22, 23, 24, 25])
 (.seq
 (.region true [⟨some 26, .mv, [.t 0], none⟩,
 ⟨some 27, .mv, [.t 9], none⟩,
 ⟨some 28, .idxa 1, [.t 27, .c (.i 0)], none⟩,
 ⟨some 29, .load 1 false, [.t 28], none⟩,
 ⟨some 30, .idxa 2, [.t 26, .t 29], none⟩,
 ⟨some 31, .load 2 true, [.t 30], none⟩,
 ⟨some 32, .mv, [.t 2], none⟩,
 ⟨some 33, .mv, [.t 0], none⟩,
 ⟨some 34, .mv, [.t 10], none⟩,
 ⟨some 35, .mv, [.t 2], none⟩,
 ⟨some 36, .bin .sub, [.t 35, .c (.i 1)], none⟩,
 ⟨some 37, .call n_impl_leastAlong 18944, [.t 33, .t 34, .t 36], none⟩,
 ⟨some 38, .call n_impl_averageAsking 19456, [.t 31, .t 32, .c (.i 0), .t 37], none⟩,
 ⟨some 11, .mv, [.t 38], none⟩] [9, 10, 26, 27, 28, 29, 30, 31, 32, 33, 34, 35, 36, 37, 38])
 (.seq
 (.region false [⟨some 39, .mv, [.t 7], none⟩,
 ⟨some 40, .bin .eql, [.t 39, .c (.i 0)], none⟩,
 ⟨some 41, .mv, [.t 40], none⟩,
 ⟨some 42, .mv, [.t 11], some (41, false)⟩,
 ⟨some 43, .mv, [.t 7], some (41, false)⟩,
 ⟨some 44, .bin .lss, [.t 42, .t 43], some (41, false)⟩,
 ⟨some 45, .pick, [.t 41, .c (.b true), .t 44], none⟩] [39, 40, 41, 42, 43, 44])
 (.cond (.t 45) [45]
 (.region false [⟨some 46, .mv, [.t 11], none⟩,
 ⟨some 7, .mv, [.t 46], none⟩] [11, 46])
 .skip)))))))
 (.region false [⟨some 47, .bin .add, [.t 14, .c (.i 1)], none⟩,
 ⟨some 14, .mv, [.t 47], none⟩] [8, 9, 11, 47]))))
def F_impl_leastAlong_W0 : LC := .loop F_impl_leastAlong_L0
def F_impl_leastAlong : LF :=
 { nparams := 3, results := [.t 6], body :=
 (.seq
 (.region false [⟨some 6, .mv, [.c (.i 0)], none⟩] [6])
 (.seq
 (.region false [⟨some 7, .mv, [.c (.i 0)], none⟩] [])
 (.seq
 (.seq
 (.region false [⟨some 12, .mv, [.t 1], none⟩,
 ⟨some 13, .len, [.t 12], none⟩,
 ⟨some 14, .mv, [.c (.i 0)], none⟩] [])
 (.block 0
 F_impl_leastAlong_W0))
 (.seq
 (.region false [⟨some 48, .mv, [.t 7], none⟩,
 ⟨some 6, .mv, [.t 48], none⟩] [0, 1, 2, 7, 12, 13, 14, 48])
 .ret)))) }
/-- impl.wholeOf -/
def F_impl_wholeOf_L0 : LC :=
 (.seq
 (.region false [⟨some 6, .bin .lss, [.t 5, .t 4], none⟩] [])
 (.seq
 (.cond (.t 6) [6]
 .skip
 (.exit 0))
 (.seq
 (.block 1
 (.region false [⟨some 7, .mv, [.t 3], none⟩,
 ⟨some 8, .bin .mul, [.t 7, .c (.i 6)], none⟩,
 ⟨some 3, .mv, [.t 8], none⟩] [7, 8]))
 (.region false [⟨some 9, .bin .add, [.t 5, .c (.i 1)], none⟩,
 ⟨some 5, .mv, [.t 9], none⟩] [9]))))
def F_impl_wholeOf_W0 : LC := .loop F_impl_wholeOf_L0
def F_impl_wholeOf : LF :=
 { nparams := 1, results := [.t 2], body :=
 (.seq
 (.region false [⟨some 2, .mv, [.c (.i 0)], none⟩] [2])
 (.seq
 (.region false [⟨some 3, .mv, [.c (.i 1)], none⟩] [])
 (.seq
 (.seq
 (.region false [⟨some 4, .mv, [.t 0], none⟩,
 ⟨some 5, .mv, [.c (.i 0)], none⟩] [0])
 (.block 0
 F_impl_wholeOf_W0))
 (.seq
 (.region false [⟨some 10, .mv, [.t 3], none⟩,
 ⟨some 2, .mv, [.t 10], none⟩] [3, 4, 5, 10])
 .ret)))) }
/-- spec.l1Power -/
def F_spec_l1Power_L0 : LC :=
 (.seq
 (.seq
 (.region false [⟨some 5, .mv, [.t 4], none⟩,
 ⟨some 6, .mv, [.t 0], none⟩,
 ⟨some 7, .bin .lss, [.t 5, .t 6], none⟩] [5, 6])
 (.cond (.t 7) [7]
 .skip
 (.exit 0)))
 (.seq
 (.block 1
 (.region false [⟨some 10, .mv, [.t 3], none⟩,
 ⟨some 11, .bin .mul, [.t 10, .c (.i 6)], none⟩,
 ⟨some 3, .mv, [.t 11], none⟩] [10, 11]))
 (.region false [⟨some 8, .mv, [.t 4], none⟩,
 ⟨some 9, .bin .add, [.t 8, .c (.i 1)], none⟩,
 ⟨some 4, .mv, [.t 9], none⟩] [8, 9])))
def F_spec_l1Power_W0 : LC := .loop F_spec_l1Power_L0
def F_spec_l1Power : LF :=
 { nparams := 1, results := [.t 2], body :=
 (.seq
 (.region false [⟨some 2, .mv, [.c (.i 0)], none⟩] [2])
 (.seq
 (.region false [⟨some 3, .mv, [.c (.i 1)], none⟩] [])
 (.seq
 (.seq
 (.region false [⟨some 4, .mv, [.c (.i 0)], none⟩] [])
 (.block 0
 F_spec_l1Power_W0))
 (.seq
 (.region false [⟨some 12, .mv, [.t 3], none⟩,
 ⟨some 2, .mv, [.t 12], none⟩] [0, 3, 4, 12])
 .ret)))) }
/-- impl.manyOk -/
def F_impl_manyOk : LF :=
 { nparams := 1, results := [.t 2], body :=
 (.seq
 (.region false [⟨some 2, .mv, [.c (.b false)], none⟩] [2])
 (.seq
 (.region false [⟨some 3, .mv, [.t 0], none⟩,
 ⟨some 4, .call n_impl_isWithin 2048, [.t 3, .c (.i 1), .c (.i 5)], none⟩,
 ⟨some 2, .mv, [.t 4], none⟩] [0, 3, 4])
 .ret)) }
/-- impl.hasTest -/
def F_impl_hasTest : LF :=
 { nparams := 2, results := [.t 4], body :=
 (.seq
 (.region false [⟨some 4, .mv, [.c (.b false)], none⟩] [4])
 (.seq
 (.region false [⟨some 5, .mv, [.t 0], none⟩,
 ⟨some 6, .mv, [.t 1], none⟩,
 ⟨some 7, .bin .shr, [.t 5, .t 6], none⟩,
 ⟨some 8, .bin .and, [.t 7, .c (.i 1)], none⟩,
 ⟨some 9, .bin .eql, [.t 8, .c (.i 1)], none⟩,
 ⟨some 4, .mv, [.t 9], none⟩] [0, 1, 5, 6, 7, 8, 9])
 .ret)) }
/-- slices.Clone[[][]int,[]int] -/
def F_slices_Clone_int_int : LF :=
 { nparams := 1, results := [.t 2], body :=
 (.seq
 (.region false [⟨some 2, .newnil 1032, [], none⟩] [2])
 (.seq
 (.seq
 (.region false [⟨some 3, .mv, [.t 0], none⟩,
 ⟨some 4, .eqn false, [.t 3], none⟩] [3])
 (.cond (.t 4) [4]
 (.seq
 (.region false [⟨some 2, .newnil 1032, [], none⟩] [0])
 .ret)
 .skip))
 (.seq
 (.region false [⟨some 5, .bslice 2568 0 1 (.sl 1 []) [], [], none⟩,
 ⟨some 6, .mv, [.t 0], none⟩,
 ⟨some 7, .app 3592 1, [.t 5, .t 6], none⟩,
 ⟨some 2, .mv, [.t 7], none⟩] [0, 5, 6, 7])
 .ret))) }
/-- spec.RowAverage -/
def F_spec_RowAverage_L0 : LC :=
 (.seq
 (.seq
 (.region false [⟨some 25, .mv, [.t 9], none⟩,
 ⟨some 26, .mv, [.t 1], none⟩,
 ⟨some 27, .len, [.t 26], none⟩,
 ⟨some 28, .bin .lss, [.t 25, .t 27], none⟩] [25, 26, 27])
 (.cond (.t 28) [28]
 .skip
 (.exit 0)))
 (.seq
 (.block 1
 (.seq
 (.region true [⟨some 31, .mv, [.t 7], none⟩,
 ⟨some 32, .mv, [.t 0], none⟩,
 ⟨some 33, .mv, [.t 1], none⟩,
 ⟨some 34, .mv, [.t 9], none⟩,
 ⟨some 35, .idxa 1, [.t 33, .t 34], none⟩,
 ⟨some 36, .load 1 false, [.t 35], none⟩,
 ⟨some 37, .idxa 2, [.t 32, .t 36], none⟩,
 ⟨some 38, .fld 0 1 false, [.t 37], none⟩,
 ⟨some 39, .load 1 false, [.t 38], none⟩,
 ⟨some 40, .mv, [.t 8], none⟩,
 ⟨some 41, .bin .mul, [.t 39, .t 40], none⟩,
 ⟨some 42, .mv, [.t 1], none⟩,
 ⟨some 43, .len, [.t 42], none⟩,
 ⟨some 44, .mv, [.t 9], none⟩,
 ⟨some 45, .bin .sub, [.t 43, .t 44], none⟩,
 ⟨some 46, .call n_spec_l1Power 23552, [.t 45], none⟩,
 ⟨some 47, .bin .mul, [.t 41, .t 46], none⟩,
 ⟨some 48, .bin .add, [.t 31, .t 47], none⟩,
 ⟨some 7, .mv, [.t 48], none⟩] [31, 32, 33, 34, 35, 36, 37, 38, 39, 40, 41, 42, 43, 44, 45, 46, 47, 48])
 (.region false [⟨some 49, .mv, [.t 8], none⟩,
 ⟨some 50, .mv, [.t 0], none⟩,
 ⟨some 51, .mv, [.t 1], none⟩,
 ⟨some 52, .mv, [.t 9], none⟩,
 ⟨some 53, .idxa 1, [.t 51, .t 52], none⟩,
 ⟨some 54, .load 1 false, [.t 53], none⟩,
 ⟨some 55, .idxa 2, [.t 50, .t 54], none⟩,
 ⟨some 56, .load 2 true, [.t 55], none⟩,
 ⟨some 57, .mv, [.t 2], none⟩,
 ⟨some 58, .call n_spec_l5Ends 29696, [.t 56, .t 57], none⟩,
 ⟨some 59, .bin .sub, [.c (.i 6), .t 58], none⟩,
 ⟨some 60, .bin .mul, [.t 49, .t 59], none⟩,
 ⟨some 8, .mv, [.t 60], none⟩] [49, 50, 51, 52, 53, 54, 55, 56, 57, 58, 59, 60])))
 (.region false [⟨some 29, .mv, [.t 9], none⟩,
 ⟨some 30, .bin .add, [.t 29, .c (.i 1)], none⟩,
 ⟨some 9, .mv, [.t 30], none⟩] [29, 30])))
def F_spec_RowAverage_W0 : LC := .loop F_spec_RowAverage_L0
def F_spec_RowAverage : LF :=
 { nparams := 3, results := [.t 6], body :=
 (.seq
 (.region false [⟨some 6, .mv, [.c (.i 0)], none⟩] [6])
 (.seq
 (.seq
 (.region false [⟨some 10, .mv, [.t 0], none⟩,
 ⟨some 11, .call n_spec_TestsOk 5632, [.t 10], none⟩,
 ⟨some 12, .un .not, [.t 11], none⟩,
 ⟨some 13, .mv, [.t 12], none⟩,
 ⟨some 14, .mv, [.t 0], some (13, false)⟩,
 ⟨some 15, .len, [.t 14], some (13, false)⟩,
 ⟨some 16, .mv, [.t 1], some (13, false)⟩,
 ⟨some 17, .call n_spec_OrderOk 8704, [.t 15, .t 16], some (13, false)⟩,
 ⟨some 18, .un .not, [.t 17], some (13, false)⟩,
 ⟨some 19, .pick, [.t 13, .c (.b true), .t 18], none⟩,
 ⟨some 20, .mv, [.t 19], none⟩,
 ⟨some 21, .mv, [.t 2], some (20, false)⟩,
 ⟨some 22, .call n_spec_l1In 11264, [.t 21, .c (.i 0), .c (.i 1)], some (20, false)⟩,
 ⟨some 23, .un .not, [.t 22], some (20, false)⟩,
 ⟨some 24, .pick, [.t 20, .c (.b true), .t 23], none⟩] [10, 11, 12, 13, 14, 15, 16, 17, 18, 19, 20, 21, 22, 23])
 (.cond (.t 24) [24]
 (.seq
 (.region false [⟨some 6, .mv, [.c (.i (-1))], none⟩] [0, 1, 2])
 .ret)
 .skip))
 (.seq
 (.region false [⟨some 7, .mv, [.c (.i 0)], none⟩] [])
 (.seq
 (.region false [⟨some 8, .mv, [.c (.i 1)], none⟩] [])
 (.seq
 (.seq
 (.region false [⟨some 9, .mv, [.c (.i 0)], none⟩] [])
 (.block 0
 F_spec_RowAverage_W0))
 (.seq
 (.region false [⟨some 61, .mv, [.t 7], none⟩,
 ⟨some 6, .mv, [.t 61], none⟩] [0, 1, 2, 7, 8, 9, 61])
 .ret)))))) }
/-- impl.averageAsking -/
def F_impl_averageAsking : LF :=
 { nparams := 4, results := [.t 8], body :=
 (.seq
 (.region false [⟨some 4, .box 2064, [.t 0], none⟩,
 ⟨some 8, .mv, [.c (.i 0)], none⟩] [0, 8])
 (.seq
 (.region true [⟨some 9, .fld 0 1 false, [.t 4], none⟩,
 ⟨some 10, .load 1 false, [.t 9], none⟩,
 ⟨some 11, .mv, [.t 1], none⟩,
 ⟨some 12, .call n_impl_wholeOf 6144, [.t 11], none⟩,
 ⟨some 13, .bin .mul, [.t 10, .t 12], none⟩,
 ⟨some 14, .fld 1 1 false, [.t 4], none⟩,
 ⟨some 15, .load 1 false, [.t 14], none⟩,
 ⟨some 16, .bin .sub, [.c (.i 6), .t 15], none⟩,
 ⟨some 17, .mv, [.t 2], none⟩,
 ⟨some 18, .bin .mul, [.t 16, .t 17], none⟩,
 ⟨some 19, .bin .add, [.t 13, .t 18], none⟩,
 ⟨some 20, .fld 1 1 false, [.t 4], none⟩,
 ⟨some 21, .load 1 false, [.t 20], none⟩,
 ⟨some 22, .mv, [.t 3], none⟩,
 ⟨some 23, .bin .mul, [.t 21, .t 22], none⟩,
 ⟨some 24, .bin .add, [.t 19, .t 23], none⟩,
 ⟨some 8, .mv, [.t 24], none⟩] [1, 2, 3, 4, 9, 10, 11, 12, 13, 14, 15, 16, 17, 18, 19, 20, 21, 22, 23, 24])
 .ret)) }
/-- spec.l5Ends -/
def F_spec_l5Ends : LF :=
 { nparams := 2, results := [.t 4], body :=
 (.seq
 (.region false [⟨some 2, .box 1040, [.t 0], none⟩,
 ⟨some 4, .mv, [.c (.i 0)], none⟩] [0, 4])
 (.seq
 (.seq
 (.region false [⟨some 5, .mv, [.t 1], none⟩,
 ⟨some 6, .bin .eql, [.t 5, .c (.i 0)], none⟩] [1, 5])
 (.cond (.t 6) [6]
 (.seq
 (.region false [⟨some 7, .fld 1 1 false, [.t 2], none⟩,
 ⟨some 8, .load 1 false, [.t 7], none⟩,
 ⟨some 9, .bin .sub, [.c (.i 6), .t 8], none⟩,
 ⟨some 4, .mv, [.t 9], none⟩] [2, 7, 8, 9])
 .ret)
 .skip))
 (.seq
 (.region false [⟨some 10, .fld 1 1 false, [.t 2], none⟩,
 ⟨some 11, .load 1 false, [.t 10], none⟩,
 ⟨some 4, .mv, [.t 11], none⟩] [2, 10, 11])
 .ret))) }
def lf : Nat → Option LF
 | 3 => some F_laws_FnExactFirstRatio
 | 4 => some F_laws_FnExactKeepsChains
 | 6 => some F_laws_FnExactChainBest
 | 14 => some F_laws_szTestS
 | 15 => some F_laws_szIntSS
 | 16 => some F_spec_FirstRatio
 | 17 => some F_laws_toTestS
 | 18 => some F_laws_toIntSS
 | 19 => some F_impl_FirstRatio
 | 20 => some F_laws_eqTestS
 | 21 => some F_laws_eqIntSS
 | 22 => some F_spec_KeepsChains
 | 23 => some F_laws_toIntS
 | 24 => some F_impl_KeepsChains
 | 25 => some F_laws_eqIntS
 | 32 => some F_spec_ChainBest
 | 33 => some F_impl_ChainBest
 | 45 => some F_spec_OrderOk
 | 46 => some F_spec_GroupsOk
 | 52 => some F_laws_szIntS
 | 53 => some F_spec_TestsOk
 | 54 => some F_spec_l1In
 | 55 => some F_spec_l9Ratio
 | 56 => some F_laws_toTest
 | 57 => some F_impl_TestsOk
 | 58 => some F_impl_GroupsOk
 | 59 => some F_impl_isWithin
 | 60 => some F_impl_ratioOfPart
 | 61 => some F_laws_eqTest
 | 62 => some F_impl_OrderOk
 | 63 => some F_impl_KeepsChains_1
 | 64 => some F_slices_Index_int_int
 | 65 => some F_slices_IsSortedFunc_int_int
 | 67 => some F_impl_behindPart
 | 68 => some F_spec_l9Search
 | 69 => some F_impl_leastAlong
 | 79 => some F_impl_wholeOf
 | 85 => some F_spec_l1Power
 | 86 => some F_impl_manyOk
 | 87 => some F_impl_hasTest
 | 88 => some F_slices_Clone_int_int
 | 89 => some F_spec_RowAverage
 | 90 => some F_impl_averageAsking
 | 98 => some F_spec_l5Ends
 | _ => none
theorem w_laws_szIntSS_0 (S : LS) : ex lf F_laws_szIntSS_W0 S = match ex lf F_laws_szIntSS_L0 S with | some (.normal, S1) => ex lf F_laws_szIntSS_W0 S1 | r => r := ex_loop lf F_laws_szIntSS_L0 S
theorem w_laws_toTestS_0 (S : LS) : ex lf F_laws_toTestS_W0 S = match ex lf F_laws_toTestS_L0 S with | some (.normal, S1) => ex lf F_laws_toTestS_W0 S1 | r => r := ex_loop lf F_laws_toTestS_L0 S
theorem w_laws_toIntSS_0 (S : LS) : ex lf F_laws_toIntSS_W0 S = match ex lf F_laws_toIntSS_L0 S with | some (.normal, S1) => ex lf F_laws_toIntSS_W0 S1 | r => r := ex_loop lf F_laws_toIntSS_L0 S
theorem w_laws_eqTestS_0 (S : LS) : ex lf F_laws_eqTestS_W0 S = match ex lf F_laws_eqTestS_L0 S with | some (.normal, S1) => ex lf F_laws_eqTestS_W0 S1 | r => r := ex_loop lf F_laws_eqTestS_L0 S
theorem w_laws_eqIntSS_0 (S : LS) : ex lf F_laws_eqIntSS_W0 S = match ex lf F_laws_eqIntSS_L0 S with | some (.normal, S1) => ex lf F_laws_eqIntSS_W0 S1 | r => r := ex_loop lf F_laws_eqIntSS_L0 S
theorem w_spec_KeepsChains_0 (S : LS) : ex lf F_spec_KeepsChains_W0 S = match ex lf F_spec_KeepsChains_L0 S with | some (.normal, S1) => ex lf F_spec_KeepsChains_W0 S1 | r => r := ex_loop lf F_spec_KeepsChains_L0 S
theorem w_spec_KeepsChains_2 (S : LS) : ex lf F_spec_KeepsChains_W2 S = match ex lf F_spec_KeepsChains_L2 S with | some (.normal, S1) => ex lf F_spec_KeepsChains_W2 S1 | r => r := ex_loop lf F_spec_KeepsChains_L2 S
theorem w_spec_KeepsChains_1 (S : LS) : ex lf F_spec_KeepsChains_W1 S = match ex lf F_spec_KeepsChains_L1 S with | some (.normal, S1) => ex lf F_spec_KeepsChains_W1 S1 | r => r := ex_loop lf F_spec_KeepsChains_L1 S
theorem w_laws_toIntS_0 (S : LS) : ex lf F_laws_toIntS_W0 S = match ex lf F_laws_toIntS_L0 S with | some (.normal, S1) => ex lf F_laws_toIntS_W0 S1 | r => r := ex_loop lf F_laws_toIntS_L0 S
theorem w_impl_KeepsChains_0 (S : LS) : ex lf F_impl_KeepsChains_W0 S = match ex lf F_impl_KeepsChains_L0 S with | some (.normal, S1) => ex lf F_impl_KeepsChains_W0 S1 | r => r := ex_loop lf F_impl_KeepsChains_L0 S
theorem w_laws_eqIntS_0 (S : LS) : ex lf F_laws_eqIntS_W0 S = match ex lf F_laws_eqIntS_L0 S with | some (.normal, S1) => ex lf F_laws_eqIntS_W0 S1 | r => r := ex_loop lf F_laws_eqIntS_L0 S
theorem w_spec_OrderOk_0 (S : LS) : ex lf F_spec_OrderOk_W0 S = match ex lf F_spec_OrderOk_L0 S with | some (.normal, S1) => ex lf F_spec_OrderOk_W0 S1 | r => r := ex_loop lf F_spec_OrderOk_L0 S
theorem w_spec_GroupsOk_1 (S : LS) : ex lf F_spec_GroupsOk_W1 S = match ex lf F_spec_GroupsOk_L1 S with | some (.normal, S1) => ex lf F_spec_GroupsOk_W1 S1 | r => r := ex_loop lf F_spec_GroupsOk_L1 S
theorem w_spec_GroupsOk_0 (S : LS) : ex lf F_spec_GroupsOk_W0 S = match ex lf F_spec_GroupsOk_L0 S with | some (.normal, S1) => ex lf F_spec_GroupsOk_W0 S1 | r => r := ex_loop lf F_spec_GroupsOk_L0 S
theorem w_spec_TestsOk_0 (S : LS) : ex lf F_spec_TestsOk_W0 S = match ex lf F_spec_TestsOk_L0 S with | some (.normal, S1) => ex lf F_spec_TestsOk_W0 S1 | r => r := ex_loop lf F_spec_TestsOk_L0 S
theorem w_spec_l9Ratio_0 (S : LS) : ex lf F_spec_l9Ratio_W0 S = match ex lf F_spec_l9Ratio_L0 S with | some (.normal, S1) => ex lf F_spec_l9Ratio_W0 S1 | r => r := ex_loop lf F_spec_l9Ratio_L0 S
theorem w_impl_TestsOk_0 (S : LS) : ex lf F_impl_TestsOk_W0 S = match ex lf F_impl_TestsOk_L0 S with | some (.normal, S1) => ex lf F_impl_TestsOk_W0 S1 | r => r := ex_loop lf F_impl_TestsOk_L0 S
theorem w_impl_GroupsOk_0 (S : LS) : ex lf F_impl_GroupsOk_W0 S = match ex lf F_impl_GroupsOk_L0 S with | some (.normal, S1) => ex lf F_impl_GroupsOk_W0 S1 | r => r := ex_loop lf F_impl_GroupsOk_L0 S
theorem w_impl_ratioOfPart_0 (S : LS) : ex lf F_impl_ratioOfPart_W0 S = match ex lf F_impl_ratioOfPart_L0 S with | some (.normal, S1) => ex lf F_impl_ratioOfPart_W0 S1 | r => r := ex_loop lf F_impl_ratioOfPart_L0 S
theorem w_impl_OrderOk_0 (S : LS) : ex lf F_impl_OrderOk_W0 S = match ex lf F_impl_OrderOk_L0 S with | some (.normal, S1) => ex lf F_impl_OrderOk_W0 S1 | r => r := ex_loop lf F_impl_OrderOk_L0 S
theorem w_slices_Index_int_int_0 (S : LS) : ex lf F_slices_Index_int_int_W0 S = match ex lf F_slices_Index_int_int_L0 S with | some (.normal, S1) => ex lf F_slices_Index_int_int_W0 S1 | r => r := ex_loop lf F_slices_Index_int_int_L0 S
theorem w_slices_IsSortedFunc_int_int_0 (S : LS) : ex lf F_slices_IsSortedFunc_int_int_W0 S = match ex lf F_slices_IsSortedFunc_int_int_L0 S with | some (.normal, S1) => ex lf F_slices_IsSortedFunc_int_int_W0 S1 | r => r := ex_loop lf F_slices_IsSortedFunc_int_int_L0 S
theorem w_spec_l9Search_2 (S : LS) : ex lf F_spec_l9Search_W2 S = match ex lf F_spec_l9Search_L2 S with | some (.normal, S1) => ex lf F_spec_l9Search_W2 S1 | r => r := ex_loop lf F_spec_l9Search_L2 S
theorem w_spec_l9Search_1 (S : LS) : ex lf F_spec_l9Search_W1 S = match ex lf F_spec_l9Search_L1 S with | some (.normal, S1) => ex lf F_spec_l9Search_W1 S1 | r => r := ex_loop lf F_spec_l9Search_L1 S
theorem w_spec_l9Search_0 (S : LS) : ex lf F_spec_l9Search_W0 S = match ex lf F_spec_l9Search_L0 S with | some (.normal, S1) => ex lf F_spec_l9Search_W0 S1 | r => r := ex_loop lf F_spec_l9Search_L0 S
theorem w_impl_leastAlong_0 (S : LS) : ex lf F_impl_leastAlong_W0 S = match ex lf F_impl_leastAlong_L0 S with | some (.normal, S1) => ex lf F_impl_leastAlong_W0 S1 | r => r := ex_loop lf F_impl_leastAlong_L0 S
theorem w_impl_wholeOf_0 (S : LS) : ex lf F_impl_wholeOf_W0 S = match ex lf F_impl_wholeOf_L0 S with | some (.normal, S1) => ex lf F_impl_wholeOf_W0 S1 | r => r := ex_loop lf F_impl_wholeOf_L0 S
theorem w_spec_l1Power_0 (S : LS) : ex lf F_spec_l1Power_W0 S = match ex lf F_spec_l1Power_L0 S with | some (.normal, S1) => ex lf F_spec_l1Power_W0 S1 | r => r := ex_loop lf F_spec_l1Power_L0 S
theorem w_spec_RowAverage_0 (S : LS) : ex lf F_spec_RowAverage_W0 S = match ex lf F_spec_RowAverage_L0 S with | some (.normal, S1) => ex lf F_spec_RowAverage_W0 S1 | r => r := ex_loop lf F_spec_RowAverage_L0 S
end Zz
