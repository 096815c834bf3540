/- The functions of the program, read as data. No conditions. -/
import Derived.Test.YtldepejkagfdmaaLgC
set_option linter.unusedSectionVars false
set_option linter.unusedVariables false
set_option linter.unusedSimpArgs false
namespace Zz
open Go.Lg
instance : GL := ⟨[], [28, 29, 30, 37], ["l4_orders.go:82"], [], [(84, [0]), (92, [0]), (97, [0, 2]), (99, [0, 2])], [], ["l20_draw.go:447"]⟩
def n_laws_FnKeepsChains : Nat := 10
def n_spec_KeepsChains : Nat := 22
def n_impl_KeepsChains : Nat := 24
def n_spec_ChainOrder : Nat := 26
def n_laws_alive : Nat := 43
def n_spec_DrawKeepsChains : Nat := 44
def n_spec_OrderOk : Nat := 45
def n_spec_GroupsOk : Nat := 46
def n_laws_sameInts : Nat := 47
def n_spec_TestsOk : Nat := 53
def n_spec_l1In : Nat := 54
def n_spec_l9Ratio : Nat := 55
def n_impl_TestsOk : Nat := 57
def n_impl_GroupsOk : Nat := 58
def n_impl_isWithin : Nat := 59
def n_impl_OrderOk : Nat := 62
def n_impl_KeepsChains_1 : Nat := 63
def n_slices_Index_int_int : Nat := 64
def n_slices_IsSortedFunc_int_int : Nat := 65
def n_spec_l20Open : Nat := 74
def n_spec_l20Grouped : Nat := 75
def n_spec_l20Rd_pick : Nat := 76
def n_spec_l20Order : Nat := 77
def n_spec_l1Power : Nat := 85
def n_impl_manyOk : Nat := 86
def n_impl_hasTest : Nat := 87
def n_spec_l20Tests : Nat := 94
def n_spec_l20Groups : Nat := 95
def n_spec_l20Rd_odd : Nat := 96
/-- laws.FnKeepsChains -/
def F_laws_FnKeepsChains_L0 : LC :=
 (.seq
 (.seq
 (.region false [⟨some 44, .mv, [.t 8], none⟩,
 ⟨some 45, .mv, [.t 3], none⟩,
 ⟨some 46, .bin .lss, [.t 44, .t 45], none⟩] [44, 45])
 (.cond (.t 46) [46]
 .skip
 (.exit 0)))
 (.seq
 (.block 1
 (.region false [⟨some 49, .mv, [.t 7], none⟩,
 ⟨some 50, .mv, [.t 8], none⟩,
 ⟨some 51, .bslice 26120 1 1 (.i 0) [0], [.t 50], none⟩,
 ⟨some 52, .bslice 26632 1 1 (.sl 1 []) [0], [.t 51], none⟩,
 ⟨some 53, .app 27144 1, [.t 49, .t 52], none⟩,
 ⟨some 7, .mv, [.t 53], none⟩] [49, 50, 51, 52, 53]))
 (.region false [⟨some 47, .mv, [.t 8], none⟩,
 ⟨some 48, .bin .add, [.t 47, .c (.i 1)], none⟩,
 ⟨some 8, .mv, [.t 48], none⟩] [47, 48])))
def F_laws_FnKeepsChains_W0 : LC := .loop F_laws_FnKeepsChains_L0
def F_laws_FnKeepsChains : LF :=
 { nparams := 1, results := [.t 2], body :=
 (.seq
 (.region false [⟨some 2, .mv, [.c (.b false)], none⟩] [2])
 (.seq
 (.seq
 (.region false [⟨some 9, .mv, [.t 0], none⟩,
 ⟨some 10, .len, [.t 9], none⟩,
 ⟨some 11, .bin .gtr, [.t 10, .c (.i 1048576)], none⟩] [9, 10])
 (.cond (.t 11) [11]
 (.seq
 (.region false [⟨some 2, .mv, [.c (.b true)], none⟩] [0])
 .ret)
 .skip))
 (.seq
 (.region false [⟨some 13, .mv, [.t 0], none⟩,
 ⟨some 14, .call n_spec_DrawKeepsChains 7168, [.t 13], none⟩,
 ⟨some 12, .mv, [.t 14], none⟩,
 ⟨some 15, .ext 0, [.t 12], none⟩,
 ⟨some 16, .ext 1, [.t 12], none⟩,
 ⟨some 17, .ext 2, [.t 12], none⟩,
 ⟨some 3, .mv, [.t 15], none⟩,
 ⟨some 4, .mv, [.t 16], none⟩,
 ⟨some 5, .mv, [.t 17], none⟩] [0, 12, 13, 14, 15, 16, 17])
 (.ghost (.freeze 5)
 (.seq
 (.region false [⟨some 18, .mv, [.t 3], none⟩,
 ⟨some 19, .mv, [.t 4], none⟩,
 ⟨some 20, .mv, [.t 5], none⟩,
 ⟨some 21, .call n_impl_KeepsChains 10752, [.t 18, .t 19, .t 20], none⟩,
 ⟨some 6, .mv, [.t 21], none⟩] [18, 19, 20, 21])
 (.seq
 (.seq
 (.region false [⟨some 22, .mv, [.t 6], none⟩,
 ⟨some 23, .mv, [.t 3], none⟩,
 ⟨some 24, .mv, [.t 4], none⟩,
 ⟨some 25, .mv, [.t 5], none⟩,
 ⟨some 26, .call n_spec_KeepsChains 13312, [.t 23, .t 24, .t 25], none⟩,
 ⟨some 27, .eqb true, [.t 22, .t 26], none⟩] [22, 23, 24, 25, 26])
 (.cond (.t 27) [27]
 (.seq
 (.region false [⟨some 2, .mv, [.c (.b false)], none⟩] [3, 4, 5, 6])
 .ret)
 .skip))
 (.seq
 (.seq
 (.region false [⟨some 28, .mv, [.t 3], none⟩,
 ⟨some 29, .mv, [.t 5], none⟩,
 ⟨some 30, .call n_spec_OrderOk 15360, [.t 28, .t 29], none⟩,
 ⟨some 31, .un .not, [.t 30], none⟩,
 ⟨some 32, .mv, [.t 31], none⟩,
 ⟨some 33, .mv, [.t 3], some (32, false)⟩,
 ⟨some 34, .mv, [.t 4], some (32, false)⟩,
 ⟨some 35, .call n_spec_GroupsOk 17920, [.t 33, .t 34], some (32, false)⟩,
 ⟨some 36, .un .not, [.t 35], some (32, false)⟩,
 ⟨some 37, .pick, [.t 32, .c (.b true), .t 36], none⟩] [28, 29, 30, 31, 32, 33, 34, 35, 36])
 (.cond (.t 37) [37]
 (.seq
 (.region false [⟨some 38, .mv, [.t 6], none⟩,
 ⟨some 39, .un .not, [.t 38], none⟩,
 ⟨some 40, .mv, [.t 39], none⟩,
 ⟨some 41, .call n_laws_alive 20992, [], some (40, true)⟩,
 ⟨some 42, .pick, [.t 40, .t 41, .c (.b false)], none⟩,
 ⟨some 2, .mv, [.t 42], none⟩] [3, 4, 5, 6, 38, 39, 40, 41, 42])
 .ret)
 .skip))
 (.seq
 (.region false [⟨some 43, .bslice 22024 0 1 (.sl 1 []) [], [], none⟩,
 ⟨some 7, .mv, [.t 43], none⟩] [43])
 (.seq
 (.seq
 (.region false [⟨some 8, .mv, [.c (.i 0)], none⟩] [])
 (.block 0
 F_laws_FnKeepsChains_W0))
 (.seq
 (.region false [⟨some 54, .mv, [.t 3], none⟩,
 ⟨some 55, .mv, [.t 7], none⟩,
 ⟨some 56, .mv, [.t 5], none⟩,
 ⟨some 57, .call n_impl_KeepsChains 29184, [.t 54, .t 55, .t 56], none⟩,
 ⟨some 58, .mv, [.t 57], none⟩,
 ⟨some 59, .mv, [.t 3], some (58, true)⟩,
 ⟨some 60, .mv, [.t 5], some (58, true)⟩,
 ⟨some 61, .bslice 31240 1 1 (.sl 1 []) [0], [.t 60], some (58, true)⟩,
 ⟨some 62, .mv, [.t 5], some (58, true)⟩,
 ⟨some 63, .call n_impl_KeepsChains 32256, [.t 59, .t 61, .t 62], some (58, true)⟩,
 ⟨some 64, .pick, [.t 58, .t 63, .c (.b false)], none⟩,
 ⟨some 65, .mv, [.t 64], none⟩,
 ⟨some 66, .mv, [.t 4], some (65, true)⟩,
 ⟨some 67, .len, [.t 66], some (65, true)⟩,
 ⟨some 68, .bin .gtr, [.t 67, .c (.i 1)], some (65, true)⟩,
 ⟨some 69, .mv, [.t 68], some (65, true)⟩,
 ⟨some 70, .mv, [.t 6], some (69, false)⟩,
 ⟨some 71, .mv, [.t 4], some (69, false)⟩,
 ⟨some 72, .idxa 1, [.t 71, .c (.i 0)], some (69, false)⟩,
 ⟨some 73, .load 1 false, [.t 72], some (69, false)⟩,
 ⟨some 74, .mv, [.t 5], some (69, false)⟩,
 ⟨some 75, .call n_laws_sameInts 38400, [.t 73, .t 74], some (69, false)⟩,
 ⟨some 76, .eqb false, [.t 70, .t 75], some (69, false)⟩,
 ⟨some 77, .pick, [.t 69, .c (.b true), .t 76], some (65, true)⟩,
 ⟨some 78, .pick, [.t 65, .t 77, .c (.b false)], none⟩,
 ⟨some 2, .mv, [.t 78], none⟩] [3, 4, 5, 6, 7, 8, 54, 55, 56, 57, 58, 59, 60, 61, 62, 63, 64, 65, 66, 67, 68, 69, 70, 71, 72, 73, 74, 75, 76, 77, 78])
 .ret)))))))))) }
/-- spec.KeepsChains -/
def F_spec_KeepsChains_L0 : LC :=
 (.seq
 (.seq
 (.region false [⟨some 23, .mv, [.t 8], none⟩,
 ⟨some 24, .mv, [.t 2], none⟩,
 ⟨some 25, .len, [.t 24], none⟩,
 ⟨some 26, .bin .lss, [.t 23, .t 25], none⟩] [23, 24, 25])
 (.cond (.t 26) [26]
 .skip
 (.exit 0)))
 (.seq
 (.block 1
 (.region false [⟨some 29, .mv, [.t 7], none⟩,
 ⟨some 30, .mv, [.t 2], none⟩,
 ⟨some 31, .mv, [.t 8], none⟩,
 ⟨some 32, .idxa 1, [.t 30, .t 31], none⟩,
 ⟨some 33, .load 1 false, [.t 32], none⟩,
 ⟨some 34, .mv, [.t 8], none⟩,
 ⟨some 35, .idxa 1, [.t 29, .t 33], none⟩,
 ⟨none, .store 1, [.t 35, .t 34], none⟩] [29, 30, 31, 32, 33, 34, 35]))
 (.region false [⟨some 27, .mv, [.t 8], none⟩,
 ⟨some 28, .bin .add, [.t 27, .c (.i 1)], none⟩,
 ⟨some 8, .mv, [.t 28], none⟩] [27, 28])))
def F_spec_KeepsChains_W0 : LC := .loop F_spec_KeepsChains_L0
def F_spec_KeepsChains_L2 : LC :=
 (.seq
 (.seq
 (.region false [⟨some 42, .mv, [.t 10], none⟩,
 ⟨some 43, .mv, [.t 1], none⟩,
 ⟨some 44, .mv, [.t 9], none⟩,
 ⟨some 45, .idxa 1, [.t 43, .t 44], none⟩,
 ⟨some 46, .load 1 false, [.t 45], none⟩,
 ⟨some 47, .len, [.t 46], none⟩,
 ⟨some 48, .bin .lss, [.t 42, .t 47], none⟩] [42, 43, 44, 45, 46, 47])
 (.cond (.t 48) [48]
 .skip
 (.exit 4)))
 (.seq
 (.block 5
 (.seq
 (.region true [⟨some 51, .mv, [.t 7], none⟩,
 ⟨some 52, .mv, [.t 1], none⟩,
 ⟨some 53, .mv, [.t 9], none⟩,
 ⟨some 54, .idxa 1, [.t 52, .t 53], none⟩,
 ⟨some 55, .load 1 false, [.t 54], none⟩,
 ⟨some 56, .mv, [.t 10], none⟩,
 ⟨some 57, .bin .sub, [.t 56, .c (.i 1)], none⟩,
 ⟨some 58, .idxa 1, [.t 55, .t 57], none⟩,
 ⟨some 59, .load 1 false, [.t 58], none⟩,
 ⟨some 60, .idxa 1, [.t 51, .t 59], none⟩,
 ⟨some 61, .load 1 false, [.t 60], none⟩,
 ⟨some 62, .mv, [.t 7], none⟩,
 ⟨some 63, .mv, [.t 1], none⟩,
 ⟨some 64, .mv, [.t 9], none⟩,
 ⟨some 65, .idxa 1, [.t 63, .t 64], none⟩,
 ⟨some 66, .load 1 false, [.t 65], none⟩,
 ⟨some 67, .mv, [.t 10], none⟩,
 ⟨some 68, .idxa 1, [.t 66, .t 67], none⟩,
 ⟨some 69, .load 1 false, [.t 68], none⟩,
 ⟨some 70, .idxa 1, [.t 62, .t 69], none⟩,
 ⟨some 71, .load 1 false, [.t 70], none⟩,
 ⟨some 72, .bin .gtr, [.t 61, .t 71], none⟩] [51, 52, 53, 54, 55, 56, 57, 58, 59, 60, 61, 62, 63, 64, 65, 66, 67, 68, 69, 70, 71])
 (.cond (.t 72) [72]
 (.seq
 (.region false [⟨some 6, .mv, [.c (.b false)], none⟩] [1, 7, 9, 10])
 .ret)
 .skip)))
 (.region false [⟨some 49, .mv, [.t 10], none⟩,
 ⟨some 50, .bin .add, [.t 49, .c (.i 1)], none⟩,
 ⟨some 10, .mv, [.t 50], none⟩] [49, 50])))
def F_spec_KeepsChains_W2 : LC := .loop F_spec_KeepsChains_L2
def F_spec_KeepsChains_L1 : LC :=
 (.seq
 (.seq
 (.region false [⟨some 36, .mv, [.t 9], none⟩,
 ⟨some 37, .mv, [.t 1], none⟩,
 ⟨some 38, .len, [.t 37], none⟩,
 ⟨some 39, .bin .lss, [.t 36, .t 38], none⟩] [36, 37, 38])
 (.cond (.t 39) [39]
 .skip
 (.exit 2)))
 (.seq
 (.block 3
 (.seq
 (.region false [⟨some 10, .mv, [.c (.i 1)], none⟩] [])
 (.block 4
 F_spec_KeepsChains_W2)))
 (.region false [⟨some 40, .mv, [.t 9], none⟩,
 ⟨some 41, .bin .add, [.t 40, .c (.i 1)], none⟩,
 ⟨some 9, .mv, [.t 41], none⟩] [10, 40, 41])))
def F_spec_KeepsChains_W1 : LC := .loop F_spec_KeepsChains_L1
def F_spec_KeepsChains : LF :=
 { nparams := 3, results := [.t 6], body :=
 (.seq
 (.region false [⟨some 6, .mv, [.c (.b false)], none⟩] [6])
 (.seq
 (.seq
 (.region false [⟨some 11, .mv, [.t 0], none⟩,
 ⟨some 12, .mv, [.t 2], none⟩,
 ⟨some 13, .call n_spec_OrderOk 6656, [.t 11, .t 12], none⟩,
 ⟨some 14, .un .not, [.t 13], none⟩,
 ⟨some 15, .mv, [.t 14], none⟩,
 ⟨some 16, .mv, [.t 0], some (15, false)⟩,
 ⟨some 17, .mv, [.t 1], some (15, false)⟩,
 ⟨some 18, .call n_spec_GroupsOk 9216, [.t 16, .t 17], some (15, false)⟩,
 ⟨some 19, .un .not, [.t 18], some (15, false)⟩,
 ⟨some 20, .pick, [.t 15, .c (.b true), .t 19], none⟩] [11, 12, 13, 14, 15, 16, 17, 18, 19])
 (.cond (.t 20) [20]
 (.seq
 (.region false [⟨some 6, .mv, [.c (.b false)], none⟩] [0, 1, 2])
 .ret)
 .skip))
 (.seq
 (.region false [⟨some 21, .mv, [.t 0], none⟩,
 ⟨some 22, .make 11272 1 (.i 0), [.t 21, .t 21], none⟩,
 ⟨some 7, .mv, [.t 22], none⟩] [0, 21, 22])
 (.seq
 (.seq
 (.region false [⟨some 8, .mv, [.c (.i 0)], none⟩] [])
 (.block 0
 F_spec_KeepsChains_W0))
 (.seq
 (.seq
 (.region false [⟨some 9, .mv, [.c (.i 0)], none⟩] [2, 8])
 (.block 2
 F_spec_KeepsChains_W1))
 (.seq
 (.region false [⟨some 6, .mv, [.c (.b true)], none⟩] [1, 7, 9])
 .ret)))))) }
/-- impl.KeepsChains -/
def F_impl_KeepsChains_L0 : LC :=
 (.seq
 (.region false [⟨some 24, .bin .lss, [.t 23, .t 22], none⟩] [])
 (.seq
 (.cond (.t 24) [24]
 .skip
 (.exit 0))
 (.seq
 (.block 1
 (.seq
 (.region false [⟨some 25, .idxa 1, [.t 21, .t 23], none⟩,
 ⟨some 26, .load 1 false, [.t 25], none⟩,
 ⟨some 9, .mv, [.t 26], none⟩] [25, 26])
 (.seq
 (.region false [⟨some 27, .mv, [.t 9], none⟩,
 ⟨some 28, .mv, [.t 7], none⟩,
 ⟨some 29, .call n_slices_IsSortedFunc_int_int 14848, [.t 27, .t 28], none⟩,
 ⟨some 30, .un .not, [.t 29], none⟩] [9, 27, 28, 29])
 (.cond (.t 30) [30]
 (.seq
 (.region false [⟨some 6, .mv, [.c (.b false)], none⟩] [7, 21, 22, 23])
 .ret)
 .skip))))
 (.region false [⟨some 31, .bin .add, [.t 23, .c (.i 1)], none⟩,
 ⟨some 23, .mv, [.t 31], none⟩] [31]))))
def F_impl_KeepsChains_W0 : LC := .loop F_impl_KeepsChains_L0
def F_impl_KeepsChains : LF :=
 { nparams := 3, results := [.t 6], body :=
 (.seq
 (.region false [⟨some 5, .box 2568, [.t 2], none⟩,
 ⟨some 6, .mv, [.c (.b false)], none⟩] [2, 6])
 (.ghost (.close_ 5)
 (.seq
 (.seq
 (.region false [⟨some 10, .mv, [.t 0], none⟩,
 ⟨some 11, .load 1 false, [.t 5], none⟩,
 ⟨some 12, .call n_impl_OrderOk 6144, [.t 10, .t 11], none⟩,
 ⟨some 13, .un .not, [.t 12], none⟩,
 ⟨some 14, .mv, [.t 13], none⟩,
 ⟨some 15, .mv, [.t 0], some (14, false)⟩,
 ⟨some 16, .mv, [.t 1], some (14, false)⟩,
 ⟨some 17, .call n_impl_GroupsOk 8704, [.t 15, .t 16], some (14, false)⟩,
 ⟨some 18, .un .not, [.t 17], some (14, false)⟩,
 ⟨some 19, .pick, [.t 14, .c (.b true), .t 18], none⟩] [0, 10, 11, 12, 13, 14, 15, 16, 17, 18])
 (.cond (.t 19) [19]
 (.seq
 (.region false [⟨some 6, .mv, [.c (.b false)], none⟩] [1, 5])
 .ret)
 .skip))
 (.seq
 (.region false [⟨some 20, .mkfn (mkNo n_impl_KeepsChains_1 0), [.t 5], none⟩,
 ⟨some 7, .mv, [.t 20], none⟩] [5, 20])
 (.seq
 (.seq
 (.region false [⟨some 21, .mv, [.t 1], none⟩,
 ⟨some 22, .len, [.t 21], none⟩,
 ⟨some 23, .mv, [.c (.i 0)], none⟩] [1])
 (.block 0
 F_impl_KeepsChains_W0))
 (.seq
 (.region false [⟨some 6, .mv, [.c (.b true)], none⟩] [7, 21, 22, 23])
 .ret)))))) }
/-- spec.ChainOrder -/
def F_spec_ChainOrder_L2 : LC :=
 (.seq
 (.seq
 (.region true [⟨some 41, .mv, [.t 6], none⟩,
 ⟨some 42, .mv, [.t 11], none⟩,
 ⟨some 43, .idxa 1, [.t 41, .t 42], none⟩,
 ⟨some 44, .load 1 false, [.t 43], none⟩,
 ⟨some 45, .mv, [.t 12], none⟩,
 ⟨some 46, .bin .add, [.t 44, .t 45], none⟩,
 ⟨some 47, .mv, [.t 1], none⟩,
 ⟨some 48, .mv, [.t 11], none⟩,
 ⟨some 49, .idxa 1, [.t 47, .t 48], none⟩,
 ⟨some 50, .load 1 false, [.t 49], none⟩,
 ⟨some 51, .len, [.t 50], none⟩,
 ⟨some 52, .bin .leq, [.t 46, .t 51], none⟩] [41, 42, 43, 44, 45, 46, 47, 48, 49, 50, 51])
 (.cond (.t 52) [52]
 .skip
 (.exit 4)))
 (.seq
 (.block 5
 (.seq
 (.region true [⟨some 56, .mv, [.t 0], none⟩,
 ⟨some 57, .mv, [.t 1], none⟩,
 ⟨some 58, .mv, [.t 11], none⟩,
 ⟨some 59, .idxa 1, [.t 57, .t 58], none⟩,
 ⟨some 60, .load 1 false, [.t 59], none⟩,
 ⟨some 61, .mv, [.t 6], none⟩,
 ⟨some 62, .mv, [.t 11], none⟩,
 ⟨some 63, .idxa 1, [.t 61, .t 62], none⟩,
 ⟨some 64, .load 1 false, [.t 63], none⟩,
 ⟨some 65, .mv, [.t 6], none⟩,
 ⟨some 66, .mv, [.t 11], none⟩,
 ⟨some 67, .idxa 1, [.t 65, .t 66], none⟩,
 ⟨some 68, .load 1 false, [.t 67], none⟩,
 ⟨some 69, .mv, [.t 12], none⟩,
 ⟨some 70, .bin .add, [.t 68, .t 69], none⟩,
 ⟨some 71, .slice true true 1, [.t 60, .t 64, .t 70], none⟩,
 ⟨some 72, .call n_spec_l9Ratio 36864, [.t 56, .t 71], none⟩,
 ⟨some 55, .mv, [.t 72], none⟩,
 ⟨some 73, .ext 0, [.t 55], none⟩,
 ⟨some 74, .ext 1, [.t 55], none⟩,
 ⟨some 13, .mv, [.t 73], none⟩,
 ⟨some 14, .mv, [.t 74], none⟩] [55, 56, 57, 58, 59, 60, 61, 62, 63, 64, 65, 66, 67, 68, 69, 70, 71, 72, 73, 74])
 (.seq
 (.region false [⟨some 75, .mv, [.t 7], none⟩,
 ⟨some 76, .bin .lss, [.t 75, .c (.i 0)], none⟩,
 ⟨some 77, .mv, [.t 76], none⟩,
 ⟨some 78, .mv, [.t 13], some (77, false)⟩,
 ⟨some 79, .mv, [.t 10], some (77, false)⟩,
 ⟨some 80, .bin .mul, [.t 78, .t 79], some (77, false)⟩,
 ⟨some 81, .mv, [.t 9], some (77, false)⟩,
 ⟨some 82, .mv, [.t 14], some (77, false)⟩,
 ⟨some 83, .bin .mul, [.t 81, .t 82], some (77, false)⟩,
 ⟨some 84, .bin .lss, [.t 80, .t 83], some (77, false)⟩,
 ⟨some 85, .pick, [.t 77, .c (.b true), .t 84], none⟩] [75, 76, 77, 78, 79, 80, 81, 82, 83, 84])
 (.cond (.t 85) [85]
 (.seq
 (.region false [⟨some 86, .mv, [.t 11], none⟩,
 ⟨some 7, .mv, [.t 86], none⟩] [8, 9, 10, 86])
 (.seq
 (.region false [⟨some 87, .mv, [.t 12], none⟩,
 ⟨some 8, .mv, [.t 87], none⟩] [87])
 (.seq
 (.region false [⟨some 88, .mv, [.t 13], none⟩,
 ⟨some 9, .mv, [.t 88], none⟩] [13, 88])
 (.region false [⟨some 89, .mv, [.t 14], none⟩,
 ⟨some 10, .mv, [.t 89], none⟩] [14, 89]))))
 .skip))))
 (.region false [⟨some 53, .mv, [.t 12], none⟩,
 ⟨some 54, .bin .add, [.t 53, .c (.i 1)], none⟩,
 ⟨some 12, .mv, [.t 54], none⟩] [13, 14, 53, 54])))
def F_spec_ChainOrder_W2 : LC := .loop F_spec_ChainOrder_L2
def F_spec_ChainOrder_L1 : LC :=
 (.seq
 (.seq
 (.region false [⟨some 35, .mv, [.t 11], none⟩,
 ⟨some 36, .mv, [.t 1], none⟩,
 ⟨some 37, .len, [.t 36], none⟩,
 ⟨some 38, .bin .lss, [.t 35, .t 37], none⟩] [35, 36, 37])
 (.cond (.t 38) [38]
 .skip
 (.exit 2)))
 (.seq
 (.block 3
 (.seq
 (.region false [⟨some 12, .mv, [.c (.i 1)], none⟩] [])
 (.block 4
 F_spec_ChainOrder_W2)))
 (.region false [⟨some 39, .mv, [.t 11], none⟩,
 ⟨some 40, .bin .add, [.t 39, .c (.i 1)], none⟩,
 ⟨some 11, .mv, [.t 40], none⟩] [12, 39, 40])))
def F_spec_ChainOrder_W1 : LC := .loop F_spec_ChainOrder_L1
def F_spec_ChainOrder_L0 : LC :=
 (.seq
 (.seq
 (.region false [⟨some 30, .mv, [.t 5], none⟩,
 ⟨some 31, .len, [.t 30], none⟩,
 ⟨some 32, .mv, [.t 0], none⟩,
 ⟨some 33, .len, [.t 32], none⟩,
 ⟨some 34, .bin .lss, [.t 31, .t 33], none⟩] [30, 31, 32, 33])
 (.cond (.t 34) [34]
 .skip
 (.exit 0)))
 (.block 1
 (.seq
 (.region false [⟨some 7, .mv, [.c (.i (-1))], none⟩] [])
 (.seq
 (.region false [⟨some 8, .mv, [.c (.i 0)], none⟩] [])
 (.seq
 (.region false [⟨some 9, .mv, [.c (.i 0)], none⟩] [])
 (.seq
 (.region false [⟨some 10, .mv, [.c (.i 1)], none⟩] [])
 (.seq
 (.seq
 (.region false [⟨some 11, .mv, [.c (.i 0)], none⟩] [])
 (.block 2
 F_spec_ChainOrder_W1))
 (.seq
 (.region true [⟨some 90, .mv, [.t 5], none⟩,
 ⟨some 91, .mv, [.t 1], none⟩,
 ⟨some 92, .mv, [.t 7], none⟩,
 ⟨some 93, .idxa 1, [.t 91, .t 92], none⟩,
 ⟨some 94, .load 1 false, [.t 93], none⟩,
 ⟨some 95, .mv, [.t 6], none⟩,
 ⟨some 96, .mv, [.t 7], none⟩,
 ⟨some 97, .idxa 1, [.t 95, .t 96], none⟩,
 ⟨some 98, .load 1 false, [.t 97], none⟩,
 ⟨some 99, .mv, [.t 6], none⟩,
 ⟨some 100, .mv, [.t 7], none⟩,
 ⟨some 101, .idxa 1, [.t 99, .t 100], none⟩,
 ⟨some 102, .load 1 false, [.t 101], none⟩,
 ⟨some 103, .mv, [.t 8], none⟩,
 ⟨some 104, .bin .add, [.t 102, .t 103], none⟩,
 ⟨some 105, .slice true true 1, [.t 94, .t 98, .t 104], none⟩,
 ⟨some 106, .app 54280 1, [.t 90, .t 105], none⟩,
 ⟨some 5, .mv, [.t 106], none⟩] [9, 10, 11, 90, 91, 92, 93, 94, 95, 96, 97, 98, 99, 100, 101, 102, 103, 104, 105, 106])
 (.region false [⟨some 107, .mv, [.t 6], none⟩,
 ⟨some 108, .mv, [.t 7], none⟩,
 ⟨some 109, .mv, [.t 6], none⟩,
 ⟨some 110, .mv, [.t 7], none⟩,
 ⟨some 111, .idxa 1, [.t 109, .t 110], none⟩,
 ⟨some 112, .load 1 false, [.t 111], none⟩,
 ⟨some 113, .mv, [.t 8], none⟩,
 ⟨some 114, .bin .add, [.t 112, .t 113], none⟩,
 ⟨some 115, .idxa 1, [.t 107, .t 108], none⟩,
 ⟨none, .store 1, [.t 115, .t 114], none⟩] [7, 8, 107, 108, 109, 110, 111, 112, 113, 114, 115])))))))))
def F_spec_ChainOrder_W0 : LC := .loop F_spec_ChainOrder_L0
def F_spec_ChainOrder : LF :=
 { nparams := 2, results := [.t 4], body :=
 (.seq
 (.region false [⟨some 4, .newnil 2056, [], none⟩] [4])
 (.seq
 (.region false [⟨some 15, .bslice 7688 0 1 (.i 0) [], [], none⟩,
 ⟨some 5, .mv, [.t 15], none⟩] [15])
 (.seq
 (.seq
 (.region false [⟨some 16, .mv, [.t 0], none⟩,
 ⟨some 17, .call n_spec_TestsOk 8704, [.t 16], none⟩,
 ⟨some 18, .un .not, [.t 17], none⟩,
 ⟨some 19, .mv, [.t 18], none⟩,
 ⟨some 20, .mv, [.t 0], some (19, false)⟩,
 ⟨some 21, .len, [.t 20], some (19, false)⟩,
 ⟨some 22, .mv, [.t 1], some (19, false)⟩,
 ⟨some 23, .call n_spec_GroupsOk 11776, [.t 21, .t 22], some (19, false)⟩,
 ⟨some 24, .un .not, [.t 23], some (19, false)⟩,
 ⟨some 25, .pick, [.t 19, .c (.b true), .t 24], none⟩] [16, 17, 18, 19, 20, 21, 22, 23, 24])
 (.cond (.t 25) [25]
 (.seq
 (.region false [⟨some 26, .mv, [.t 5], none⟩,
 ⟨some 4, .mv, [.t 26], none⟩] [0, 1, 5, 26])
 .ret)
 .skip))
 (.seq
 (.region false [⟨some 27, .mv, [.t 1], none⟩,
 ⟨some 28, .len, [.t 27], none⟩,
 ⟨some 29, .make 14856 1 (.i 0), [.t 28, .t 28], none⟩,
 ⟨some 6, .mv, [.t 29], none⟩] [27, 28, 29])
 (.seq
 (.block 0
 F_spec_ChainOrder_W0)
 (.seq
 (.region false [⟨some 116, .mv, [.t 5], none⟩,
 ⟨some 4, .mv, [.t 116], none⟩] [0, 1, 5, 6, 116])
 .ret)))))) }
/-- laws.alive -/
def F_laws_alive : LF :=
 { nparams := 0, results := [.t 0], body :=
 (.seq
 (.region false [⟨some 0, .mv, [.c (.b false)], none⟩] [0])
 (.seq
 (.region false [⟨some 1, .build [.i 0, .i 0] [(0, 1), (1, 1)], [.c (.i 1), .c (.i 1)], none⟩,
 ⟨some 2, .bslice 1040 1 2 (.st [.i 0, .i 0]) [0], [.t 1], none⟩,
 ⟨some 3, .call n_impl_TestsOk 1536, [.t 2], none⟩,
 ⟨some 4, .mv, [.t 3], none⟩,
 ⟨some 5, .build [.i 0, .i 0] [], [], some (4, true)⟩,
 ⟨some 6, .bslice 3088 1 2 (.st [.i 0, .i 0]) [0], [.t 5], some (4, true)⟩,
 ⟨some 7, .call n_impl_TestsOk 3584, [.t 6], some (4, true)⟩,
 ⟨some 8, .un .not, [.t 7], some (4, true)⟩,
 ⟨some 9, .pick, [.t 4, .t 8, .c (.b false)], none⟩,
 ⟨some 0, .mv, [.t 9], none⟩] [1, 2, 3, 4, 5, 6, 7, 8, 9])
 .ret)) }
/-- spec.DrawKeepsChains -/
def F_spec_DrawKeepsChains : LF :=
 { nparams := 1, results := [.t 2, .t 3, .t 4], body :=
 (.seq
 (.region false [⟨some 2, .mv, [.c (.i 0)], none⟩,
 ⟨some 3, .newnil 1544, [], none⟩,
 ⟨some 4, .newnil 2056, [], none⟩] [2, 3, 4])
 (.seq
 (.region false [⟨some 9, .mv, [.t 0], none⟩,
 ⟨some 10, .call n_spec_l20Open 5120, [.t 9], none⟩,
 ⟨some 5, .mv, [.t 10], none⟩] [0, 9, 10])
 (.seq
 (.region false [⟨some 12, .mv, [.t 5], none⟩,
 ⟨some 13, .call n_spec_l20Grouped 6656, [.t 12], none⟩,
 ⟨some 11, .mv, [.t 13], none⟩,
 ⟨some 14, .ext 0, [.t 11], none⟩,
 ⟨some 15, .ext 1, [.t 11], none⟩,
 ⟨some 6, .mv, [.t 14], none⟩,
 ⟨some 7, .mv, [.t 15], none⟩] [11, 12, 13, 14, 15])
 (.seq
 (.region false [⟨some 16, .mv, [.t 6], none⟩,
 ⟨some 17, .mv, [.t 7], none⟩,
 ⟨some 18, .call n_spec_ChainOrder 9216, [.t 16, .t 17], none⟩,
 ⟨some 8, .mv, [.t 18], none⟩] [16, 17, 18])
 (.seq
 (.seq
 (.region false [⟨some 19, .mv, [.t 8], none⟩,
 ⟨some 20, .len, [.t 19], none⟩,
 ⟨some 21, .bin .gtr, [.t 20, .c (.i 0)], none⟩,
 ⟨some 22, .mv, [.t 21], none⟩,
 ⟨some 23, .mv, [.t 5], some (22, true)⟩,
 ⟨some 24, .call n_spec_l20Rd_pick 12288, [.t 23, .c (.i 2)], some (22, true)⟩,
 ⟨some 25, .bin .eql, [.t 24, .c (.i 0)], some (22, true)⟩,
 ⟨some 26, .pick, [.t 22, .t 25, .c (.b false)], none⟩] [19, 20, 21, 22, 23, 24, 25])
 (.cond (.t 26) [26]
 (.seq
 (.region false [⟨some 27, .mv, [.t 6], none⟩,
 ⟨some 28, .len, [.t 27], none⟩,
 ⟨some 29, .mv, [.t 7], none⟩,
 ⟨some 30, .mv, [.t 8], none⟩,
 ⟨some 2, .mv, [.t 28], none⟩,
 ⟨some 3, .mv, [.t 29], none⟩,
 ⟨some 4, .mv, [.t 30], none⟩] [5, 6, 7, 8, 27, 28, 29, 30])
 .ret)
 .skip))
 (.seq
 (.region false [⟨some 31, .mv, [.t 6], none⟩,
 ⟨some 32, .len, [.t 31], none⟩,
 ⟨some 33, .mv, [.t 7], none⟩,
 ⟨some 34, .mv, [.t 5], none⟩,
 ⟨some 35, .mv, [.t 6], none⟩,
 ⟨some 36, .len, [.t 35], none⟩,
 ⟨some 37, .call n_spec_l20Order 18944, [.t 34, .t 36, .c (.i 14)], none⟩,
 ⟨some 2, .mv, [.t 32], none⟩,
 ⟨some 3, .mv, [.t 33], none⟩,
 ⟨some 4, .mv, [.t 37], none⟩] [5, 6, 7, 8, 31, 32, 33, 34, 35, 36, 37])
 .ret)))))) }
/-- spec.OrderOk -/
def F_spec_OrderOk_L0 : LC :=
 (.seq
 (.seq
 (.region false [⟨some 7, .mv, [.t 6], none⟩,
 ⟨some 8, .mv, [.t 1], none⟩,
 ⟨some 9, .len, [.t 8], none⟩,
 ⟨some 10, .bin .lss, [.t 7, .t 9], none⟩] [7, 8, 9])
 (.cond (.t 10) [10]
 .skip
 (.exit 0)))
 (.seq
 (.block 1
 (.seq
 (.seq
 (.region false [⟨some 13, .mv, [.t 1], none⟩,
 ⟨some 14, .mv, [.t 6], none⟩,
 ⟨some 15, .idxa 1, [.t 13, .t 14], none⟩,
 ⟨some 16, .load 1 false, [.t 15], none⟩,
 ⟨some 17, .bin .lss, [.t 16, .c (.i 0)], none⟩,
 ⟨some 18, .mv, [.t 17], none⟩,
 ⟨some 19, .mv, [.t 1], some (18, false)⟩,
 ⟨some 20, .mv, [.t 6], some (18, false)⟩,
 ⟨some 21, .idxa 1, [.t 19, .t 20], some (18, false)⟩,
 ⟨some 22, .load 1 false, [.t 21], some (18, false)⟩,
 ⟨some 23, .mv, [.t 0], some (18, false)⟩,
 ⟨some 24, .bin .geq, [.t 22, .t 23], some (18, false)⟩,
 ⟨some 25, .pick, [.t 18, .c (.b true), .t 24], none⟩,
 ⟨some 26, .mv, [.t 25], none⟩,
 ⟨some 27, .mv, [.t 1], some (26, false)⟩,
 ⟨some 28, .mv, [.t 6], some (26, false)⟩,
 ⟨some 29, .idxa 1, [.t 27, .t 28], some (26, false)⟩,
 ⟨some 30, .load 1 false, [.t 29], some (26, false)⟩,
 ⟨some 31, .bin .geq, [.t 30, .c (.i 5)], some (26, false)⟩,
 ⟨some 32, .pick, [.t 26, .c (.b true), .t 31], none⟩,
 ⟨some 33, .mv, [.t 32], none⟩,
 ⟨some 34, .mv, [.t 5], some (33, false)⟩,
 ⟨some 35, .mv, [.t 1], some (33, false)⟩,
 ⟨some 36, .mv, [.t 6], some (33, false)⟩,
 ⟨some 37, .idxa 1, [.t 35, .t 36], some (33, false)⟩,
 ⟨some 38, .load 1 false, [.t 37], some (33, false)⟩,
 ⟨some 39, .bin .shr, [.t 34, .t 38], some (33, false)⟩,
 ⟨some 40, .bin .rem, [.t 39, .c (.i 2)], some (33, false)⟩,
 ⟨some 41, .bin .eql, [.t 40, .c (.i 1)], some (33, false)⟩,
 ⟨some 42, .pick, [.t 33, .c (.b true), .t 41], none⟩] [13, 14, 15, 16, 17, 18, 19, 20, 21, 22, 23, 24, 25, 26, 27, 28, 29, 30, 31, 32, 33, 34, 35, 36, 37, 38, 39, 40, 41])
 (.cond (.t 42) [42]
 (.seq
 (.region false [⟨some 4, .mv, [.c (.b false)], none⟩] [0, 1, 5, 6])
 .ret)
 .skip))
 (.region false [⟨some 43, .mv, [.t 5], none⟩,
 ⟨some 44, .mv, [.t 1], none⟩,
 ⟨some 45, .mv, [.t 6], none⟩,
 ⟨some 46, .idxa 1, [.t 44, .t 45], none⟩,
 ⟨some 47, .load 1 false, [.t 46], none⟩,
 ⟨some 48, .bin .shl, [.c (.i 1), .t 47], none⟩,
 ⟨some 49, .bin .or, [.t 43, .t 48], none⟩,
 ⟨some 5, .mv, [.t 49], none⟩] [43, 44, 45, 46, 47, 48, 49])))
 (.region false [⟨some 11, .mv, [.t 6], none⟩,
 ⟨some 12, .bin .add, [.t 11, .c (.i 1)], none⟩,
 ⟨some 6, .mv, [.t 12], none⟩] [11, 12])))
def F_spec_OrderOk_W0 : LC := .loop F_spec_OrderOk_L0
def F_spec_OrderOk : LF :=
 { nparams := 2, results := [.t 4], body :=
 (.seq
 (.region false [⟨some 4, .mv, [.c (.b false)], none⟩] [4])
 (.seq
 (.region false [⟨some 5, .mv, [.c (.i 0)], none⟩] [])
 (.seq
 (.seq
 (.region false [⟨some 6, .mv, [.c (.i 0)], none⟩] [])
 (.block 0
 F_spec_OrderOk_W0))
 (.seq
 (.region false [⟨some 50, .mv, [.t 0], none⟩,
 ⟨some 51, .call n_spec_l1In 26112, [.t 50, .c (.i 1), .c (.i 5)], none⟩,
 ⟨some 52, .mv, [.t 51], none⟩,
 ⟨some 53, .mv, [.t 1], some (52, true)⟩,
 ⟨some 54, .len, [.t 53], some (52, true)⟩,
 ⟨some 55, .mv, [.t 0], some (52, true)⟩,
 ⟨some 56, .bin .eql, [.t 54, .t 55], some (52, true)⟩,
 ⟨some 57, .pick, [.t 52, .t 56, .c (.b false)], none⟩,
 ⟨some 4, .mv, [.t 57], none⟩] [0, 1, 5, 6, 50, 51, 52, 53, 54, 55, 56, 57])
 .ret)))) }
/-- spec.GroupsOk -/
def F_spec_GroupsOk_L1 : LC :=
 (.seq
 (.seq
 (.region false [⟨some 22, .mv, [.t 8], none⟩,
 ⟨some 23, .mv, [.t 1], none⟩,
 ⟨some 24, .mv, [.t 7], none⟩,
 ⟨some 25, .idxa 1, [.t 23, .t 24], none⟩,
 ⟨some 26, .load 1 false, [.t 25], none⟩,
 ⟨some 27, .len, [.t 26], none⟩,
 ⟨some 28, .bin .lss, [.t 22, .t 27], none⟩] [22, 23, 24, 25, 26, 27])
 (.cond (.t 28) [28]
 .skip
 (.exit 2)))
 (.seq
 (.block 3
 (.seq
 (.region false [⟨some 31, .mv, [.t 1], none⟩,
 ⟨some 32, .mv, [.t 7], none⟩,
 ⟨some 33, .idxa 1, [.t 31, .t 32], none⟩,
 ⟨some 34, .load 1 false, [.t 33], none⟩,
 ⟨some 35, .mv, [.t 8], none⟩,
 ⟨some 36, .idxa 1, [.t 34, .t 35], none⟩,
 ⟨some 37, .load 1 false, [.t 36], none⟩,
 ⟨some 9, .mv, [.t 37], none⟩] [31, 32, 33, 34, 35, 36, 37])
 (.seq
 (.seq
 (.region false [⟨some 38, .mv, [.t 9], none⟩,
 ⟨some 39, .bin .lss, [.t 38, .c (.i 0)], none⟩,
 ⟨some 40, .mv, [.t 39], none⟩,
 ⟨some 41, .mv, [.t 9], some (40, false)⟩,
 ⟨some 42, .mv, [.t 0], some (40, false)⟩,
 ⟨some 43, .bin .geq, [.t 41, .t 42], some (40, false)⟩,
 ⟨some 44, .pick, [.t 40, .c (.b true), .t 43], none⟩,
 ⟨some 45, .mv, [.t 44], none⟩,
 ⟨some 46, .mv, [.t 9], some (45, false)⟩,
 ⟨some 47, .bin .geq, [.t 46, .c (.i 5)], some (45, false)⟩,
 ⟨some 48, .pick, [.t 45, .c (.b true), .t 47], none⟩,
 ⟨some 49, .mv, [.t 48], none⟩,
 ⟨some 50, .mv, [.t 5], some (49, false)⟩,
 ⟨some 51, .mv, [.t 9], some (49, false)⟩,
 ⟨some 52, .bin .shr, [.t 50, .t 51], some (49, false)⟩,
 ⟨some 53, .bin .rem, [.t 52, .c (.i 2)], some (49, false)⟩,
 ⟨some 54, .bin .eql, [.t 53, .c (.i 1)], some (49, false)⟩,
 ⟨some 55, .pick, [.t 49, .c (.b true), .t 54], none⟩] [38, 39, 40, 41, 42, 43, 44, 45, 46, 47, 48, 49, 50, 51, 52, 53, 54])
 (.cond (.t 55) [55]
 (.seq
 (.region false [⟨some 4, .mv, [.c (.b false)], none⟩] [0, 1, 5, 6, 7, 8, 9])
 .ret)
 .skip))
 (.seq
 (.region false [⟨some 56, .mv, [.t 5], none⟩,
 ⟨some 57, .mv, [.t 9], none⟩,
 ⟨some 58, .bin .shl, [.c (.i 1), .t 57], none⟩,
 ⟨some 59, .bin .or, [.t 56, .t 58], none⟩,
 ⟨some 5, .mv, [.t 59], none⟩] [9, 56, 57, 58, 59])
 (.region false [⟨some 60, .mv, [.t 6], none⟩,
 ⟨some 61, .bin .add, [.t 60, .c (.i 1)], none⟩,
 ⟨some 6, .mv, [.t 61], none⟩] [60, 61])))))
 (.region false [⟨some 29, .mv, [.t 8], none⟩,
 ⟨some 30, .bin .add, [.t 29, .c (.i 1)], none⟩,
 ⟨some 8, .mv, [.t 30], none⟩] [29, 30])))
def F_spec_GroupsOk_W1 : LC := .loop F_spec_GroupsOk_L1
def F_spec_GroupsOk_L0 : LC :=
 (.seq
 (.seq
 (.region false [⟨some 10, .mv, [.t 7], none⟩,
 ⟨some 11, .mv, [.t 1], none⟩,
 ⟨some 12, .len, [.t 11], none⟩,
 ⟨some 13, .bin .lss, [.t 10, .t 12], none⟩] [10, 11, 12])
 (.cond (.t 13) [13]
 .skip
 (.exit 0)))
 (.seq
 (.block 1
 (.seq
 (.seq
 (.region false [⟨some 16, .mv, [.t 1], none⟩,
 ⟨some 17, .mv, [.t 7], none⟩,
 ⟨some 18, .idxa 1, [.t 16, .t 17], none⟩,
 ⟨some 19, .load 1 false, [.t 18], none⟩,
 ⟨some 20, .len, [.t 19], none⟩,
 ⟨some 21, .bin .eql, [.t 20, .c (.i 0)], none⟩] [16, 17, 18, 19, 20])
 (.cond (.t 21) [21]
 (.seq
 (.region false [⟨some 4, .mv, [.c (.b false)], none⟩] [0, 1, 5, 6, 7])
 .ret)
 .skip))
 (.seq
 (.region false [⟨some 8, .mv, [.c (.i 0)], none⟩] [])
 (.block 2
 F_spec_GroupsOk_W1))))
 (.region false [⟨some 14, .mv, [.t 7], none⟩,
 ⟨some 15, .bin .add, [.t 14, .c (.i 1)], none⟩,
 ⟨some 7, .mv, [.t 15], none⟩] [8, 14, 15])))
def F_spec_GroupsOk_W0 : LC := .loop F_spec_GroupsOk_L0
def F_spec_GroupsOk : LF :=
 { nparams := 2, results := [.t 4], body :=
 (.seq
 (.region false [⟨some 4, .mv, [.c (.b false)], none⟩] [4])
 (.seq
 (.region false [⟨some 5, .mv, [.c (.i 0)], none⟩] [])
 (.seq
 (.region false [⟨some 6, .mv, [.c (.i 0)], none⟩] [])
 (.seq
 (.seq
 (.region false [⟨some 7, .mv, [.c (.i 0)], none⟩] [])
 (.block 0
 F_spec_GroupsOk_W0))
 (.seq
 (.region false [⟨some 62, .mv, [.t 0], none⟩,
 ⟨some 63, .call n_spec_l1In 32256, [.t 62, .c (.i 1), .c (.i 5)], none⟩,
 ⟨some 64, .mv, [.t 63], none⟩,
 ⟨some 65, .mv, [.t 6], some (64, true)⟩,
 ⟨some 66, .mv, [.t 0], some (64, true)⟩,
 ⟨some 67, .bin .eql, [.t 65, .t 66], some (64, true)⟩,
 ⟨some 68, .pick, [.t 64, .t 67, .c (.b false)], none⟩,
 ⟨some 4, .mv, [.t 68], none⟩] [0, 1, 5, 6, 7, 62, 63, 64, 65, 66, 67, 68])
 .ret))))) }
/-- laws.sameInts -/
def F_laws_sameInts_L0 : LC :=
 (.seq
 (.seq
 (.region false [⟨some 11, .mv, [.t 5], none⟩,
 ⟨some 12, .mv, [.t 0], none⟩,
 ⟨some 13, .len, [.t 12], none⟩,
 ⟨some 14, .bin .lss, [.t 11, .t 13], none⟩] [11, 12, 13])
 (.cond (.t 14) [14]
 .skip
 (.exit 0)))
 (.seq
 (.block 1
 (.seq
 (.region true [⟨some 17, .mv, [.t 0], none⟩,
 ⟨some 18, .mv, [.t 5], none⟩,
 ⟨some 19, .idxa 1, [.t 17, .t 18], none⟩,
 ⟨some 20, .load 1 false, [.t 19], none⟩,
 ⟨some 21, .mv, [.t 1], none⟩,
 ⟨some 22, .mv, [.t 5], none⟩,
 ⟨some 23, .idxa 1, [.t 21, .t 22], none⟩,
 ⟨some 24, .load 1 false, [.t 23], none⟩,
 ⟨some 25, .bin .neq, [.t 20, .t 24], none⟩] [17, 18, 19, 20, 21, 22, 23, 24])
 (.cond (.t 25) [25]
 (.seq
 (.region false [⟨some 4, .mv, [.c (.b false)], none⟩] [0, 1, 5])
 .ret)
 .skip)))
 (.region false [⟨some 15, .mv, [.t 5], none⟩,
 ⟨some 16, .bin .add, [.t 15, .c (.i 1)], none⟩,
 ⟨some 5, .mv, [.t 16], none⟩] [15, 16])))
def F_laws_sameInts_W0 : LC := .loop F_laws_sameInts_L0
def F_laws_sameInts : LF :=
 { nparams := 2, results := [.t 4], body :=
 (.seq
 (.region false [⟨some 4, .mv, [.c (.b false)], none⟩] [4])
 (.seq
 (.seq
 (.region false [⟨some 6, .mv, [.t 0], none⟩,
 ⟨some 7, .len, [.t 6], none⟩,
 ⟨some 8, .mv, [.t 1], none⟩,
 ⟨some 9, .len, [.t 8], none⟩,
 ⟨some 10, .bin .neq, [.t 7, .t 9], none⟩] [6, 7, 8, 9])
 (.cond (.t 10) [10]
 (.seq
 (.region false [⟨some 4, .mv, [.c (.b false)], none⟩] [0, 1])
 .ret)
 .skip))
 (.seq
 (.seq
 (.region false [⟨some 5, .mv, [.c (.i 0)], none⟩] [])
 (.block 0
 F_laws_sameInts_W0))
 (.seq
 (.region false [⟨some 4, .mv, [.c (.b true)], none⟩] [0, 1, 5])
 .ret)))) }
/-- spec.TestsOk -/
def F_spec_TestsOk_L0 : LC :=
 (.seq
 (.seq
 (.region false [⟨some 4, .mv, [.t 3], none⟩,
 ⟨some 5, .mv, [.t 0], none⟩,
 ⟨some 6, .len, [.t 5], none⟩,
 ⟨some 7, .bin .lss, [.t 4, .t 6], none⟩] [4, 5, 6])
 (.cond (.t 7) [7]
 .skip
 (.exit 0)))
 (.seq
 (.block 1
 (.seq
 (.region false [⟨some 10, .mv, [.t 0], none⟩,
 ⟨some 11, .mv, [.t 3], none⟩,
 ⟨some 12, .idxa 2, [.t 10, .t 11], none⟩,
 ⟨some 13, .fld 0 1 false, [.t 12], none⟩,
 ⟨some 14, .load 1 false, [.t 13], none⟩,
 ⟨some 15, .call n_spec_l1In 7680, [.t 14, .c (.i 1), .c (.i 9)], none⟩,
 ⟨some 16, .un .not, [.t 15], none⟩,
 ⟨some 17, .mv, [.t 16], none⟩,
 ⟨some 18, .mv, [.t 0], some (17, false)⟩,
 ⟨some 19, .mv, [.t 3], some (17, false)⟩,
 ⟨some 20, .idxa 2, [.t 18, .t 19], some (17, false)⟩,
 ⟨some 21, .fld 1 1 false, [.t 20], some (17, false)⟩,
 ⟨some 22, .load 1 false, [.t 21], some (17, false)⟩,
 ⟨some 23, .call n_spec_l1In 11776, [.t 22, .c (.i 1), .c (.i 5)], some (17, false)⟩,
 ⟨some 24, .un .not, [.t 23], some (17, false)⟩,
 ⟨some 25, .pick, [.t 17, .c (.b true), .t 24], none⟩] [10, 11, 12, 13, 14, 15, 16, 17, 18, 19, 20, 21, 22, 23, 24])
 (.cond (.t 25) [25]
 (.seq
 (.region false [⟨some 2, .mv, [.c (.b false)], none⟩] [0, 3])
 .ret)
 .skip)))
 (.region false [⟨some 8, .mv, [.t 3], none⟩,
 ⟨some 9, .bin .add, [.t 8, .c (.i 1)], none⟩,
 ⟨some 3, .mv, [.t 9], none⟩] [8, 9])))
def F_spec_TestsOk_W0 : LC := .loop F_spec_TestsOk_L0
def F_spec_TestsOk : LF :=
 { nparams := 1, results := [.t 2], body :=
 (.seq
 (.region false [⟨some 2, .mv, [.c (.b false)], none⟩] [2])
 (.seq
 (.seq
 (.region false [⟨some 3, .mv, [.c (.i 0)], none⟩] [])
 (.block 0
 F_spec_TestsOk_W0))
 (.seq
 (.region false [⟨some 26, .mv, [.t 0], none⟩,
 ⟨some 27, .len, [.t 26], none⟩,
 ⟨some 28, .call n_spec_l1In 14336, [.t 27, .c (.i 1), .c (.i 5)], none⟩,
 ⟨some 2, .mv, [.t 28], none⟩] [0, 3, 26, 27, 28])
 .ret))) }
/-- spec.l1In -/
def F_spec_l1In : LF :=
 { nparams := 3, results := [.t 6], body :=
 (.seq
 (.region false [⟨some 6, .mv, [.c (.b false)], none⟩] [6])
 (.seq
 (.region false [⟨some 7, .mv, [.t 0], none⟩,
 ⟨some 8, .mv, [.t 1], none⟩,
 ⟨some 9, .bin .geq, [.t 7, .t 8], none⟩,
 ⟨some 10, .mv, [.t 9], none⟩,
 ⟨some 11, .mv, [.t 0], some (10, true)⟩,
 ⟨some 12, .mv, [.t 2], some (10, true)⟩,
 ⟨some 13, .bin .leq, [.t 11, .t 12], some (10, true)⟩,
 ⟨some 14, .pick, [.t 10, .t 13, .c (.b false)], none⟩,
 ⟨some 6, .mv, [.t 14], none⟩] [0, 1, 2, 7, 8, 9, 10, 11, 12, 13, 14])
 .ret)) }
/-- spec.l9Ratio -/
def F_spec_l9Ratio_L0 : LC :=
 (.seq
 (.seq
 (.region false [⟨some 9, .mv, [.t 8], none⟩,
 ⟨some 10, .mv, [.t 1], none⟩,
 ⟨some 11, .len, [.t 10], none⟩,
 ⟨some 12, .bin .lss, [.t 9, .t 11], none⟩] [9, 10, 11])
 (.cond (.t 12) [12]
 .skip
 (.exit 0)))
 (.seq
 (.block 1
 (.seq
 (.region true [⟨some 15, .mv, [.t 6], none⟩,
 ⟨some 16, .mv, [.t 0], none⟩,
 ⟨some 17, .mv, [.t 1], none⟩,
 ⟨some 18, .mv, [.t 8], none⟩,
 ⟨some 19, .idxa 1, [.t 17, .t 18], none⟩,
 ⟨some 20, .load 1 false, [.t 19], none⟩,
 ⟨some 21, .idxa 2, [.t 16, .t 20], none⟩,
 ⟨some 22, .fld 0 1 false, [.t 21], none⟩,
 ⟨some 23, .load 1 false, [.t 22], none⟩,
 ⟨some 24, .mv, [.t 7], none⟩,
 ⟨some 25, .bin .mul, [.t 23, .t 24], none⟩,
 ⟨some 26, .mv, [.t 1], none⟩,
 ⟨some 27, .len, [.t 26], none⟩,
 ⟨some 28, .mv, [.t 8], none⟩,
 ⟨some 29, .bin .sub, [.t 27, .t 28], none⟩,
 ⟨some 30, .call n_spec_l1Power 15360, [.t 29], none⟩,
 ⟨some 31, .bin .mul, [.t 25, .t 30], none⟩,
 ⟨some 32, .bin .add, [.t 15, .t 31], none⟩,
 ⟨some 6, .mv, [.t 32], none⟩] [15, 16, 17, 18, 19, 20, 21, 22, 23, 24, 25, 26, 27, 28, 29, 30, 31, 32])
 (.region false [⟨some 33, .mv, [.t 7], none⟩,
 ⟨some 34, .mv, [.t 0], none⟩,
 ⟨some 35, .mv, [.t 1], none⟩,
 ⟨some 36, .mv, [.t 8], none⟩,
 ⟨some 37, .idxa 1, [.t 35, .t 36], none⟩,
 ⟨some 38, .load 1 false, [.t 37], none⟩,
 ⟨some 39, .idxa 2, [.t 34, .t 38], none⟩,
 ⟨some 40, .fld 1 1 false, [.t 39], none⟩,
 ⟨some 41, .load 1 false, [.t 40], none⟩,
 ⟨some 42, .bin .mul, [.t 33, .t 41], none⟩,
 ⟨some 7, .mv, [.t 42], none⟩] [33, 34, 35, 36, 37, 38, 39, 40, 41, 42])))
 (.region false [⟨some 13, .mv, [.t 8], none⟩,
 ⟨some 14, .bin .add, [.t 13, .c (.i 1)], none⟩,
 ⟨some 8, .mv, [.t 14], none⟩] [13, 14])))
def F_spec_l9Ratio_W0 : LC := .loop F_spec_l9Ratio_L0
def F_spec_l9Ratio : LF :=
 { nparams := 2, results := [.t 4, .t 5], body :=
 (.seq
 (.region false [⟨some 4, .mv, [.c (.i 0)], none⟩,
 ⟨some 5, .mv, [.c (.i 0)], none⟩] [4, 5])
 (.seq
 (.region false [⟨some 6, .mv, [.c (.i 0)], none⟩] [])
 (.seq
 (.region false [⟨some 7, .mv, [.c (.i 1)], none⟩] [])
 (.seq
 (.seq
 (.region false [⟨some 8, .mv, [.c (.i 0)], none⟩] [])
 (.block 0
 F_spec_l9Ratio_W0))
 (.seq
 (.region false [⟨some 43, .mv, [.t 6], none⟩,
 ⟨some 44, .mv, [.t 1], none⟩,
 ⟨some 45, .len, [.t 44], none⟩,
 ⟨some 46, .call n_spec_l1Power 23552, [.t 45], none⟩,
 ⟨some 47, .mv, [.t 7], none⟩,
 ⟨some 48, .bin .sub, [.t 46, .t 47], none⟩,
 ⟨some 4, .mv, [.t 43], none⟩,
 ⟨some 5, .mv, [.t 48], none⟩] [0, 1, 6, 7, 8, 43, 44, 45, 46, 47, 48])
 .ret))))) }
/-- impl.TestsOk -/
def F_impl_TestsOk_L0 : LC :=
 (.seq
 (.region false [⟨some 12, .bin .lss, [.t 11, .t 10], none⟩] [])
 (.seq
 (.cond (.t 12) [12]
 .skip
 (.exit 0))
 (.seq
 (.block 1
 (.seq
 (.region false [⟨some 13, .idxa 2, [.t 9, .t 11], none⟩,
 ⟨some 14, .load 2 true, [.t 13], none⟩,
 ⟨some 4, .alloc 2064 (.st [.i 0, .i 0]), [], none⟩,
 ⟨none, .store 2, [.t 4, .t 14], none⟩] [13, 14])
 (.seq
 (.region false [⟨some 15, .fld 0 1 false, [.t 4], none⟩,
 ⟨some 16, .load 1 false, [.t 15], none⟩,
 ⟨some 17, .call n_impl_isWithin 8704, [.t 16, .c (.i 1), .c (.i 9)], none⟩,
 ⟨some 18, .un .not, [.t 17], none⟩,
 ⟨some 19, .mv, [.t 18], none⟩,
 ⟨some 20, .fld 1 1 false, [.t 4], some (19, false)⟩,
 ⟨some 21, .load 1 false, [.t 20], some (19, false)⟩,
 ⟨some 22, .call n_impl_isWithin 11264, [.t 21, .c (.i 1), .c (.i 5)], some (19, false)⟩,
 ⟨some 23, .un .not, [.t 22], some (19, false)⟩,
 ⟨some 24, .pick, [.t 19, .c (.b true), .t 23], none⟩] [4, 15, 16, 17, 18, 19, 20, 21, 22, 23])
 (.cond (.t 24) [24]
 (.seq
 (.region false [⟨some 2, .mv, [.c (.b false)], none⟩] [9, 10, 11])
 .ret)
 .skip))))
 (.region false [⟨some 25, .bin .add, [.t 11, .c (.i 1)], none⟩,
 ⟨some 11, .mv, [.t 25], none⟩] [25]))))
def F_impl_TestsOk_W0 : LC := .loop F_impl_TestsOk_L0
def F_impl_TestsOk : LF :=
 { nparams := 1, results := [.t 2], body :=
 (.seq
 (.region false [⟨some 2, .mv, [.c (.b false)], none⟩] [2])
 (.seq
 (.seq
 (.region false [⟨some 5, .mv, [.t 0], none⟩,
 ⟨some 6, .len, [.t 5], none⟩,
 ⟨some 7, .call n_impl_manyOk 3584, [.t 6], none⟩,
 ⟨some 8, .un .not, [.t 7], none⟩] [5, 6, 7])
 (.cond (.t 8) [8]
 (.seq
 (.region false [⟨some 2, .mv, [.c (.b false)], none⟩] [0])
 .ret)
 .skip))
 (.seq
 (.seq
 (.region false [⟨some 9, .mv, [.t 0], none⟩,
 ⟨some 10, .len, [.t 9], none⟩,
 ⟨some 11, .mv, [.c (.i 0)], none⟩] [0])
 (.block 0
 F_impl_TestsOk_W0))
 (.seq
 (.region false [⟨some 2, .mv, [.c (.b true)], none⟩] [9, 10, 11])
 .ret)))) }
/-- impl.GroupsOk -/
def F_impl_GroupsOk_L0 : LC :=
 (.seq
 (.region false [⟨some 14, .bin .lss, [.t 13, .t 12], none⟩] [])
 (.seq
 (.cond (.t 14) [14]
 .skip
 (.exit 0))
 (.seq
 (.block 1
 (.seq
 (.region false [⟨some 15, .idxa 1, [.t 11, .t 13], none⟩,
 ⟨some 16, .load 1 false, [.t 15], none⟩,
 ⟨some 7, .mv, [.t 16], none⟩] [15, 16])
 (.seq
 (.seq
 (.region false [⟨some 17, .mv, [.t 7], none⟩,
 ⟨some 18, .len, [.t 17], none⟩,
 ⟨some 19, .mv, [.t 0], none⟩,
 ⟨some 20, .mv, [.t 5], none⟩,
 ⟨some 21, .len, [.t 20], none⟩,
 ⟨some 22, .bin .sub, [.t 19, .t 21], none⟩,
 ⟨some 23, .call n_impl_isWithin 11776, [.t 18, .c (.i 1), .t 22], none⟩,
 ⟨some 24, .un .not, [.t 23], none⟩] [17, 18, 19, 20, 21, 22, 23])
 (.cond (.t 24) [24]
 (.seq
 (.region false [⟨some 4, .mv, [.c (.b false)], none⟩] [0, 5, 7, 11, 12, 13])
 .ret)
 .skip))
 (.region false [⟨some 25, .mv, [.t 5], none⟩,
 ⟨some 26, .mv, [.t 7], none⟩,
 ⟨some 27, .app 13832 1, [.t 25, .t 26], none⟩,
 ⟨some 5, .mv, [.t 27], none⟩] [7, 25, 26, 27]))))
 (.region false [⟨some 28, .bin .add, [.t 13, .c (.i 1)], none⟩,
 ⟨some 13, .mv, [.t 28], none⟩] [28]))))
def F_impl_GroupsOk_W0 : LC := .loop F_impl_GroupsOk_L0
def F_impl_GroupsOk : LF :=
 { nparams := 2, results := [.t 4], body :=
 (.seq
 (.region false [⟨some 4, .mv, [.c (.b false)], none⟩] [4])
 (.seq
 (.seq
 (.region false [⟨some 8, .mv, [.t 0], none⟩,
 ⟨some 9, .call n_impl_manyOk 4608, [.t 8], none⟩,
 ⟨some 10, .un .not, [.t 9], none⟩] [8, 9])
 (.cond (.t 10) [10]
 (.seq
 (.region false [⟨some 4, .mv, [.c (.b false)], none⟩] [0, 1])
 .ret)
 .skip))
 (.seq
 (.region false [⟨some 5, .newnil 2568, [], none⟩] [])
 (.seq
 (.seq
 (.region false [⟨some 11, .mv, [.t 1], none⟩,
 ⟨some 12, .len, [.t 11], none⟩,
 ⟨some 13, .mv, [.c (.i 0)], none⟩] [1])
 (.block 0
 F_impl_GroupsOk_W0))
 (.seq
 (.region false [⟨some 29, .mv, [.t 0], none⟩,
 ⟨some 30, .mv, [.t 5], none⟩,
 ⟨some 31, .call n_impl_OrderOk 15872, [.t 29, .t 30], none⟩,
 ⟨some 4, .mv, [.t 31], none⟩] [0, 5, 11, 12, 13, 29, 30, 31])
 .ret))))) }
/-- impl.isWithin -/
def F_impl_isWithin : LF :=
 { nparams := 3, results := [.t 6], body :=
 (.seq
 (.region false [⟨some 6, .mv, [.c (.b false)], none⟩] [6])
 (.seq
 (.region false [⟨some 7, .mv, [.t 1], none⟩,
 ⟨some 8, .mv, [.t 0], none⟩,
 ⟨some 9, .bin .leq, [.t 7, .t 8], none⟩,
 ⟨some 10, .mv, [.t 9], none⟩,
 ⟨some 11, .mv, [.t 0], some (10, true)⟩,
 ⟨some 12, .mv, [.t 2], some (10, true)⟩,
 ⟨some 13, .bin .leq, [.t 11, .t 12], some (10, true)⟩,
 ⟨some 14, .pick, [.t 10, .t 13, .c (.b false)], none⟩,
 ⟨some 6, .mv, [.t 14], none⟩] [0, 1, 2, 7, 8, 9, 10, 11, 12, 13, 14])
 .ret)) }
/-- impl.OrderOk -/
def F_impl_OrderOk_L0 : LC :=
 (.seq
 (.region false [⟨some 20, .bin .lss, [.t 19, .t 18], none⟩] [])
 (.seq
 (.cond (.t 20) [20]
 .skip
 (.exit 0))
 (.seq
 (.block 1
 (.seq
 (.region false [⟨some 21, .idxa 1, [.t 17, .t 19], none⟩,
 ⟨some 22, .load 1 false, [.t 21], none⟩,
 ⟨some 7, .mv, [.t 22], none⟩] [21, 22])
 (.seq
 (.seq
 (.region false [⟨some 23, .mv, [.t 7], none⟩,
 ⟨some 24, .mv, [.t 0], none⟩,
 ⟨some 25, .bin .sub, [.t 24, .c (.i 1)], none⟩,
 ⟨some 26, .call n_impl_isWithin 13312, [.t 23, .c (.i 0), .t 25], none⟩,
 ⟨some 27, .un .not, [.t 26], none⟩,
 ⟨some 28, .mv, [.t 27], none⟩,
 ⟨some 29, .mv, [.t 5], some (28, false)⟩,
 ⟨some 30, .mv, [.t 7], some (28, false)⟩,
 ⟨some 31, .call n_impl_hasTest 15872, [.t 29, .t 30], some (28, false)⟩,
 ⟨some 32, .pick, [.t 28, .c (.b true), .t 31], none⟩] [23, 24, 25, 26, 27, 28, 29, 30, 31])
 (.cond (.t 32) [32]
 (.seq
 (.region false [⟨some 4, .mv, [.c (.b false)], none⟩] [0, 5, 7, 17, 18, 19])
 .ret)
 .skip))
 (.region false [⟨some 33, .mv, [.t 5], none⟩,
 ⟨some 34, .mv, [.t 7], none⟩,
 ⟨some 35, .bin .shl, [.c (.i 1), .t 34], none⟩,
 ⟨some 36, .bin .or, [.t 33, .t 35], none⟩,
 ⟨some 5, .mv, [.t 36], none⟩] [7, 33, 34, 35, 36]))))
 (.region false [⟨some 37, .bin .add, [.t 19, .c (.i 1)], none⟩,
 ⟨some 19, .mv, [.t 37], none⟩] [37]))))
def F_impl_OrderOk_W0 : LC := .loop F_impl_OrderOk_L0
def F_impl_OrderOk : LF :=
 { nparams := 2, results := [.t 4], body :=
 (.seq
 (.region false [⟨some 4, .mv, [.c (.b false)], none⟩] [4])
 (.seq
 (.seq
 (.region false [⟨some 8, .mv, [.t 0], none⟩,
 ⟨some 9, .call n_impl_manyOk 4608, [.t 8], none⟩,
 ⟨some 10, .un .not, [.t 9], none⟩,
 ⟨some 11, .mv, [.t 10], none⟩,
 ⟨some 12, .mv, [.t 1], some (11, false)⟩,
 ⟨some 13, .len, [.t 12], some (11, false)⟩,
 ⟨some 14, .mv, [.t 0], some (11, false)⟩,
 ⟨some 15, .bin .neq, [.t 13, .t 14], some (11, false)⟩,
 ⟨some 16, .pick, [.t 11, .c (.b true), .t 15], none⟩] [8, 9, 10, 11, 12, 13, 14, 15])
 (.cond (.t 16) [16]
 (.seq
 (.region false [⟨some 4, .mv, [.c (.b false)], none⟩] [0, 1])
 .ret)
 .skip))
 (.seq
 (.region false [⟨some 5, .mv, [.c (.i 0)], none⟩] [])
 (.seq
 (.seq
 (.region false [⟨some 17, .mv, [.t 1], none⟩,
 ⟨some 18, .len, [.t 17], none⟩,
 ⟨some 19, .mv, [.c (.i 0)], none⟩] [1])
 (.block 0
 F_impl_OrderOk_W0))
 (.seq
 (.region false [⟨some 4, .mv, [.c (.b true)], none⟩] [0, 5, 17, 18, 19])
 .ret))))) }
/-- impl.KeepsChains$1 -/
def F_impl_KeepsChains_1 : LF :=
 { nparams := 3, results := [.t 5], body :=
 (.seq
 (.region false [⟨some 5, .mv, [.c (.i 0)], none⟩] [5])
 (.seq
 (.region true [⟨some 6, .load 1 false, [.t 2], none⟩,
 ⟨some 7, .mv, [.t 0], none⟩,
 ⟨some 8, .call n_slices_Index_int_int 4096, [.t 6, .t 7], none⟩,
 ⟨some 9, .load 1 false, [.t 2], none⟩,
 ⟨some 10, .mv, [.t 1], none⟩,
 ⟨some 11, .call n_slices_Index_int_int 5632, [.t 9, .t 10], none⟩,
 ⟨some 12, .bin .sub, [.t 8, .t 11], none⟩,
 ⟨some 5, .mv, [.t 12], none⟩] [0, 1, 2, 6, 7, 8, 9, 10, 11, 12])
 .ret)) }
/-- slices.Index[[]int,int] -/
def F_slices_Index_int_int_L0 : LC :=
 (.seq
 (.region false [⟨some 9, .bin .lss, [.t 8, .t 7], none⟩] [])
 (.seq
 (.cond (.t 9) [9]
 .skip
 (.exit 0))
 (.seq
 (.block 1
 (.seq
 (.region false [⟨some 10, .mv, [.t 8], none⟩,
 ⟨some 5, .mv, [.t 10], none⟩] [10])
 (.seq
 (.region false [⟨some 11, .mv, [.t 1], none⟩,
 ⟨some 12, .mv, [.t 0], none⟩,
 ⟨some 13, .mv, [.t 5], none⟩,
 ⟨some 14, .idxa 1, [.t 12, .t 13], none⟩,
 ⟨some 15, .load 1 false, [.t 14], none⟩,
 ⟨some 16, .bin .eql, [.t 11, .t 15], none⟩] [11, 12, 13, 14, 15])
 (.cond (.t 16) [16]
 (.seq
 (.region false [⟨some 17, .mv, [.t 5], none⟩,
 ⟨some 4, .mv, [.t 17], none⟩] [0, 1, 5, 7, 8, 17])
 .ret)
 .skip))))
 (.region false [⟨some 18, .bin .add, [.t 8, .c (.i 1)], none⟩,
 ⟨some 8, .mv, [.t 18], none⟩] [5, 18]))))
def F_slices_Index_int_int_W0 : LC := .loop F_slices_Index_int_int_L0
def F_slices_Index_int_int : LF :=
 { nparams := 2, results := [.t 4], body :=
 (.seq
 (.region false [⟨some 4, .mv, [.c (.i 0)], none⟩] [4])
 (.seq
 (.seq
 (.region false [⟨some 6, .mv, [.t 0], none⟩,
 ⟨some 7, .len, [.t 6], none⟩,
 ⟨some 8, .mv, [.c (.i 0)], none⟩] [6])
 (.block 0
 F_slices_Index_int_int_W0))
 (.seq
 (.region false [⟨some 4, .mv, [.c (.i (-1))], none⟩] [0, 1, 7, 8])
 .ret))) }
/-- slices.IsSortedFunc[[]int,int] -/
def F_slices_IsSortedFunc_int_int_L0 : LC :=
 (.seq
 (.seq
 (.region false [⟨some 9, .mv, [.t 5], none⟩,
 ⟨some 10, .bin .gtr, [.t 9, .c (.i 0)], none⟩] [9])
 (.cond (.t 10) [10]
 .skip
 (.exit 0)))
 (.seq
 (.block 1
 (.seq
 (.region true [⟨some 13, .mv, [.t 1], none⟩,
 ⟨some 14, .mv, [.t 0], none⟩,
 ⟨some 15, .mv, [.t 5], none⟩,
 ⟨some 16, .idxa 1, [.t 14, .t 15], none⟩,
 ⟨some 17, .load 1 false, [.t 16], none⟩,
 ⟨some 18, .mv, [.t 0], none⟩,
 ⟨some 19, .mv, [.t 5], none⟩,
 ⟨some 20, .bin .sub, [.t 19, .c (.i 1)], none⟩,
 ⟨some 21, .idxa 1, [.t 18, .t 20], none⟩,
 ⟨some 22, .load 1 false, [.t 21], none⟩,
 ⟨some 23, .calld 11776, [.t 13, .t 17, .t 22], none⟩,
 ⟨some 24, .bin .lss, [.t 23, .c (.i 0)], none⟩] [13, 14, 15, 16, 17, 18, 19, 20, 21, 22, 23])
 (.cond (.t 24) [24]
 (.seq
 (.region false [⟨some 4, .mv, [.c (.b false)], none⟩] [0, 1, 5])
 .ret)
 .skip)))
 (.region false [⟨some 11, .mv, [.t 5], none⟩,
 ⟨some 12, .bin .sub, [.t 11, .c (.i 1)], none⟩,
 ⟨some 5, .mv, [.t 12], none⟩] [11, 12])))
def F_slices_IsSortedFunc_int_int_W0 : LC := .loop F_slices_IsSortedFunc_int_int_L0
def F_slices_IsSortedFunc_int_int : LF :=
 { nparams := 2, results := [.t 4], body :=
 (.seq
 (.region false [⟨some 4, .mv, [.c (.b false)], none⟩] [4])
 (.seq
 (.seq
 (.region false [⟨some 6, .mv, [.t 0], none⟩,
 ⟨some 7, .len, [.t 6], none⟩,
 ⟨some 8, .bin .sub, [.t 7, .c (.i 1)], none⟩,
 ⟨some 5, .mv, [.t 8], none⟩] [6, 7, 8])
 (.block 0
 F_slices_IsSortedFunc_int_int_W0))
 (.seq
 (.region false [⟨some 4, .mv, [.c (.b true)], none⟩] [0, 1, 5])
 .ret))) }
/-- spec.l20Open -/
def F_spec_l20Open : LF :=
 { nparams := 1, results := [.t 2], body :=
 (.seq
 (.region false [⟨some 2, .mv, [.c (.np)], none⟩] [2])
 (.seq
 (.seq
 (.region false [⟨some 3, .mv, [.t 0], none⟩,
 ⟨some 4, .len, [.t 3], none⟩,
 ⟨some 5, .bin .gtr, [.t 4, .c (.i 2000)], none⟩] [3, 4])
 (.cond (.t 5) [5]
 (.region false [⟨some 6, .mv, [.t 0], none⟩,
 ⟨some 7, .slice false true 1, [.t 6, .c (.i 2000)], none⟩,
 ⟨some 0, .mv, [.t 7], none⟩] [6, 7])
 .skip))
 (.seq
 (.region false [⟨some 8, .mv, [.t 0], none⟩,
 ⟨some 9, .build [.sl 1 [], .i 0] [(0, 1)], [.t 8], none⟩,
 ⟨some 10, .box 5136, [.t 9], none⟩,
 ⟨some 2, .mv, [.t 10], none⟩] [0, 8, 9, 10])
 .ret))) }
/-- spec.l20Grouped -/
def F_spec_l20Grouped : LF :=
 { nparams := 1, results := [.t 2, .t 3], body :=
 (.seq
 (.region false [⟨some 2, .newnil 1040, [], none⟩,
 ⟨some 3, .newnil 1544, [], none⟩] [2, 3])
 (.seq
 (.region false [⟨some 5, .mv, [.t 0], none⟩,
 ⟨some 6, .call n_spec_l20Tests 3072, [.t 5, .c (.i 14)], none⟩,
 ⟨some 4, .mv, [.t 6], none⟩] [5, 6])
 (.seq
 (.region false [⟨some 7, .mv, [.t 4], none⟩,
 ⟨some 8, .mv, [.t 0], none⟩,
 ⟨some 9, .mv, [.t 4], none⟩,
 ⟨some 10, .len, [.t 9], none⟩,
 ⟨some 11, .call n_spec_l20Groups 5632, [.t 8, .t 10, .c (.i 14)], none⟩,
 ⟨some 2, .mv, [.t 7], none⟩,
 ⟨some 3, .mv, [.t 11], none⟩] [4, 7, 8, 9, 10, 11])
 .ret))) }
/-- spec.l20Rd).pick -/
def F_spec_l20Rd_pick : LF :=
 { nparams := 2, results := [.t 4], body :=
 (.seq
 (.region false [⟨some 4, .mv, [.c (.i 0)], none⟩] [4])
 (.seq
 (.region false [⟨some 7, .mv, [.t 0], none⟩,
 ⟨some 8, .mv, [.t 0], none⟩,
 ⟨some 9, .chk, [.t 8], none⟩,
 ⟨some 10, .fld 1 1 false, [.t 9], none⟩,
 ⟨some 11, .load 1 false, [.t 10], none⟩,
 ⟨some 12, .bin .add, [.t 11, .c (.i 1)], none⟩,
 ⟨some 13, .chk, [.t 7], none⟩,
 ⟨some 14, .fld 1 1 false, [.t 13], none⟩,
 ⟨none, .store 1, [.t 14, .t 12], none⟩] [7, 8, 9, 10, 11, 12, 13, 14])
 (.seq
 (.seq
 (.region false [⟨some 15, .mv, [.t 1], none⟩,
 ⟨some 16, .bin .lss, [.t 15, .c (.i 1)], none⟩,
 ⟨some 17, .mv, [.t 16], none⟩,
 ⟨some 18, .mv, [.t 0], some (17, false)⟩,
 ⟨some 19, .chk, [.t 18], some (17, false)⟩,
 ⟨some 20, .fld 0 1 false, [.t 19], some (17, false)⟩,
 ⟨some 21, .load 1 false, [.t 20], some (17, false)⟩,
 ⟨some 22, .len, [.t 21], some (17, false)⟩,
 ⟨some 23, .bin .eql, [.t 22, .c (.i 0)], some (17, false)⟩,
 ⟨some 24, .pick, [.t 17, .c (.b true), .t 23], none⟩] [15, 16, 17, 18, 19, 20, 21, 22, 23])
 (.cond (.t 24) [24]
 (.seq
 (.region false [⟨some 4, .mv, [.c (.i 0)], none⟩] [1])
 .ret)
 .skip))
 (.seq
 (.region false [⟨some 25, .mv, [.t 0], none⟩,
 ⟨some 26, .chk, [.t 25], none⟩,
 ⟨some 27, .fld 1 1 false, [.t 26], none⟩,
 ⟨some 28, .load 1 false, [.t 27], none⟩,
 ⟨some 29, .bin .sub, [.t 28, .c (.i 1)], none⟩,
 ⟨some 5, .mv, [.t 29], none⟩] [25, 26, 27, 28, 29])
 (.seq
 (.seq
 (.region false [⟨some 30, .mv, [.t 5], none⟩,
 ⟨some 31, .mv, [.t 0], none⟩,
 ⟨some 32, .chk, [.t 31], none⟩,
 ⟨some 33, .fld 0 1 false, [.t 32], none⟩,
 ⟨some 34, .load 1 false, [.t 33], none⟩,
 ⟨some 35, .len, [.t 34], none⟩,
 ⟨some 36, .bin .lss, [.t 30, .t 35], none⟩] [30, 31, 32, 33, 34, 35])
 (.cond (.t 36) [36]
 (.seq
 (.region false [⟨some 37, .mv, [.t 0], none⟩,
 ⟨some 38, .chk, [.t 37], none⟩,
 ⟨some 39, .fld 0 1 false, [.t 38], none⟩,
 ⟨some 40, .load 1 false, [.t 39], none⟩,
 ⟨some 41, .mv, [.t 5], none⟩,
 ⟨some 42, .idxa 1, [.t 40, .t 41], none⟩,
 ⟨some 43, .load 1 false, [.t 42], none⟩,
 ⟨some 44, .conv .b2i 22528, [.t 43], none⟩,
 ⟨some 45, .mv, [.t 1], none⟩,
 ⟨some 46, .bin .rem, [.t 44, .t 45], none⟩,
 ⟨some 4, .mv, [.t 46], none⟩] [1, 5, 37, 38, 39, 40, 41, 42, 43, 44, 45, 46])
 .ret)
 .skip))
 (.seq
 (.region true [⟨some 47, .mv, [.t 0], none⟩,
 ⟨some 48, .chk, [.t 47], none⟩,
 ⟨some 49, .fld 0 1 false, [.t 48], none⟩,
 ⟨some 50, .load 1 false, [.t 49], none⟩,
 ⟨some 51, .mv, [.t 5], none⟩,
 ⟨some 52, .mv, [.t 0], none⟩,
 ⟨some 53, .chk, [.t 52], none⟩,
 ⟨some 54, .fld 0 1 false, [.t 53], none⟩,
 ⟨some 55, .load 1 false, [.t 54], none⟩,
 ⟨some 56, .len, [.t 55], none⟩,
 ⟨some 57, .bin .rem, [.t 51, .t 56], none⟩,
 ⟨some 58, .idxa 1, [.t 50, .t 57], none⟩,
 ⟨some 59, .load 1 false, [.t 58], none⟩,
 ⟨some 60, .conv .b2i 30720, [.t 59], none⟩,
 ⟨some 61, .bin .mul, [.t 60, .c (.i 131)], none⟩,
 ⟨some 62, .mv, [.t 0], none⟩,
 ⟨some 63, .chk, [.t 62], none⟩,
 ⟨some 64, .fld 0 1 false, [.t 63], none⟩,
 ⟨some 65, .load 1 false, [.t 64], none⟩,
 ⟨some 66, .mv, [.t 5], none⟩,
 ⟨some 67, .bin .mul, [.t 66, .c (.i 7)], none⟩,
 ⟨some 68, .bin .add, [.t 67, .c (.i 3)], none⟩,
 ⟨some 69, .mv, [.t 0], none⟩,
 ⟨some 70, .chk, [.t 69], none⟩,
 ⟨some 71, .fld 0 1 false, [.t 70], none⟩,
 ⟨some 72, .load 1 false, [.t 71], none⟩,
 ⟨some 73, .len, [.t 72], none⟩,
 ⟨some 74, .bin .rem, [.t 68, .t 73], none⟩,
 ⟨some 75, .idxa 1, [.t 65, .t 74], none⟩,
 ⟨some 76, .load 1 false, [.t 75], none⟩,
 ⟨some 77, .conv .b2i 39424, [.t 76], none⟩,
 ⟨some 78, .bin .mul, [.t 77, .c (.i 1117)], none⟩,
 ⟨some 79, .bin .add, [.t 61, .t 78], none⟩,
 ⟨some 80, .mv, [.t 5], none⟩,
 ⟨some 81, .bin .mul, [.t 80, .c (.i 29)], none⟩,
 ⟨some 82, .bin .add, [.t 79, .t 81], none⟩,
 ⟨some 83, .mv, [.t 5], none⟩,
 ⟨some 84, .mv, [.t 0], none⟩,
 ⟨some 85, .chk, [.t 84], none⟩,
 ⟨some 86, .fld 0 1 false, [.t 85], none⟩,
 ⟨some 87, .load 1 false, [.t 86], none⟩,
 ⟨some 88, .len, [.t 87], none⟩,
 ⟨some 89, .bin .quo, [.t 83, .t 88], none⟩,
 ⟨some 90, .bin .mul, [.t 89, .c (.i 53)], none⟩,
 ⟨some 91, .bin .add, [.t 82, .t 90], none⟩,
 ⟨some 6, .mv, [.t 91], none⟩] [5, 47, 48, 49, 50, 51, 52, 53, 54, 55, 56, 57, 58, 59, 60, 61, 62, 63, 64, 65, 66, 67, 68, 69, 70, 71, 72, 73, 74, 75, 76, 77, 78, 79, 80, 81, 82, 83, 84, 85, 86, 87, 88, 89, 90, 91])
 (.seq
 (.region false [⟨some 92, .mv, [.t 6], none⟩,
 ⟨some 93, .mv, [.t 6], none⟩,
 ⟨some 94, .bin .quo, [.t 93, .c (.i 64)], none⟩,
 ⟨some 95, .bin .xor, [.t 92, .t 94], none⟩,
 ⟨some 6, .mv, [.t 95], none⟩] [92, 93, 94, 95])
 (.seq
 (.region false [⟨some 96, .mv, [.t 6], none⟩,
 ⟨some 97, .mv, [.t 1], none⟩,
 ⟨some 98, .bin .rem, [.t 96, .t 97], none⟩,
 ⟨some 4, .mv, [.t 98], none⟩] [1, 6, 96, 97, 98])
 .ret)))))))) }
/-- spec.l20Order -/
def F_spec_l20Order_L0 : LC :=
 (.ghost (.rename 7 5640)
 (.seq
 (.seq
 (.region false [⟨some 12, .mv, [.t 8], none⟩,
 ⟨some 13, .mv, [.t 1], none⟩,
 ⟨some 14, .bin .lss, [.t 12, .t 13], none⟩] [12, 13])
 (.cond (.t 14) [14]
 .skip
 (.exit 0)))
 (.seq
 (.block 1
 (.seq
 (.region false [⟨some 17, .mv, [.t 0], none⟩,
 ⟨some 18, .mv, [.t 7], none⟩,
 ⟨some 19, .len, [.t 18], none⟩,
 ⟨some 20, .bin .add, [.t 19, .c (.i 1)], none⟩,
 ⟨some 21, .call n_spec_l20Rd_pick 10752, [.t 17, .t 20], none⟩,
 ⟨some 9, .mv, [.t 21], none⟩] [17, 18, 19, 20, 21])
 (.seq
 (.region false [⟨some 22, .bslice 11272 0 1 (.i 0) [], [], none⟩,
 ⟨some 23, .mv, [.t 7], none⟩,
 ⟨some 24, .mv, [.t 9], none⟩,
 ⟨some 25, .slice false true 1, [.t 23, .t 24], none⟩,
 ⟨some 26, .app 13320 1, [.t 22, .t 25], none⟩,
 ⟨some 10, .mv, [.t 26], none⟩] [22, 23, 24, 25, 26])
 (.seq
 (.region false [⟨some 27, .mv, [.t 10], none⟩,
 ⟨some 28, .mv, [.t 8], none⟩,
 ⟨some 29, .bslice 14856 1 1 (.i 0) [0], [.t 28], none⟩,
 ⟨some 30, .app 15368 1, [.t 27, .t 29], none⟩,
 ⟨some 10, .mv, [.t 30], none⟩] [27, 28, 29, 30])
 (.region false [⟨some 31, .mv, [.t 10], none⟩,
 ⟨some 32, .mv, [.t 7], none⟩,
 ⟨some 33, .mv, [.t 9], none⟩,
 ⟨some 34, .slice true false 1, [.t 32, .t 33], none⟩,
 ⟨some 35, .app 17928 1, [.t 31, .t 34], none⟩,
 ⟨some 7, .mv, [.t 35], none⟩] [9, 10, 31, 32, 33, 34, 35])))))
 (.region false [⟨some 15, .mv, [.t 8], none⟩,
 ⟨some 16, .bin .add, [.t 15, .c (.i 1)], none⟩,
 ⟨some 8, .mv, [.t 16], none⟩] [15, 16]))))
def F_spec_l20Order_W0 : LC := .loop F_spec_l20Order_L0
def F_spec_l20Order : LF :=
 { nparams := 3, results := [.t 6], body :=
 (.seq
 (.region false [⟨some 6, .newnil 3080, [], none⟩] [6])
 (.seq
 (.region false [⟨some 11, .bslice 5640 0 1 (.i 0) [], [], none⟩,
 ⟨some 7, .mv, [.t 11], none⟩] [11])
 (.seq
 (.seq
 (.region false [⟨some 8, .mv, [.c (.i 0)], none⟩] [])
 (.block 0
 F_spec_l20Order_W0))
 (.seq
 (.seq
 (.region false [⟨some 36, .mv, [.t 0], none⟩,
 ⟨some 37, .mv, [.t 2], none⟩,
 ⟨some 38, .call n_spec_l20Rd_odd 19456, [.t 36, .t 37], none⟩] [1, 2, 8, 36, 37])
 (.cond (.t 38) [38]
 (.seq
 (.region false [⟨some 39, .mv, [.t 0], none⟩,
 ⟨some 40, .call n_spec_l20Rd_pick 20480, [.t 39, .c (.i 2)], none⟩] [39])
 (.block 2
 (.seq
 (.region false [⟨some 52, .bin .eql, [.t 40, .c (.i 0)], none⟩,
 ⟨some 51, .mv, [.t 52], none⟩] [40, 52])
 (.cond (.t 51) [51]
 (.seq
 (.region false [⟨some 53, .mv, [.t 7], none⟩,
 ⟨some 54, .bslice 27656 1 1 (.i 0) [0], [.c (.i 0)], none⟩,
 ⟨some 55, .app 28168 1, [.t 53, .t 54], none⟩,
 ⟨some 6, .mv, [.t 55], none⟩] [7, 53, 54, 55])
 .ret)
 (.seq
 (.region false [⟨some 41, .mv, [.t 7], none⟩,
 ⟨some 42, .len, [.t 41], none⟩,
 ⟨some 43, .bin .gtr, [.t 42, .c (.i 0)], none⟩] [41, 42])
 (.cond (.t 43) [43]
 (.region false [⟨some 44, .mv, [.t 7], none⟩,
 ⟨some 45, .bslice 23048 2 1 (.i 0) [0, 1], [.c (.i 5), .c (.i (-1))], none⟩,
 ⟨some 46, .mv, [.t 0], none⟩,
 ⟨some 47, .call n_spec_l20Rd_pick 24064, [.t 46, .c (.i 2)], none⟩,
 ⟨some 48, .idxa 1, [.t 45, .t 47], none⟩,
 ⟨some 49, .load 1 false, [.t 48], none⟩,
 ⟨some 50, .idxa 1, [.t 44, .c (.i 0)], none⟩,
 ⟨none, .store 1, [.t 50, .t 49], none⟩] [44, 45, 46, 47, 48, 49, 50])
 .skip))))))
 .skip))
 (.seq
 (.region false [⟨some 56, .mv, [.t 7], none⟩,
 ⟨some 6, .mv, [.t 56], none⟩] [7, 56])
 .ret))))) }
/-- spec.l1Power -/
def F_spec_l1Power_L0 : LC :=
 (.seq
 (.seq
 (.region false [⟨some 5, .mv, [.t 4], none⟩,
 ⟨some 6, .mv, [.t 0], none⟩,
 ⟨some 7, .bin .lss, [.t 5, .t 6], none⟩] [5, 6])
 (.cond (.t 7) [7]
 .skip
 (.exit 0)))
 (.seq
 (.block 1
 (.region false [⟨some 10, .mv, [.t 3], none⟩,
 ⟨some 11, .bin .mul, [.t 10, .c (.i 6)], none⟩,
 ⟨some 3, .mv, [.t 11], none⟩] [10, 11]))
 (.region false [⟨some 8, .mv, [.t 4], none⟩,
 ⟨some 9, .bin .add, [.t 8, .c (.i 1)], none⟩,
 ⟨some 4, .mv, [.t 9], none⟩] [8, 9])))
def F_spec_l1Power_W0 : LC := .loop F_spec_l1Power_L0
def F_spec_l1Power : LF :=
 { nparams := 1, results := [.t 2], body :=
 (.seq
 (.region false [⟨some 2, .mv, [.c (.i 0)], none⟩] [2])
 (.seq
 (.region false [⟨some 3, .mv, [.c (.i 1)], none⟩] [])
 (.seq
 (.seq
 (.region false [⟨some 4, .mv, [.c (.i 0)], none⟩] [])
 (.block 0
 F_spec_l1Power_W0))
 (.seq
 (.region false [⟨some 12, .mv, [.t 3], none⟩,
 ⟨some 2, .mv, [.t 12], none⟩] [0, 3, 4, 12])
 .ret)))) }
/-- impl.manyOk -/
def F_impl_manyOk : LF :=
 { nparams := 1, results := [.t 2], body :=
 (.seq
 (.region false [⟨some 2, .mv, [.c (.b false)], none⟩] [2])
 (.seq
 (.region false [⟨some 3, .mv, [.t 0], none⟩,
 ⟨some 4, .call n_impl_isWithin 2048, [.t 3, .c (.i 1), .c (.i 5)], none⟩,
 ⟨some 2, .mv, [.t 4], none⟩] [0, 3, 4])
 .ret)) }
/-- impl.hasTest -/
def F_impl_hasTest : LF :=
 { nparams := 2, results := [.t 4], body :=
 (.seq
 (.region false [⟨some 4, .mv, [.c (.b false)], none⟩] [4])
 (.seq
 (.region false [⟨some 5, .mv, [.t 0], none⟩,
 ⟨some 6, .mv, [.t 1], none⟩,
 ⟨some 7, .bin .shr, [.t 5, .t 6], none⟩,
 ⟨some 8, .bin .and, [.t 7, .c (.i 1)], none⟩,
 ⟨some 9, .bin .eql, [.t 8, .c (.i 1)], none⟩,
 ⟨some 4, .mv, [.t 9], none⟩] [0, 1, 5, 6, 7, 8, 9])
 .ret)) }
/-- spec.l20Tests -/
def F_spec_l20Tests_L0 : LC :=
 (.seq
 (.seq
 (.region false [⟨some 11, .mv, [.t 6], none⟩,
 ⟨some 12, .bin .gtr, [.t 11, .c (.i 0)], none⟩] [11])
 (.cond (.t 12) [12]
 .skip
 (.exit 0)))
 (.seq
 (.block 1
 (.region false [⟨some 15, .mv, [.t 5], none⟩,
 ⟨some 16, .mv, [.t 0], none⟩,
 ⟨some 17, .call n_spec_l20Rd_pick 8704, [.t 16, .c (.i 9)], none⟩,
 ⟨some 18, .bin .add, [.c (.i 1), .t 17], none⟩,
 ⟨some 19, .mv, [.t 0], none⟩,
 ⟨some 20, .call n_spec_l20Rd_pick 10240, [.t 19, .c (.i 5)], none⟩,
 ⟨some 21, .bin .add, [.c (.i 1), .t 20], none⟩,
 ⟨some 22, .build [.i 0, .i 0] [(0, 1), (1, 1)], [.t 18, .t 21], none⟩,
 ⟨some 23, .bslice 11792 1 2 (.st [.i 0, .i 0]) [0], [.t 22], none⟩,
 ⟨some 24, .app 12304 2, [.t 15, .t 23], none⟩,
 ⟨some 5, .mv, [.t 24], none⟩] [15, 16, 17, 18, 19, 20, 21, 22, 23, 24]))
 (.region false [⟨some 13, .mv, [.t 6], none⟩,
 ⟨some 14, .bin .sub, [.t 13, .c (.i 1)], none⟩,
 ⟨some 6, .mv, [.t 14], none⟩] [13, 14])))
def F_spec_l20Tests_W0 : LC := .loop F_spec_l20Tests_L0
def F_spec_l20Tests : LF :=
 { nparams := 2, results := [.t 4], body :=
 (.seq
 (.region false [⟨some 4, .newnil 2064, [], none⟩] [4])
 (.seq
 (.region false [⟨some 7, .bslice 3600 0 2 (.st [.i 0, .i 0]) [], [], none⟩,
 ⟨some 5, .mv, [.t 7], none⟩] [7])
 (.seq
 (.seq
 (.region false [⟨some 8, .mv, [.t 0], none⟩,
 ⟨some 9, .call n_spec_l20Rd_pick 4608, [.t 8, .c (.i 5)], none⟩,
 ⟨some 10, .bin .add, [.c (.i 1), .t 9], none⟩,
 ⟨some 6, .mv, [.t 10], none⟩] [8, 9, 10])
 (.block 0
 F_spec_l20Tests_W0))
 (.seq
 (.seq
 (.region false [⟨some 25, .mv, [.t 0], none⟩,
 ⟨some 26, .mv, [.t 1], none⟩,
 ⟨some 27, .call n_spec_l20Rd_odd 13824, [.t 25, .t 26], none⟩] [1, 6, 25, 26])
 (.cond (.t 27) [27]
 (.seq
 (.region false [⟨some 28, .mv, [.t 0], none⟩,
 ⟨some 29, .call n_spec_l20Rd_pick 14848, [.t 28, .c (.i 3)], none⟩] [28])
 (.block 2
 (.seq
 (.region false [⟨some 39, .bin .eql, [.t 29, .c (.i 0)], none⟩,
 ⟨some 38, .mv, [.t 39], none⟩] [39])
 (.cond (.t 38) [38]
 (.seq
 (.region false [⟨some 40, .bslice 20496 0 2 (.st [.i 0, .i 0]) [], [], none⟩,
 ⟨some 4, .mv, [.t 40], none⟩] [5, 29, 40])
 .ret)
 (.seq
 (.region false [⟨some 42, .bin .eql, [.t 29, .c (.i 1)], none⟩,
 ⟨some 41, .mv, [.t 42], none⟩] [29, 42])
 (.cond (.t 41) [41]
 (.region false [⟨some 43, .mv, [.t 5], none⟩,
 ⟨some 44, .bslice 22536 2 1 (.i 0) [0, 1], [.c (.i 0), .c (.i 10)], none⟩,
 ⟨some 45, .mv, [.t 0], none⟩,
 ⟨some 46, .call n_spec_l20Rd_pick 23552, [.t 45, .c (.i 2)], none⟩,
 ⟨some 47, .idxa 1, [.t 44, .t 46], none⟩,
 ⟨some 48, .load 1 false, [.t 47], none⟩,
 ⟨some 49, .idxa 2, [.t 43, .c (.i 0)], none⟩,
 ⟨some 50, .fld 0 1 false, [.t 49], none⟩,
 ⟨none, .store 1, [.t 50, .t 48], none⟩] [43, 44, 45, 46, 47, 48, 49, 50])
 (.region false [⟨some 30, .mv, [.t 5], none⟩,
 ⟨some 31, .bslice 15880 2 1 (.i 0) [0, 1], [.c (.i 0), .c (.i 6)], none⟩,
 ⟨some 32, .mv, [.t 0], none⟩,
 ⟨some 33, .call n_spec_l20Rd_pick 16896, [.t 32, .c (.i 2)], none⟩,
 ⟨some 34, .idxa 1, [.t 31, .t 33], none⟩,
 ⟨some 35, .load 1 false, [.t 34], none⟩,
 ⟨some 36, .idxa 2, [.t 30, .c (.i 0)], none⟩,
 ⟨some 37, .fld 1 1 false, [.t 36], none⟩,
 ⟨none, .store 1, [.t 37, .t 35], none⟩] [30, 31, 32, 33, 34, 35, 36, 37])))))))
 .skip))
 (.seq
 (.region false [⟨some 51, .mv, [.t 5], none⟩,
 ⟨some 4, .mv, [.t 51], none⟩] [5, 51])
 .ret))))) }
/-- spec.l20Groups -/
def F_spec_l20Groups_L0 : LC :=
 (.seq
 (.seq
 (.region false [⟨some 15, .mv, [.t 9], none⟩,
 ⟨some 16, .mv, [.t 7], none⟩,
 ⟨some 17, .len, [.t 16], none⟩,
 ⟨some 18, .bin .lss, [.t 15, .t 17], none⟩] [15, 16, 17])
 (.cond (.t 18) [18]
 .skip
 (.exit 0)))
 (.seq
 (.block 1
 (.seq
 (.seq
 (.region false [⟨some 21, .mv, [.t 8], none⟩,
 ⟨some 22, .len, [.t 21], none⟩,
 ⟨some 23, .bin .eql, [.t 22, .c (.i 0)], none⟩,
 ⟨some 24, .mv, [.t 23], none⟩,
 ⟨some 25, .mv, [.t 0], some (24, false)⟩,
 ⟨some 26, .call n_spec_l20Rd_pick 13312, [.t 25, .c (.i 2)], some (24, false)⟩,
 ⟨some 27, .bin .eql, [.t 26, .c (.i 0)], some (24, false)⟩,
 ⟨some 28, .pick, [.t 24, .c (.b true), .t 27], none⟩] [21, 22, 23, 24, 25, 26, 27])
 (.cond (.t 28) [28]
 (.ghost (.shut 8)
 (.region false [⟨some 29, .mv, [.t 8], none⟩,
 ⟨some 30, .bslice 15373 0 1 (.i 0) [], [], none⟩,
 ⟨some 31, .bslice 15880 1 1 (.sl 1 []) [0], [.t 30], none⟩,
 ⟨some 32, .app 16392 1, [.t 29, .t 31], none⟩,
 ⟨some 8, .mv, [.t 32], none⟩] [29, 30, 31, 32]))
 .skip))
 (.seq
 (.region false [⟨some 33, .mv, [.t 8], none⟩,
 ⟨some 34, .len, [.t 33], none⟩,
 ⟨some 35, .bin .sub, [.t 34, .c (.i 1)], none⟩,
 ⟨some 10, .mv, [.t 35], none⟩] [33, 34, 35])
 (.region true [⟨some 36, .mv, [.t 8], none⟩,
 ⟨some 37, .mv, [.t 10], none⟩,
 ⟨some 38, .mv, [.t 8], none⟩,
 ⟨some 39, .mv, [.t 10], none⟩,
 ⟨some 40, .idxa 1, [.t 38, .t 39], none⟩,
 ⟨some 41, .load 1 false, [.t 40], none⟩,
 ⟨some 42, .mv, [.t 7], none⟩,
 ⟨some 43, .mv, [.t 9], none⟩,
 ⟨some 44, .idxa 1, [.t 42, .t 43], none⟩,
 ⟨some 45, .load 1 false, [.t 44], none⟩,
 ⟨some 46, .bslice 23560 1 1 (.i 0) [0], [.t 45], none⟩,
 ⟨some 47, .app 24072 1, [.t 41, .t 46], none⟩,
 ⟨some 48, .idxa 1, [.t 36, .t 37], none⟩,
 ⟨none, .store 1, [.t 48, .t 47], none⟩] [10, 36, 37, 38, 39, 40, 41, 42, 43, 44, 45, 46, 47, 48]))))
 (.region false [⟨some 19, .mv, [.t 9], none⟩,
 ⟨some 20, .bin .add, [.t 19, .c (.i 1)], none⟩,
 ⟨some 9, .mv, [.t 20], none⟩] [19, 20])))
def F_spec_l20Groups_W0 : LC := .loop F_spec_l20Groups_L0
def F_spec_l20Groups : LF :=
 { nparams := 3, results := [.t 6], body :=
 (.seq
 (.region false [⟨some 6, .newnil 3080, [], none⟩] [6])
 (.seq
 (.region false [⟨some 11, .mv, [.t 0], none⟩,
 ⟨some 12, .mv, [.t 1], none⟩,
 ⟨some 13, .call n_spec_l20Order 6656, [.t 11, .t 12, .c (.i 0)], none⟩,
 ⟨some 7, .mv, [.t 13], none⟩] [1, 11, 12, 13])
 (.seq
 (.region false [⟨some 14, .bslice 7176 0 1 (.sl 1 []) [], [], none⟩,
 ⟨some 8, .mv, [.t 14], none⟩] [14])
 (.seq
 (.seq
 (.region false [⟨some 9, .mv, [.c (.i 0)], none⟩] [])
 (.block 0
 F_spec_l20Groups_W0))
 (.seq
 (.seq
 (.ghost (.shut 8)
 (.region false [⟨some 49, .mv, [.t 0], none⟩,
 ⟨some 50, .mv, [.t 2], none⟩,
 ⟨some 51, .call n_spec_l20Rd_odd 26112, [.t 49, .t 50], none⟩] [2, 7, 9, 49, 50]))
 (.cond (.t 51) [51]
 (.seq
 (.region false [⟨some 52, .mv, [.t 0], none⟩,
 ⟨some 53, .call n_spec_l20Rd_pick 27136, [.t 52, .c (.i 2)], none⟩] [52])
 (.block 2
 (.seq
 (.region false [⟨some 59, .bin .eql, [.t 53, .c (.i 0)], none⟩,
 ⟨some 58, .mv, [.t 59], none⟩] [53, 59])
 (.cond (.t 58) [58]
 (.seq
 (.region false [⟨some 60, .mv, [.t 8], none⟩,
 ⟨some 61, .bslice 31240 0 1 (.i 0) [], [], none⟩,
 ⟨some 62, .bslice 31752 1 1 (.sl 1 []) [0], [.t 61], none⟩,
 ⟨some 63, .app 32264 1, [.t 60, .t 62], none⟩,
 ⟨some 6, .mv, [.t 63], none⟩] [8, 60, 61, 62, 63])
 .ret)
 (.seq
 (.region false [⟨some 54, .mv, [.t 8], none⟩,
 ⟨some 55, .bslice 28168 1 1 (.i 0) [0], [.c (.i 0)], none⟩,
 ⟨some 56, .bslice 28680 1 1 (.sl 1 []) [0], [.t 55], none⟩,
 ⟨some 57, .app 29192 1, [.t 54, .t 56], none⟩,
 ⟨some 6, .mv, [.t 57], none⟩] [8, 54, 55, 56, 57])
 .ret)))))
 .skip))
 (.seq
 (.region false [⟨some 64, .mv, [.t 8], none⟩,
 ⟨some 6, .mv, [.t 64], none⟩] [8, 64])
 .ret)))))) }
/-- spec.l20Rd).odd -/
def F_spec_l20Rd_odd : LF :=
 { nparams := 2, results := [.t 4], body :=
 (.seq
 (.region false [⟨some 4, .mv, [.c (.b false)], none⟩] [4])
 (.seq
 (.region false [⟨some 5, .mv, [.t 1], none⟩,
 ⟨some 6, .bin .gtr, [.t 5, .c (.i 0)], none⟩,
 ⟨some 7, .mv, [.t 6], none⟩,
 ⟨some 8, .mv, [.t 0], some (7, true)⟩,
 ⟨some 9, .mv, [.t 1], some (7, true)⟩,
 ⟨some 10, .call n_spec_l20Rd_pick 5120, [.t 8, .t 9], some (7, true)⟩,
 ⟨some 11, .mv, [.t 1], some (7, true)⟩,
 ⟨some 12, .bin .sub, [.t 11, .c (.i 1)], some (7, true)⟩,
 ⟨some 13, .bin .eql, [.t 10, .t 12], some (7, true)⟩,
 ⟨some 14, .pick, [.t 7, .t 13, .c (.b false)], none⟩,
 ⟨some 4, .mv, [.t 14], none⟩] [1, 5, 6, 7, 8, 9, 10, 11, 12, 13, 14])
 .ret)) }
def lf : Nat → Option LF
 | 10 => some F_laws_FnKeepsChains
 | 22 => some F_spec_KeepsChains
 | 24 => some F_impl_KeepsChains
 | 26 => some F_spec_ChainOrder
 | 43 => some F_laws_alive
 | 44 => some F_spec_DrawKeepsChains
 | 45 => some F_spec_OrderOk
 | 46 => some F_spec_GroupsOk
 | 47 => some F_laws_sameInts
 | 53 => some F_spec_TestsOk
 | 54 => some F_spec_l1In
 | 55 => some F_spec_l9Ratio
 | 57 => some F_impl_TestsOk
 | 58 => some F_impl_GroupsOk
 | 59 => some F_impl_isWithin
 | 62 => some F_impl_OrderOk
 | 63 => some F_impl_KeepsChains_1
 | 64 => some F_slices_Index_int_int
 | 65 => some F_slices_IsSortedFunc_int_int
 | 74 => some F_spec_l20Open
 | 75 => some F_spec_l20Grouped
 | 76 => some F_spec_l20Rd_pick
 | 77 => some F_spec_l20Order
 | 85 => some F_spec_l1Power
 | 86 => some F_impl_manyOk
 | 87 => some F_impl_hasTest
 | 94 => some F_spec_l20Tests
 | 95 => some F_spec_l20Groups
 | 96 => some F_spec_l20Rd_odd
 | _ => none
theorem w_laws_FnKeepsChains_0 (S : LS) : ex lf F_laws_FnKeepsChains_W0 S = match ex lf F_laws_FnKeepsChains_L0 S with | some (.normal, S1) => ex lf F_laws_FnKeepsChains_W0 S1 | r => r := ex_loop lf F_laws_FnKeepsChains_L0 S
theorem w_spec_KeepsChains_0 (S : LS) : ex lf F_spec_KeepsChains_W0 S = match ex lf F_spec_KeepsChains_L0 S with | some (.normal, S1) => ex lf F_spec_KeepsChains_W0 S1 | r => r := ex_loop lf F_spec_KeepsChains_L0 S
theorem w_spec_KeepsChains_2 (S : LS) : ex lf F_spec_KeepsChains_W2 S = match ex lf F_spec_KeepsChains_L2 S with | some (.normal, S1) => ex lf F_spec_KeepsChains_W2 S1 | r => r := ex_loop lf F_spec_KeepsChains_L2 S
theorem w_spec_KeepsChains_1 (S : LS) : ex lf F_spec_KeepsChains_W1 S = match ex lf F_spec_KeepsChains_L1 S with | some (.normal, S1) => ex lf F_spec_KeepsChains_W1 S1 | r => r := ex_loop lf F_spec_KeepsChains_L1 S
theorem w_impl_KeepsChains_0 (S : LS) : ex lf F_impl_KeepsChains_W0 S = match ex lf F_impl_KeepsChains_L0 S with | some (.normal, S1) => ex lf F_impl_KeepsChains_W0 S1 | r => r := ex_loop lf F_impl_KeepsChains_L0 S
theorem w_spec_ChainOrder_2 (S : LS) : ex lf F_spec_ChainOrder_W2 S = match ex lf F_spec_ChainOrder_L2 S with | some (.normal, S1) => ex lf F_spec_ChainOrder_W2 S1 | r => r := ex_loop lf F_spec_ChainOrder_L2 S
theorem w_spec_ChainOrder_1 (S : LS) : ex lf F_spec_ChainOrder_W1 S = match ex lf F_spec_ChainOrder_L1 S with | some (.normal, S1) => ex lf F_spec_ChainOrder_W1 S1 | r => r := ex_loop lf F_spec_ChainOrder_L1 S
theorem w_spec_ChainOrder_0 (S : LS) : ex lf F_spec_ChainOrder_W0 S = match ex lf F_spec_ChainOrder_L0 S with | some (.normal, S1) => ex lf F_spec_ChainOrder_W0 S1 | r => r := ex_loop lf F_spec_ChainOrder_L0 S
theorem w_spec_OrderOk_0 (S : LS) : ex lf F_spec_OrderOk_W0 S = match ex lf F_spec_OrderOk_L0 S with | some (.normal, S1) => ex lf F_spec_OrderOk_W0 S1 | r => r := ex_loop lf F_spec_OrderOk_L0 S
theorem w_spec_GroupsOk_1 (S : LS) : ex lf F_spec_GroupsOk_W1 S = match ex lf F_spec_GroupsOk_L1 S with | some (.normal, S1) => ex lf F_spec_GroupsOk_W1 S1 | r => r := ex_loop lf F_spec_GroupsOk_L1 S
theorem w_spec_GroupsOk_0 (S : LS) : ex lf F_spec_GroupsOk_W0 S = match ex lf F_spec_GroupsOk_L0 S with | some (.normal, S1) => ex lf F_spec_GroupsOk_W0 S1 | r => r := ex_loop lf F_spec_GroupsOk_L0 S
theorem w_laws_sameInts_0 (S : LS) : ex lf F_laws_sameInts_W0 S = match ex lf F_laws_sameInts_L0 S with | some (.normal, S1) => ex lf F_laws_sameInts_W0 S1 | r => r := ex_loop lf F_laws_sameInts_L0 S
theorem w_spec_TestsOk_0 (S : LS) : ex lf F_spec_TestsOk_W0 S = match ex lf F_spec_TestsOk_L0 S with | some (.normal, S1) => ex lf F_spec_TestsOk_W0 S1 | r => r := ex_loop lf F_spec_TestsOk_L0 S
theorem w_spec_l9Ratio_0 (S : LS) : ex lf F_spec_l9Ratio_W0 S = match ex lf F_spec_l9Ratio_L0 S with | some (.normal, S1) => ex lf F_spec_l9Ratio_W0 S1 | r => r := ex_loop lf F_spec_l9Ratio_L0 S
theorem w_impl_TestsOk_0 (S : LS) : ex lf F_impl_TestsOk_W0 S = match ex lf F_impl_TestsOk_L0 S with | some (.normal, S1) => ex lf F_impl_TestsOk_W0 S1 | r => r := ex_loop lf F_impl_TestsOk_L0 S
theorem w_impl_GroupsOk_0 (S : LS) : ex lf F_impl_GroupsOk_W0 S = match ex lf F_impl_GroupsOk_L0 S with | some (.normal, S1) => ex lf F_impl_GroupsOk_W0 S1 | r => r := ex_loop lf F_impl_GroupsOk_L0 S
theorem w_impl_OrderOk_0 (S : LS) : ex lf F_impl_OrderOk_W0 S = match ex lf F_impl_OrderOk_L0 S with | some (.normal, S1) => ex lf F_impl_OrderOk_W0 S1 | r => r := ex_loop lf F_impl_OrderOk_L0 S
theorem w_slices_Index_int_int_0 (S : LS) : ex lf F_slices_Index_int_int_W0 S = match ex lf F_slices_Index_int_int_L0 S with | some (.normal, S1) => ex lf F_slices_Index_int_int_W0 S1 | r => r := ex_loop lf F_slices_Index_int_int_L0 S
theorem w_slices_IsSortedFunc_int_int_0 (S : LS) : ex lf F_slices_IsSortedFunc_int_int_W0 S = match ex lf F_slices_IsSortedFunc_int_int_L0 S with | some (.normal, S1) => ex lf F_slices_IsSortedFunc_int_int_W0 S1 | r => r := ex_loop lf F_slices_IsSortedFunc_int_int_L0 S
theorem w_spec_l20Order_0 (S : LS) : ex lf F_spec_l20Order_W0 S = match ex lf F_spec_l20Order_L0 S with | some (.normal, S1) => ex lf F_spec_l20Order_W0 S1 | r => r := ex_loop lf F_spec_l20Order_L0 S
theorem w_spec_l1Power_0 (S : LS) : ex lf F_spec_l1Power_W0 S = match ex lf F_spec_l1Power_L0 S with | some (.normal, S1) => ex lf F_spec_l1Power_W0 S1 | r => r := ex_loop lf F_spec_l1Power_L0 S
theorem w_spec_l20Tests_0 (S : LS) : ex lf F_spec_l20Tests_W0 S = match ex lf F_spec_l20Tests_L0 S with | some (.normal, S1) => ex lf F_spec_l20Tests_W0 S1 | r => r := ex_loop lf F_spec_l20Tests_L0 S
theorem w_spec_l20Groups_0 (S : LS) : ex lf F_spec_l20Groups_W0 S = match ex lf F_spec_l20Groups_L0 S with | some (.normal, S1) => ex lf F_spec_l20Groups_W0 S1 | r => r := ex_loop lf F_spec_l20Groups_L0 S
end Zz
