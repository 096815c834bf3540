/- The functions of the program, read as data. No conditions. -/
import Derived.Test.YthadcdlggmahfaaDoorLgC
set_option linter.unusedSectionVars false
set_option linter.unusedVariables false
set_option linter.unusedSimpArgs false
namespace Zz
open Go.Lg
instance : GL := ⟨[(0, .st [.w (2863311530#32), .w (3435973836#32), .w (4042322160#32), .w (4278255360#32), .w (4294901760#32)])], [88], ["l4_orders.go:82"], [], [(57, [3]), (75, [0]), (95, [0, 2]), (98, [0]), (103, [0]), (110, [0, 2])], [], ["l20_draw.go:447"]⟩
theorem gEnv_0 : gEnv [0] = [(1048576, .adr (.st [.w (2863311530#32), .w (3435973836#32), .w (4042322160#32), .w (4278255360#32), .w (4294901760#32)]))] := rfl
def n_laws_FnGroupTerm : Nat := 3
def n_spec_DrawGroupTerm : Nat := 8
def n_impl_GroupTerm : Nat := 9
def n_laws_sameMarks : Nat := 10
def n_spec_GroupTerm : Nat := 11
def n_impl_GroupsOk : Nat := 12
def n_laws_alive : Nat := 13
def n_impl_ValueOf : Nat := 14
def n_impl_OnceOk : Nat := 15
def n_impl_LettersOf : Nat := 16
def n_spec_GroupsOk : Nat := 28
def n_spec_l20Open : Nat := 34
def n_spec_l20Rd_pick : Nat := 35
def n_spec_l20Groups : Nat := 36
def n_impl_manyOk : Nat := 37
def n_impl_isWithin : Nat := 38
def n_impl_OrderOk : Nat := 39
def n_impl_TestsOk : Nat := 40
def n_impl_TermOk : Nat := 41
def n_impl_StateOk : Nat := 42
def n_impl_hasState : Nat := 43
def n_impl_trueStates : Nat := 44
def n_spec_l1In : Nat := 61
def n_spec_l20Order : Nat := 64
def n_spec_l20Rd_odd : Nat := 65
def n_impl_hasTest : Nat := 66
def n_impl_partsTaken : Nat := 67
def n_impl_markOk : Nat := 68
def n_impl_statesOf : Nat := 69
def n_impl_foldTerm_uint32 : Nat := 70
def n_impl_statesOfPart : Nat := 71
/-- laws.FnGroupTerm -/
def F_laws_FnGroupTerm_L2 : LC :=
 (.seq
 (.seq
 (.region false [⟨some 50, .mv, [.t 10], none⟩,
 ⟨some 51, .mv, [.t 4], none⟩,
 ⟨some 52, .mv, [.t 8], none⟩,
 ⟨some 53, .idxa 1, [.t 51, .t 52], none⟩,
 ⟨some 54, .load 1 false, [.t 53], none⟩,
 ⟨some 55, .len, [.t 54], none⟩,
 ⟨some 56, .bin .lss, [.t 50, .t 55], none⟩] [50, 51, 52, 53, 54, 55])
 (.cond (.t 56) [56]
 .skip
 (.exit 4)))
 (.seq
 (.block 5
 (.region false [⟨some 59, .mv, [.t 9], none⟩,
 ⟨some 60, .mv, [.t 59], none⟩,
 ⟨some 61, .mv, [.t 6], some (60, false)⟩,
 ⟨some 62, .mv, [.t 4], some (60, false)⟩,
 ⟨some 63, .mv, [.t 8], some (60, false)⟩,
 ⟨some 64, .idxa 1, [.t 62, .t 63], some (60, false)⟩,
 ⟨some 65, .load 1 false, [.t 64], some (60, false)⟩,
 ⟨some 66, .mv, [.t 10], some (60, false)⟩,
 ⟨some 67, .idxa 1, [.t 65, .t 66], some (60, false)⟩,
 ⟨some 68, .load 1 false, [.t 67], some (60, false)⟩,
 ⟨some 69, .bin .shr, [.t 61, .t 68], some (60, false)⟩,
 ⟨some 70, .bin .rem, [.t 69, .c (.i 2)], some (60, false)⟩,
 ⟨some 71, .bin .eql, [.t 70, .c (.i 1)], some (60, false)⟩,
 ⟨some 72, .pick, [.t 60, .c (.b true), .t 71], none⟩,
 ⟨some 9, .mv, [.t 72], none⟩] [59, 60, 61, 62, 63, 64, 65, 66, 67, 68, 69, 70, 71, 72]))
 (.region false [⟨some 57, .mv, [.t 10], none⟩,
 ⟨some 58, .bin .add, [.t 57, .c (.i 1)], none⟩,
 ⟨some 10, .mv, [.t 58], none⟩] [57, 58])))
def F_laws_FnGroupTerm_W2 : LC := .loop F_laws_FnGroupTerm_L2
def F_laws_FnGroupTerm_L1 : LC :=
 (.seq
 (.seq
 (.region false [⟨some 44, .mv, [.t 8], none⟩,
 ⟨some 45, .mv, [.t 4], none⟩,
 ⟨some 46, .len, [.t 45], none⟩,
 ⟨some 47, .bin .lss, [.t 44, .t 46], none⟩] [44, 45, 46])
 (.cond (.t 47) [47]
 .skip
 (.exit 2)))
 (.seq
 (.block 3
 (.seq
 (.region false [⟨some 9, .mv, [.c (.b false)], none⟩] [])
 (.seq
 (.seq
 (.region false [⟨some 10, .mv, [.c (.i 0)], none⟩] [])
 (.block 4
 F_laws_FnGroupTerm_W2))
 (.region false [⟨some 73, .mv, [.t 7], none⟩,
 ⟨some 74, .mv, [.t 73], none⟩,
 ⟨some 75, .mv, [.t 9], some (74, true)⟩,
 ⟨some 76, .pick, [.t 74, .t 75, .c (.b false)], none⟩,
 ⟨some 7, .mv, [.t 76], none⟩] [9, 10, 73, 74, 75, 76]))))
 (.region false [⟨some 48, .mv, [.t 8], none⟩,
 ⟨some 49, .bin .add, [.t 48, .c (.i 1)], none⟩,
 ⟨some 8, .mv, [.t 49], none⟩] [48, 49])))
def F_laws_FnGroupTerm_W1 : LC := .loop F_laws_FnGroupTerm_L1
def F_laws_FnGroupTerm_L0 : LC :=
 (.seq
 (.seq
 (.region false [⟨some 38, .mv, [.t 6], none⟩,
 ⟨some 39, .mv, [.t 3], none⟩,
 ⟨some 40, .bin .shl, [.c (.i 1), .t 39], none⟩,
 ⟨some 41, .bin .lss, [.t 38, .t 40], none⟩] [38, 39, 40])
 (.cond (.t 41) [41]
 .skip
 (.exit 0)))
 (.seq
 (.block 1
 (.seq
 (.region false [⟨some 7, .mv, [.c (.b true)], none⟩] [])
 (.seq
 (.seq
 (.region false [⟨some 8, .mv, [.c (.i 0)], none⟩] [])
 (.block 2
 F_laws_FnGroupTerm_W1))
 (.seq
 (.region false [⟨some 77, .mv, [.t 3], none⟩,
 ⟨some 78, .mv, [.t 5], none⟩,
 ⟨some 79, .mv, [.t 6], none⟩,
 ⟨some 80, .call n_impl_ValueOf 40960, [.t 77, .t 78, .t 79], none⟩,
 ⟨some 81, .mv, [.t 7], none⟩,
 ⟨some 82, .eqb true, [.t 80, .t 81], none⟩] [7, 8, 77, 78, 79, 80, 81])
 (.cond (.t 82) [82]
 (.seq
 (.region false [⟨some 2, .mv, [.c (.b false)], none⟩] [3, 4, 5, 6])
 .ret)
 .skip)))))
 (.region false [⟨some 42, .mv, [.t 6], none⟩,
 ⟨some 43, .bin .add, [.t 42, .c (.i 1)], none⟩,
 ⟨some 6, .mv, [.t 43], none⟩] [42, 43])))
def F_laws_FnGroupTerm_W0 : LC := .loop F_laws_FnGroupTerm_L0
def F_laws_FnGroupTerm : LF :=
 { nparams := 1, results := [.t 2], body :=
 (.seq
 (.region false [⟨some 2, .mv, [.c (.b false)], none⟩] [2])
 (.seq
 (.seq
 (.region false [⟨some 11, .mv, [.t 0], none⟩,
 ⟨some 12, .len, [.t 11], none⟩,
 ⟨some 13, .bin .gtr, [.t 12, .c (.i 1048576)], none⟩] [11, 12])
 (.cond (.t 13) [13]
 (.seq
 (.region false [⟨some 2, .mv, [.c (.b true)], none⟩] [0])
 .ret)
 .skip))
 (.seq
 (.region false [⟨some 15, .mv, [.t 0], none⟩,
 ⟨some 16, .call n_spec_DrawGroupTerm 8192, [.t 15], none⟩,
 ⟨some 14, .mv, [.t 16], none⟩,
 ⟨some 17, .ext 0, [.t 14], none⟩,
 ⟨some 18, .ext 1, [.t 14], none⟩,
 ⟨some 3, .mv, [.t 17], none⟩,
 ⟨some 4, .mv, [.t 18], none⟩] [0, 14, 15, 16, 17, 18])
 (.seq
 (.region false [⟨some 19, .mv, [.t 3], none⟩,
 ⟨some 20, .mv, [.t 4], none⟩,
 ⟨some 21, .call n_impl_GroupTerm 10752, [.t 19, .t 20], none⟩,
 ⟨some 5, .mv, [.t 21], none⟩] [19, 20, 21])
 (.seq
 (.seq
 (.region false [⟨some 22, .mv, [.t 5], none⟩,
 ⟨some 23, .mv, [.t 3], none⟩,
 ⟨some 24, .mv, [.t 4], none⟩,
 ⟨some 25, .call n_spec_GroupTerm 12800, [.t 23, .t 24], none⟩,
 ⟨some 26, .call n_laws_sameMarks 13312, [.t 22, .t 25], none⟩,
 ⟨some 27, .un .not, [.t 26], none⟩] [22, 23, 24, 25, 26])
 (.cond (.t 27) [27]
 (.seq
 (.region false [⟨some 2, .mv, [.c (.b false)], none⟩] [3, 4, 5])
 .ret)
 .skip))
 (.seq
 (.seq
 (.region false [⟨some 28, .mv, [.t 5], none⟩,
 ⟨some 29, .len, [.t 28], none⟩,
 ⟨some 30, .bin .eql, [.t 29, .c (.i 0)], none⟩] [28, 29])
 (.cond (.t 30) [30]
 (.seq
 (.region false [⟨some 31, .mv, [.t 3], none⟩,
 ⟨some 32, .mv, [.t 4], none⟩,
 ⟨some 33, .call n_impl_GroupsOk 16896, [.t 31, .t 32], none⟩,
 ⟨some 34, .un .not, [.t 33], none⟩,
 ⟨some 35, .mv, [.t 34], none⟩,
 ⟨some 36, .call n_laws_alive 18432, [], some (35, true)⟩,
 ⟨some 37, .pick, [.t 35, .t 36, .c (.b false)], none⟩,
 ⟨some 2, .mv, [.t 37], none⟩] [3, 4, 5, 31, 32, 33, 34, 35, 36, 37])
 .ret)
 .skip))
 (.seq
 (.seq
 (.region false [⟨some 6, .mv, [.c (.i 0)], none⟩] [])
 (.block 0
 F_laws_FnGroupTerm_W0))
 (.seq
 (.region true [⟨some 83, .mv, [.t 3], none⟩,
 ⟨some 84, .mv, [.t 5], none⟩,
 ⟨some 85, .call n_impl_OnceOk 43520, [.t 83, .t 84], none⟩,
 ⟨some 86, .mv, [.t 85], none⟩,
 ⟨some 87, .mv, [.t 3], some (86, true)⟩,
 ⟨some 88, .mv, [.t 5], some (86, true)⟩,
 ⟨some 89, .call n_impl_LettersOf 45568, [.t 87, .t 88], some (86, true)⟩,
 ⟨some 90, .mv, [.t 3], some (86, true)⟩,
 ⟨some 91, .bin .shl, [.c (.i 1), .t 90], some (86, true)⟩,
 ⟨some 92, .bin .sub, [.t 91, .c (.i 1)], some (86, true)⟩,
 ⟨some 93, .bin .eql, [.t 89, .t 92], some (86, true)⟩,
 ⟨some 94, .pick, [.t 86, .t 93, .c (.b false)], none⟩,
 ⟨some 2, .mv, [.t 94], none⟩] [3, 4, 5, 6, 83, 84, 85, 86, 87, 88, 89, 90, 91, 92, 93, 94])
 .ret)))))))) }
/-- spec.DrawGroupTerm -/
def F_spec_DrawGroupTerm : LF :=
 { nparams := 1, results := [.t 2, .t 3], body :=
 (.seq
 (.region false [⟨some 2, .mv, [.c (.i 0)], none⟩,
 ⟨some 3, .newnil 1544, [], none⟩] [2, 3])
 (.seq
 (.region false [⟨some 6, .mv, [.t 0], none⟩,
 ⟨some 7, .call n_spec_l20Open 3584, [.t 6], none⟩,
 ⟨some 4, .mv, [.t 7], none⟩] [0, 6, 7])
 (.seq
 (.region false [⟨some 8, .mv, [.t 4], none⟩,
 ⟨some 9, .call n_spec_l20Rd_pick 4608, [.t 8, .c (.i 5)], none⟩,
 ⟨some 10, .bin .add, [.c (.i 1), .t 9], none⟩,
 ⟨some 5, .mv, [.t 10], none⟩] [8, 9, 10])
 (.seq
 (.region false [⟨some 11, .mv, [.t 5], none⟩,
 ⟨some 12, .mv, [.t 4], none⟩,
 ⟨some 13, .mv, [.t 5], none⟩,
 ⟨some 14, .call n_spec_l20Groups 7168, [.t 12, .t 13, .c (.i 9)], none⟩,
 ⟨some 2, .mv, [.t 11], none⟩,
 ⟨some 3, .mv, [.t 14], none⟩] [4, 5, 11, 12, 13, 14])
 .ret)))) }
/-- impl.GroupTerm -/
def F_impl_GroupTerm_L1 : LC :=
 (.seq
 (.region false [⟨some 24, .bin .lss, [.t 23, .t 22], none⟩] [])
 (.seq
 (.cond (.t 24) [24]
 .skip
 (.exit 2))
 (.seq
 (.block 3
 (.seq
 (.region false [⟨some 25, .mv, [.t 23], none⟩,
 ⟨some 26, .idxa 1, [.t 21, .t 23], none⟩,
 ⟨some 27, .load 1 false, [.t 26], none⟩,
 ⟨some 8, .mv, [.t 25], none⟩,
 ⟨some 9, .mv, [.t 27], none⟩] [25, 26, 27])
 (.seq
 (.region false [⟨some 28, .mv, [.t 5], none⟩,
 ⟨some 29, .mv, [.t 9], none⟩,
 ⟨some 30, .build [.i 0, .i 0] [(0, 1), (1, 1)], [.c (.i 0), .t 29], none⟩,
 ⟨some 31, .bslice 15888 1 2 (.st [.i 0, .i 0]) [0], [.t 30], none⟩,
 ⟨some 32, .app 16400 2, [.t 28, .t 31], none⟩,
 ⟨some 5, .mv, [.t 32], none⟩] [9, 28, 29, 30, 31, 32])
 (.seq
 (.region false [⟨some 33, .mv, [.t 8], none⟩,
 ⟨some 34, .bin .gtr, [.t 33, .c (.i 0)], none⟩] [8, 33])
 (.cond (.t 34) [34]
 (.region false [⟨some 35, .mv, [.t 5], none⟩,
 ⟨some 36, .build [.i 0, .i 0] [(0, 1)], [.c (.i 3)], none⟩,
 ⟨some 37, .bslice 18960 1 2 (.st [.i 0, .i 0]) [0], [.t 36], none⟩,
 ⟨some 38, .app 19472 2, [.t 35, .t 37], none⟩,
 ⟨some 5, .mv, [.t 38], none⟩] [35, 36, 37, 38])
 .skip)))))
 (.region false [⟨some 39, .bin .add, [.t 23, .c (.i 1)], none⟩,
 ⟨some 23, .mv, [.t 39], none⟩] [39]))))
def F_impl_GroupTerm_W1 : LC := .loop F_impl_GroupTerm_L1
def F_impl_GroupTerm_L0 : LC :=
 (.seq
 (.region false [⟨some 17, .bin .lss, [.t 16, .t 15], none⟩] [])
 (.seq
 (.cond (.t 17) [17]
 .skip
 (.exit 0))
 (.seq
 (.block 1
 (.seq
 (.region false [⟨some 18, .mv, [.t 16], none⟩,
 ⟨some 19, .idxa 1, [.t 14, .t 16], none⟩,
 ⟨some 20, .load 1 false, [.t 19], none⟩,
 ⟨some 6, .mv, [.t 18], none⟩,
 ⟨some 7, .mv, [.t 20], none⟩] [18, 19, 20])
 (.seq
 (.seq
 (.region false [⟨some 21, .mv, [.t 7], none⟩,
 ⟨some 22, .len, [.t 21], none⟩,
 ⟨some 23, .mv, [.c (.i 0)], none⟩] [7])
 (.block 2
 F_impl_GroupTerm_W1))
 (.seq
 (.region false [⟨some 40, .mv, [.t 6], none⟩,
 ⟨some 41, .bin .gtr, [.t 40, .c (.i 0)], none⟩] [6, 21, 22, 23, 40])
 (.cond (.t 41) [41]
 (.region false [⟨some 42, .mv, [.t 5], none⟩,
 ⟨some 43, .build [.i 0, .i 0] [(0, 1)], [.c (.i 2)], none⟩,
 ⟨some 44, .bslice 22544 1 2 (.st [.i 0, .i 0]) [0], [.t 43], none⟩,
 ⟨some 45, .app 23056 2, [.t 42, .t 44], none⟩,
 ⟨some 5, .mv, [.t 45], none⟩] [42, 43, 44, 45])
 .skip)))))
 (.region false [⟨some 46, .bin .add, [.t 16, .c (.i 1)], none⟩,
 ⟨some 16, .mv, [.t 46], none⟩] [46]))))
def F_impl_GroupTerm_W0 : LC := .loop F_impl_GroupTerm_L0
def F_impl_GroupTerm : LF :=
 { nparams := 2, results := [.t 4], body :=
 (.seq
 (.region false [⟨some 4, .newnil 2064, [], none⟩] [4])
 (.seq
 (.seq
 (.region false [⟨some 10, .mv, [.t 0], none⟩,
 ⟨some 11, .mv, [.t 1], none⟩,
 ⟨some 12, .call n_impl_GroupsOk 6144, [.t 10, .t 11], none⟩,
 ⟨some 13, .un .not, [.t 12], none⟩] [0, 10, 11, 12])
 (.cond (.t 13) [13]
 (.seq
 (.region false [⟨some 4, .newnil 2064, [], none⟩] [1])
 .ret)
 .skip))
 (.seq
 (.region false [⟨some 5, .newnil 2576, [], none⟩] [])
 (.seq
 (.seq
 (.region false [⟨some 14, .mv, [.t 1], none⟩,
 ⟨some 15, .len, [.t 14], none⟩,
 ⟨some 16, .mv, [.c (.i 0)], none⟩] [1])
 (.block 0
 F_impl_GroupTerm_W0))
 (.seq
 (.region false [⟨some 47, .mv, [.t 5], none⟩,
 ⟨some 4, .mv, [.t 47], none⟩] [5, 14, 15, 16, 47])
 .ret))))) }
/-- laws.sameMarks -/
def F_laws_sameMarks_L0 : LC :=
 (.seq
 (.seq
 (.region false [⟨some 11, .mv, [.t 5], none⟩,
 ⟨some 12, .mv, [.t 0], none⟩,
 ⟨some 13, .len, [.t 12], none⟩,
 ⟨some 14, .bin .lss, [.t 11, .t 13], none⟩] [11, 12, 13])
 (.cond (.t 14) [14]
 .skip
 (.exit 0)))
 (.seq
 (.block 1
 (.seq
 (.region true [⟨some 17, .mv, [.t 0], none⟩,
 ⟨some 18, .mv, [.t 5], none⟩,
 ⟨some 19, .idxa 2, [.t 17, .t 18], none⟩,
 ⟨some 20, .load 2 true, [.t 19], none⟩,
 ⟨some 21, .mv, [.t 1], none⟩,
 ⟨some 22, .mv, [.t 5], none⟩,
 ⟨some 23, .idxa 2, [.t 21, .t 22], none⟩,
 ⟨some 24, .load 2 true, [.t 23], none⟩,
 ⟨some 25, .eqs true 2, [.t 20, .t 24], none⟩] [17, 18, 19, 20, 21, 22, 23, 24])
 (.cond (.t 25) [25]
 (.seq
 (.region false [⟨some 4, .mv, [.c (.b false)], none⟩] [0, 1, 5])
 .ret)
 .skip)))
 (.region false [⟨some 15, .mv, [.t 5], none⟩,
 ⟨some 16, .bin .add, [.t 15, .c (.i 1)], none⟩,
 ⟨some 5, .mv, [.t 16], none⟩] [15, 16])))
def F_laws_sameMarks_W0 : LC := .loop F_laws_sameMarks_L0
def F_laws_sameMarks : LF :=
 { nparams := 2, results := [.t 4], body :=
 (.seq
 (.region false [⟨some 4, .mv, [.c (.b false)], none⟩] [4])
 (.seq
 (.seq
 (.region false [⟨some 6, .mv, [.t 0], none⟩,
 ⟨some 7, .len, [.t 6], none⟩,
 ⟨some 8, .mv, [.t 1], none⟩,
 ⟨some 9, .len, [.t 8], none⟩,
 ⟨some 10, .bin .neq, [.t 7, .t 9], none⟩] [6, 7, 8, 9])
 (.cond (.t 10) [10]
 (.seq
 (.region false [⟨some 4, .mv, [.c (.b false)], none⟩] [0, 1])
 .ret)
 .skip))
 (.seq
 (.seq
 (.region false [⟨some 5, .mv, [.c (.i 0)], none⟩] [])
 (.block 0
 F_laws_sameMarks_W0))
 (.seq
 (.region false [⟨some 4, .mv, [.c (.b true)], none⟩] [0, 1, 5])
 .ret)))) }
/-- spec.GroupTerm -/
def F_spec_GroupTerm_L1 : LC :=
 (.seq
 (.seq
 (.region false [⟨some 20, .mv, [.t 7], none⟩,
 ⟨some 21, .mv, [.t 1], none⟩,
 ⟨some 22, .mv, [.t 6], none⟩,
 ⟨some 23, .idxa 1, [.t 21, .t 22], none⟩,
 ⟨some 24, .load 1 false, [.t 23], none⟩,
 ⟨some 25, .len, [.t 24], none⟩,
 ⟨some 26, .bin .lss, [.t 20, .t 25], none⟩] [20, 21, 22, 23, 24, 25])
 (.cond (.t 26) [26]
 .skip
 (.exit 2)))
 (.seq
 (.block 3
 (.seq
 (.region false [⟨some 29, .mv, [.t 5], none⟩,
 ⟨some 30, .mv, [.t 1], none⟩,
 ⟨some 31, .mv, [.t 6], none⟩,
 ⟨some 32, .idxa 1, [.t 30, .t 31], none⟩,
 ⟨some 33, .load 1 false, [.t 32], none⟩,
 ⟨some 34, .mv, [.t 7], none⟩,
 ⟨some 35, .idxa 1, [.t 33, .t 34], none⟩,
 ⟨some 36, .load 1 false, [.t 35], none⟩,
 ⟨some 37, .build [.i 0, .i 0] [(0, 1), (1, 1)], [.c (.i 0), .t 36], none⟩,
 ⟨some 38, .bslice 19472 1 2 (.st [.i 0, .i 0]) [0], [.t 37], none⟩,
 ⟨some 39, .app 19984 2, [.t 29, .t 38], none⟩,
 ⟨some 5, .mv, [.t 39], none⟩] [29, 30, 31, 32, 33, 34, 35, 36, 37, 38, 39])
 (.seq
 (.region false [⟨some 40, .mv, [.t 7], none⟩,
 ⟨some 41, .bin .gtr, [.t 40, .c (.i 0)], none⟩] [40])
 (.cond (.t 41) [41]
 (.region false [⟨some 42, .mv, [.t 5], none⟩,
 ⟨some 43, .build [.i 0, .i 0] [(0, 1)], [.c (.i 3)], none⟩,
 ⟨some 44, .bslice 22544 1 2 (.st [.i 0, .i 0]) [0], [.t 43], none⟩,
 ⟨some 45, .app 23056 2, [.t 42, .t 44], none⟩,
 ⟨some 5, .mv, [.t 45], none⟩] [42, 43, 44, 45])
 .skip))))
 (.region false [⟨some 27, .mv, [.t 7], none⟩,
 ⟨some 28, .bin .add, [.t 27, .c (.i 1)], none⟩,
 ⟨some 7, .mv, [.t 28], none⟩] [27, 28])))
def F_spec_GroupTerm_W1 : LC := .loop F_spec_GroupTerm_L1
def F_spec_GroupTerm_L0 : LC :=
 (.seq
 (.seq
 (.region false [⟨some 9, .mv, [.t 6], none⟩,
 ⟨some 10, .mv, [.t 1], none⟩,
 ⟨some 11, .len, [.t 10], none⟩,
 ⟨some 12, .bin .lss, [.t 9, .t 11], none⟩,
 ⟨some 13, .mv, [.t 12], none⟩,
 ⟨some 14, .mv, [.t 0], some (13, true)⟩,
 ⟨some 15, .mv, [.t 1], some (13, true)⟩,
 ⟨some 16, .call n_spec_GroupsOk 8192, [.t 14, .t 15], some (13, true)⟩,
 ⟨some 17, .pick, [.t 13, .t 16, .c (.b false)], none⟩] [9, 10, 11, 12, 13, 14, 15, 16])
 (.cond (.t 17) [17]
 .skip
 (.exit 0)))
 (.seq
 (.block 1
 (.seq
 (.seq
 (.region false [⟨some 7, .mv, [.c (.i 0)], none⟩] [])
 (.block 2
 F_spec_GroupTerm_W1))
 (.seq
 (.region false [⟨some 46, .mv, [.t 6], none⟩,
 ⟨some 47, .bin .gtr, [.t 46, .c (.i 0)], none⟩] [7, 46])
 (.cond (.t 47) [47]
 (.region false [⟨some 48, .mv, [.t 5], none⟩,
 ⟨some 49, .build [.i 0, .i 0] [(0, 1)], [.c (.i 2)], none⟩,
 ⟨some 50, .bslice 25616 1 2 (.st [.i 0, .i 0]) [0], [.t 49], none⟩,
 ⟨some 51, .app 26128 2, [.t 48, .t 50], none⟩,
 ⟨some 5, .mv, [.t 51], none⟩] [48, 49, 50, 51])
 .skip))))
 (.region false [⟨some 18, .mv, [.t 6], none⟩,
 ⟨some 19, .bin .add, [.t 18, .c (.i 1)], none⟩,
 ⟨some 6, .mv, [.t 19], none⟩] [18, 19])))
def F_spec_GroupTerm_W0 : LC := .loop F_spec_GroupTerm_L0
def F_spec_GroupTerm : LF :=
 { nparams := 2, results := [.t 4], body :=
 (.seq
 (.region false [⟨some 4, .newnil 2064, [], none⟩] [4])
 (.seq
 (.region false [⟨some 8, .bslice 4112 0 2 (.st [.i 0, .i 0]) [], [], none⟩,
 ⟨some 5, .mv, [.t 8], none⟩] [8])
 (.seq
 (.seq
 (.region false [⟨some 6, .mv, [.c (.i 0)], none⟩] [])
 (.block 0
 F_spec_GroupTerm_W0))
 (.seq
 (.region false [⟨some 52, .mv, [.t 5], none⟩,
 ⟨some 4, .mv, [.t 52], none⟩] [0, 1, 5, 6, 52])
 .ret)))) }
/-- impl.GroupsOk -/
def F_impl_GroupsOk_L0 : LC :=
 (.seq
 (.region false [⟨some 14, .bin .lss, [.t 13, .t 12], none⟩] [])
 (.seq
 (.cond (.t 14) [14]
 .skip
 (.exit 0))
 (.seq
 (.block 1
 (.seq
 (.region false [⟨some 15, .idxa 1, [.t 11, .t 13], none⟩,
 ⟨some 16, .load 1 false, [.t 15], none⟩,
 ⟨some 7, .mv, [.t 16], none⟩] [15, 16])
 (.seq
 (.seq
 (.region false [⟨some 17, .mv, [.t 7], none⟩,
 ⟨some 18, .len, [.t 17], none⟩,
 ⟨some 19, .mv, [.t 0], none⟩,
 ⟨some 20, .mv, [.t 5], none⟩,
 ⟨some 21, .len, [.t 20], none⟩,
 ⟨some 22, .bin .sub, [.t 19, .t 21], none⟩,
 ⟨some 23, .call n_impl_isWithin 11776, [.t 18, .c (.i 1), .t 22], none⟩,
 ⟨some 24, .un .not, [.t 23], none⟩] [17, 18, 19, 20, 21, 22, 23])
 (.cond (.t 24) [24]
 (.seq
 (.region false [⟨some 4, .mv, [.c (.b false)], none⟩] [0, 5, 7, 11, 12, 13])
 .ret)
 .skip))
 (.region false [⟨some 25, .mv, [.t 5], none⟩,
 ⟨some 26, .mv, [.t 7], none⟩,
 ⟨some 27, .app 13832 1, [.t 25, .t 26], none⟩,
 ⟨some 5, .mv, [.t 27], none⟩] [7, 25, 26, 27]))))
 (.region false [⟨some 28, .bin .add, [.t 13, .c (.i 1)], none⟩,
 ⟨some 13, .mv, [.t 28], none⟩] [28]))))
def F_impl_GroupsOk_W0 : LC := .loop F_impl_GroupsOk_L0
def F_impl_GroupsOk : LF :=
 { nparams := 2, results := [.t 4], body :=
 (.seq
 (.region false [⟨some 4, .mv, [.c (.b false)], none⟩] [4])
 (.seq
 (.seq
 (.region false [⟨some 8, .mv, [.t 0], none⟩,
 ⟨some 9, .call n_impl_manyOk 4608, [.t 8], none⟩,
 ⟨some 10, .un .not, [.t 9], none⟩] [8, 9])
 (.cond (.t 10) [10]
 (.seq
 (.region false [⟨some 4, .mv, [.c (.b false)], none⟩] [0, 1])
 .ret)
 .skip))
 (.seq
 (.region false [⟨some 5, .newnil 2568, [], none⟩] [])
 (.seq
 (.seq
 (.region false [⟨some 11, .mv, [.t 1], none⟩,
 ⟨some 12, .len, [.t 11], none⟩,
 ⟨some 13, .mv, [.c (.i 0)], none⟩] [1])
 (.block 0
 F_impl_GroupsOk_W0))
 (.seq
 (.region false [⟨some 29, .mv, [.t 0], none⟩,
 ⟨some 30, .mv, [.t 5], none⟩,
 ⟨some 31, .call n_impl_OrderOk 15872, [.t 29, .t 30], none⟩,
 ⟨some 4, .mv, [.t 31], none⟩] [0, 5, 11, 12, 13, 29, 30, 31])
 .ret))))) }
/-- laws.alive -/
def F_laws_alive : LF :=
 { nparams := 0, results := [.t 0], body :=
 (.seq
 (.region false [⟨some 0, .mv, [.c (.b false)], none⟩] [0])
 (.seq
 (.region false [⟨some 1, .build [.i 0, .i 0] [(0, 1), (1, 1)], [.c (.i 1), .c (.i 1)], none⟩,
 ⟨some 2, .bslice 1040 1 2 (.st [.i 0, .i 0]) [0], [.t 1], none⟩,
 ⟨some 3, .call n_impl_TestsOk 1536, [.t 2], none⟩,
 ⟨some 4, .mv, [.t 3], none⟩,
 ⟨some 5, .build [.i 0, .i 0] [], [], some (4, true)⟩,
 ⟨some 6, .bslice 3088 1 2 (.st [.i 0, .i 0]) [0], [.t 5], some (4, true)⟩,
 ⟨some 7, .call n_impl_TestsOk 3584, [.t 6], some (4, true)⟩,
 ⟨some 8, .un .not, [.t 7], some (4, true)⟩,
 ⟨some 9, .pick, [.t 4, .t 8, .c (.b false)], none⟩,
 ⟨some 0, .mv, [.t 9], none⟩] [1, 2, 3, 4, 5, 6, 7, 8, 9])
 .ret)) }
/-- impl.ValueOf -/
def F_impl_ValueOf : LF :=
 { nparams := 3, results := [.t 6], body :=
 (.seq
 (.region false [⟨some 6, .mv, [.c (.b false)], none⟩] [6])
 (.seq
 (.seq
 (.region false [⟨some 7, .mv, [.t 0], none⟩,
 ⟨some 8, .mv, [.t 1], none⟩,
 ⟨some 9, .call n_impl_TermOk 4608, [.t 7, .t 8], none⟩,
 ⟨some 10, .un .not, [.t 9], none⟩,
 ⟨some 11, .mv, [.t 10], none⟩,
 ⟨some 12, .mv, [.t 0], some (11, false)⟩,
 ⟨some 13, .mv, [.t 2], some (11, false)⟩,
 ⟨some 14, .call n_impl_StateOk 7168, [.t 12, .t 13], some (11, false)⟩,
 ⟨some 15, .un .not, [.t 14], some (11, false)⟩,
 ⟨some 16, .pick, [.t 11, .c (.b true), .t 15], none⟩] [0, 7, 8, 9, 10, 11, 12, 13, 14, 15])
 (.cond (.t 16) [16]
 (.seq
 (.region false [⟨some 6, .mv, [.c (.b false)], none⟩] [1, 2])
 .ret)
 .skip))
 (.seq
 (.region false [⟨some 17, .mv, [.t 1], none⟩,
 ⟨some 18, .call n_impl_trueStates 9216, [.t 17], none⟩,
 ⟨some 19, .mv, [.t 2], none⟩,
 ⟨some 20, .call n_impl_hasState 10240, [.t 18, .t 19], none⟩,
 ⟨some 6, .mv, [.t 20], none⟩] [1, 2, 17, 18, 19, 20])
 .ret))) }
/-- impl.OnceOk -/
def F_impl_OnceOk_L0 : LC :=
 (.seq
 (.region false [⟨some 15, .bin .lss, [.t 14, .t 13], none⟩] [])
 (.seq
 (.cond (.t 15) [15]
 .skip
 (.exit 0))
 (.seq
 (.block 1
 (.seq
 (.region false [⟨some 16, .idxa 2, [.t 12, .t 14], none⟩,
 ⟨some 17, .load 2 true, [.t 16], none⟩,
 ⟨some 7, .alloc 3600 (.st [.i 0, .i 0]), [], none⟩,
 ⟨none, .store 2, [.t 7, .t 17], none⟩] [16, 17])
 (.seq
 (.seq
 (.region false [⟨some 18, .fld 0 1 false, [.t 7], none⟩,
 ⟨some 19, .load 1 false, [.t 18], none⟩,
 ⟨some 20, .bin .neq, [.t 19, .c (.i 0)], none⟩] [18, 19])
 (.cond (.t 20) [20]
 (.exit 1)
 .skip))
 (.seq
 (.seq
 (.region false [⟨some 21, .fld 1 1 false, [.t 7], none⟩,
 ⟨some 22, .load 1 false, [.t 21], none⟩,
 ⟨some 23, .idxp 5 1, [.t 5, .t 22], none⟩,
 ⟨some 24, .load 1 false, [.t 23], none⟩] [21, 22, 23])
 (.cond (.t 24) [24]
 (.seq
 (.region false [⟨some 4, .mv, [.c (.b false)], none⟩] [5, 7, 12, 13, 14])
 .ret)
 .skip))
 (.region false [⟨some 25, .fld 1 1 false, [.t 7], none⟩,
 ⟨some 26, .load 1 false, [.t 25], none⟩,
 ⟨some 27, .idxp 5 1, [.t 5, .t 26], none⟩,
 ⟨none, .store 1, [.t 27, .c (.b true)], none⟩] [7, 25, 26, 27])))))
 (.region false [⟨some 28, .bin .add, [.t 14, .c (.i 1)], none⟩,
 ⟨some 14, .mv, [.t 28], none⟩] [7, 28]))))
def F_impl_OnceOk_W0 : LC := .loop F_impl_OnceOk_L0
def F_impl_OnceOk : LF :=
 { nparams := 2, results := [.t 4], body :=
 (.seq
 (.region false [⟨some 4, .mv, [.c (.b false)], none⟩] [4])
 (.seq
 (.seq
 (.region false [⟨some 8, .mv, [.t 0], none⟩,
 ⟨some 9, .mv, [.t 1], none⟩,
 ⟨some 10, .call n_impl_TermOk 5120, [.t 8, .t 9], none⟩,
 ⟨some 11, .un .not, [.t 10], none⟩] [0, 8, 9, 10])
 (.cond (.t 11) [11]
 (.seq
 (.region false [⟨some 4, .mv, [.c (.b false)], none⟩] [1])
 .ret)
 .skip))
 (.seq
 (.region false [⟨some 5, .alloc 2600 (.st [.b false, .b false, .b false, .b false, .b false]), [], none⟩] [])
 (.seq
 (.seq
 (.region false [⟨some 12, .mv, [.t 1], none⟩,
 ⟨some 13, .len, [.t 12], none⟩,
 ⟨some 14, .mv, [.c (.i 0)], none⟩] [1])
 (.block 0
 F_impl_OnceOk_W0))
 (.seq
 (.region false [⟨some 4, .mv, [.c (.b true)], none⟩] [5, 12, 13, 14])
 .ret))))) }
/-- impl.LettersOf -/
def F_impl_LettersOf_L0 : LC :=
 (.seq
 (.region false [⟨some 15, .bin .lss, [.t 14, .t 13], none⟩] [])
 (.seq
 (.cond (.t 15) [15]
 .skip
 (.exit 0))
 (.seq
 (.block 1
 (.seq
 (.region false [⟨some 16, .idxa 2, [.t 12, .t 14], none⟩,
 ⟨some 17, .load 2 true, [.t 16], none⟩,
 ⟨some 7, .alloc 3600 (.st [.i 0, .i 0]), [], none⟩,
 ⟨none, .store 2, [.t 7, .t 17], none⟩] [16, 17])
 (.seq
 (.region false [⟨some 18, .fld 0 1 false, [.t 7], none⟩,
 ⟨some 19, .load 1 false, [.t 18], none⟩,
 ⟨some 20, .bin .eql, [.t 19, .c (.i 0)], none⟩] [18, 19])
 (.cond (.t 20) [20]
 (.region false [⟨some 21, .mv, [.t 5], none⟩,
 ⟨some 22, .fld 1 1 false, [.t 7], none⟩,
 ⟨some 23, .load 1 false, [.t 22], none⟩,
 ⟨some 24, .bin .shl, [.c (.i 1), .t 23], none⟩,
 ⟨some 25, .bin .or, [.t 21, .t 24], none⟩,
 ⟨some 5, .mv, [.t 25], none⟩] [7, 21, 22, 23, 24, 25])
 .skip))))
 (.region false [⟨some 26, .bin .add, [.t 14, .c (.i 1)], none⟩,
 ⟨some 14, .mv, [.t 26], none⟩] [7, 26]))))
def F_impl_LettersOf_W0 : LC := .loop F_impl_LettersOf_L0
def F_impl_LettersOf : LF :=
 { nparams := 2, results := [.t 4], body :=
 (.seq
 (.region false [⟨some 4, .mv, [.c (.i 0)], none⟩] [4])
 (.seq
 (.seq
 (.region false [⟨some 8, .mv, [.t 0], none⟩,
 ⟨some 9, .mv, [.t 1], none⟩,
 ⟨some 10, .call n_impl_TermOk 5120, [.t 8, .t 9], none⟩,
 ⟨some 11, .un .not, [.t 10], none⟩] [0, 8, 9, 10])
 (.cond (.t 11) [11]
 (.seq
 (.region false [⟨some 4, .mv, [.c (.i (-1))], none⟩] [1])
 .ret)
 .skip))
 (.seq
 (.region false [⟨some 5, .mv, [.c (.i 0)], none⟩] [])
 (.seq
 (.seq
 (.region false [⟨some 12, .mv, [.t 1], none⟩,
 ⟨some 13, .len, [.t 12], none⟩,
 ⟨some 14, .mv, [.c (.i 0)], none⟩] [1])
 (.block 0
 F_impl_LettersOf_W0))
 (.seq
 (.region false [⟨some 27, .mv, [.t 5], none⟩,
 ⟨some 4, .mv, [.t 27], none⟩] [5, 12, 13, 14, 27])
 .ret))))) }
/-- spec.GroupsOk -/
def F_spec_GroupsOk_L1 : LC :=
 (.seq
 (.seq
 (.region false [⟨some 22, .mv, [.t 8], none⟩,
 ⟨some 23, .mv, [.t 1], none⟩,
 ⟨some 24, .mv, [.t 7], none⟩,
 ⟨some 25, .idxa 1, [.t 23, .t 24], none⟩,
 ⟨some 26, .load 1 false, [.t 25], none⟩,
 ⟨some 27, .len, [.t 26], none⟩,
 ⟨some 28, .bin .lss, [.t 22, .t 27], none⟩] [22, 23, 24, 25, 26, 27])
 (.cond (.t 28) [28]
 .skip
 (.exit 2)))
 (.seq
 (.block 3
 (.seq
 (.region false [⟨some 31, .mv, [.t 1], none⟩,
 ⟨some 32, .mv, [.t 7], none⟩,
 ⟨some 33, .idxa 1, [.t 31, .t 32], none⟩,
 ⟨some 34, .load 1 false, [.t 33], none⟩,
 ⟨some 35, .mv, [.t 8], none⟩,
 ⟨some 36, .idxa 1, [.t 34, .t 35], none⟩,
 ⟨some 37, .load 1 false, [.t 36], none⟩,
 ⟨some 9, .mv, [.t 37], none⟩] [31, 32, 33, 34, 35, 36, 37])
 (.seq
 (.seq
 (.region false [⟨some 38, .mv, [.t 9], none⟩,
 ⟨some 39, .bin .lss, [.t 38, .c (.i 0)], none⟩,
 ⟨some 40, .mv, [.t 39], none⟩,
 ⟨some 41, .mv, [.t 9], some (40, false)⟩,
 ⟨some 42, .mv, [.t 0], some (40, false)⟩,
 ⟨some 43, .bin .geq, [.t 41, .t 42], some (40, false)⟩,
 ⟨some 44, .pick, [.t 40, .c (.b true), .t 43], none⟩,
 ⟨some 45, .mv, [.t 44], none⟩,
 ⟨some 46, .mv, [.t 9], some (45, false)⟩,
 ⟨some 47, .bin .geq, [.t 46, .c (.i 5)], some (45, false)⟩,
 ⟨some 48, .pick, [.t 45, .c (.b true), .t 47], none⟩,
 ⟨some 49, .mv, [.t 48], none⟩,
 ⟨some 50, .mv, [.t 5], some (49, false)⟩,
 ⟨some 51, .mv, [.t 9], some (49, false)⟩,
 ⟨some 52, .bin .shr, [.t 50, .t 51], some (49, false)⟩,
 ⟨some 53, .bin .rem, [.t 52, .c (.i 2)], some (49, false)⟩,
 ⟨some 54, .bin .eql, [.t 53, .c (.i 1)], some (49, false)⟩,
 ⟨some 55, .pick, [.t 49, .c (.b true), .t 54], none⟩] [38, 39, 40, 41, 42, 43, 44, 45, 46, 47, 48, 49, 50, 51, 52, 53, 54])
 (.cond (.t 55) [55]
 (.seq
 (.region false [⟨some 4, .mv, [.c (.b false)], none⟩] [0, 1, 5, 6, 7, 8, 9])
 .ret)
 .skip))
 (.seq
 (.region false [⟨some 56, .mv, [.t 5], none⟩,
 ⟨some 57, .mv, [.t 9], none⟩,
 ⟨some 58, .bin .shl, [.c (.i 1), .t 57], none⟩,
 ⟨some 59, .bin .or, [.t 56, .t 58], none⟩,
 ⟨some 5, .mv, [.t 59], none⟩] [9, 56, 57, 58, 59])
 (.region false [⟨some 60, .mv, [.t 6], none⟩,
 ⟨some 61, .bin .add, [.t 60, .c (.i 1)], none⟩,
 ⟨some 6, .mv, [.t 61], none⟩] [60, 61])))))
 (.region false [⟨some 29, .mv, [.t 8], none⟩,
 ⟨some 30, .bin .add, [.t 29, .c (.i 1)], none⟩,
 ⟨some 8, .mv, [.t 30], none⟩] [29, 30])))
def F_spec_GroupsOk_W1 : LC := .loop F_spec_GroupsOk_L1
def F_spec_GroupsOk_L0 : LC :=
 (.seq
 (.seq
 (.region false [⟨some 10, .mv, [.t 7], none⟩,
 ⟨some 11, .mv, [.t 1], none⟩,
 ⟨some 12, .len, [.t 11], none⟩,
 ⟨some 13, .bin .lss, [.t 10, .t 12], none⟩] [10, 11, 12])
 (.cond (.t 13) [13]
 .skip
 (.exit 0)))
 (.seq
 (.block 1
 (.seq
 (.seq
 (.region false [⟨some 16, .mv, [.t 1], none⟩,
 ⟨some 17, .mv, [.t 7], none⟩,
 ⟨some 18, .idxa 1, [.t 16, .t 17], none⟩,
 ⟨some 19, .load 1 false, [.t 18], none⟩,
 ⟨some 20, .len, [.t 19], none⟩,
 ⟨some 21, .bin .eql, [.t 20, .c (.i 0)], none⟩] [16, 17, 18, 19, 20])
 (.cond (.t 21) [21]
 (.seq
 (.region false [⟨some 4, .mv, [.c (.b false)], none⟩] [0, 1, 5, 6, 7])
 .ret)
 .skip))
 (.seq
 (.region false [⟨some 8, .mv, [.c (.i 0)], none⟩] [])
 (.block 2
 F_spec_GroupsOk_W1))))
 (.region false [⟨some 14, .mv, [.t 7], none⟩,
 ⟨some 15, .bin .add, [.t 14, .c (.i 1)], none⟩,
 ⟨some 7, .mv, [.t 15], none⟩] [8, 14, 15])))
def F_spec_GroupsOk_W0 : LC := .loop F_spec_GroupsOk_L0
def F_spec_GroupsOk : LF :=
 { nparams := 2, results := [.t 4], body :=
 (.seq
 (.region false [⟨some 4, .mv, [.c (.b false)], none⟩] [4])
 (.seq
 (.region false [⟨some 5, .mv, [.c (.i 0)], none⟩] [])
 (.seq
 (.region false [⟨some 6, .mv, [.c (.i 0)], none⟩] [])
 (.seq
 (.seq
 (.region false [⟨some 7, .mv, [.c (.i 0)], none⟩] [])
 (.block 0
 F_spec_GroupsOk_W0))
 (.seq
 (.region false [⟨some 62, .mv, [.t 0], none⟩,
 ⟨some 63, .call n_spec_l1In 32256, [.t 62, .c (.i 1), .c (.i 5)], none⟩,
 ⟨some 64, .mv, [.t 63], none⟩,
 ⟨some 65, .mv, [.t 6], some (64, true)⟩,
 ⟨some 66, .mv, [.t 0], some (64, true)⟩,
 ⟨some 67, .bin .eql, [.t 65, .t 66], some (64, true)⟩,
 ⟨some 68, .pick, [.t 64, .t 67, .c (.b false)], none⟩,
 ⟨some 4, .mv, [.t 68], none⟩] [0, 1, 5, 6, 7, 62, 63, 64, 65, 66, 67, 68])
 .ret))))) }
/-- spec.l20Open -/
def F_spec_l20Open : LF :=
 { nparams := 1, results := [.t 2], body :=
 (.seq
 (.region false [⟨some 2, .mv, [.c (.np)], none⟩] [2])
 (.seq
 (.seq
 (.region false [⟨some 3, .mv, [.t 0], none⟩,
 ⟨some 4, .len, [.t 3], none⟩,
 ⟨some 5, .bin .gtr, [.t 4, .c (.i 2000)], none⟩] [3, 4])
 (.cond (.t 5) [5]
 (.region false [⟨some 6, .mv, [.t 0], none⟩,
 ⟨some 7, .slice false true 1, [.t 6, .c (.i 2000)], none⟩,
 ⟨some 0, .mv, [.t 7], none⟩] [6, 7])
 .skip))
 (.seq
 (.region false [⟨some 8, .mv, [.t 0], none⟩,
 ⟨some 9, .build [.sl 1 [], .i 0] [(0, 1)], [.t 8], none⟩,
 ⟨some 10, .box 5136, [.t 9], none⟩,
 ⟨some 2, .mv, [.t 10], none⟩] [0, 8, 9, 10])
 .ret))) }
/-- spec.l20Rd).pick -/
def F_spec_l20Rd_pick : LF :=
 { nparams := 2, results := [.t 4], body :=
 (.seq
 (.region false [⟨some 4, .mv, [.c (.i 0)], none⟩] [4])
 (.seq
 (.region false [⟨some 7, .mv, [.t 0], none⟩,
 ⟨some 8, .mv, [.t 0], none⟩,
 ⟨some 9, .chk, [.t 8], none⟩,
 ⟨some 10, .fld 1 1 false, [.t 9], none⟩,
 ⟨some 11, .load 1 false, [.t 10], none⟩,
 ⟨some 12, .bin .add, [.t 11, .c (.i 1)], none⟩,
 ⟨some 13, .chk, [.t 7], none⟩,
 ⟨some 14, .fld 1 1 false, [.t 13], none⟩,
 ⟨none, .store 1, [.t 14, .t 12], none⟩] [7, 8, 9, 10, 11, 12, 13, 14])
 (.seq
 (.seq
 (.region false [⟨some 15, .mv, [.t 1], none⟩,
 ⟨some 16, .bin .lss, [.t 15, .c (.i 1)], none⟩,
 ⟨some 17, .mv, [.t 16], none⟩,
 ⟨some 18, .mv, [.t 0], some (17, false)⟩,
 ⟨some 19, .chk, [.t 18], some (17, false)⟩,
 ⟨some 20, .fld 0 1 false, [.t 19], some (17, false)⟩,
 ⟨some 21, .load 1 false, [.t 20], some (17, false)⟩,
 ⟨some 22, .len, [.t 21], some (17, false)⟩,
 ⟨some 23, .bin .eql, [.t 22, .c (.i 0)], some (17, false)⟩,
 ⟨some 24, .pick, [.t 17, .c (.b true), .t 23], none⟩] [15, 16, 17, 18, 19, 20, 21, 22, 23])
 (.cond (.t 24) [24]
 (.seq
 (.region false [⟨some 4, .mv, [.c (.i 0)], none⟩] [1])
 .ret)
 .skip))
 (.seq
 (.region false [⟨some 25, .mv, [.t 0], none⟩,
 ⟨some 26, .chk, [.t 25], none⟩,
 ⟨some 27, .fld 1 1 false, [.t 26], none⟩,
 ⟨some 28, .load 1 false, [.t 27], none⟩,
 ⟨some 29, .bin .sub, [.t 28, .c (.i 1)], none⟩,
 ⟨some 5, .mv, [.t 29], none⟩] [25, 26, 27, 28, 29])
 (.seq
 (.seq
 (.region false [⟨some 30, .mv, [.t 5], none⟩,
 ⟨some 31, .mv, [.t 0], none⟩,
 ⟨some 32, .chk, [.t 31], none⟩,
 ⟨some 33, .fld 0 1 false, [.t 32], none⟩,
 ⟨some 34, .load 1 false, [.t 33], none⟩,
 ⟨some 35, .len, [.t 34], none⟩,
 ⟨some 36, .bin .lss, [.t 30, .t 35], none⟩] [30, 31, 32, 33, 34, 35])
 (.cond (.t 36) [36]
 (.seq
 (.region false [⟨some 37, .mv, [.t 0], none⟩,
 ⟨some 38, .chk, [.t 37], none⟩,
 ⟨some 39, .fld 0 1 false, [.t 38], none⟩,
 ⟨some 40, .load 1 false, [.t 39], none⟩,
 ⟨some 41, .mv, [.t 5], none⟩,
 ⟨some 42, .idxa 1, [.t 40, .t 41], none⟩,
 ⟨some 43, .load 1 false, [.t 42], none⟩,
 ⟨some 44, .conv .b2i 22528, [.t 43], none⟩,
 ⟨some 45, .mv, [.t 1], none⟩,
 ⟨some 46, .bin .rem, [.t 44, .t 45], none⟩,
 ⟨some 4, .mv, [.t 46], none⟩] [1, 5, 37, 38, 39, 40, 41, 42, 43, 44, 45, 46])
 .ret)
 .skip))
 (.seq
 (.region true [⟨some 47, .mv, [.t 0], none⟩,
 ⟨some 48, .chk, [.t 47], none⟩,
 ⟨some 49, .fld 0 1 false, [.t 48], none⟩,
 ⟨some 50, .load 1 false, [.t 49], none⟩,
 ⟨some 51, .mv, [.t 5], none⟩,
 ⟨some 52, .mv, [.t 0], none⟩,
 ⟨some 53, .chk, [.t 52], none⟩,
 ⟨some 54, .fld 0 1 false, [.t 53], none⟩,
 ⟨some 55, .load 1 false, [.t 54], none⟩,
 ⟨some 56, .len, [.t 55], none⟩,
 ⟨some 57, .bin .rem, [.t 51, .t 56], none⟩,
 ⟨some 58, .idxa 1, [.t 50, .t 57], none⟩,
 ⟨some 59, .load 1 false, [.t 58], none⟩,
 ⟨some 60, .conv .b2i 30720, [.t 59], none⟩,
 ⟨some 61, .bin .mul, [.t 60, .c (.i 131)], none⟩,
 ⟨some 62, .mv, [.t 0], none⟩,
 ⟨some 63, .chk, [.t 62], none⟩,
 ⟨some 64, .fld 0 1 false, [.t 63], none⟩,
 ⟨some 65, .load 1 false, [.t 64], none⟩,
 ⟨some 66, .mv, [.t 5], none⟩,
 ⟨some 67, .bin .mul, [.t 66, .c (.i 7)], none⟩,
 ⟨some 68, .bin .add, [.t 67, .c (.i 3)], none⟩,
 ⟨some 69, .mv, [.t 0], none⟩,
 ⟨some 70, .chk, [.t 69], none⟩,
 ⟨some 71, .fld 0 1 false, [.t 70], none⟩,
 ⟨some 72, .load 1 false, [.t 71], none⟩,
 ⟨some 73, .len, [.t 72], none⟩,
 ⟨some 74, .bin .rem, [.t 68, .t 73], none⟩,
 ⟨some 75, .idxa 1, [.t 65, .t 74], none⟩,
 ⟨some 76, .load 1 false, [.t 75], none⟩,
 ⟨some 77, .conv .b2i 39424, [.t 76], none⟩,
 ⟨some 78, .bin .mul, [.t 77, .c (.i 1117)], none⟩,
 ⟨some 79, .bin .add, [.t 61, .t 78], none⟩,
 ⟨some 80, .mv, [.t 5], none⟩,
 ⟨some 81, .bin .mul, [.t 80, .c (.i 29)], none⟩,
 ⟨some 82, .bin .add, [.t 79, .t 81], none⟩,
 ⟨some 83, .mv, [.t 5], none⟩,
 ⟨some 84, .mv, [.t 0], none⟩,
 ⟨some 85, .chk, [.t 84], none⟩,
 ⟨some 86, .fld 0 1 false, [.t 85], none⟩,
 ⟨some 87, .load 1 false, [.t 86], none⟩,
 ⟨some 88, .len, [.t 87], none⟩,
 ⟨some 89, .bin .quo, [.t 83, .t 88], none⟩,
 ⟨some 90, .bin .mul, [.t 89, .c (.i 53)], none⟩,
 ⟨some 91, .bin .add, [.t 82, .t 90], none⟩,
 ⟨some 6, .mv, [.t 91], none⟩] [5, 47, 48, 49, 50, 51, 52, 53, 54, 55, 56, 57, 58, 59, 60, 61, 62, 63, 64, 65, 66, 67, 68, 69, 70, 71, 72, 73, 74, 75, 76, 77, 78, 79, 80, 81, 82, 83, 84, 85, 86, 87, 88, 89, 90, 91])
 (.seq
 (.region false [⟨some 92, .mv, [.t 6], none⟩,
 ⟨some 93, .mv, [.t 6], none⟩,
 ⟨some 94, .bin .quo, [.t 93, .c (.i 64)], none⟩,
 ⟨some 95, .bin .xor, [.t 92, .t 94], none⟩,
 ⟨some 6, .mv, [.t 95], none⟩] [92, 93, 94, 95])
 (.seq
 (.region false [⟨some 96, .mv, [.t 6], none⟩,
 ⟨some 97, .mv, [.t 1], none⟩,
 ⟨some 98, .bin .rem, [.t 96, .t 97], none⟩,
 ⟨some 4, .mv, [.t 98], none⟩] [1, 6, 96, 97, 98])
 .ret)))))))) }
/-- spec.l20Groups -/
def F_spec_l20Groups_L0 : LC :=
 (.seq
 (.seq
 (.region false [⟨some 15, .mv, [.t 9], none⟩,
 ⟨some 16, .mv, [.t 7], none⟩,
 ⟨some 17, .len, [.t 16], none⟩,
 ⟨some 18, .bin .lss, [.t 15, .t 17], none⟩] [15, 16, 17])
 (.cond (.t 18) [18]
 .skip
 (.exit 0)))
 (.seq
 (.block 1
 (.seq
 (.seq
 (.region false [⟨some 21, .mv, [.t 8], none⟩,
 ⟨some 22, .len, [.t 21], none⟩,
 ⟨some 23, .bin .eql, [.t 22, .c (.i 0)], none⟩,
 ⟨some 24, .mv, [.t 23], none⟩,
 ⟨some 25, .mv, [.t 0], some (24, false)⟩,
 ⟨some 26, .call n_spec_l20Rd_pick 13312, [.t 25, .c (.i 2)], some (24, false)⟩,
 ⟨some 27, .bin .eql, [.t 26, .c (.i 0)], some (24, false)⟩,
 ⟨some 28, .pick, [.t 24, .c (.b true), .t 27], none⟩] [21, 22, 23, 24, 25, 26, 27])
 (.cond (.t 28) [28]
 (.ghost (.shut 8)
 (.region false [⟨some 29, .mv, [.t 8], none⟩,
 ⟨some 30, .bslice 15373 0 1 (.i 0) [], [], none⟩,
 ⟨some 31, .bslice 15880 1 1 (.sl 1 []) [0], [.t 30], none⟩,
 ⟨some 32, .app 16392 1, [.t 29, .t 31], none⟩,
 ⟨some 8, .mv, [.t 32], none⟩] [29, 30, 31, 32]))
 .skip))
 (.seq
 (.region false [⟨some 33, .mv, [.t 8], none⟩,
 ⟨some 34, .len, [.t 33], none⟩,
 ⟨some 35, .bin .sub, [.t 34, .c (.i 1)], none⟩,
 ⟨some 10, .mv, [.t 35], none⟩] [33, 34, 35])
 (.region true [⟨some 36, .mv, [.t 8], none⟩,
 ⟨some 37, .mv, [.t 10], none⟩,
 ⟨some 38, .mv, [.t 8], none⟩,
 ⟨some 39, .mv, [.t 10], none⟩,
 ⟨some 40, .idxa 1, [.t 38, .t 39], none⟩,
 ⟨some 41, .load 1 false, [.t 40], none⟩,
 ⟨some 42, .mv, [.t 7], none⟩,
 ⟨some 43, .mv, [.t 9], none⟩,
 ⟨some 44, .idxa 1, [.t 42, .t 43], none⟩,
 ⟨some 45, .load 1 false, [.t 44], none⟩,
 ⟨some 46, .bslice 23560 1 1 (.i 0) [0], [.t 45], none⟩,
 ⟨some 47, .app 24072 1, [.t 41, .t 46], none⟩,
 ⟨some 48, .idxa 1, [.t 36, .t 37], none⟩,
 ⟨none, .store 1, [.t 48, .t 47], none⟩] [10, 36, 37, 38, 39, 40, 41, 42, 43, 44, 45, 46, 47, 48]))))
 (.region false [⟨some 19, .mv, [.t 9], none⟩,
 ⟨some 20, .bin .add, [.t 19, .c (.i 1)], none⟩,
 ⟨some 9, .mv, [.t 20], none⟩] [19, 20])))
def F_spec_l20Groups_W0 : LC := .loop F_spec_l20Groups_L0
def F_spec_l20Groups : LF :=
 { nparams := 3, results := [.t 6], body :=
 (.seq
 (.region false [⟨some 6, .newnil 3080, [], none⟩] [6])
 (.seq
 (.region false [⟨some 11, .mv, [.t 0], none⟩,
 ⟨some 12, .mv, [.t 1], none⟩,
 ⟨some 13, .call n_spec_l20Order 6656, [.t 11, .t 12, .c (.i 0)], none⟩,
 ⟨some 7, .mv, [.t 13], none⟩] [1, 11, 12, 13])
 (.seq
 (.region false [⟨some 14, .bslice 7176 0 1 (.sl 1 []) [], [], none⟩,
 ⟨some 8, .mv, [.t 14], none⟩] [14])
 (.seq
 (.seq
 (.region false [⟨some 9, .mv, [.c (.i 0)], none⟩] [])
 (.block 0
 F_spec_l20Groups_W0))
 (.seq
 (.seq
 (.ghost (.shut 8)
 (.region false [⟨some 49, .mv, [.t 0], none⟩,
 ⟨some 50, .mv, [.t 2], none⟩,
 ⟨some 51, .call n_spec_l20Rd_odd 26112, [.t 49, .t 50], none⟩] [2, 7, 9, 49, 50]))
 (.cond (.t 51) [51]
 (.seq
 (.region false [⟨some 52, .mv, [.t 0], none⟩,
 ⟨some 53, .call n_spec_l20Rd_pick 27136, [.t 52, .c (.i 2)], none⟩] [52])
 (.block 2
 (.seq
 (.region false [⟨some 59, .bin .eql, [.t 53, .c (.i 0)], none⟩,
 ⟨some 58, .mv, [.t 59], none⟩] [53, 59])
 (.cond (.t 58) [58]
 (.seq
 (.region false [⟨some 60, .mv, [.t 8], none⟩,
 ⟨some 61, .bslice 31240 0 1 (.i 0) [], [], none⟩,
 ⟨some 62, .bslice 31752 1 1 (.sl 1 []) [0], [.t 61], none⟩,
 ⟨some 63, .app 32264 1, [.t 60, .t 62], none⟩,
 ⟨some 6, .mv, [.t 63], none⟩] [8, 60, 61, 62, 63])
 .ret)
 (.seq
 (.region false [⟨some 54, .mv, [.t 8], none⟩,
 ⟨some 55, .bslice 28168 1 1 (.i 0) [0], [.c (.i 0)], none⟩,
 ⟨some 56, .bslice 28680 1 1 (.sl 1 []) [0], [.t 55], none⟩,
 ⟨some 57, .app 29192 1, [.t 54, .t 56], none⟩,
 ⟨some 6, .mv, [.t 57], none⟩] [8, 54, 55, 56, 57])
 .ret)))))
 .skip))
 (.seq
 (.region false [⟨some 64, .mv, [.t 8], none⟩,
 ⟨some 6, .mv, [.t 64], none⟩] [8, 64])
 .ret)))))) }
/-- impl.manyOk -/
def F_impl_manyOk : LF :=
 { nparams := 1, results := [.t 2], body :=
 (.seq
 (.region false [⟨some 2, .mv, [.c (.b false)], none⟩] [2])
 (.seq
 (.region false [⟨some 3, .mv, [.t 0], none⟩,
 ⟨some 4, .call n_impl_isWithin 2048, [.t 3, .c (.i 1), .c (.i 5)], none⟩,
 ⟨some 2, .mv, [.t 4], none⟩] [0, 3, 4])
 .ret)) }
/-- impl.isWithin -/
def F_impl_isWithin : LF :=
 { nparams := 3, results := [.t 6], body :=
 (.seq
 (.region false [⟨some 6, .mv, [.c (.b false)], none⟩] [6])
 (.seq
 (.region false [⟨some 7, .mv, [.t 1], none⟩,
 ⟨some 8, .mv, [.t 0], none⟩,
 ⟨some 9, .bin .leq, [.t 7, .t 8], none⟩,
 ⟨some 10, .mv, [.t 9], none⟩,
 ⟨some 11, .mv, [.t 0], some (10, true)⟩,
 ⟨some 12, .mv, [.t 2], some (10, true)⟩,
 ⟨some 13, .bin .leq, [.t 11, .t 12], some (10, true)⟩,
 ⟨some 14, .pick, [.t 10, .t 13, .c (.b false)], none⟩,
 ⟨some 6, .mv, [.t 14], none⟩] [0, 1, 2, 7, 8, 9, 10, 11, 12, 13, 14])
 .ret)) }
/-- impl.OrderOk -/
def F_impl_OrderOk_L0 : LC :=
 (.seq
 (.region false [⟨some 20, .bin .lss, [.t 19, .t 18], none⟩] [])
 (.seq
 (.cond (.t 20) [20]
 .skip
 (.exit 0))
 (.seq
 (.block 1
 (.seq
 (.region false [⟨some 21, .idxa 1, [.t 17, .t 19], none⟩,
 ⟨some 22, .load 1 false, [.t 21], none⟩,
 ⟨some 7, .mv, [.t 22], none⟩] [21, 22])
 (.seq
 (.seq
 (.region false [⟨some 23, .mv, [.t 7], none⟩,
 ⟨some 24, .mv, [.t 0], none⟩,
 ⟨some 25, .bin .sub, [.t 24, .c (.i 1)], none⟩,
 ⟨some 26, .call n_impl_isWithin 13312, [.t 23, .c (.i 0), .t 25], none⟩,
 ⟨some 27, .un .not, [.t 26], none⟩,
 ⟨some 28, .mv, [.t 27], none⟩,
 ⟨some 29, .mv, [.t 5], some (28, false)⟩,
 ⟨some 30, .mv, [.t 7], some (28, false)⟩,
 ⟨some 31, .call n_impl_hasTest 15872, [.t 29, .t 30], some (28, false)⟩,
 ⟨some 32, .pick, [.t 28, .c (.b true), .t 31], none⟩] [23, 24, 25, 26, 27, 28, 29, 30, 31])
 (.cond (.t 32) [32]
 (.seq
 (.region false [⟨some 4, .mv, [.c (.b false)], none⟩] [0, 5, 7, 17, 18, 19])
 .ret)
 .skip))
 (.region false [⟨some 33, .mv, [.t 5], none⟩,
 ⟨some 34, .mv, [.t 7], none⟩,
 ⟨some 35, .bin .shl, [.c (.i 1), .t 34], none⟩,
 ⟨some 36, .bin .or, [.t 33, .t 35], none⟩,
 ⟨some 5, .mv, [.t 36], none⟩] [7, 33, 34, 35, 36]))))
 (.region false [⟨some 37, .bin .add, [.t 19, .c (.i 1)], none⟩,
 ⟨some 19, .mv, [.t 37], none⟩] [37]))))
def F_impl_OrderOk_W0 : LC := .loop F_impl_OrderOk_L0
def F_impl_OrderOk : LF :=
 { nparams := 2, results := [.t 4], body :=
 (.seq
 (.region false [⟨some 4, .mv, [.c (.b false)], none⟩] [4])
 (.seq
 (.seq
 (.region false [⟨some 8, .mv, [.t 0], none⟩,
 ⟨some 9, .call n_impl_manyOk 4608, [.t 8], none⟩,
 ⟨some 10, .un .not, [.t 9], none⟩,
 ⟨some 11, .mv, [.t 10], none⟩,
 ⟨some 12, .mv, [.t 1], some (11, false)⟩,
 ⟨some 13, .len, [.t 12], some (11, false)⟩,
 ⟨some 14, .mv, [.t 0], some (11, false)⟩,
 ⟨some 15, .bin .neq, [.t 13, .t 14], some (11, false)⟩,
 ⟨some 16, .pick, [.t 11, .c (.b true), .t 15], none⟩] [8, 9, 10, 11, 12, 13, 14, 15])
 (.cond (.t 16) [16]
 (.seq
 (.region false [⟨some 4, .mv, [.c (.b false)], none⟩] [0, 1])
 .ret)
 .skip))
 (.seq
 (.region false [⟨some 5, .mv, [.c (.i 0)], none⟩] [])
 (.seq
 (.seq
 (.region false [⟨some 17, .mv, [.t 1], none⟩,
 ⟨some 18, .len, [.t 17], none⟩,
 ⟨some 19, .mv, [.c (.i 0)], none⟩] [1])
 (.block 0
 F_impl_OrderOk_W0))
 (.seq
 (.region false [⟨some 4, .mv, [.c (.b true)], none⟩] [0, 5, 17, 18, 19])
 .ret))))) }
/-- impl.TestsOk -/
def F_impl_TestsOk_L0 : LC :=
 (.seq
 (.region false [⟨some 12, .bin .lss, [.t 11, .t 10], none⟩] [])
 (.seq
 (.cond (.t 12) [12]
 .skip
 (.exit 0))
 (.seq
 (.block 1
 (.seq
 (.region false [⟨some 13, .idxa 2, [.t 9, .t 11], none⟩,
 ⟨some 14, .load 2 true, [.t 13], none⟩,
 ⟨some 4, .alloc 2064 (.st [.i 0, .i 0]), [], none⟩,
 ⟨none, .store 2, [.t 4, .t 14], none⟩] [13, 14])
 (.seq
 (.region false [⟨some 15, .fld 0 1 false, [.t 4], none⟩,
 ⟨some 16, .load 1 false, [.t 15], none⟩,
 ⟨some 17, .call n_impl_isWithin 8704, [.t 16, .c (.i 1), .c (.i 9)], none⟩,
 ⟨some 18, .un .not, [.t 17], none⟩,
 ⟨some 19, .mv, [.t 18], none⟩,
 ⟨some 20, .fld 1 1 false, [.t 4], some (19, false)⟩,
 ⟨some 21, .load 1 false, [.t 20], some (19, false)⟩,
 ⟨some 22, .call n_impl_isWithin 11264, [.t 21, .c (.i 1), .c (.i 5)], some (19, false)⟩,
 ⟨some 23, .un .not, [.t 22], some (19, false)⟩,
 ⟨some 24, .pick, [.t 19, .c (.b true), .t 23], none⟩] [4, 15, 16, 17, 18, 19, 20, 21, 22, 23])
 (.cond (.t 24) [24]
 (.seq
 (.region false [⟨some 2, .mv, [.c (.b false)], none⟩] [9, 10, 11])
 .ret)
 .skip))))
 (.region false [⟨some 25, .bin .add, [.t 11, .c (.i 1)], none⟩,
 ⟨some 11, .mv, [.t 25], none⟩] [25]))))
def F_impl_TestsOk_W0 : LC := .loop F_impl_TestsOk_L0
def F_impl_TestsOk : LF :=
 { nparams := 1, results := [.t 2], body :=
 (.seq
 (.region false [⟨some 2, .mv, [.c (.b false)], none⟩] [2])
 (.seq
 (.seq
 (.region false [⟨some 5, .mv, [.t 0], none⟩,
 ⟨some 6, .len, [.t 5], none⟩,
 ⟨some 7, .call n_impl_manyOk 3584, [.t 6], none⟩,
 ⟨some 8, .un .not, [.t 7], none⟩] [5, 6, 7])
 (.cond (.t 8) [8]
 (.seq
 (.region false [⟨some 2, .mv, [.c (.b false)], none⟩] [0])
 .ret)
 .skip))
 (.seq
 (.seq
 (.region false [⟨some 9, .mv, [.t 0], none⟩,
 ⟨some 10, .len, [.t 9], none⟩,
 ⟨some 11, .mv, [.c (.i 0)], none⟩] [0])
 (.block 0
 F_impl_TestsOk_W0))
 (.seq
 (.region false [⟨some 2, .mv, [.c (.b true)], none⟩] [9, 10, 11])
 .ret)))) }
/-- impl.TermOk -/
def F_impl_TermOk_L0 : LC :=
 (.seq
 (.region false [⟨some 21, .bin .lss, [.t 20, .t 19], none⟩] [])
 (.seq
 (.cond (.t 21) [21]
 .skip
 (.exit 0))
 (.seq
 (.block 1
 (.seq
 (.region false [⟨some 22, .idxa 2, [.t 18, .t 20], none⟩,
 ⟨some 23, .load 2 true, [.t 22], none⟩,
 ⟨some 7, .alloc 3600 (.st [.i 0, .i 0]), [], none⟩,
 ⟨none, .store 2, [.t 7, .t 23], none⟩] [22, 23])
 (.seq
 (.region false [⟨some 24, .fld 0 1 false, [.t 7], none⟩,
 ⟨some 25, .load 1 false, [.t 24], none⟩,
 ⟨some 26, .call n_impl_partsTaken 13312, [.t 25], none⟩,
 ⟨some 8, .mv, [.t 26], none⟩] [24, 25, 26])
 (.seq
 (.seq
 (.region false [⟨some 27, .mv, [.t 0], none⟩,
 ⟨some 28, .load 2 true, [.t 7], none⟩,
 ⟨some 29, .call n_impl_markOk 14848, [.t 27, .t 28], none⟩,
 ⟨some 30, .un .not, [.t 29], none⟩,
 ⟨some 31, .mv, [.t 30], none⟩,
 ⟨some 32, .mv, [.t 5], some (31, false)⟩,
 ⟨some 33, .mv, [.t 8], some (31, false)⟩,
 ⟨some 34, .bin .lss, [.t 32, .t 33], some (31, false)⟩,
 ⟨some 35, .pick, [.t 31, .c (.b true), .t 34], none⟩] [7, 27, 28, 29, 30, 31, 32, 33, 34])
 (.cond (.t 35) [35]
 (.seq
 (.region false [⟨some 4, .mv, [.c (.b false)], none⟩] [0, 5, 8, 18, 19, 20])
 .ret)
 .skip))
 (.region false [⟨some 36, .mv, [.t 5], none⟩,
 ⟨some 37, .mv, [.t 8], none⟩,
 ⟨some 38, .bin .sub, [.c (.i 1), .t 37], none⟩,
 ⟨some 39, .bin .add, [.t 36, .t 38], none⟩,
 ⟨some 5, .mv, [.t 39], none⟩] [8, 36, 37, 38, 39])))))
 (.region false [⟨some 40, .bin .add, [.t 20, .c (.i 1)], none⟩,
 ⟨some 20, .mv, [.t 40], none⟩] [40]))))
def F_impl_TermOk_W0 : LC := .loop F_impl_TermOk_L0
def F_impl_TermOk : LF :=
 { nparams := 2, results := [.t 4], body :=
 (.seq
 (.region false [⟨some 4, .mv, [.c (.b false)], none⟩] [4])
 (.seq
 (.seq
 (.region false [⟨some 9, .mv, [.t 0], none⟩,
 ⟨some 10, .call n_impl_manyOk 5120, [.t 9], none⟩,
 ⟨some 11, .un .not, [.t 10], none⟩,
 ⟨some 12, .mv, [.t 11], none⟩,
 ⟨some 13, .mv, [.t 1], some (12, false)⟩,
 ⟨some 14, .len, [.t 13], some (12, false)⟩,
 ⟨some 15, .call n_impl_isWithin 7680, [.t 14, .c (.i 1), .c (.i 13)], some (12, false)⟩,
 ⟨some 16, .un .not, [.t 15], some (12, false)⟩,
 ⟨some 17, .pick, [.t 12, .c (.b true), .t 16], none⟩] [9, 10, 11, 12, 13, 14, 15, 16])
 (.cond (.t 17) [17]
 (.seq
 (.region false [⟨some 4, .mv, [.c (.b false)], none⟩] [0, 1])
 .ret)
 .skip))
 (.seq
 (.region false [⟨some 5, .mv, [.c (.i 0)], none⟩] [])
 (.seq
 (.seq
 (.region false [⟨some 18, .mv, [.t 1], none⟩,
 ⟨some 19, .len, [.t 18], none⟩,
 ⟨some 20, .mv, [.c (.i 0)], none⟩] [1])
 (.block 0
 F_impl_TermOk_W0))
 (.seq
 (.region false [⟨some 41, .mv, [.t 5], none⟩,
 ⟨some 42, .bin .eql, [.t 41, .c (.i 1)], none⟩,
 ⟨some 4, .mv, [.t 42], none⟩] [0, 5, 18, 19, 20, 41, 42])
 .ret))))) }
/-- impl.StateOk -/
def F_impl_StateOk : LF :=
 { nparams := 2, results := [.t 4], body :=
 (.seq
 (.region false [⟨some 4, .mv, [.c (.b false)], none⟩] [4])
 (.seq
 (.region false [⟨some 5, .mv, [.t 0], none⟩,
 ⟨some 6, .call n_impl_manyOk 3072, [.t 5], none⟩,
 ⟨some 7, .mv, [.t 6], none⟩,
 ⟨some 8, .mv, [.t 1], some (7, true)⟩,
 ⟨some 9, .mv, [.t 0], some (7, true)⟩,
 ⟨some 10, .call n_impl_statesOf 5120, [.t 9], some (7, true)⟩,
 ⟨some 11, .bin .sub, [.t 10, .c (.i 1)], some (7, true)⟩,
 ⟨some 12, .call n_impl_isWithin 6144, [.t 8, .c (.i 0), .t 11], some (7, true)⟩,
 ⟨some 13, .pick, [.t 7, .t 12, .c (.b false)], none⟩,
 ⟨some 4, .mv, [.t 13], none⟩] [0, 1, 5, 6, 7, 8, 9, 10, 11, 12, 13])
 .ret)) }
/-- impl.hasState -/
def F_impl_hasState : LF :=
 { nparams := 2, results := [.t 4], body :=
 (.seq
 (.region false [⟨some 4, .mv, [.c (.b false)], none⟩] [4])
 (.seq
 (.region false [⟨some 5, .mv, [.t 0], none⟩,
 ⟨some 6, .mv, [.t 1], none⟩,
 ⟨some 7, .bin .shr, [.t 5, .t 6], none⟩,
 ⟨some 8, .bin .and, [.t 7, .c (.w (1#32))], none⟩,
 ⟨some 9, .bin .eql, [.t 8, .c (.w (1#32))], none⟩,
 ⟨some 4, .mv, [.t 9], none⟩] [0, 1, 5, 6, 7, 8, 9])
 .ret)) }
/-- impl.trueStates -/
def F_impl_trueStates : LF :=
 { nparams := 1, results := [.t 2], body :=
 (.seq
 (.region false [⟨some 2, .mv, [.c (.w (0#32))], none⟩] [2])
 (.seq
 (.region false [⟨some 3, .mv, [.t 0], none⟩,
 ⟨some 4, .call n_impl_foldTerm_uint32 2048, [.t 3, .c (.fn n_impl_statesOfPart [])], none⟩,
 ⟨some 2, .mv, [.t 4], none⟩] [0, 3, 4])
 .ret)) }
/-- spec.l1In -/
def F_spec_l1In : LF :=
 { nparams := 3, results := [.t 6], body :=
 (.seq
 (.region false [⟨some 6, .mv, [.c (.b false)], none⟩] [6])
 (.seq
 (.region false [⟨some 7, .mv, [.t 0], none⟩,
 ⟨some 8, .mv, [.t 1], none⟩,
 ⟨some 9, .bin .geq, [.t 7, .t 8], none⟩,
 ⟨some 10, .mv, [.t 9], none⟩,
 ⟨some 11, .mv, [.t 0], some (10, true)⟩,
 ⟨some 12, .mv, [.t 2], some (10, true)⟩,
 ⟨some 13, .bin .leq, [.t 11, .t 12], some (10, true)⟩,
 ⟨some 14, .pick, [.t 10, .t 13, .c (.b false)], none⟩,
 ⟨some 6, .mv, [.t 14], none⟩] [0, 1, 2, 7, 8, 9, 10, 11, 12, 13, 14])
 .ret)) }
/-- spec.l20Order -/
def F_spec_l20Order_L0 : LC :=
 (.ghost (.rename 7 5640)
 (.seq
 (.seq
 (.region false [⟨some 12, .mv, [.t 8], none⟩,
 ⟨some 13, .mv, [.t 1], none⟩,
 ⟨some 14, .bin .lss, [.t 12, .t 13], none⟩] [12, 13])
 (.cond (.t 14) [14]
 .skip
 (.exit 0)))
 (.seq
 (.block 1
 (.seq
 (.region false [⟨some 17, .mv, [.t 0], none⟩,
 ⟨some 18, .mv, [.t 7], none⟩,
 ⟨some 19, .len, [.t 18], none⟩,
 ⟨some 20, .bin .add, [.t 19, .c (.i 1)], none⟩,
 ⟨some 21, .call n_spec_l20Rd_pick 10752, [.t 17, .t 20], none⟩,
 ⟨some 9, .mv, [.t 21], none⟩] [17, 18, 19, 20, 21])
 (.seq
 (.region false [⟨some 22, .bslice 11272 0 1 (.i 0) [], [], none⟩,
 ⟨some 23, .mv, [.t 7], none⟩,
 ⟨some 24, .mv, [.t 9], none⟩,
 ⟨some 25, .slice false true 1, [.t 23, .t 24], none⟩,
 ⟨some 26, .app 13320 1, [.t 22, .t 25], none⟩,
 ⟨some 10, .mv, [.t 26], none⟩] [22, 23, 24, 25, 26])
 (.seq
 (.region false [⟨some 27, .mv, [.t 10], none⟩,
 ⟨some 28, .mv, [.t 8], none⟩,
 ⟨some 29, .bslice 14856 1 1 (.i 0) [0], [.t 28], none⟩,
 ⟨some 30, .app 15368 1, [.t 27, .t 29], none⟩,
 ⟨some 10, .mv, [.t 30], none⟩] [27, 28, 29, 30])
 (.region false [⟨some 31, .mv, [.t 10], none⟩,
 ⟨some 32, .mv, [.t 7], none⟩,
 ⟨some 33, .mv, [.t 9], none⟩,
 ⟨some 34, .slice true false 1, [.t 32, .t 33], none⟩,
 ⟨some 35, .app 17928 1, [.t 31, .t 34], none⟩,
 ⟨some 7, .mv, [.t 35], none⟩] [9, 10, 31, 32, 33, 34, 35])))))
 (.region false [⟨some 15, .mv, [.t 8], none⟩,
 ⟨some 16, .bin .add, [.t 15, .c (.i 1)], none⟩,
 ⟨some 8, .mv, [.t 16], none⟩] [15, 16]))))
def F_spec_l20Order_W0 : LC := .loop F_spec_l20Order_L0
def F_spec_l20Order : LF :=
 { nparams := 3, results := [.t 6], body :=
 (.seq
 (.region false [⟨some 6, .newnil 3080, [], none⟩] [6])
 (.seq
 (.region false [⟨some 11, .bslice 5640 0 1 (.i 0) [], [], none⟩,
 ⟨some 7, .mv, [.t 11], none⟩] [11])
 (.seq
 (.seq
 (.region false [⟨some 8, .mv, [.c (.i 0)], none⟩] [])
 (.block 0
 F_spec_l20Order_W0))
 (.seq
 (.seq
 (.region false [⟨some 36, .mv, [.t 0], none⟩,
 ⟨some 37, .mv, [.t 2], none⟩,
 ⟨some 38, .call n_spec_l20Rd_odd 19456, [.t 36, .t 37], none⟩] [1, 2, 8, 36, 37])
 (.cond (.t 38) [38]
 (.seq
 (.region false [⟨some 39, .mv, [.t 0], none⟩,
 ⟨some 40, .call n_spec_l20Rd_pick 20480, [.t 39, .c (.i 2)], none⟩] [39])
 (.block 2
 (.seq
 (.region false [⟨some 52, .bin .eql, [.t 40, .c (.i 0)], none⟩,
 ⟨some 51, .mv, [.t 52], none⟩] [40, 52])
 (.cond (.t 51) [51]
 (.seq
 (.region false [⟨some 53, .mv, [.t 7], none⟩,
 ⟨some 54, .bslice 27656 1 1 (.i 0) [0], [.c (.i 0)], none⟩,
 ⟨some 55, .app 28168 1, [.t 53, .t 54], none⟩,
 ⟨some 6, .mv, [.t 55], none⟩] [7, 53, 54, 55])
 .ret)
 (.seq
 (.region false [⟨some 41, .mv, [.t 7], none⟩,
 ⟨some 42, .len, [.t 41], none⟩,
 ⟨some 43, .bin .gtr, [.t 42, .c (.i 0)], none⟩] [41, 42])
 (.cond (.t 43) [43]
 (.region false [⟨some 44, .mv, [.t 7], none⟩,
 ⟨some 45, .bslice 23048 2 1 (.i 0) [0, 1], [.c (.i 5), .c (.i (-1))], none⟩,
 ⟨some 46, .mv, [.t 0], none⟩,
 ⟨some 47, .call n_spec_l20Rd_pick 24064, [.t 46, .c (.i 2)], none⟩,
 ⟨some 48, .idxa 1, [.t 45, .t 47], none⟩,
 ⟨some 49, .load 1 false, [.t 48], none⟩,
 ⟨some 50, .idxa 1, [.t 44, .c (.i 0)], none⟩,
 ⟨none, .store 1, [.t 50, .t 49], none⟩] [44, 45, 46, 47, 48, 49, 50])
 .skip))))))
 .skip))
 (.seq
 (.region false [⟨some 56, .mv, [.t 7], none⟩,
 ⟨some 6, .mv, [.t 56], none⟩] [7, 56])
 .ret))))) }
/-- spec.l20Rd).odd -/
def F_spec_l20Rd_odd : LF :=
 { nparams := 2, results := [.t 4], body :=
 (.seq
 (.region false [⟨some 4, .mv, [.c (.b false)], none⟩] [4])
 (.seq
 (.region false [⟨some 5, .mv, [.t 1], none⟩,
 ⟨some 6, .bin .gtr, [.t 5, .c (.i 0)], none⟩,
 ⟨some 7, .mv, [.t 6], none⟩,
 ⟨some 8, .mv, [.t 0], some (7, true)⟩,
 ⟨some 9, .mv, [.t 1], some (7, true)⟩,
 ⟨some 10, .call n_spec_l20Rd_pick 5120, [.t 8, .t 9], some (7, true)⟩,
 ⟨some 11, .mv, [.t 1], some (7, true)⟩,
 ⟨some 12, .bin .sub, [.t 11, .c (.i 1)], some (7, true)⟩,
 ⟨some 13, .bin .eql, [.t 10, .t 12], some (7, true)⟩,
 ⟨some 14, .pick, [.t 7, .t 13, .c (.b false)], none⟩,
 ⟨some 4, .mv, [.t 14], none⟩] [1, 5, 6, 7, 8, 9, 10, 11, 12, 13, 14])
 .ret)) }
/-- impl.hasTest -/
def F_impl_hasTest : LF :=
 { nparams := 2, results := [.t 4], body :=
 (.seq
 (.region false [⟨some 4, .mv, [.c (.b false)], none⟩] [4])
 (.seq
 (.region false [⟨some 5, .mv, [.t 0], none⟩,
 ⟨some 6, .mv, [.t 1], none⟩,
 ⟨some 7, .bin .shr, [.t 5, .t 6], none⟩,
 ⟨some 8, .bin .and, [.t 7, .c (.i 1)], none⟩,
 ⟨some 9, .bin .eql, [.t 8, .c (.i 1)], none⟩,
 ⟨some 4, .mv, [.t 9], none⟩] [0, 1, 5, 6, 7, 8, 9])
 .ret)) }
/-- impl.partsTaken -/
def F_impl_partsTaken : LF :=
 { nparams := 1, results := [.t 2], body :=
 (.seq
 (.region false [⟨some 2, .mv, [.c (.i 0)], none⟩] [2])
 (.seq
 (.seq
 (.region false [⟨some 3, .mv, [.t 0], none⟩] [0])
 (.block 0
 (.seq
 (.region false [⟨some 5, .bin .eql, [.t 3, .c (.i 0)], none⟩,
 ⟨some 4, .mv, [.t 5], none⟩] [5])
 (.cond (.t 4) [4]
 (.seq
 (.region false [⟨some 2, .mv, [.c (.i 0)], none⟩] [3])
 .ret)
 (.seq
 (.region false [⟨some 7, .bin .eql, [.t 3, .c (.i 1)], none⟩,
 ⟨some 6, .mv, [.t 7], none⟩] [3, 7])
 (.cond (.t 6) [6]
 (.seq
 (.region false [⟨some 2, .mv, [.c (.i 1)], none⟩] [])
 .ret)
 .skip))))))
 (.seq
 (.region false [⟨some 2, .mv, [.c (.i 2)], none⟩] [])
 .ret))) }
/-- impl.markOk -/
def F_impl_markOk : LF :=
 { nparams := 2, results := [.t 4], body :=
 (.seq
 (.region false [⟨some 3, .box 1552, [.t 1], none⟩,
 ⟨some 4, .mv, [.c (.b false)], none⟩] [1, 4])
 (.seq
 (.seq
 (.region false [⟨some 5, .fld 0 1 false, [.t 3], none⟩,
 ⟨some 6, .load 1 false, [.t 5], none⟩,
 ⟨some 7, .bin .eql, [.t 6, .c (.i 0)], none⟩] [5, 6])
 (.cond (.t 7) [7]
 (.seq
 (.region false [⟨some 8, .fld 1 1 false, [.t 3], none⟩,
 ⟨some 9, .load 1 false, [.t 8], none⟩,
 ⟨some 10, .mv, [.t 0], none⟩,
 ⟨some 11, .bin .sub, [.t 10, .c (.i 1)], none⟩,
 ⟨some 12, .call n_impl_isWithin 6144, [.t 9, .c (.i 0), .t 11], none⟩,
 ⟨some 4, .mv, [.t 12], none⟩] [0, 3, 8, 9, 10, 11, 12])
 .ret)
 .skip))
 (.seq
 (.region false [⟨some 13, .fld 0 1 false, [.t 3], none⟩,
 ⟨some 14, .load 1 false, [.t 13], none⟩,
 ⟨some 15, .call n_impl_isWithin 7680, [.t 14, .c (.i 1), .c (.i 3)], none⟩,
 ⟨some 16, .mv, [.t 15], none⟩,
 ⟨some 17, .fld 1 1 false, [.t 3], some (16, true)⟩,
 ⟨some 18, .load 1 false, [.t 17], some (16, true)⟩,
 ⟨some 19, .bin .eql, [.t 18, .c (.i 0)], some (16, true)⟩,
 ⟨some 20, .pick, [.t 16, .t 19, .c (.b false)], none⟩,
 ⟨some 4, .mv, [.t 20], none⟩] [0, 3, 13, 14, 15, 16, 17, 18, 19, 20])
 .ret))) }
/-- impl.statesOf -/
def F_impl_statesOf : LF :=
 { nparams := 1, results := [.t 2], body :=
 (.seq
 (.region false [⟨some 2, .mv, [.c (.i 0)], none⟩] [2])
 (.seq
 (.region false [⟨some 3, .mv, [.t 0], none⟩,
 ⟨some 4, .bin .shl, [.c (.i 1), .t 3], none⟩,
 ⟨some 2, .mv, [.t 4], none⟩] [0, 3, 4])
 .ret)) }
/-- impl.foldTerm[uint32] -/
def F_impl_foldTerm_uint32_L0 : LC :=
 (.seq
 (.region false [⟨some 13, .bin .lss, [.t 12, .t 11], none⟩] [])
 (.seq
 (.cond (.t 13) [13]
 .skip
 (.exit 0))
 (.seq
 (.block 1
 (.seq
 (.region false [⟨some 14, .idxa 2, [.t 10, .t 12], none⟩,
 ⟨some 15, .load 2 true, [.t 14], none⟩,
 ⟨some 7, .alloc 3600 (.st [.i 0, .i 0]), [], none⟩,
 ⟨none, .store 2, [.t 7, .t 15], none⟩] [14, 15])
 (.seq
 (.region false [⟨some 16, .mv, [.t 5], none⟩,
 ⟨some 17, .len, [.t 16], none⟩,
 ⟨some 18, .fld 0 1 false, [.t 7], none⟩,
 ⟨some 19, .load 1 false, [.t 18], none⟩,
 ⟨some 20, .call n_impl_partsTaken 10240, [.t 19], none⟩,
 ⟨some 21, .bin .sub, [.t 17, .t 20], none⟩,
 ⟨some 8, .mv, [.t 21], none⟩] [16, 17, 18, 19, 20, 21])
 (.seq
 (.region true [⟨some 22, .mv, [.t 1], none⟩,
 ⟨some 23, .load 2 true, [.t 7], none⟩,
 ⟨some 24, .mv, [.t 5], none⟩,
 ⟨some 25, .mv, [.t 8], none⟩,
 ⟨some 26, .slice true false 1, [.t 24, .t 25], none⟩,
 ⟨some 27, .calld 13824, [.t 22, .t 23, .t 26], none⟩,
 ⟨some 9, .mv, [.t 27], none⟩] [7, 22, 23, 24, 25, 26, 27])
 (.region false [⟨some 28, .mv, [.t 5], none⟩,
 ⟨some 29, .mv, [.t 8], none⟩,
 ⟨some 30, .slice false true 1, [.t 28, .t 29], none⟩,
 ⟨some 31, .mv, [.t 9], none⟩,
 ⟨some 32, .bslice 16392 1 1 (.w (0#32)) [0], [.t 31], none⟩,
 ⟨some 33, .app 16904 1, [.t 30, .t 32], none⟩,
 ⟨some 5, .mv, [.t 33], none⟩] [8, 9, 28, 29, 30, 31, 32, 33])))))
 (.region false [⟨some 34, .bin .add, [.t 12, .c (.i 1)], none⟩,
 ⟨some 12, .mv, [.t 34], none⟩] [34]))))
def F_impl_foldTerm_uint32_W0 : LC := .loop F_impl_foldTerm_uint32_L0
def F_impl_foldTerm_uint32 : LF :=
 { nparams := 2, results := [.t 4], body :=
 (.seq
 (.region false [⟨some 4, .mv, [.c (.w (0#32))], none⟩] [4])
 (.seq
 (.region false [⟨some 5, .newnil 2568, [], none⟩] [])
 (.seq
 (.seq
 (.region false [⟨some 10, .mv, [.t 0], none⟩,
 ⟨some 11, .len, [.t 10], none⟩,
 ⟨some 12, .mv, [.c (.i 0)], none⟩] [0])
 (.block 0
 F_impl_foldTerm_uint32_W0))
 (.seq
 (.region false [⟨some 35, .mv, [.t 5], none⟩,
 ⟨some 36, .idxa 1, [.t 35, .c (.i 0)], none⟩,
 ⟨some 37, .load 1 false, [.t 36], none⟩,
 ⟨some 4, .mv, [.t 37], none⟩] [1, 5, 10, 11, 12, 35, 36, 37])
 .ret)))) }
/-- impl.statesOfPart -/
def F_impl_statesOfPart : LF :=
 { gl := [0], nparams := 2, results := [.t 4], body :=
 (.seq
 (.region false [⟨some 2, .box 1040, [.t 0], none⟩,
 ⟨some 4, .mv, [.c (.w (0#32))], none⟩] [0, 4])
 (.seq
 (.seq
 (.region false [⟨some 5, .fld 0 1 false, [.t 2], none⟩,
 ⟨some 6, .load 1 false, [.t 5], none⟩] [5])
 (.block 0
 (.seq
 (.region false [⟨some 8, .bin .eql, [.t 6, .c (.i 0)], none⟩,
 ⟨some 7, .mv, [.t 8], none⟩] [8])
 (.cond (.t 7) [7]
 (.seq
 (.region false [⟨some 9, .fld 1 1 false, [.t 2], none⟩,
 ⟨some 10, .load 1 false, [.t 9], none⟩,
 ⟨some 11, .idxp 5 1, [.t 1048576, .t 10], none⟩,
 ⟨some 12, .load 1 false, [.t 11], none⟩,
 ⟨some 4, .mv, [.t 12], none⟩] [1, 2, 6, 9, 10, 11, 12])
 .ret)
 (.seq
 (.region false [⟨some 14, .bin .eql, [.t 6, .c (.i 1)], none⟩,
 ⟨some 13, .mv, [.t 14], none⟩] [2, 14])
 (.cond (.t 13) [13]
 (.seq
 (.region false [⟨some 15, .mv, [.t 1], none⟩,
 ⟨some 16, .idxa 1, [.t 15, .c (.i 0)], none⟩,
 ⟨some 17, .load 1 false, [.t 16], none⟩,
 ⟨some 18, .un .xor, [.t 17], none⟩,
 ⟨some 4, .mv, [.t 18], none⟩] [1, 6, 15, 16, 17, 18])
 .ret)
 (.seq
 (.region false [⟨some 20, .bin .eql, [.t 6, .c (.i 2)], none⟩,
 ⟨some 19, .mv, [.t 20], none⟩] [6, 20])
 (.cond (.t 19) [19]
 (.seq
 (.region true [⟨some 21, .mv, [.t 1], none⟩,
 ⟨some 22, .idxa 1, [.t 21, .c (.i 0)], none⟩,
 ⟨some 23, .load 1 false, [.t 22], none⟩,
 ⟨some 24, .mv, [.t 1], none⟩,
 ⟨some 25, .idxa 1, [.t 24, .c (.i 1)], none⟩,
 ⟨some 26, .load 1 false, [.t 25], none⟩,
 ⟨some 27, .bin .and, [.t 23, .t 26], none⟩,
 ⟨some 4, .mv, [.t 27], none⟩] [1, 21, 22, 23, 24, 25, 26, 27])
 .ret)
 .skip))))))))
 (.seq
 (.region true [⟨some 28, .mv, [.t 1], none⟩,
 ⟨some 29, .idxa 1, [.t 28, .c (.i 0)], none⟩,
 ⟨some 30, .load 1 false, [.t 29], none⟩,
 ⟨some 31, .mv, [.t 1], none⟩,
 ⟨some 32, .idxa 1, [.t 31, .c (.i 1)], none⟩,
 ⟨some 33, .load 1 false, [.t 32], none⟩,
 ⟨some 34, .bin .or, [.t 30, .t 33], none⟩,
 ⟨some 4, .mv, [.t 34], none⟩] [1, 28, 29, 30, 31, 32, 33, 34])
 .ret))) }
def lf : Nat → Option LF
 | 3 => some F_laws_FnGroupTerm
 | 8 => some F_spec_DrawGroupTerm
 | 9 => some F_impl_GroupTerm
 | 10 => some F_laws_sameMarks
 | 11 => some F_spec_GroupTerm
 | 12 => some F_impl_GroupsOk
 | 13 => some F_laws_alive
 | 14 => some F_impl_ValueOf
 | 15 => some F_impl_OnceOk
 | 16 => some F_impl_LettersOf
 | 28 => some F_spec_GroupsOk
 | 34 => some F_spec_l20Open
 | 35 => some F_spec_l20Rd_pick
 | 36 => some F_spec_l20Groups
 | 37 => some F_impl_manyOk
 | 38 => some F_impl_isWithin
 | 39 => some F_impl_OrderOk
 | 40 => some F_impl_TestsOk
 | 41 => some F_impl_TermOk
 | 42 => some F_impl_StateOk
 | 43 => some F_impl_hasState
 | 44 => some F_impl_trueStates
 | 61 => some F_spec_l1In
 | 64 => some F_spec_l20Order
 | 65 => some F_spec_l20Rd_odd
 | 66 => some F_impl_hasTest
 | 67 => some F_impl_partsTaken
 | 68 => some F_impl_markOk
 | 69 => some F_impl_statesOf
 | 70 => some F_impl_foldTerm_uint32
 | 71 => some F_impl_statesOfPart
 | _ => none
theorem w_laws_FnGroupTerm_2 (S : LS) : ex lf F_laws_FnGroupTerm_W2 S = match ex lf F_laws_FnGroupTerm_L2 S with | some (.normal, S1) => ex lf F_laws_FnGroupTerm_W2 S1 | r => r := ex_loop lf F_laws_FnGroupTerm_L2 S
theorem w_laws_FnGroupTerm_1 (S : LS) : ex lf F_laws_FnGroupTerm_W1 S = match ex lf F_laws_FnGroupTerm_L1 S with | some (.normal, S1) => ex lf F_laws_FnGroupTerm_W1 S1 | r => r := ex_loop lf F_laws_FnGroupTerm_L1 S
theorem w_laws_FnGroupTerm_0 (S : LS) : ex lf F_laws_FnGroupTerm_W0 S = match ex lf F_laws_FnGroupTerm_L0 S with | some (.normal, S1) => ex lf F_laws_FnGroupTerm_W0 S1 | r => r := ex_loop lf F_laws_FnGroupTerm_L0 S
theorem w_impl_GroupTerm_1 (S : LS) : ex lf F_impl_GroupTerm_W1 S = match ex lf F_impl_GroupTerm_L1 S with | some (.normal, S1) => ex lf F_impl_GroupTerm_W1 S1 | r => r := ex_loop lf F_impl_GroupTerm_L1 S
theorem w_impl_GroupTerm_0 (S : LS) : ex lf F_impl_GroupTerm_W0 S = match ex lf F_impl_GroupTerm_L0 S with | some (.normal, S1) => ex lf F_impl_GroupTerm_W0 S1 | r => r := ex_loop lf F_impl_GroupTerm_L0 S
theorem w_laws_sameMarks_0 (S : LS) : ex lf F_laws_sameMarks_W0 S = match ex lf F_laws_sameMarks_L0 S with | some (.normal, S1) => ex lf F_laws_sameMarks_W0 S1 | r => r := ex_loop lf F_laws_sameMarks_L0 S
theorem w_spec_GroupTerm_1 (S : LS) : ex lf F_spec_GroupTerm_W1 S = match ex lf F_spec_GroupTerm_L1 S with | some (.normal, S1) => ex lf F_spec_GroupTerm_W1 S1 | r => r := ex_loop lf F_spec_GroupTerm_L1 S
theorem w_spec_GroupTerm_0 (S : LS) : ex lf F_spec_GroupTerm_W0 S = match ex lf F_spec_GroupTerm_L0 S with | some (.normal, S1) => ex lf F_spec_GroupTerm_W0 S1 | r => r := ex_loop lf F_spec_GroupTerm_L0 S
theorem w_impl_GroupsOk_0 (S : LS) : ex lf F_impl_GroupsOk_W0 S = match ex lf F_impl_GroupsOk_L0 S with | some (.normal, S1) => ex lf F_impl_GroupsOk_W0 S1 | r => r := ex_loop lf F_impl_GroupsOk_L0 S
theorem w_impl_OnceOk_0 (S : LS) : ex lf F_impl_OnceOk_W0 S = match ex lf F_impl_OnceOk_L0 S with | some (.normal, S1) => ex lf F_impl_OnceOk_W0 S1 | r => r := ex_loop lf F_impl_OnceOk_L0 S
theorem w_impl_LettersOf_0 (S : LS) : ex lf F_impl_LettersOf_W0 S = match ex lf F_impl_LettersOf_L0 S with | some (.normal, S1) => ex lf F_impl_LettersOf_W0 S1 | r => r := ex_loop lf F_impl_LettersOf_L0 S
theorem w_spec_GroupsOk_1 (S : LS) : ex lf F_spec_GroupsOk_W1 S = match ex lf F_spec_GroupsOk_L1 S with | some (.normal, S1) => ex lf F_spec_GroupsOk_W1 S1 | r => r := ex_loop lf F_spec_GroupsOk_L1 S
theorem w_spec_GroupsOk_0 (S : LS) : ex lf F_spec_GroupsOk_W0 S = match ex lf F_spec_GroupsOk_L0 S with | some (.normal, S1) => ex lf F_spec_GroupsOk_W0 S1 | r => r := ex_loop lf F_spec_GroupsOk_L0 S
theorem w_spec_l20Groups_0 (S : LS) : ex lf F_spec_l20Groups_W0 S = match ex lf F_spec_l20Groups_L0 S with | some (.normal, S1) => ex lf F_spec_l20Groups_W0 S1 | r => r := ex_loop lf F_spec_l20Groups_L0 S
theorem w_impl_OrderOk_0 (S : LS) : ex lf F_impl_OrderOk_W0 S = match ex lf F_impl_OrderOk_L0 S with | some (.normal, S1) => ex lf F_impl_OrderOk_W0 S1 | r => r := ex_loop lf F_impl_OrderOk_L0 S
theorem w_impl_TestsOk_0 (S : LS) : ex lf F_impl_TestsOk_W0 S = match ex lf F_impl_TestsOk_L0 S with | some (.normal, S1) => ex lf F_impl_TestsOk_W0 S1 | r => r := ex_loop lf F_impl_TestsOk_L0 S
theorem w_impl_TermOk_0 (S : LS) : ex lf F_impl_TermOk_W0 S = match ex lf F_impl_TermOk_L0 S with | some (.normal, S1) => ex lf F_impl_TermOk_W0 S1 | r => r := ex_loop lf F_impl_TermOk_L0 S
theorem w_spec_l20Order_0 (S : LS) : ex lf F_spec_l20Order_W0 S = match ex lf F_spec_l20Order_L0 S with | some (.normal, S1) => ex lf F_spec_l20Order_W0 S1 | r => r := ex_loop lf F_spec_l20Order_L0 S
theorem w_impl_foldTerm_uint32_0 (S : LS) : ex lf F_impl_foldTerm_uint32_W0 S = match ex lf F_impl_foldTerm_uint32_L0 S with | some (.normal, S1) => ex lf F_impl_foldTerm_uint32_W0 S1 | r => r := ex_loop lf F_impl_foldTerm_uint32_L0 S
end Zz
