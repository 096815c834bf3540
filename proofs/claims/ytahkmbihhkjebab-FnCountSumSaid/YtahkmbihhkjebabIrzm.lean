/- The functions of the program, read as data. No conditions. -/
import Derived.Test.YtahkmbihhkjebabLgC
set_option linter.unusedSectionVars false
set_option linter.unusedVariables false
set_option linter.unusedSimpArgs false
namespace Zz
open Go.Lg
instance : GL := ⟨[], [], ["l4_orders.go:82"], [], [], [], ["l20_draw.go:447"]⟩
def n_laws_FnCountOk : Nat := 3
def n_laws_FnCountWeight : Nat := 4
def n_laws_FnCountSum : Nat := 5
def n_spec_DrawCountOk : Nat := 6
def n_impl_CountOk : Nat := 7
def n_spec_CountOk : Nat := 8
def n_spec_TestsOk : Nat := 9
def n_laws_alive : Nat := 10
def n_spec_DrawCountWeight : Nat := 11
def n_impl_CountWeight : Nat := 12
def n_spec_CountWeight : Nat := 13
def n_impl_OtherTests : Nat := 14
def n_laws_power : Nat := 15
def n_impl_WeightOf : Nat := 16
def n_impl_TestsOk : Nat := 17
def n_spec_l20Count : Nat := 18
def n_spec_l20Open : Nat := 19
def n_impl_isWithin : Nat := 20
def n_spec_l1In : Nat := 21
def n_impl_statesOf : Nat := 22
def n_impl_sizeOf : Nat := 23
def n_spec_l8Heads : Nat := 24
def n_spec_l1Weight : Nat := 25
def n_impl_StateOk : Nat := 26
def n_impl_outcomeIn : Nat := 27
def n_impl_manyOk : Nat := 28
def n_spec_l20Tests : Nat := 29
def n_spec_l20Rd_pick : Nat := 30
def n_math_bits_OnesCount : Nat := 31
def n_spec_l20Rd_odd : Nat := 32
def n_math_bits_OnesCount32 : Nat := 33
def n_math_bits_OnesCount64 : Nat := 34
/-- laws.FnCountOk -/
def F_laws_FnCountOk : LF :=
 { nparams := 1, results := [.t 2], body :=
 (.seq
 (.region false [⟨some 2, .mv, [.c (.b false)], none⟩] [2])
 (.seq
 (.seq
 (.region false [⟨some 6, .mv, [.t 0], none⟩,
 ⟨some 7, .len, [.t 6], none⟩,
 ⟨some 8, .bin .gtr, [.t 7, .c (.i 1048576)], none⟩] [6, 7])
 (.cond (.t 8) [8]
 (.seq
 (.region false [⟨some 2, .mv, [.c (.b true)], none⟩] [0])
 .ret)
 .skip))
 (.seq
 (.region false [⟨some 10, .mv, [.t 0], none⟩,
 ⟨some 11, .call n_spec_DrawCountOk 5632, [.t 10], none⟩,
 ⟨some 9, .mv, [.t 11], none⟩,
 ⟨some 12, .ext 0, [.t 9], none⟩,
 ⟨some 13, .ext 1, [.t 9], none⟩,
 ⟨some 3, .mv, [.t 12], none⟩,
 ⟨some 4, .mv, [.t 13], none⟩] [0, 9, 10, 11, 12, 13])
 (.seq
 (.region false [⟨some 14, .mv, [.t 3], none⟩,
 ⟨some 15, .mv, [.t 4], none⟩,
 ⟨some 16, .call n_impl_CountOk 8192, [.t 14, .t 15], none⟩,
 ⟨some 5, .mv, [.t 16], none⟩] [14, 15, 16])
 (.seq
 (.seq
 (.region false [⟨some 17, .mv, [.t 5], none⟩,
 ⟨some 18, .mv, [.t 3], none⟩,
 ⟨some 19, .mv, [.t 4], none⟩,
 ⟨some 20, .call n_spec_CountOk 10240, [.t 18, .t 19], none⟩,
 ⟨some 21, .eqb true, [.t 17, .t 20], none⟩] [4, 17, 18, 19, 20])
 (.cond (.t 21) [21]
 (.seq
 (.region false [⟨some 2, .mv, [.c (.b false)], none⟩] [3, 5])
 .ret)
 .skip))
 (.seq
 (.seq
 (.region false [⟨some 22, .mv, [.t 3], none⟩,
 ⟨some 23, .call n_spec_TestsOk 11776, [.t 22], none⟩,
 ⟨some 24, .un .not, [.t 23], none⟩] [22, 23])
 (.cond (.t 24) [24]
 (.seq
 (.region false [⟨some 25, .mv, [.t 5], none⟩,
 ⟨some 26, .un .not, [.t 25], none⟩,
 ⟨some 27, .mv, [.t 26], none⟩,
 ⟨some 28, .call n_laws_alive 14336, [], some (27, true)⟩,
 ⟨some 29, .pick, [.t 27, .t 28, .c (.b false)], none⟩,
 ⟨some 2, .mv, [.t 29], none⟩] [3, 5, 25, 26, 27, 28, 29])
 .ret)
 .skip))
 (.seq
 (.region false [⟨some 30, .mv, [.t 3], none⟩,
 ⟨some 31, .call n_impl_CountOk 15872, [.t 30, .c (.i 1)], none⟩,
 ⟨some 32, .mv, [.t 31], none⟩,
 ⟨some 33, .mv, [.t 3], some (32, true)⟩,
 ⟨some 34, .mv, [.t 3], some (32, true)⟩,
 ⟨some 35, .len, [.t 34], some (32, true)⟩,
 ⟨some 36, .call n_impl_CountOk 18432, [.t 33, .t 35], some (32, true)⟩,
 ⟨some 37, .pick, [.t 32, .t 36, .c (.b false)], none⟩,
 ⟨some 38, .mv, [.t 37], none⟩,
 ⟨some 39, .mv, [.t 3], some (38, true)⟩,
 ⟨some 40, .mv, [.t 3], some (38, true)⟩,
 ⟨some 41, .len, [.t 40], some (38, true)⟩,
 ⟨some 42, .bin .add, [.t 41, .c (.i 1)], some (38, true)⟩,
 ⟨some 43, .call n_impl_CountOk 22016, [.t 39, .t 42], some (38, true)⟩,
 ⟨some 44, .un .not, [.t 43], some (38, true)⟩,
 ⟨some 45, .pick, [.t 38, .t 44, .c (.b false)], none⟩,
 ⟨some 2, .mv, [.t 45], none⟩] [3, 5, 30, 31, 32, 33, 34, 35, 36, 37, 38, 39, 40, 41, 42, 43, 44, 45])
 .ret))))))) }
/-- laws.FnCountWeight -/
def F_laws_FnCountWeight : LF :=
 { nparams := 1, results := [.t 2], body :=
 (.seq
 (.region false [⟨some 2, .mv, [.c (.b false)], none⟩] [2])
 (.seq
 (.seq
 (.region false [⟨some 6, .mv, [.t 0], none⟩,
 ⟨some 7, .len, [.t 6], none⟩,
 ⟨some 8, .bin .gtr, [.t 7, .c (.i 1048576)], none⟩] [6, 7])
 (.cond (.t 8) [8]
 (.seq
 (.region false [⟨some 2, .mv, [.c (.b true)], none⟩] [0])
 .ret)
 .skip))
 (.seq
 (.region false [⟨some 10, .mv, [.t 0], none⟩,
 ⟨some 11, .call n_spec_DrawCountWeight 5632, [.t 10], none⟩,
 ⟨some 9, .mv, [.t 11], none⟩,
 ⟨some 12, .ext 0, [.t 9], none⟩,
 ⟨some 13, .ext 1, [.t 9], none⟩,
 ⟨some 3, .mv, [.t 12], none⟩,
 ⟨some 4, .mv, [.t 13], none⟩] [0, 9, 10, 11, 12, 13])
 (.seq
 (.region false [⟨some 14, .mv, [.t 3], none⟩,
 ⟨some 15, .mv, [.t 4], none⟩,
 ⟨some 16, .call n_impl_CountWeight 8192, [.t 14, .t 15], none⟩,
 ⟨some 5, .mv, [.t 16], none⟩] [14, 15, 16])
 (.seq
 (.seq
 (.region false [⟨some 17, .mv, [.t 5], none⟩,
 ⟨some 18, .mv, [.t 3], none⟩,
 ⟨some 19, .mv, [.t 4], none⟩,
 ⟨some 20, .call n_spec_CountWeight 10240, [.t 18, .t 19], none⟩,
 ⟨some 21, .bin .neq, [.t 17, .t 20], none⟩] [17, 18, 19, 20])
 (.cond (.t 21) [21]
 (.seq
 (.region false [⟨some 2, .mv, [.c (.b false)], none⟩] [3, 4, 5])
 .ret)
 .skip))
 (.seq
 (.seq
 (.region false [⟨some 22, .mv, [.t 5], none⟩,
 ⟨some 23, .bin .lss, [.t 22, .c (.i 0)], none⟩] [22])
 (.cond (.t 23) [23]
 (.seq
 (.region false [⟨some 24, .mv, [.t 5], none⟩,
 ⟨some 25, .bin .eql, [.t 24, .c (.i (-1))], none⟩,
 ⟨some 26, .mv, [.t 25], none⟩,
 ⟨some 27, .call n_laws_alive 13824, [], some (26, true)⟩,
 ⟨some 28, .pick, [.t 26, .t 27, .c (.b false)], none⟩,
 ⟨some 2, .mv, [.t 28], none⟩] [3, 4, 5, 24, 25, 26, 27, 28])
 .ret)
 .skip))
 (.seq
 (.region true [⟨some 29, .mv, [.t 5], none⟩,
 ⟨some 30, .mv, [.t 3], none⟩,
 ⟨some 31, .call n_impl_OtherTests 15872, [.t 30], none⟩,
 ⟨some 32, .mv, [.t 3], none⟩,
 ⟨some 33, .len, [.t 32], none⟩,
 ⟨some 34, .mv, [.t 4], none⟩,
 ⟨some 35, .bin .sub, [.t 33, .t 34], none⟩,
 ⟨some 36, .bin .add, [.t 35, .c (.i 1)], none⟩,
 ⟨some 37, .call n_impl_CountWeight 18944, [.t 31, .t 36], none⟩,
 ⟨some 38, .bin .add, [.t 29, .t 37], none⟩,
 ⟨some 39, .mv, [.t 3], none⟩,
 ⟨some 40, .len, [.t 39], none⟩,
 ⟨some 41, .call n_laws_power 20992, [.t 40], none⟩,
 ⟨some 42, .bin .eql, [.t 38, .t 41], none⟩,
 ⟨some 43, .mv, [.t 42], none⟩,
 ⟨some 44, .mv, [.t 3], some (43, true)⟩,
 ⟨some 45, .mv, [.t 3], some (43, true)⟩,
 ⟨some 46, .len, [.t 45], some (43, true)⟩,
 ⟨some 47, .call n_impl_CountWeight 24064, [.t 44, .t 46], some (43, true)⟩,
 ⟨some 48, .mv, [.t 3], some (43, true)⟩,
 ⟨some 49, .mv, [.t 3], some (43, true)⟩,
 ⟨some 50, .len, [.t 49], some (43, true)⟩,
 ⟨some 51, .bin .shl, [.c (.i 1), .t 50], some (43, true)⟩,
 ⟨some 52, .bin .sub, [.t 51, .c (.i 1)], some (43, true)⟩,
 ⟨some 53, .call n_impl_WeightOf 27136, [.t 48, .t 52], some (43, true)⟩,
 ⟨some 54, .bin .eql, [.t 47, .t 53], some (43, true)⟩,
 ⟨some 55, .pick, [.t 43, .t 54, .c (.b false)], none⟩,
 ⟨some 2, .mv, [.t 55], none⟩] [3, 4, 5, 29, 30, 31, 32, 33, 34, 35, 36, 37, 38, 39, 40, 41, 42, 43, 44, 45, 46, 47, 48, 49, 50, 51, 52, 53, 54, 55])
 .ret))))))) }
/-- laws.FnCountSum -/
def F_laws_FnCountSum_L0 : LC :=
 (.seq
 (.seq
 (.region false [⟨some 30, .mv, [.t 8], none⟩,
 ⟨some 31, .mv, [.t 3], none⟩,
 ⟨some 32, .len, [.t 31], none⟩,
 ⟨some 33, .bin .leq, [.t 30, .t 32], none⟩] [30, 31, 32])
 (.cond (.t 33) [33]
 .skip
 (.exit 0)))
 (.seq
 (.block 1
 (.seq
 (.region false [⟨some 36, .mv, [.t 3], none⟩,
 ⟨some 37, .mv, [.t 8], none⟩,
 ⟨some 38, .call n_impl_CountWeight 19456, [.t 36, .t 37], none⟩,
 ⟨some 9, .mv, [.t 38], none⟩] [36, 37, 38])
 (.seq
 (.seq
 (.region false [⟨some 39, .mv, [.t 9], none⟩,
 ⟨some 40, .bin .lss, [.t 39, .c (.i 0)], none⟩,
 ⟨some 41, .mv, [.t 40], none⟩,
 ⟨some 42, .mv, [.t 9], some (41, false)⟩,
 ⟨some 43, .mv, [.t 7], some (41, false)⟩,
 ⟨some 44, .bin .gtr, [.t 42, .t 43], some (41, false)⟩,
 ⟨some 45, .pick, [.t 41, .c (.b true), .t 44], none⟩] [7, 39, 40, 41, 42, 43, 44])
 (.cond (.t 45) [45]
 (.seq
 (.region false [⟨some 2, .mv, [.c (.b false)], none⟩] [3, 5, 6, 8, 9])
 .ret)
 .skip))
 (.seq
 (.region false [⟨some 46, .mv, [.t 9], none⟩,
 ⟨some 7, .mv, [.t 46], none⟩] [46])
 (.seq
 (.region false [⟨some 47, .mv, [.t 5], none⟩,
 ⟨some 48, .mv, [.t 9], none⟩,
 ⟨some 49, .bin .add, [.t 47, .t 48], none⟩,
 ⟨some 5, .mv, [.t 49], none⟩] [9, 47, 48, 49])
 (.region false [⟨some 50, .mv, [.t 6], none⟩,
 ⟨some 51, .mv, [.t 3], none⟩,
 ⟨some 52, .mv, [.t 8], none⟩,
 ⟨some 53, .bin .sub, [.t 52, .c (.i 1)], none⟩,
 ⟨some 54, .idxa 2, [.t 51, .t 53], none⟩,
 ⟨some 55, .fld 1 1 false, [.t 54], none⟩,
 ⟨some 56, .load 1 false, [.t 55], none⟩,
 ⟨some 57, .bin .add, [.t 50, .t 56], none⟩,
 ⟨some 6, .mv, [.t 57], none⟩] [50, 51, 52, 53, 54, 55, 56, 57]))))))
 (.region false [⟨some 34, .mv, [.t 8], none⟩,
 ⟨some 35, .bin .add, [.t 34, .c (.i 1)], none⟩,
 ⟨some 8, .mv, [.t 35], none⟩] [34, 35])))
def F_laws_FnCountSum_W0 : LC := .loop F_laws_FnCountSum_L0
def F_laws_FnCountSum : LF :=
 { nparams := 1, results := [.t 2], body :=
 (.seq
 (.region false [⟨some 2, .mv, [.c (.b false)], none⟩] [2])
 (.seq
 (.seq
 (.region false [⟨some 10, .mv, [.t 0], none⟩,
 ⟨some 11, .len, [.t 10], none⟩,
 ⟨some 12, .bin .gtr, [.t 11, .c (.i 1048576)], none⟩] [10, 11])
 (.cond (.t 12) [12]
 (.seq
 (.region false [⟨some 2, .mv, [.c (.b true)], none⟩] [0])
 .ret)
 .skip))
 (.seq
 (.region false [⟨some 14, .mv, [.t 0], none⟩,
 ⟨some 15, .call n_spec_DrawCountWeight 7680, [.t 14], none⟩,
 ⟨some 13, .mv, [.t 15], none⟩,
 ⟨some 16, .ext 0, [.t 13], none⟩,
 ⟨some 17, .ext 1, [.t 13], none⟩,
 ⟨some 3, .mv, [.t 16], none⟩,
 ⟨some 4, .mv, [.t 17], none⟩] [0, 4, 13, 14, 15, 16, 17])
 (.seq
 (.seq
 (.region false [⟨some 18, .mv, [.t 3], none⟩,
 ⟨some 19, .call n_spec_TestsOk 9728, [.t 18], none⟩,
 ⟨some 20, .un .not, [.t 19], none⟩] [18, 19])
 (.cond (.t 20) [20]
 (.seq
 (.region false [⟨some 21, .mv, [.t 3], none⟩,
 ⟨some 22, .call n_impl_TestsOk 11264, [.t 21], none⟩,
 ⟨some 23, .un .not, [.t 22], none⟩,
 ⟨some 24, .mv, [.t 23], none⟩,
 ⟨some 25, .call n_laws_alive 12800, [], some (24, true)⟩,
 ⟨some 26, .pick, [.t 24, .t 25, .c (.b false)], none⟩,
 ⟨some 2, .mv, [.t 26], none⟩] [3, 21, 22, 23, 24, 25, 26])
 .ret)
 .skip))
 (.seq
 (.region false [⟨some 5, .mv, [.c (.i 0)], none⟩] [])
 (.seq
 (.region false [⟨some 6, .mv, [.c (.i 0)], none⟩] [])
 (.seq
 (.region false [⟨some 27, .mv, [.t 3], none⟩,
 ⟨some 28, .len, [.t 27], none⟩,
 ⟨some 29, .call n_laws_power 14848, [.t 28], none⟩,
 ⟨some 7, .mv, [.t 29], none⟩] [27, 28, 29])
 (.seq
 (.seq
 (.region false [⟨some 8, .mv, [.c (.i 1)], none⟩] [])
 (.block 0
 F_laws_FnCountSum_W0))
 (.seq
 (.region false [⟨some 58, .call n_laws_alive 29696, [], none⟩,
 ⟨some 59, .mv, [.t 58], none⟩,
 ⟨some 60, .mv, [.t 5], some (59, true)⟩,
 ⟨some 61, .mv, [.t 6], some (59, true)⟩,
 ⟨some 62, .mv, [.t 3], some (59, true)⟩,
 ⟨some 63, .len, [.t 62], some (59, true)⟩,
 ⟨some 64, .bin .sub, [.t 63, .c (.i 1)], some (59, true)⟩,
 ⟨some 65, .call n_laws_power 33280, [.t 64], some (59, true)⟩,
 ⟨some 66, .bin .mul, [.t 61, .t 65], some (59, true)⟩,
 ⟨some 67, .bin .eql, [.t 60, .t 66], some (59, true)⟩,
 ⟨some 68, .pick, [.t 59, .t 67, .c (.b false)], none⟩,
 ⟨some 2, .mv, [.t 68], none⟩] [3, 5, 6, 7, 8, 58, 59, 60, 61, 62, 63, 64, 65, 66, 67, 68])
 .ret))))))))) }
/-- spec.DrawCountOk -/
def F_spec_DrawCountOk : LF :=
 { nparams := 1, results := [.t 2, .t 3], body :=
 (.seq
 (.region false [⟨some 2, .newnil 1040, [], none⟩,
 ⟨some 3, .mv, [.c (.i 0)], none⟩] [2, 3])
 (.seq
 (.region false [⟨some 4, .mv, [.t 0], none⟩,
 ⟨some 5, .call n_spec_l20Open 2560, [.t 4], none⟩,
 ⟨some 6, .call n_spec_l20Count 3072, [.t 5], none⟩,
 ⟨some 7, .ext 0, [.t 6], none⟩,
 ⟨some 8, .ext 1, [.t 6], none⟩,
 ⟨some 2, .mv, [.t 7], none⟩,
 ⟨some 3, .mv, [.t 8], none⟩] [0, 4, 5, 6, 7, 8])
 .ret)) }
/-- impl.CountOk -/
def F_impl_CountOk : LF :=
 { nparams := 2, results := [.t 4], body :=
 (.seq
 (.region false [⟨some 4, .mv, [.c (.b false)], none⟩] [4])
 (.seq
 (.region false [⟨some 5, .mv, [.t 0], none⟩,
 ⟨some 6, .call n_impl_TestsOk 3072, [.t 5], none⟩,
 ⟨some 7, .mv, [.t 6], none⟩,
 ⟨some 8, .mv, [.t 1], some (7, true)⟩,
 ⟨some 9, .mv, [.t 0], some (7, true)⟩,
 ⟨some 10, .len, [.t 9], some (7, true)⟩,
 ⟨some 11, .call n_impl_isWithin 5632, [.t 8, .c (.i 1), .t 10], some (7, true)⟩,
 ⟨some 12, .pick, [.t 7, .t 11, .c (.b false)], none⟩,
 ⟨some 4, .mv, [.t 12], none⟩] [0, 1, 5, 6, 7, 8, 9, 10, 11, 12])
 .ret)) }
/-- spec.CountOk -/
def F_spec_CountOk : LF :=
 { nparams := 2, results := [.t 4], body :=
 (.seq
 (.region false [⟨some 4, .mv, [.c (.b false)], none⟩] [4])
 (.seq
 (.region false [⟨some 5, .mv, [.t 0], none⟩,
 ⟨some 6, .call n_spec_TestsOk 3072, [.t 5], none⟩,
 ⟨some 7, .mv, [.t 6], none⟩,
 ⟨some 8, .mv, [.t 1], some (7, true)⟩,
 ⟨some 9, .mv, [.t 0], some (7, true)⟩,
 ⟨some 10, .len, [.t 9], some (7, true)⟩,
 ⟨some 11, .call n_spec_l1In 5632, [.t 8, .c (.i 1), .t 10], some (7, true)⟩,
 ⟨some 12, .pick, [.t 7, .t 11, .c (.b false)], none⟩,
 ⟨some 4, .mv, [.t 12], none⟩] [0, 1, 5, 6, 7, 8, 9, 10, 11, 12])
 .ret)) }
/-- spec.TestsOk -/
def F_spec_TestsOk_L0 : LC :=
 (.seq
 (.seq
 (.region false [⟨some 4, .mv, [.t 3], none⟩,
 ⟨some 5, .mv, [.t 0], none⟩,
 ⟨some 6, .len, [.t 5], none⟩,
 ⟨some 7, .bin .lss, [.t 4, .t 6], none⟩] [4, 5, 6])
 (.cond (.t 7) [7]
 .skip
 (.exit 0)))
 (.seq
 (.block 1
 (.seq
 (.region false [⟨some 10, .mv, [.t 0], none⟩,
 ⟨some 11, .mv, [.t 3], none⟩,
 ⟨some 12, .idxa 2, [.t 10, .t 11], none⟩,
 ⟨some 13, .fld 0 1 false, [.t 12], none⟩,
 ⟨some 14, .load 1 false, [.t 13], none⟩,
 ⟨some 15, .call n_spec_l1In 7680, [.t 14, .c (.i 1), .c (.i 9)], none⟩,
 ⟨some 16, .un .not, [.t 15], none⟩,
 ⟨some 17, .mv, [.t 16], none⟩,
 ⟨some 18, .mv, [.t 0], some (17, false)⟩,
 ⟨some 19, .mv, [.t 3], some (17, false)⟩,
 ⟨some 20, .idxa 2, [.t 18, .t 19], some (17, false)⟩,
 ⟨some 21, .fld 1 1 false, [.t 20], some (17, false)⟩,
 ⟨some 22, .load 1 false, [.t 21], some (17, false)⟩,
 ⟨some 23, .call n_spec_l1In 11776, [.t 22, .c (.i 1), .c (.i 5)], some (17, false)⟩,
 ⟨some 24, .un .not, [.t 23], some (17, false)⟩,
 ⟨some 25, .pick, [.t 17, .c (.b true), .t 24], none⟩] [10, 11, 12, 13, 14, 15, 16, 17, 18, 19, 20, 21, 22, 23, 24])
 (.cond (.t 25) [25]
 (.seq
 (.region false [⟨some 2, .mv, [.c (.b false)], none⟩] [0, 3])
 .ret)
 .skip)))
 (.region false [⟨some 8, .mv, [.t 3], none⟩,
 ⟨some 9, .bin .add, [.t 8, .c (.i 1)], none⟩,
 ⟨some 3, .mv, [.t 9], none⟩] [8, 9])))
def F_spec_TestsOk_W0 : LC := .loop F_spec_TestsOk_L0
def F_spec_TestsOk : LF :=
 { nparams := 1, results := [.t 2], body :=
 (.seq
 (.region false [⟨some 2, .mv, [.c (.b false)], none⟩] [2])
 (.seq
 (.seq
 (.region false [⟨some 3, .mv, [.c (.i 0)], none⟩] [])
 (.block 0
 F_spec_TestsOk_W0))
 (.seq
 (.region false [⟨some 26, .mv, [.t 0], none⟩,
 ⟨some 27, .len, [.t 26], none⟩,
 ⟨some 28, .call n_spec_l1In 14336, [.t 27, .c (.i 1), .c (.i 5)], none⟩,
 ⟨some 2, .mv, [.t 28], none⟩] [0, 3, 26, 27, 28])
 .ret))) }
/-- laws.alive -/
def F_laws_alive : LF :=
 { nparams := 0, results := [.t 0], body :=
 (.seq
 (.region false [⟨some 0, .mv, [.c (.b false)], none⟩] [0])
 (.seq
 (.region false [⟨some 1, .build [.i 0, .i 0] [(0, 1), (1, 1)], [.c (.i 1), .c (.i 1)], none⟩,
 ⟨some 2, .bslice 1040 1 2 (.st [.i 0, .i 0]) [0], [.t 1], none⟩,
 ⟨some 3, .call n_impl_TestsOk 1536, [.t 2], none⟩,
 ⟨some 4, .mv, [.t 3], none⟩,
 ⟨some 5, .build [.i 0, .i 0] [], [], some (4, true)⟩,
 ⟨some 6, .bslice 3088 1 2 (.st [.i 0, .i 0]) [0], [.t 5], some (4, true)⟩,
 ⟨some 7, .call n_impl_TestsOk 3584, [.t 6], some (4, true)⟩,
 ⟨some 8, .un .not, [.t 7], some (4, true)⟩,
 ⟨some 9, .pick, [.t 4, .t 8, .c (.b false)], none⟩,
 ⟨some 0, .mv, [.t 9], none⟩] [1, 2, 3, 4, 5, 6, 7, 8, 9])
 .ret)) }
/-- spec.DrawCountWeight -/
def F_spec_DrawCountWeight : LF :=
 { nparams := 1, results := [.t 2, .t 3], body :=
 (.seq
 (.region false [⟨some 2, .newnil 1040, [], none⟩,
 ⟨some 3, .mv, [.c (.i 0)], none⟩] [2, 3])
 (.seq
 (.region false [⟨some 4, .mv, [.t 0], none⟩,
 ⟨some 5, .call n_spec_l20Open 2560, [.t 4], none⟩,
 ⟨some 6, .call n_spec_l20Count 3072, [.t 5], none⟩,
 ⟨some 7, .ext 0, [.t 6], none⟩,
 ⟨some 8, .ext 1, [.t 6], none⟩,
 ⟨some 2, .mv, [.t 7], none⟩,
 ⟨some 3, .mv, [.t 8], none⟩] [0, 4, 5, 6, 7, 8])
 .ret)) }
/-- impl.CountWeight -/
def F_impl_CountWeight_L0 : LC :=
 (.seq
 (.region false [⟨some 15, .bin .lss, [.t 14, .t 13], none⟩] [])
 (.seq
 (.cond (.t 15) [15]
 .skip
 (.exit 0))
 (.seq
 (.block 1
 (.seq
 (.region false [⟨some 16, .mv, [.t 14], none⟩,
 ⟨some 6, .mv, [.t 16], none⟩] [16])
 (.seq
 (.region false [⟨some 17, .mv, [.t 6], none⟩,
 ⟨some 18, .call n_impl_sizeOf 9216, [.t 17], none⟩,
 ⟨some 19, .mv, [.t 1], none⟩,
 ⟨some 20, .bin .geq, [.t 18, .t 19], none⟩] [17, 18, 19])
 (.cond (.t 20) [20]
 (.region false [⟨some 21, .mv, [.t 5], none⟩,
 ⟨some 22, .mv, [.t 0], none⟩,
 ⟨some 23, .mv, [.t 6], none⟩,
 ⟨some 24, .call n_impl_WeightOf 12288, [.t 22, .t 23], none⟩,
 ⟨some 25, .bin .add, [.t 21, .t 24], none⟩,
 ⟨some 5, .mv, [.t 25], none⟩] [6, 21, 22, 23, 24, 25])
 .skip))))
 (.region false [⟨some 26, .bin .add, [.t 14, .c (.i 1)], none⟩,
 ⟨some 14, .mv, [.t 26], none⟩] [6, 26]))))
def F_impl_CountWeight_W0 : LC := .loop F_impl_CountWeight_L0
def F_impl_CountWeight : LF :=
 { nparams := 2, results := [.t 4], body :=
 (.seq
 (.region false [⟨some 4, .mv, [.c (.i 0)], none⟩] [4])
 (.seq
 (.seq
 (.region false [⟨some 7, .mv, [.t 0], none⟩,
 ⟨some 8, .mv, [.t 1], none⟩,
 ⟨some 9, .call n_impl_CountOk 4608, [.t 7, .t 8], none⟩,
 ⟨some 10, .un .not, [.t 9], none⟩] [7, 8, 9])
 (.cond (.t 10) [10]
 (.seq
 (.region false [⟨some 4, .mv, [.c (.i (-1))], none⟩] [0, 1])
 .ret)
 .skip))
 (.seq
 (.region false [⟨some 5, .mv, [.c (.i 0)], none⟩] [])
 (.seq
 (.seq
 (.region false [⟨some 11, .mv, [.t 0], none⟩,
 ⟨some 12, .len, [.t 11], none⟩,
 ⟨some 13, .call n_impl_statesOf 6656, [.t 12], none⟩,
 ⟨some 14, .mv, [.c (.i 0)], none⟩] [11, 12])
 (.block 0
 F_impl_CountWeight_W0))
 (.seq
 (.region false [⟨some 27, .mv, [.t 5], none⟩,
 ⟨some 4, .mv, [.t 27], none⟩] [0, 1, 5, 13, 14, 27])
 .ret))))) }
/-- spec.CountWeight -/
def F_spec_CountWeight_L0 : LC :=
 (.seq
 (.seq
 (.region false [⟨some 11, .mv, [.t 6], none⟩,
 ⟨some 12, .mv, [.t 0], none⟩,
 ⟨some 13, .len, [.t 12], none⟩,
 ⟨some 14, .bin .shl, [.c (.i 1), .t 13], none⟩,
 ⟨some 15, .bin .lss, [.t 11, .t 14], none⟩] [11, 12, 13, 14])
 (.cond (.t 15) [15]
 .skip
 (.exit 0)))
 (.seq
 (.block 1
 (.seq
 (.region false [⟨some 18, .mv, [.t 6], none⟩,
 ⟨some 19, .call n_spec_l8Heads 9728, [.t 18], none⟩,
 ⟨some 20, .mv, [.t 1], none⟩,
 ⟨some 21, .bin .geq, [.t 19, .t 20], none⟩] [18, 19, 20])
 (.cond (.t 21) [21]
 (.region false [⟨some 22, .mv, [.t 5], none⟩,
 ⟨some 23, .mv, [.t 0], none⟩,
 ⟨some 24, .mv, [.t 6], none⟩,
 ⟨some 25, .call n_spec_l1Weight 12800, [.t 23, .t 24], none⟩,
 ⟨some 26, .bin .add, [.t 22, .t 25], none⟩,
 ⟨some 5, .mv, [.t 26], none⟩] [22, 23, 24, 25, 26])
 .skip)))
 (.region false [⟨some 16, .mv, [.t 6], none⟩,
 ⟨some 17, .bin .add, [.t 16, .c (.i 1)], none⟩,
 ⟨some 6, .mv, [.t 17], none⟩] [16, 17])))
def F_spec_CountWeight_W0 : LC := .loop F_spec_CountWeight_L0
def F_spec_CountWeight : LF :=
 { nparams := 2, results := [.t 4], body :=
 (.seq
 (.region false [⟨some 4, .mv, [.c (.i 0)], none⟩] [4])
 (.seq
 (.seq
 (.region false [⟨some 7, .mv, [.t 0], none⟩,
 ⟨some 8, .mv, [.t 1], none⟩,
 ⟨some 9, .call n_spec_CountOk 4608, [.t 7, .t 8], none⟩,
 ⟨some 10, .un .not, [.t 9], none⟩] [7, 8, 9])
 (.cond (.t 10) [10]
 (.seq
 (.region false [⟨some 4, .mv, [.c (.i (-1))], none⟩] [0, 1])
 .ret)
 .skip))
 (.seq
 (.region false [⟨some 5, .mv, [.c (.i 0)], none⟩] [])
 (.seq
 (.seq
 (.region false [⟨some 6, .mv, [.c (.i 0)], none⟩] [])
 (.block 0
 F_spec_CountWeight_W0))
 (.seq
 (.region false [⟨some 27, .mv, [.t 5], none⟩,
 ⟨some 4, .mv, [.t 27], none⟩] [0, 1, 5, 6, 27])
 .ret))))) }
/-- impl.OtherTests -/
def F_impl_OtherTests_L0 : LC :=
 (.seq
 (.region false [⟨some 15, .bin .lss, [.t 14, .t 13], none⟩] [])
 (.seq
 (.cond (.t 15) [15]
 .skip
 (.exit 0))
 (.seq
 (.block 1
 (.seq
 (.region false [⟨some 16, .mv, [.t 14], none⟩,
 ⟨some 17, .idxa 2, [.t 12, .t 14], none⟩,
 ⟨some 18, .load 2 true, [.t 17], none⟩,
 ⟨some 5, .alloc 2576 (.st [.i 0, .i 0]), [], none⟩,
 ⟨some 4, .mv, [.t 16], none⟩,
 ⟨none, .store 2, [.t 5, .t 18], none⟩] [16, 17, 18])
 (.region false [⟨some 19, .mv, [.t 3], none⟩,
 ⟨some 20, .mv, [.t 4], none⟩,
 ⟨some 21, .fld 0 1 false, [.t 5], none⟩,
 ⟨some 22, .load 1 false, [.t 21], none⟩,
 ⟨some 23, .fld 1 1 false, [.t 5], none⟩,
 ⟨some 24, .load 1 false, [.t 23], none⟩,
 ⟨some 25, .bin .sub, [.c (.i 6), .t 24], none⟩,
 ⟨some 26, .build [.i 0, .i 0] [(0, 1), (1, 1)], [.t 22, .t 25], none⟩,
 ⟨some 27, .idxa 2, [.t 19, .t 20], none⟩,
 ⟨none, .store 2, [.t 27, .t 26], none⟩] [4, 5, 19, 20, 21, 22, 23, 24, 25, 26, 27])))
 (.region false [⟨some 28, .bin .add, [.t 14, .c (.i 1)], none⟩,
 ⟨some 14, .mv, [.t 28], none⟩] [28]))))
def F_impl_OtherTests_W0 : LC := .loop F_impl_OtherTests_L0
def F_impl_OtherTests : LF :=
 { nparams := 1, results := [.t 2], body :=
 (.seq
 (.region false [⟨some 2, .newnil 1040, [], none⟩] [2])
 (.seq
 (.seq
 (.region false [⟨some 6, .mv, [.t 0], none⟩,
 ⟨some 7, .call n_impl_TestsOk 3584, [.t 6], none⟩,
 ⟨some 8, .un .not, [.t 7], none⟩] [6, 7])
 (.cond (.t 8) [8]
 (.seq
 (.region false [⟨some 2, .newnil 1040, [], none⟩] [0])
 .ret)
 .skip))
 (.seq
 (.region false [⟨some 9, .mv, [.t 0], none⟩,
 ⟨some 10, .len, [.t 9], none⟩,
 ⟨some 11, .make 5648 2 (.st [.i 0, .i 0]), [.t 10, .t 10], none⟩,
 ⟨some 3, .mv, [.t 11], none⟩] [9, 10, 11])
 (.seq
 (.seq
 (.region false [⟨some 12, .mv, [.t 0], none⟩,
 ⟨some 13, .len, [.t 12], none⟩,
 ⟨some 14, .mv, [.c (.i 0)], none⟩] [0])
 (.block 0
 F_impl_OtherTests_W0))
 (.seq
 (.region false [⟨some 29, .mv, [.t 3], none⟩,
 ⟨some 2, .mv, [.t 29], none⟩] [3, 12, 13, 14, 29])
 .ret))))) }
/-- laws.power -/
def F_laws_power_L0 : LC :=
 (.seq
 (.seq
 (.region false [⟨some 5, .mv, [.t 4], none⟩,
 ⟨some 6, .mv, [.t 0], none⟩,
 ⟨some 7, .bin .lss, [.t 5, .t 6], none⟩] [5, 6])
 (.cond (.t 7) [7]
 .skip
 (.exit 0)))
 (.seq
 (.block 1
 (.region false [⟨some 10, .mv, [.t 3], none⟩,
 ⟨some 11, .bin .mul, [.t 10, .c (.i 6)], none⟩,
 ⟨some 3, .mv, [.t 11], none⟩] [10, 11]))
 (.region false [⟨some 8, .mv, [.t 4], none⟩,
 ⟨some 9, .bin .add, [.t 8, .c (.i 1)], none⟩,
 ⟨some 4, .mv, [.t 9], none⟩] [8, 9])))
def F_laws_power_W0 : LC := .loop F_laws_power_L0
def F_laws_power : LF :=
 { nparams := 1, results := [.t 2], body :=
 (.seq
 (.region false [⟨some 2, .mv, [.c (.i 0)], none⟩] [2])
 (.seq
 (.region false [⟨some 3, .mv, [.c (.i 1)], none⟩] [])
 (.seq
 (.seq
 (.region false [⟨some 4, .mv, [.c (.i 0)], none⟩] [])
 (.block 0
 F_laws_power_W0))
 (.seq
 (.region false [⟨some 12, .mv, [.t 3], none⟩,
 ⟨some 2, .mv, [.t 12], none⟩] [0, 3, 4, 12])
 .ret)))) }
/-- impl.WeightOf -/
def F_impl_WeightOf_L0 : LC :=
 (.seq
 (.region false [⟨some 21, .bin .lss, [.t 20, .t 19], none⟩] [])
 (.seq
 (.cond (.t 21) [21]
 .skip
 (.exit 0))
 (.seq
 (.block 1
 (.seq
 (.region false [⟨some 22, .mv, [.t 20], none⟩,
 ⟨some 23, .idxa 2, [.t 18, .t 20], none⟩,
 ⟨some 24, .load 2 true, [.t 23], none⟩,
 ⟨some 7, .alloc 3600 (.st [.i 0, .i 0]), [], none⟩,
 ⟨some 6, .mv, [.t 22], none⟩,
 ⟨none, .store 2, [.t 7, .t 24], none⟩] [22, 23, 24])
 (.seq
 (.region false [⟨some 25, .mv, [.t 1], none⟩,
 ⟨some 26, .mv, [.t 6], none⟩,
 ⟨some 27, .call n_impl_outcomeIn 13824, [.t 25, .t 26], none⟩,
 ⟨some 28, .bin .eql, [.t 27, .c (.i 1)], none⟩] [6, 25, 26, 27])
 (.cond (.t 28) [28]
 (.region false [⟨some 29, .mv, [.t 5], none⟩,
 ⟨some 30, .fld 1 1 false, [.t 7], none⟩,
 ⟨some 31, .load 1 false, [.t 30], none⟩,
 ⟨some 32, .bin .mul, [.t 29, .t 31], none⟩,
 ⟨some 5, .mv, [.t 32], none⟩] [7, 29, 30, 31, 32])
 (.region false [⟨some 33, .mv, [.t 5], none⟩,
 ⟨some 34, .fld 1 1 false, [.t 7], none⟩,
 ⟨some 35, .load 1 false, [.t 34], none⟩,
 ⟨some 36, .bin .sub, [.c (.i 6), .t 35], none⟩,
 ⟨some 37, .bin .mul, [.t 33, .t 36], none⟩,
 ⟨some 5, .mv, [.t 37], none⟩] [7, 33, 34, 35, 36, 37])))))
 (.region false [⟨some 38, .bin .add, [.t 20, .c (.i 1)], none⟩,
 ⟨some 20, .mv, [.t 38], none⟩] [38]))))
def F_impl_WeightOf_W0 : LC := .loop F_impl_WeightOf_L0
def F_impl_WeightOf : LF :=
 { nparams := 2, results := [.t 4], body :=
 (.seq
 (.region false [⟨some 4, .mv, [.c (.i 0)], none⟩] [4])
 (.seq
 (.seq
 (.region false [⟨some 8, .mv, [.t 0], none⟩,
 ⟨some 9, .call n_impl_TestsOk 4608, [.t 8], none⟩,
 ⟨some 10, .un .not, [.t 9], none⟩,
 ⟨some 11, .mv, [.t 10], none⟩,
 ⟨some 12, .mv, [.t 0], some (11, false)⟩,
 ⟨some 13, .len, [.t 12], some (11, false)⟩,
 ⟨some 14, .mv, [.t 1], some (11, false)⟩,
 ⟨some 15, .call n_impl_StateOk 7680, [.t 13, .t 14], some (11, false)⟩,
 ⟨some 16, .un .not, [.t 15], some (11, false)⟩,
 ⟨some 17, .pick, [.t 11, .c (.b true), .t 16], none⟩] [8, 9, 10, 11, 12, 13, 14, 15, 16])
 (.cond (.t 17) [17]
 (.seq
 (.region false [⟨some 4, .mv, [.c (.i (-1))], none⟩] [0, 1])
 .ret)
 .skip))
 (.seq
 (.region false [⟨some 5, .mv, [.c (.i 1)], none⟩] [])
 (.seq
 (.seq
 (.region false [⟨some 18, .mv, [.t 0], none⟩,
 ⟨some 19, .len, [.t 18], none⟩,
 ⟨some 20, .mv, [.c (.i 0)], none⟩] [0])
 (.block 0
 F_impl_WeightOf_W0))
 (.seq
 (.region false [⟨some 39, .mv, [.t 5], none⟩,
 ⟨some 4, .mv, [.t 39], none⟩] [1, 5, 18, 19, 20, 39])
 .ret))))) }
/-- impl.TestsOk -/
def F_impl_TestsOk_L0 : LC :=
 (.seq
 (.region false [⟨some 12, .bin .lss, [.t 11, .t 10], none⟩] [])
 (.seq
 (.cond (.t 12) [12]
 .skip
 (.exit 0))
 (.seq
 (.block 1
 (.seq
 (.region false [⟨some 13, .idxa 2, [.t 9, .t 11], none⟩,
 ⟨some 14, .load 2 true, [.t 13], none⟩,
 ⟨some 4, .alloc 2064 (.st [.i 0, .i 0]), [], none⟩,
 ⟨none, .store 2, [.t 4, .t 14], none⟩] [13, 14])
 (.seq
 (.region false [⟨some 15, .fld 0 1 false, [.t 4], none⟩,
 ⟨some 16, .load 1 false, [.t 15], none⟩,
 ⟨some 17, .call n_impl_isWithin 8704, [.t 16, .c (.i 1), .c (.i 9)], none⟩,
 ⟨some 18, .un .not, [.t 17], none⟩,
 ⟨some 19, .mv, [.t 18], none⟩,
 ⟨some 20, .fld 1 1 false, [.t 4], some (19, false)⟩,
 ⟨some 21, .load 1 false, [.t 20], some (19, false)⟩,
 ⟨some 22, .call n_impl_isWithin 11264, [.t 21, .c (.i 1), .c (.i 5)], some (19, false)⟩,
 ⟨some 23, .un .not, [.t 22], some (19, false)⟩,
 ⟨some 24, .pick, [.t 19, .c (.b true), .t 23], none⟩] [4, 15, 16, 17, 18, 19, 20, 21, 22, 23])
 (.cond (.t 24) [24]
 (.seq
 (.region false [⟨some 2, .mv, [.c (.b false)], none⟩] [9, 10, 11])
 .ret)
 .skip))))
 (.region false [⟨some 25, .bin .add, [.t 11, .c (.i 1)], none⟩,
 ⟨some 11, .mv, [.t 25], none⟩] [25]))))
def F_impl_TestsOk_W0 : LC := .loop F_impl_TestsOk_L0
def F_impl_TestsOk : LF :=
 { nparams := 1, results := [.t 2], body :=
 (.seq
 (.region false [⟨some 2, .mv, [.c (.b false)], none⟩] [2])
 (.seq
 (.seq
 (.region false [⟨some 5, .mv, [.t 0], none⟩,
 ⟨some 6, .len, [.t 5], none⟩,
 ⟨some 7, .call n_impl_manyOk 3584, [.t 6], none⟩,
 ⟨some 8, .un .not, [.t 7], none⟩] [5, 6, 7])
 (.cond (.t 8) [8]
 (.seq
 (.region false [⟨some 2, .mv, [.c (.b false)], none⟩] [0])
 .ret)
 .skip))
 (.seq
 (.seq
 (.region false [⟨some 9, .mv, [.t 0], none⟩,
 ⟨some 10, .len, [.t 9], none⟩,
 ⟨some 11, .mv, [.c (.i 0)], none⟩] [0])
 (.block 0
 F_impl_TestsOk_W0))
 (.seq
 (.region false [⟨some 2, .mv, [.c (.b true)], none⟩] [9, 10, 11])
 .ret)))) }
/-- spec.l20Count -/
def F_spec_l20Count : LF :=
 { nparams := 1, results := [.t 2, .t 3], body :=
 (.seq
 (.region false [⟨some 2, .newnil 1040, [], none⟩,
 ⟨some 3, .mv, [.c (.i 0)], none⟩] [2, 3])
 (.seq
 (.region false [⟨some 5, .mv, [.t 0], none⟩,
 ⟨some 6, .call n_spec_l20Tests 3072, [.t 5, .c (.i 14)], none⟩,
 ⟨some 4, .mv, [.t 6], none⟩] [5, 6])
 (.seq
 (.region false [⟨some 7, .mv, [.t 4], none⟩,
 ⟨some 8, .mv, [.t 0], none⟩,
 ⟨some 9, .mv, [.t 4], none⟩,
 ⟨some 10, .len, [.t 9], none⟩,
 ⟨some 11, .mm true, [.t 10, .c (.i 1)], none⟩,
 ⟨some 12, .call n_spec_l20Rd_pick 6144, [.t 8, .t 11], none⟩,
 ⟨some 13, .bin .add, [.c (.i 1), .t 12], none⟩,
 ⟨some 14, .mv, [.t 0], none⟩,
 ⟨some 15, .call n_spec_l20Rd_pick 7680, [.t 14, .c (.i 30)], none⟩,
 ⟨some 16, .bin .quo, [.t 15, .c (.i 29)], none⟩,
 ⟨some 17, .bin .add, [.t 13, .t 16], none⟩,
 ⟨some 18, .mv, [.t 0], none⟩,
 ⟨some 19, .call n_spec_l20Rd_pick 9728, [.t 18, .c (.i 40)], none⟩,
 ⟨some 20, .bin .quo, [.t 19, .c (.i 39)], none⟩,
 ⟨some 21, .bin .mul, [.t 20, .c (.i 2)], none⟩,
 ⟨some 22, .bin .sub, [.t 17, .t 21], none⟩,
 ⟨some 2, .mv, [.t 7], none⟩,
 ⟨some 3, .mv, [.t 22], none⟩] [4, 7, 8, 9, 10, 11, 12, 13, 14, 15, 16, 17, 18, 19, 20, 21, 22])
 .ret))) }
/-- spec.l20Open -/
def F_spec_l20Open : LF :=
 { nparams := 1, results := [.t 2], body :=
 (.seq
 (.region false [⟨some 2, .mv, [.c (.np)], none⟩] [2])
 (.seq
 (.seq
 (.region false [⟨some 3, .mv, [.t 0], none⟩,
 ⟨some 4, .len, [.t 3], none⟩,
 ⟨some 5, .bin .gtr, [.t 4, .c (.i 2000)], none⟩] [3, 4])
 (.cond (.t 5) [5]
 (.region false [⟨some 6, .mv, [.t 0], none⟩,
 ⟨some 7, .slice false true 1, [.t 6, .c (.i 2000)], none⟩,
 ⟨some 0, .mv, [.t 7], none⟩] [6, 7])
 .skip))
 (.seq
 (.region false [⟨some 8, .mv, [.t 0], none⟩,
 ⟨some 9, .build [.sl 1 [], .i 0] [(0, 1)], [.t 8], none⟩,
 ⟨some 10, .box 5136, [.t 9], none⟩,
 ⟨some 2, .mv, [.t 10], none⟩] [0, 8, 9, 10])
 .ret))) }
/-- impl.isWithin -/
def F_impl_isWithin : LF :=
 { nparams := 3, results := [.t 6], body :=
 (.seq
 (.region false [⟨some 6, .mv, [.c (.b false)], none⟩] [6])
 (.seq
 (.region false [⟨some 7, .mv, [.t 1], none⟩,
 ⟨some 8, .mv, [.t 0], none⟩,
 ⟨some 9, .bin .leq, [.t 7, .t 8], none⟩,
 ⟨some 10, .mv, [.t 9], none⟩,
 ⟨some 11, .mv, [.t 0], some (10, true)⟩,
 ⟨some 12, .mv, [.t 2], some (10, true)⟩,
 ⟨some 13, .bin .leq, [.t 11, .t 12], some (10, true)⟩,
 ⟨some 14, .pick, [.t 10, .t 13, .c (.b false)], none⟩,
 ⟨some 6, .mv, [.t 14], none⟩] [0, 1, 2, 7, 8, 9, 10, 11, 12, 13, 14])
 .ret)) }
/-- spec.l1In -/
def F_spec_l1In : LF :=
 { nparams := 3, results := [.t 6], body :=
 (.seq
 (.region false [⟨some 6, .mv, [.c (.b false)], none⟩] [6])
 (.seq
 (.region false [⟨some 7, .mv, [.t 0], none⟩,
 ⟨some 8, .mv, [.t 1], none⟩,
 ⟨some 9, .bin .geq, [.t 7, .t 8], none⟩,
 ⟨some 10, .mv, [.t 9], none⟩,
 ⟨some 11, .mv, [.t 0], some (10, true)⟩,
 ⟨some 12, .mv, [.t 2], some (10, true)⟩,
 ⟨some 13, .bin .leq, [.t 11, .t 12], some (10, true)⟩,
 ⟨some 14, .pick, [.t 10, .t 13, .c (.b false)], none⟩,
 ⟨some 6, .mv, [.t 14], none⟩] [0, 1, 2, 7, 8, 9, 10, 11, 12, 13, 14])
 .ret)) }
/-- impl.statesOf -/
def F_impl_statesOf : LF :=
 { nparams := 1, results := [.t 2], body :=
 (.seq
 (.region false [⟨some 2, .mv, [.c (.i 0)], none⟩] [2])
 (.seq
 (.region false [⟨some 3, .mv, [.t 0], none⟩,
 ⟨some 4, .bin .shl, [.c (.i 1), .t 3], none⟩,
 ⟨some 2, .mv, [.t 4], none⟩] [0, 3, 4])
 .ret)) }
/-- impl.sizeOf -/
def F_impl_sizeOf : LF :=
 { nparams := 1, results := [.t 2], body :=
 (.seq
 (.region false [⟨some 2, .mv, [.c (.i 0)], none⟩] [2])
 (.seq
 (.region false [⟨some 3, .mv, [.t 0], none⟩,
 ⟨some 4, .conv .i2q 2048, [.t 3], none⟩,
 ⟨some 5, .call n_math_bits_OnesCount 2560, [.t 4], none⟩,
 ⟨some 2, .mv, [.t 5], none⟩] [0, 3, 4, 5])
 .ret)) }
/-- spec.l8Heads -/
def F_spec_l8Heads_L0 : LC :=
 (.seq
 (.seq
 (.region false [⟨some 4, .mv, [.t 0], none⟩,
 ⟨some 5, .bin .gtr, [.t 4, .c (.i 0)], none⟩] [4])
 (.cond (.t 5) [5]
 .skip
 (.exit 0)))
 (.block 1
 (.seq
 (.region false [⟨some 6, .mv, [.t 3], none⟩,
 ⟨some 7, .mv, [.t 0], none⟩,
 ⟨some 8, .bin .rem, [.t 7, .c (.i 2)], none⟩,
 ⟨some 9, .bin .add, [.t 6, .t 8], none⟩,
 ⟨some 3, .mv, [.t 9], none⟩] [6, 7, 8, 9])
 (.region false [⟨some 10, .mv, [.t 0], none⟩,
 ⟨some 11, .bin .quo, [.t 10, .c (.i 2)], none⟩,
 ⟨some 0, .mv, [.t 11], none⟩] [10, 11]))))
def F_spec_l8Heads_W0 : LC := .loop F_spec_l8Heads_L0
def F_spec_l8Heads : LF :=
 { nparams := 1, results := [.t 2], body :=
 (.seq
 (.region false [⟨some 2, .mv, [.c (.i 0)], none⟩] [2])
 (.seq
 (.region false [⟨some 3, .mv, [.c (.i 0)], none⟩] [])
 (.seq
 (.block 0
 F_spec_l8Heads_W0)
 (.seq
 (.region false [⟨some 12, .mv, [.t 3], none⟩,
 ⟨some 2, .mv, [.t 12], none⟩] [0, 3, 12])
 .ret)))) }
/-- spec.l1Weight -/
def F_spec_l1Weight_L0 : LC :=
 (.seq
 (.seq
 (.region false [⟨some 7, .mv, [.t 6], none⟩,
 ⟨some 8, .mv, [.t 0], none⟩,
 ⟨some 9, .len, [.t 8], none⟩,
 ⟨some 10, .bin .lss, [.t 7, .t 9], none⟩] [7, 8, 9])
 (.cond (.t 10) [10]
 .skip
 (.exit 0)))
 (.seq
 (.block 1
 (.seq
 (.region false [⟨some 13, .mv, [.t 1], none⟩,
 ⟨some 14, .mv, [.t 6], none⟩,
 ⟨some 15, .bin .shr, [.t 13, .t 14], none⟩,
 ⟨some 16, .bin .rem, [.t 15, .c (.i 2)], none⟩,
 ⟨some 17, .bin .eql, [.t 16, .c (.i 1)], none⟩] [13, 14, 15, 16])
 (.cond (.t 17) [17]
 (.region false [⟨some 18, .mv, [.t 5], none⟩,
 ⟨some 19, .mv, [.t 0], none⟩,
 ⟨some 20, .mv, [.t 6], none⟩,
 ⟨some 21, .idxa 2, [.t 19, .t 20], none⟩,
 ⟨some 22, .fld 1 1 false, [.t 21], none⟩,
 ⟨some 23, .load 1 false, [.t 22], none⟩,
 ⟨some 24, .bin .mul, [.t 18, .t 23], none⟩,
 ⟨some 5, .mv, [.t 24], none⟩] [18, 19, 20, 21, 22, 23, 24])
 (.region false [⟨some 25, .mv, [.t 5], none⟩,
 ⟨some 26, .mv, [.t 0], none⟩,
 ⟨some 27, .mv, [.t 6], none⟩,
 ⟨some 28, .idxa 2, [.t 26, .t 27], none⟩,
 ⟨some 29, .fld 1 1 false, [.t 28], none⟩,
 ⟨some 30, .load 1 false, [.t 29], none⟩,
 ⟨some 31, .bin .sub, [.c (.i 6), .t 30], none⟩,
 ⟨some 32, .bin .mul, [.t 25, .t 31], none⟩,
 ⟨some 5, .mv, [.t 32], none⟩] [25, 26, 27, 28, 29, 30, 31, 32]))))
 (.region false [⟨some 11, .mv, [.t 6], none⟩,
 ⟨some 12, .bin .add, [.t 11, .c (.i 1)], none⟩,
 ⟨some 6, .mv, [.t 12], none⟩] [11, 12])))
def F_spec_l1Weight_W0 : LC := .loop F_spec_l1Weight_L0
def F_spec_l1Weight : LF :=
 { nparams := 2, results := [.t 4], body :=
 (.seq
 (.region false [⟨some 4, .mv, [.c (.i 0)], none⟩] [4])
 (.seq
 (.region false [⟨some 5, .mv, [.c (.i 1)], none⟩] [])
 (.seq
 (.seq
 (.region false [⟨some 6, .mv, [.c (.i 0)], none⟩] [])
 (.block 0
 F_spec_l1Weight_W0))
 (.seq
 (.region false [⟨some 33, .mv, [.t 5], none⟩,
 ⟨some 4, .mv, [.t 33], none⟩] [0, 1, 5, 6, 33])
 .ret)))) }
/-- impl.StateOk -/
def F_impl_StateOk : LF :=
 { nparams := 2, results := [.t 4], body :=
 (.seq
 (.region false [⟨some 4, .mv, [.c (.b false)], none⟩] [4])
 (.seq
 (.region false [⟨some 5, .mv, [.t 0], none⟩,
 ⟨some 6, .call n_impl_manyOk 3072, [.t 5], none⟩,
 ⟨some 7, .mv, [.t 6], none⟩,
 ⟨some 8, .mv, [.t 1], some (7, true)⟩,
 ⟨some 9, .mv, [.t 0], some (7, true)⟩,
 ⟨some 10, .call n_impl_statesOf 5120, [.t 9], some (7, true)⟩,
 ⟨some 11, .bin .sub, [.t 10, .c (.i 1)], some (7, true)⟩,
 ⟨some 12, .call n_impl_isWithin 6144, [.t 8, .c (.i 0), .t 11], some (7, true)⟩,
 ⟨some 13, .pick, [.t 7, .t 12, .c (.b false)], none⟩,
 ⟨some 4, .mv, [.t 13], none⟩] [0, 1, 5, 6, 7, 8, 9, 10, 11, 12, 13])
 .ret)) }
/-- impl.outcomeIn -/
def F_impl_outcomeIn : LF :=
 { nparams := 2, results := [.t 4], body :=
 (.seq
 (.region false [⟨some 4, .mv, [.c (.i 0)], none⟩] [4])
 (.seq
 (.region false [⟨some 5, .mv, [.t 0], none⟩,
 ⟨some 6, .mv, [.t 1], none⟩,
 ⟨some 7, .bin .shr, [.t 5, .t 6], none⟩,
 ⟨some 8, .bin .and, [.t 7, .c (.i 1)], none⟩,
 ⟨some 4, .mv, [.t 8], none⟩] [0, 1, 5, 6, 7, 8])
 .ret)) }
/-- impl.manyOk -/
def F_impl_manyOk : LF :=
 { nparams := 1, results := [.t 2], body :=
 (.seq
 (.region false [⟨some 2, .mv, [.c (.b false)], none⟩] [2])
 (.seq
 (.region false [⟨some 3, .mv, [.t 0], none⟩,
 ⟨some 4, .call n_impl_isWithin 2048, [.t 3, .c (.i 1), .c (.i 5)], none⟩,
 ⟨some 2, .mv, [.t 4], none⟩] [0, 3, 4])
 .ret)) }
/-- spec.l20Tests -/
def F_spec_l20Tests_L0 : LC :=
 (.seq
 (.seq
 (.region false [⟨some 11, .mv, [.t 6], none⟩,
 ⟨some 12, .bin .gtr, [.t 11, .c (.i 0)], none⟩] [11])
 (.cond (.t 12) [12]
 .skip
 (.exit 0)))
 (.seq
 (.block 1
 (.region false [⟨some 15, .mv, [.t 5], none⟩,
 ⟨some 16, .mv, [.t 0], none⟩,
 ⟨some 17, .call n_spec_l20Rd_pick 8704, [.t 16, .c (.i 9)], none⟩,
 ⟨some 18, .bin .add, [.c (.i 1), .t 17], none⟩,
 ⟨some 19, .mv, [.t 0], none⟩,
 ⟨some 20, .call n_spec_l20Rd_pick 10240, [.t 19, .c (.i 5)], none⟩,
 ⟨some 21, .bin .add, [.c (.i 1), .t 20], none⟩,
 ⟨some 22, .build [.i 0, .i 0] [(0, 1), (1, 1)], [.t 18, .t 21], none⟩,
 ⟨some 23, .bslice 11792 1 2 (.st [.i 0, .i 0]) [0], [.t 22], none⟩,
 ⟨some 24, .app 12304 2, [.t 15, .t 23], none⟩,
 ⟨some 5, .mv, [.t 24], none⟩] [15, 16, 17, 18, 19, 20, 21, 22, 23, 24]))
 (.region false [⟨some 13, .mv, [.t 6], none⟩,
 ⟨some 14, .bin .sub, [.t 13, .c (.i 1)], none⟩,
 ⟨some 6, .mv, [.t 14], none⟩] [13, 14])))
def F_spec_l20Tests_W0 : LC := .loop F_spec_l20Tests_L0
def F_spec_l20Tests : LF :=
 { nparams := 2, results := [.t 4], body :=
 (.seq
 (.region false [⟨some 4, .newnil 2064, [], none⟩] [4])
 (.seq
 (.region false [⟨some 7, .bslice 3600 0 2 (.st [.i 0, .i 0]) [], [], none⟩,
 ⟨some 5, .mv, [.t 7], none⟩] [7])
 (.seq
 (.seq
 (.region false [⟨some 8, .mv, [.t 0], none⟩,
 ⟨some 9, .call n_spec_l20Rd_pick 4608, [.t 8, .c (.i 5)], none⟩,
 ⟨some 10, .bin .add, [.c (.i 1), .t 9], none⟩,
 ⟨some 6, .mv, [.t 10], none⟩] [8, 9, 10])
 (.block 0
 F_spec_l20Tests_W0))
 (.seq
 (.seq
 (.region false [⟨some 25, .mv, [.t 0], none⟩,
 ⟨some 26, .mv, [.t 1], none⟩,
 ⟨some 27, .call n_spec_l20Rd_odd 13824, [.t 25, .t 26], none⟩] [1, 6, 25, 26])
 (.cond (.t 27) [27]
 (.seq
 (.region false [⟨some 28, .mv, [.t 0], none⟩,
 ⟨some 29, .call n_spec_l20Rd_pick 14848, [.t 28, .c (.i 3)], none⟩] [28])
 (.block 2
 (.seq
 (.region false [⟨some 39, .bin .eql, [.t 29, .c (.i 0)], none⟩,
 ⟨some 38, .mv, [.t 39], none⟩] [39])
 (.cond (.t 38) [38]
 (.seq
 (.region false [⟨some 40, .bslice 20496 0 2 (.st [.i 0, .i 0]) [], [], none⟩,
 ⟨some 4, .mv, [.t 40], none⟩] [5, 29, 40])
 .ret)
 (.seq
 (.region false [⟨some 42, .bin .eql, [.t 29, .c (.i 1)], none⟩,
 ⟨some 41, .mv, [.t 42], none⟩] [29, 42])
 (.cond (.t 41) [41]
 (.region false [⟨some 43, .mv, [.t 5], none⟩,
 ⟨some 44, .bslice 22536 2 1 (.i 0) [0, 1], [.c (.i 0), .c (.i 10)], none⟩,
 ⟨some 45, .mv, [.t 0], none⟩,
 ⟨some 46, .call n_spec_l20Rd_pick 23552, [.t 45, .c (.i 2)], none⟩,
 ⟨some 47, .idxa 1, [.t 44, .t 46], none⟩,
 ⟨some 48, .load 1 false, [.t 47], none⟩,
 ⟨some 49, .idxa 2, [.t 43, .c (.i 0)], none⟩,
 ⟨some 50, .fld 0 1 false, [.t 49], none⟩,
 ⟨none, .store 1, [.t 50, .t 48], none⟩] [43, 44, 45, 46, 47, 48, 49, 50])
 (.region false [⟨some 30, .mv, [.t 5], none⟩,
 ⟨some 31, .bslice 15880 2 1 (.i 0) [0, 1], [.c (.i 0), .c (.i 6)], none⟩,
 ⟨some 32, .mv, [.t 0], none⟩,
 ⟨some 33, .call n_spec_l20Rd_pick 16896, [.t 32, .c (.i 2)], none⟩,
 ⟨some 34, .idxa 1, [.t 31, .t 33], none⟩,
 ⟨some 35, .load 1 false, [.t 34], none⟩,
 ⟨some 36, .idxa 2, [.t 30, .c (.i 0)], none⟩,
 ⟨some 37, .fld 1 1 false, [.t 36], none⟩,
 ⟨none, .store 1, [.t 37, .t 35], none⟩] [30, 31, 32, 33, 34, 35, 36, 37])))))))
 .skip))
 (.seq
 (.region false [⟨some 51, .mv, [.t 5], none⟩,
 ⟨some 4, .mv, [.t 51], none⟩] [5, 51])
 .ret))))) }
/-- spec.l20Rd).pick -/
def F_spec_l20Rd_pick : LF :=
 { nparams := 2, results := [.t 4], body :=
 (.seq
 (.region false [⟨some 4, .mv, [.c (.i 0)], none⟩] [4])
 (.seq
 (.region false [⟨some 7, .mv, [.t 0], none⟩,
 ⟨some 8, .mv, [.t 0], none⟩,
 ⟨some 9, .chk, [.t 8], none⟩,
 ⟨some 10, .fld 1 1 false, [.t 9], none⟩,
 ⟨some 11, .load 1 false, [.t 10], none⟩,
 ⟨some 12, .bin .add, [.t 11, .c (.i 1)], none⟩,
 ⟨some 13, .chk, [.t 7], none⟩,
 ⟨some 14, .fld 1 1 false, [.t 13], none⟩,
 ⟨none, .store 1, [.t 14, .t 12], none⟩] [7, 8, 9, 10, 11, 12, 13, 14])
 (.seq
 (.seq
 (.region false [⟨some 15, .mv, [.t 1], none⟩,
 ⟨some 16, .bin .lss, [.t 15, .c (.i 1)], none⟩,
 ⟨some 17, .mv, [.t 16], none⟩,
 ⟨some 18, .mv, [.t 0], some (17, false)⟩,
 ⟨some 19, .chk, [.t 18], some (17, false)⟩,
 ⟨some 20, .fld 0 1 false, [.t 19], some (17, false)⟩,
 ⟨some 21, .load 1 false, [.t 20], some (17, false)⟩,
 ⟨some 22, .len, [.t 21], some (17, false)⟩,
 ⟨some 23, .bin .eql, [.t 22, .c (.i 0)], some (17, false)⟩,
 ⟨some 24, .pick, [.t 17, .c (.b true), .t 23], none⟩] [15, 16, 17, 18, 19, 20, 21, 22, 23])
 (.cond (.t 24) [24]
 (.seq
 (.region false [⟨some 4, .mv, [.c (.i 0)], none⟩] [1])
 .ret)
 .skip))
 (.seq
 (.region false [⟨some 25, .mv, [.t 0], none⟩,
 ⟨some 26, .chk, [.t 25], none⟩,
 ⟨some 27, .fld 1 1 false, [.t 26], none⟩,
 ⟨some 28, .load 1 false, [.t 27], none⟩,
 ⟨some 29, .bin .sub, [.t 28, .c (.i 1)], none⟩,
 ⟨some 5, .mv, [.t 29], none⟩] [25, 26, 27, 28, 29])
 (.seq
 (.seq
 (.region false [⟨some 30, .mv, [.t 5], none⟩,
 ⟨some 31, .mv, [.t 0], none⟩,
 ⟨some 32, .chk, [.t 31], none⟩,
 ⟨some 33, .fld 0 1 false, [.t 32], none⟩,
 ⟨some 34, .load 1 false, [.t 33], none⟩,
 ⟨some 35, .len, [.t 34], none⟩,
 ⟨some 36, .bin .lss, [.t 30, .t 35], none⟩] [30, 31, 32, 33, 34, 35])
 (.cond (.t 36) [36]
 (.seq
 (.region false [⟨some 37, .mv, [.t 0], none⟩,
 ⟨some 38, .chk, [.t 37], none⟩,
 ⟨some 39, .fld 0 1 false, [.t 38], none⟩,
 ⟨some 40, .load 1 false, [.t 39], none⟩,
 ⟨some 41, .mv, [.t 5], none⟩,
 ⟨some 42, .idxa 1, [.t 40, .t 41], none⟩,
 ⟨some 43, .load 1 false, [.t 42], none⟩,
 ⟨some 44, .conv .b2i 22528, [.t 43], none⟩,
 ⟨some 45, .mv, [.t 1], none⟩,
 ⟨some 46, .bin .rem, [.t 44, .t 45], none⟩,
 ⟨some 4, .mv, [.t 46], none⟩] [1, 5, 37, 38, 39, 40, 41, 42, 43, 44, 45, 46])
 .ret)
 .skip))
 (.seq
 (.region true [⟨some 47, .mv, [.t 0], none⟩,
 ⟨some 48, .chk, [.t 47], none⟩,
 ⟨some 49, .fld 0 1 false, [.t 48], none⟩,
 ⟨some 50, .load 1 false, [.t 49], none⟩,
 ⟨some 51, .mv, [.t 5], none⟩,
 ⟨some 52, .mv, [.t 0], none⟩,
 ⟨some 53, .chk, [.t 52], none⟩,
 ⟨some 54, .fld 0 1 false, [.t 53], none⟩,
 ⟨some 55, .load 1 false, [.t 54], none⟩,
 ⟨some 56, .len, [.t 55], none⟩,
 ⟨some 57, .bin .rem, [.t 51, .t 56], none⟩,
 ⟨some 58, .idxa 1, [.t 50, .t 57], none⟩,
 ⟨some 59, .load 1 false, [.t 58], none⟩,
 ⟨some 60, .conv .b2i 30720, [.t 59], none⟩,
 ⟨some 61, .bin .mul, [.t 60, .c (.i 131)], none⟩,
 ⟨some 62, .mv, [.t 0], none⟩,
 ⟨some 63, .chk, [.t 62], none⟩,
 ⟨some 64, .fld 0 1 false, [.t 63], none⟩,
 ⟨some 65, .load 1 false, [.t 64], none⟩,
 ⟨some 66, .mv, [.t 5], none⟩,
 ⟨some 67, .bin .mul, [.t 66, .c (.i 7)], none⟩,
 ⟨some 68, .bin .add, [.t 67, .c (.i 3)], none⟩,
 ⟨some 69, .mv, [.t 0], none⟩,
 ⟨some 70, .chk, [.t 69], none⟩,
 ⟨some 71, .fld 0 1 false, [.t 70], none⟩,
 ⟨some 72, .load 1 false, [.t 71], none⟩,
 ⟨some 73, .len, [.t 72], none⟩,
 ⟨some 74, .bin .rem, [.t 68, .t 73], none⟩,
 ⟨some 75, .idxa 1, [.t 65, .t 74], none⟩,
 ⟨some 76, .load 1 false, [.t 75], none⟩,
 ⟨some 77, .conv .b2i 39424, [.t 76], none⟩,
 ⟨some 78, .bin .mul, [.t 77, .c (.i 1117)], none⟩,
 ⟨some 79, .bin .add, [.t 61, .t 78], none⟩,
 ⟨some 80, .mv, [.t 5], none⟩,
 ⟨some 81, .bin .mul, [.t 80, .c (.i 29)], none⟩,
 ⟨some 82, .bin .add, [.t 79, .t 81], none⟩,
 ⟨some 83, .mv, [.t 5], none⟩,
 ⟨some 84, .mv, [.t 0], none⟩,
 ⟨some 85, .chk, [.t 84], none⟩,
 ⟨some 86, .fld 0 1 false, [.t 85], none⟩,
 ⟨some 87, .load 1 false, [.t 86], none⟩,
 ⟨some 88, .len, [.t 87], none⟩,
 ⟨some 89, .bin .quo, [.t 83, .t 88], none⟩,
 ⟨some 90, .bin .mul, [.t 89, .c (.i 53)], none⟩,
 ⟨some 91, .bin .add, [.t 82, .t 90], none⟩,
 ⟨some 6, .mv, [.t 91], none⟩] [5, 47, 48, 49, 50, 51, 52, 53, 54, 55, 56, 57, 58, 59, 60, 61, 62, 63, 64, 65, 66, 67, 68, 69, 70, 71, 72, 73, 74, 75, 76, 77, 78, 79, 80, 81, 82, 83, 84, 85, 86, 87, 88, 89, 90, 91])
 (.seq
 (.region false [⟨some 92, .mv, [.t 6], none⟩,
 ⟨some 93, .mv, [.t 6], none⟩,
 ⟨some 94, .bin .quo, [.t 93, .c (.i 64)], none⟩,
 ⟨some 95, .bin .xor, [.t 92, .t 94], none⟩,
 ⟨some 6, .mv, [.t 95], none⟩] [92, 93, 94, 95])
 (.seq
 (.region false [⟨some 96, .mv, [.t 6], none⟩,
 ⟨some 97, .mv, [.t 1], none⟩,
 ⟨some 98, .bin .rem, [.t 96, .t 97], none⟩,
 ⟨some 4, .mv, [.t 98], none⟩] [1, 6, 96, 97, 98])
 .ret)))))))) }
/-- bits.OnesCount -/
def F_math_bits_OnesCount : LF :=
 { nparams := 1, results := [.t 2], body :=
 (.seq
 (.region false [⟨some 2, .mv, [.c (.i 0)], none⟩] [2])
 (.seq
 (.cond (.c (.b false)) []
 (.seq
 .void
 .ret)
 .skip)
 (.seq
 (.region false [⟨some 6, .mv, [.t 0], none⟩,
 ⟨some 7, .call n_math_bits_OnesCount64 3584, [.t 6], none⟩,
 ⟨some 2, .mv, [.t 7], none⟩] [0, 6, 7])
 .ret))) }
/-- spec.l20Rd).odd -/
def F_spec_l20Rd_odd : LF :=
 { nparams := 2, results := [.t 4], body :=
 (.seq
 (.region false [⟨some 4, .mv, [.c (.b false)], none⟩] [4])
 (.seq
 (.region false [⟨some 5, .mv, [.t 1], none⟩,
 ⟨some 6, .bin .gtr, [.t 5, .c (.i 0)], none⟩,
 ⟨some 7, .mv, [.t 6], none⟩,
 ⟨some 8, .mv, [.t 0], some (7, true)⟩,
 ⟨some 9, .mv, [.t 1], some (7, true)⟩,
 ⟨some 10, .call n_spec_l20Rd_pick 5120, [.t 8, .t 9], some (7, true)⟩,
 ⟨some 11, .mv, [.t 1], some (7, true)⟩,
 ⟨some 12, .bin .sub, [.t 11, .c (.i 1)], some (7, true)⟩,
 ⟨some 13, .bin .eql, [.t 10, .t 12], some (7, true)⟩,
 ⟨some 14, .pick, [.t 7, .t 13, .c (.b false)], none⟩,
 ⟨some 4, .mv, [.t 14], none⟩] [1, 5, 6, 7, 8, 9, 10, 11, 12, 13, 14])
 .ret)) }
/-- bits.OnesCount64 -/
def F_math_bits_OnesCount64 : LF :=
 { nparams := 1, results := [.t 2], body :=
 (.seq
 (.region false [⟨some 2, .mv, [.c (.i 0)], none⟩] [2])
 (.seq
 (.region false [⟨some 3, .mv, [.t 0], none⟩,
 ⟨some 4, .bin .shr, [.t 3, .c (.q 1)], none⟩,
 ⟨some 5, .bin .and, [.t 4, .c (.q 6148914691236517205)], none⟩,
 ⟨some 6, .mv, [.t 0], none⟩,
 ⟨some 7, .bin .and, [.t 6, .c (.q 6148914691236517205)], none⟩,
 ⟨some 8, .bin .add, [.t 5, .t 7], none⟩,
 ⟨some 0, .mv, [.t 8], none⟩] [3, 4, 5, 6, 7, 8])
 (.seq
 (.region false [⟨some 9, .mv, [.t 0], none⟩,
 ⟨some 10, .bin .shr, [.t 9, .c (.q 2)], none⟩,
 ⟨some 11, .bin .and, [.t 10, .c (.q 3689348814741910323)], none⟩,
 ⟨some 12, .mv, [.t 0], none⟩,
 ⟨some 13, .bin .and, [.t 12, .c (.q 3689348814741910323)], none⟩,
 ⟨some 14, .bin .add, [.t 11, .t 13], none⟩,
 ⟨some 0, .mv, [.t 14], none⟩] [9, 10, 11, 12, 13, 14])
 (.seq
 (.region false [⟨some 15, .mv, [.t 0], none⟩,
 ⟨some 16, .bin .shr, [.t 15, .c (.q 4)], none⟩,
 ⟨some 17, .mv, [.t 0], none⟩,
 ⟨some 18, .bin .add, [.t 16, .t 17], none⟩,
 ⟨some 19, .bin .and, [.t 18, .c (.q 1085102592571150095)], none⟩,
 ⟨some 0, .mv, [.t 19], none⟩] [15, 16, 17, 18, 19])
 (.seq
 (.region false [⟨some 20, .mv, [.t 0], none⟩,
 ⟨some 21, .mv, [.t 0], none⟩,
 ⟨some 22, .bin .shr, [.t 21, .c (.q 8)], none⟩,
 ⟨some 23, .bin .add, [.t 20, .t 22], none⟩,
 ⟨some 0, .mv, [.t 23], none⟩] [20, 21, 22, 23])
 (.seq
 (.region false [⟨some 24, .mv, [.t 0], none⟩,
 ⟨some 25, .mv, [.t 0], none⟩,
 ⟨some 26, .bin .shr, [.t 25, .c (.q 16)], none⟩,
 ⟨some 27, .bin .add, [.t 24, .t 26], none⟩,
 ⟨some 0, .mv, [.t 27], none⟩] [24, 25, 26, 27])
 (.seq
 (.region false [⟨some 28, .mv, [.t 0], none⟩,
 ⟨some 29, .mv, [.t 0], none⟩,
 ⟨some 30, .bin .shr, [.t 29, .c (.q 32)], none⟩,
 ⟨some 31, .bin .add, [.t 28, .t 30], none⟩,
 ⟨some 0, .mv, [.t 31], none⟩] [28, 29, 30, 31])
 (.seq
 (.region false [⟨some 32, .mv, [.t 0], none⟩,
 ⟨some 33, .conv .q2i 16896, [.t 32], none⟩,
 ⟨some 34, .bin .and, [.t 33, .c (.i 127)], none⟩,
 ⟨some 2, .mv, [.t 34], none⟩] [0, 32, 33, 34])
 .ret)))))))) }
def lf : Nat → Option LF
 | 3 => some F_laws_FnCountOk
 | 4 => some F_laws_FnCountWeight
 | 5 => some F_laws_FnCountSum
 | 6 => some F_spec_DrawCountOk
 | 7 => some F_impl_CountOk
 | 8 => some F_spec_CountOk
 | 9 => some F_spec_TestsOk
 | 10 => some F_laws_alive
 | 11 => some F_spec_DrawCountWeight
 | 12 => some F_impl_CountWeight
 | 13 => some F_spec_CountWeight
 | 14 => some F_impl_OtherTests
 | 15 => some F_laws_power
 | 16 => some F_impl_WeightOf
 | 17 => some F_impl_TestsOk
 | 18 => some F_spec_l20Count
 | 19 => some F_spec_l20Open
 | 20 => some F_impl_isWithin
 | 21 => some F_spec_l1In
 | 22 => some F_impl_statesOf
 | 23 => some F_impl_sizeOf
 | 24 => some F_spec_l8Heads
 | 25 => some F_spec_l1Weight
 | 26 => some F_impl_StateOk
 | 27 => some F_impl_outcomeIn
 | 28 => some F_impl_manyOk
 | 29 => some F_spec_l20Tests
 | 30 => some F_spec_l20Rd_pick
 | 31 => some F_math_bits_OnesCount
 | 32 => some F_spec_l20Rd_odd
 | 34 => some F_math_bits_OnesCount64
 | _ => none
theorem w_laws_FnCountSum_0 (S : LS) : ex lf F_laws_FnCountSum_W0 S = match ex lf F_laws_FnCountSum_L0 S with | some (.normal, S1) => ex lf F_laws_FnCountSum_W0 S1 | r => r := ex_loop lf F_laws_FnCountSum_L0 S
theorem w_spec_TestsOk_0 (S : LS) : ex lf F_spec_TestsOk_W0 S = match ex lf F_spec_TestsOk_L0 S with | some (.normal, S1) => ex lf F_spec_TestsOk_W0 S1 | r => r := ex_loop lf F_spec_TestsOk_L0 S
theorem w_impl_CountWeight_0 (S : LS) : ex lf F_impl_CountWeight_W0 S = match ex lf F_impl_CountWeight_L0 S with | some (.normal, S1) => ex lf F_impl_CountWeight_W0 S1 | r => r := ex_loop lf F_impl_CountWeight_L0 S
theorem w_spec_CountWeight_0 (S : LS) : ex lf F_spec_CountWeight_W0 S = match ex lf F_spec_CountWeight_L0 S with | some (.normal, S1) => ex lf F_spec_CountWeight_W0 S1 | r => r := ex_loop lf F_spec_CountWeight_L0 S
theorem w_impl_OtherTests_0 (S : LS) : ex lf F_impl_OtherTests_W0 S = match ex lf F_impl_OtherTests_L0 S with | some (.normal, S1) => ex lf F_impl_OtherTests_W0 S1 | r => r := ex_loop lf F_impl_OtherTests_L0 S
theorem w_laws_power_0 (S : LS) : ex lf F_laws_power_W0 S = match ex lf F_laws_power_L0 S with | some (.normal, S1) => ex lf F_laws_power_W0 S1 | r => r := ex_loop lf F_laws_power_L0 S
theorem w_impl_WeightOf_0 (S : LS) : ex lf F_impl_WeightOf_W0 S = match ex lf F_impl_WeightOf_L0 S with | some (.normal, S1) => ex lf F_impl_WeightOf_W0 S1 | r => r := ex_loop lf F_impl_WeightOf_L0 S
theorem w_impl_TestsOk_0 (S : LS) : ex lf F_impl_TestsOk_W0 S = match ex lf F_impl_TestsOk_L0 S with | some (.normal, S1) => ex lf F_impl_TestsOk_W0 S1 | r => r := ex_loop lf F_impl_TestsOk_L0 S
theorem w_spec_l8Heads_0 (S : LS) : ex lf F_spec_l8Heads_W0 S = match ex lf F_spec_l8Heads_L0 S with | some (.normal, S1) => ex lf F_spec_l8Heads_W0 S1 | r => r := ex_loop lf F_spec_l8Heads_L0 S
theorem w_spec_l1Weight_0 (S : LS) : ex lf F_spec_l1Weight_W0 S = match ex lf F_spec_l1Weight_L0 S with | some (.normal, S1) => ex lf F_spec_l1Weight_W0 S1 | r => r := ex_loop lf F_spec_l1Weight_L0 S
theorem w_spec_l20Tests_0 (S : LS) : ex lf F_spec_l20Tests_W0 S = match ex lf F_spec_l20Tests_L0 S with | some (.normal, S1) => ex lf F_spec_l20Tests_W0 S1 | r => r := ex_loop lf F_spec_l20Tests_L0 S
end Zz
