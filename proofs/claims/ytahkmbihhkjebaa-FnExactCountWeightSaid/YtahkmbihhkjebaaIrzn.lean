/- The functions of the program, read as data. No conditions. -/
import Derived.Test.YtahkmbihhkjebaaLgC
set_option linter.unusedSectionVars false
set_option linter.unusedVariables false
set_option linter.unusedSimpArgs false
namespace Zz
open Go.Lg
instance : GL := ⟨[], [23, 24, 28, 52], ["l4_orders.go:82"], [], [(66, [0]), (71, [0, 2]), (80, [0]), (84, [0, 2])], [], ["l20_draw.go:447"]⟩
def n_laws_FnExactCountOk : Nat := 3
def n_laws_FnExactCountWeight : Nat := 4
def n_laws_FnExactCountBest : Nat := 5
def n_laws_szTestS : Nat := 8
def n_spec_CountOk : Nat := 9
def n_laws_toTestS : Nat := 10
def n_impl_CountOk : Nat := 11
def n_laws_eqTestS : Nat := 12
def n_spec_CountWeight : Nat := 13
def n_impl_CountWeight : Nat := 14
def n_spec_CountBest : Nat := 15
def n_impl_CountBest : Nat := 16
def n_spec_TestsOk : Nat := 30
def n_spec_l1In : Nat := 31
def n_laws_toTest : Nat := 32
def n_impl_TestsOk : Nat := 33
def n_impl_isWithin : Nat := 34
def n_laws_eqTest : Nat := 35
def n_spec_l8Heads : Nat := 36
def n_spec_l1Weight : Nat := 37
def n_impl_statesOf : Nat := 38
def n_impl_sizeOf : Nat := 39
def n_impl_WeightOf : Nat := 40
def n_spec_l8Best : Nat := 41
def n_spec_l1Power : Nat := 42
def n_impl_leastToCount : Nat := 43
def n_impl_allOf : Nat := 44
def n_impl_CountBest_1 : Nat := 45
def n_impl_manyOk : Nat := 57
def n_math_bits_OnesCount : Nat := 58
def n_impl_StateOk : Nat := 59
def n_impl_outcomeIn : Nat := 60
def n_impl_hasTest : Nat := 61
def n_impl_averageAsking : Nat := 62
def n_math_bits_OnesCount32 : Nat := 68
def n_math_bits_OnesCount64 : Nat := 69
def n_impl_wholeOf : Nat := 70
/-- laws.FnExactCountOk -/
def F_laws_FnExactCountOk : LF :=
 { nparams := 2, results := [.t 4], body :=
 (.seq
 (.region false [⟨some 4, .mv, [.c (.b false)], none⟩] [4])
 (.seq
 (.region false [⟨some 5, .mv, [.c (.i 1048576)], none⟩] [])
 (.seq
 (.region false [⟨some 9, .mv, [.t 0], none⟩,
 ⟨some 10, .mv, [.t 5], none⟩,
 ⟨some 11, .call n_laws_szTestS 5632, [.t 9, .t 10], none⟩,
 ⟨some 5, .mv, [.t 11], none⟩] [9, 10, 11])
 (.seq
 (.seq
 (.region false [⟨some 12, .mv, [.t 5], none⟩,
 ⟨some 13, .bin .lss, [.t 12, .c (.i 0)], none⟩] [5, 12])
 (.cond (.t 13) [13]
 (.seq
 (.region false [⟨some 4, .mv, [.c (.b true)], none⟩] [0, 1])
 .ret)
 .skip))
 (.seq
 (.region false [⟨some 14, .mv, [.t 0], none⟩,
 ⟨some 15, .call n_laws_toTestS 7680, [.t 14], none⟩,
 ⟨some 16, .mv, [.t 1], none⟩,
 ⟨some 17, .call n_spec_CountOk 8704, [.t 15, .t 16], none⟩,
 ⟨some 6, .mv, [.t 17], none⟩] [14, 15, 16, 17])
 (.seq
 (.region false [⟨some 18, .mv, [.t 0], none⟩,
 ⟨some 19, .call n_laws_toTestS 9728, [.t 18], none⟩,
 ⟨some 7, .mv, [.t 19], none⟩] [18, 19])
 (.seq
 (.region false [⟨some 20, .mv, [.t 7], none⟩,
 ⟨some 21, .mv, [.t 1], none⟩,
 ⟨some 22, .call n_impl_CountOk 11264, [.t 20, .t 21], none⟩,
 ⟨some 8, .mv, [.t 22], none⟩] [1, 20, 21, 22])
 (.seq
 (.seq
 (.region false [⟨some 23, .mv, [.t 8], none⟩,
 ⟨some 24, .mv, [.t 6], none⟩,
 ⟨some 25, .eqb true, [.t 23, .t 24], none⟩] [6, 8, 23, 24])
 (.cond (.t 25) [25]
 (.seq
 (.region false [⟨some 4, .mv, [.c (.b false)], none⟩] [0, 7])
 .ret)
 .skip))
 (.seq
 (.seq
 (.region false [⟨some 26, .mv, [.t 7], none⟩,
 ⟨some 27, .mv, [.t 0], none⟩,
 ⟨some 28, .call n_laws_toTestS 14336, [.t 27], none⟩,
 ⟨some 29, .call n_laws_eqTestS 14848, [.t 26, .t 28], none⟩,
 ⟨some 30, .un .not, [.t 29], none⟩] [0, 7, 26, 27, 28, 29])
 (.cond (.t 30) [30]
 (.seq
 (.region false [⟨some 4, .mv, [.c (.b false)], none⟩] [])
 .ret)
 .skip))
 (.seq
 (.region false [⟨some 4, .mv, [.c (.b true)], none⟩] [])
 .ret)))))))))) }
/-- laws.FnExactCountWeight -/
def F_laws_FnExactCountWeight : LF :=
 { nparams := 2, results := [.t 4], body :=
 (.seq
 (.region false [⟨some 4, .mv, [.c (.b false)], none⟩] [4])
 (.seq
 (.region false [⟨some 5, .mv, [.c (.i 1048576)], none⟩] [])
 (.seq
 (.region false [⟨some 9, .mv, [.t 0], none⟩,
 ⟨some 10, .mv, [.t 5], none⟩,
 ⟨some 11, .call n_laws_szTestS 5632, [.t 9, .t 10], none⟩,
 ⟨some 5, .mv, [.t 11], none⟩] [9, 10, 11])
 (.seq
 (.seq
 (.region false [⟨some 12, .mv, [.t 5], none⟩,
 ⟨some 13, .bin .lss, [.t 12, .c (.i 0)], none⟩] [5, 12])
 (.cond (.t 13) [13]
 (.seq
 (.region false [⟨some 4, .mv, [.c (.b true)], none⟩] [0, 1])
 .ret)
 .skip))
 (.seq
 (.region false [⟨some 14, .mv, [.t 0], none⟩,
 ⟨some 15, .call n_laws_toTestS 7680, [.t 14], none⟩,
 ⟨some 16, .mv, [.t 1], none⟩,
 ⟨some 17, .call n_spec_CountWeight 8704, [.t 15, .t 16], none⟩,
 ⟨some 6, .mv, [.t 17], none⟩] [14, 15, 16, 17])
 (.seq
 (.region false [⟨some 18, .mv, [.t 0], none⟩,
 ⟨some 19, .call n_laws_toTestS 9728, [.t 18], none⟩,
 ⟨some 7, .mv, [.t 19], none⟩] [18, 19])
 (.seq
 (.region false [⟨some 20, .mv, [.t 7], none⟩,
 ⟨some 21, .mv, [.t 1], none⟩,
 ⟨some 22, .call n_impl_CountWeight 11264, [.t 20, .t 21], none⟩,
 ⟨some 8, .mv, [.t 22], none⟩] [1, 20, 21, 22])
 (.seq
 (.seq
 (.region false [⟨some 23, .mv, [.t 8], none⟩,
 ⟨some 24, .mv, [.t 6], none⟩,
 ⟨some 25, .bin .neq, [.t 23, .t 24], none⟩] [6, 8, 23, 24])
 (.cond (.t 25) [25]
 (.seq
 (.region false [⟨some 4, .mv, [.c (.b false)], none⟩] [0, 7])
 .ret)
 .skip))
 (.seq
 (.seq
 (.region false [⟨some 26, .mv, [.t 7], none⟩,
 ⟨some 27, .mv, [.t 0], none⟩,
 ⟨some 28, .call n_laws_toTestS 14336, [.t 27], none⟩,
 ⟨some 29, .call n_laws_eqTestS 14848, [.t 26, .t 28], none⟩,
 ⟨some 30, .un .not, [.t 29], none⟩] [0, 7, 26, 27, 28, 29])
 (.cond (.t 30) [30]
 (.seq
 (.region false [⟨some 4, .mv, [.c (.b false)], none⟩] [])
 .ret)
 .skip))
 (.seq
 (.region false [⟨some 4, .mv, [.c (.b true)], none⟩] [])
 .ret)))))))))) }
/-- laws.FnExactCountBest -/
def F_laws_FnExactCountBest : LF :=
 { nparams := 2, results := [.t 4], body :=
 (.seq
 (.region false [⟨some 4, .mv, [.c (.b false)], none⟩] [4])
 (.seq
 (.region false [⟨some 5, .mv, [.c (.i 1048576)], none⟩] [])
 (.seq
 (.region false [⟨some 9, .mv, [.t 0], none⟩,
 ⟨some 10, .mv, [.t 5], none⟩,
 ⟨some 11, .call n_laws_szTestS 5632, [.t 9, .t 10], none⟩,
 ⟨some 5, .mv, [.t 11], none⟩] [9, 10, 11])
 (.seq
 (.seq
 (.region false [⟨some 12, .mv, [.t 5], none⟩,
 ⟨some 13, .bin .lss, [.t 12, .c (.i 0)], none⟩] [5, 12])
 (.cond (.t 13) [13]
 (.seq
 (.region false [⟨some 4, .mv, [.c (.b true)], none⟩] [0, 1])
 .ret)
 .skip))
 (.seq
 (.region false [⟨some 14, .mv, [.t 0], none⟩,
 ⟨some 15, .call n_laws_toTestS 7680, [.t 14], none⟩,
 ⟨some 16, .mv, [.t 1], none⟩,
 ⟨some 17, .call n_spec_CountBest 8704, [.t 15, .t 16], none⟩,
 ⟨some 6, .mv, [.t 17], none⟩] [14, 15, 16, 17])
 (.seq
 (.region false [⟨some 18, .mv, [.t 0], none⟩,
 ⟨some 19, .call n_laws_toTestS 9728, [.t 18], none⟩,
 ⟨some 7, .mv, [.t 19], none⟩] [18, 19])
 (.seq
 (.region false [⟨some 20, .mv, [.t 7], none⟩,
 ⟨some 21, .mv, [.t 1], none⟩,
 ⟨some 22, .call n_impl_CountBest 11264, [.t 20, .t 21], none⟩,
 ⟨some 8, .mv, [.t 22], none⟩] [1, 20, 21, 22])
 (.seq
 (.seq
 (.region false [⟨some 23, .mv, [.t 8], none⟩,
 ⟨some 24, .mv, [.t 6], none⟩,
 ⟨some 25, .bin .neq, [.t 23, .t 24], none⟩] [6, 8, 23, 24])
 (.cond (.t 25) [25]
 (.seq
 (.region false [⟨some 4, .mv, [.c (.b false)], none⟩] [0, 7])
 .ret)
 .skip))
 (.seq
 (.seq
 (.region false [⟨some 26, .mv, [.t 7], none⟩,
 ⟨some 27, .mv, [.t 0], none⟩,
 ⟨some 28, .call n_laws_toTestS 14336, [.t 27], none⟩,
 ⟨some 29, .call n_laws_eqTestS 14848, [.t 26, .t 28], none⟩,
 ⟨some 30, .un .not, [.t 29], none⟩] [0, 7, 26, 27, 28, 29])
 (.cond (.t 30) [30]
 (.seq
 (.region false [⟨some 4, .mv, [.c (.b false)], none⟩] [])
 .ret)
 .skip))
 (.seq
 (.region false [⟨some 4, .mv, [.c (.b true)], none⟩] [])
 .ret)))))))))) }
/-- laws.szTestS -/
def F_laws_szTestS : LF :=
 { nparams := 2, results := [.t 4], body :=
 (.seq
 (.region false [⟨some 4, .mv, [.c (.i 0)], none⟩] [4])
 (.seq
 (.region false [⟨some 5, .mv, [.t 1], none⟩,
 ⟨some 6, .mv, [.t 0], none⟩,
 ⟨some 7, .len, [.t 6], none⟩,
 ⟨some 8, .bin .sub, [.t 5, .t 7], none⟩,
 ⟨some 1, .mv, [.t 8], none⟩] [0, 5, 6, 7, 8])
 (.seq
 (.seq
 (.region false [⟨some 9, .mv, [.t 1], none⟩,
 ⟨some 10, .bin .lss, [.t 9, .c (.i 0)], none⟩] [9])
 (.cond (.t 10) [10]
 (.seq
 (.region false [⟨some 4, .mv, [.c (.i (-1))], none⟩] [1])
 .ret)
 .skip))
 (.seq
 (.region false [⟨some 11, .mv, [.t 1], none⟩,
 ⟨some 4, .mv, [.t 11], none⟩] [1, 11])
 .ret)))) }
/-- spec.CountOk -/
def F_spec_CountOk : LF :=
 { nparams := 2, results := [.t 4], body :=
 (.seq
 (.region false [⟨some 4, .mv, [.c (.b false)], none⟩] [4])
 (.seq
 (.region false [⟨some 5, .mv, [.t 0], none⟩,
 ⟨some 6, .call n_spec_TestsOk 3072, [.t 5], none⟩,
 ⟨some 7, .mv, [.t 6], none⟩,
 ⟨some 8, .mv, [.t 1], some (7, true)⟩,
 ⟨some 9, .mv, [.t 0], some (7, true)⟩,
 ⟨some 10, .len, [.t 9], some (7, true)⟩,
 ⟨some 11, .call n_spec_l1In 5632, [.t 8, .c (.i 1), .t 10], some (7, true)⟩,
 ⟨some 12, .pick, [.t 7, .t 11, .c (.b false)], none⟩,
 ⟨some 4, .mv, [.t 12], none⟩] [0, 1, 5, 6, 7, 8, 9, 10, 11, 12])
 .ret)) }
/-- laws.toTestS -/
def F_laws_toTestS_L0 : LC :=
 (.seq
 (.seq
 (.region false [⟨some 8, .mv, [.t 4], none⟩,
 ⟨some 9, .mv, [.t 0], none⟩,
 ⟨some 10, .len, [.t 9], none⟩,
 ⟨some 11, .bin .lss, [.t 8, .t 10], none⟩] [8, 9, 10])
 (.cond (.t 11) [11]
 .skip
 (.exit 0)))
 (.seq
 (.block 1
 (.region false [⟨some 14, .mv, [.t 3], none⟩,
 ⟨some 15, .mv, [.t 4], none⟩,
 ⟨some 16, .mv, [.t 0], none⟩,
 ⟨some 17, .mv, [.t 4], none⟩,
 ⟨some 18, .idxa 2, [.t 16, .t 17], none⟩,
 ⟨some 19, .load 2 true, [.t 18], none⟩,
 ⟨some 20, .call n_laws_toTest 10240, [.t 19], none⟩,
 ⟨some 21, .idxa 2, [.t 14, .t 15], none⟩,
 ⟨none, .store 2, [.t 21, .t 20], none⟩] [14, 15, 16, 17, 18, 19, 20, 21]))
 (.region false [⟨some 12, .mv, [.t 4], none⟩,
 ⟨some 13, .bin .add, [.t 12, .c (.i 1)], none⟩,
 ⟨some 4, .mv, [.t 13], none⟩] [12, 13])))
def F_laws_toTestS_W0 : LC := .loop F_laws_toTestS_L0
def F_laws_toTestS : LF :=
 { nparams := 1, results := [.t 2], body :=
 (.seq
 (.region false [⟨some 2, .newnil 1040, [], none⟩] [2])
 (.seq
 (.region false [⟨some 5, .mv, [.t 0], none⟩,
 ⟨some 6, .len, [.t 5], none⟩,
 ⟨some 7, .make 3600 2 (.st [.i 0, .i 0]), [.t 6, .t 6], none⟩,
 ⟨some 3, .mv, [.t 7], none⟩] [5, 6, 7])
 (.seq
 (.seq
 (.region false [⟨some 4, .mv, [.c (.i 0)], none⟩] [])
 (.block 0
 F_laws_toTestS_W0))
 (.seq
 (.region false [⟨some 22, .mv, [.t 3], none⟩,
 ⟨some 2, .mv, [.t 22], none⟩] [0, 3, 4, 22])
 .ret)))) }
/-- impl.CountOk -/
def F_impl_CountOk : LF :=
 { nparams := 2, results := [.t 4], body :=
 (.seq
 (.region false [⟨some 4, .mv, [.c (.b false)], none⟩] [4])
 (.seq
 (.region false [⟨some 5, .mv, [.t 0], none⟩,
 ⟨some 6, .call n_impl_TestsOk 3072, [.t 5], none⟩,
 ⟨some 7, .mv, [.t 6], none⟩,
 ⟨some 8, .mv, [.t 1], some (7, true)⟩,
 ⟨some 9, .mv, [.t 0], some (7, true)⟩,
 ⟨some 10, .len, [.t 9], some (7, true)⟩,
 ⟨some 11, .call n_impl_isWithin 5632, [.t 8, .c (.i 1), .t 10], some (7, true)⟩,
 ⟨some 12, .pick, [.t 7, .t 11, .c (.b false)], none⟩,
 ⟨some 4, .mv, [.t 12], none⟩] [0, 1, 5, 6, 7, 8, 9, 10, 11, 12])
 .ret)) }
/-- laws.eqTestS -/
def F_laws_eqTestS_L0 : LC :=
 (.seq
 (.seq
 (.region false [⟨some 11, .mv, [.t 5], none⟩,
 ⟨some 12, .mv, [.t 0], none⟩,
 ⟨some 13, .len, [.t 12], none⟩,
 ⟨some 14, .bin .lss, [.t 11, .t 13], none⟩] [11, 12, 13])
 (.cond (.t 14) [14]
 .skip
 (.exit 0)))
 (.seq
 (.block 1
 (.seq
 (.region true [⟨some 17, .mv, [.t 0], none⟩,
 ⟨some 18, .mv, [.t 5], none⟩,
 ⟨some 19, .idxa 2, [.t 17, .t 18], none⟩,
 ⟨some 20, .load 2 true, [.t 19], none⟩,
 ⟨some 21, .mv, [.t 1], none⟩,
 ⟨some 22, .mv, [.t 5], none⟩,
 ⟨some 23, .idxa 2, [.t 21, .t 22], none⟩,
 ⟨some 24, .load 2 true, [.t 23], none⟩,
 ⟨some 25, .call n_laws_eqTest 12800, [.t 20, .t 24], none⟩,
 ⟨some 26, .un .not, [.t 25], none⟩] [17, 18, 19, 20, 21, 22, 23, 24, 25])
 (.cond (.t 26) [26]
 (.seq
 (.region false [⟨some 4, .mv, [.c (.b false)], none⟩] [0, 1, 5])
 .ret)
 .skip)))
 (.region false [⟨some 15, .mv, [.t 5], none⟩,
 ⟨some 16, .bin .add, [.t 15, .c (.i 1)], none⟩,
 ⟨some 5, .mv, [.t 16], none⟩] [15, 16])))
def F_laws_eqTestS_W0 : LC := .loop F_laws_eqTestS_L0
def F_laws_eqTestS : LF :=
 { nparams := 2, results := [.t 4], body :=
 (.seq
 (.region false [⟨some 4, .mv, [.c (.b false)], none⟩] [4])
 (.seq
 (.seq
 (.region false [⟨some 6, .mv, [.t 0], none⟩,
 ⟨some 7, .len, [.t 6], none⟩,
 ⟨some 8, .mv, [.t 1], none⟩,
 ⟨some 9, .len, [.t 8], none⟩,
 ⟨some 10, .bin .neq, [.t 7, .t 9], none⟩] [6, 7, 8, 9])
 (.cond (.t 10) [10]
 (.seq
 (.region false [⟨some 4, .mv, [.c (.b false)], none⟩] [0, 1])
 .ret)
 .skip))
 (.seq
 (.seq
 (.region false [⟨some 5, .mv, [.c (.i 0)], none⟩] [])
 (.block 0
 F_laws_eqTestS_W0))
 (.seq
 (.region false [⟨some 4, .mv, [.c (.b true)], none⟩] [0, 1, 5])
 .ret)))) }
/-- spec.CountWeight -/
def F_spec_CountWeight_L0 : LC :=
 (.seq
 (.seq
 (.region false [⟨some 11, .mv, [.t 6], none⟩,
 ⟨some 12, .mv, [.t 0], none⟩,
 ⟨some 13, .len, [.t 12], none⟩,
 ⟨some 14, .bin .shl, [.c (.i 1), .t 13], none⟩,
 ⟨some 15, .bin .lss, [.t 11, .t 14], none⟩] [11, 12, 13, 14])
 (.cond (.t 15) [15]
 .skip
 (.exit 0)))
 (.seq
 (.block 1
 (.seq
 (.region false [⟨some 18, .mv, [.t 6], none⟩,
 ⟨some 19, .call n_spec_l8Heads 9728, [.t 18], none⟩,
 ⟨some 20, .mv, [.t 1], none⟩,
 ⟨some 21, .bin .geq, [.t 19, .t 20], none⟩] [18, 19, 20])
 (.cond (.t 21) [21]
 (.region false [⟨some 22, .mv, [.t 5], none⟩,
 ⟨some 23, .mv, [.t 0], none⟩,
 ⟨some 24, .mv, [.t 6], none⟩,
 ⟨some 25, .call n_spec_l1Weight 12800, [.t 23, .t 24], none⟩,
 ⟨some 26, .bin .add, [.t 22, .t 25], none⟩,
 ⟨some 5, .mv, [.t 26], none⟩] [22, 23, 24, 25, 26])
 .skip)))
 (.region false [⟨some 16, .mv, [.t 6], none⟩,
 ⟨some 17, .bin .add, [.t 16, .c (.i 1)], none⟩,
 ⟨some 6, .mv, [.t 17], none⟩] [16, 17])))
def F_spec_CountWeight_W0 : LC := .loop F_spec_CountWeight_L0
def F_spec_CountWeight : LF :=
 { nparams := 2, results := [.t 4], body :=
 (.seq
 (.region false [⟨some 4, .mv, [.c (.i 0)], none⟩] [4])
 (.seq
 (.seq
 (.region false [⟨some 7, .mv, [.t 0], none⟩,
 ⟨some 8, .mv, [.t 1], none⟩,
 ⟨some 9, .call n_spec_CountOk 4608, [.t 7, .t 8], none⟩,
 ⟨some 10, .un .not, [.t 9], none⟩] [7, 8, 9])
 (.cond (.t 10) [10]
 (.seq
 (.region false [⟨some 4, .mv, [.c (.i (-1))], none⟩] [0, 1])
 .ret)
 .skip))
 (.seq
 (.region false [⟨some 5, .mv, [.c (.i 0)], none⟩] [])
 (.seq
 (.seq
 (.region false [⟨some 6, .mv, [.c (.i 0)], none⟩] [])
 (.block 0
 F_spec_CountWeight_W0))
 (.seq
 (.region false [⟨some 27, .mv, [.t 5], none⟩,
 ⟨some 4, .mv, [.t 27], none⟩] [0, 1, 5, 6, 27])
 .ret))))) }
/-- impl.CountWeight -/
def F_impl_CountWeight_L0 : LC :=
 (.seq
 (.region false [⟨some 15, .bin .lss, [.t 14, .t 13], none⟩] [])
 (.seq
 (.cond (.t 15) [15]
 .skip
 (.exit 0))
 (.seq
 (.block 1
 (.seq
 (.region false [⟨some 16, .mv, [.t 14], none⟩,
 ⟨some 6, .mv, [.t 16], none⟩] [16])
 (.seq
 (.region false [⟨some 17, .mv, [.t 6], none⟩,
 ⟨some 18, .call n_impl_sizeOf 9216, [.t 17], none⟩,
 ⟨some 19, .mv, [.t 1], none⟩,
 ⟨some 20, .bin .geq, [.t 18, .t 19], none⟩] [17, 18, 19])
 (.cond (.t 20) [20]
 (.region false [⟨some 21, .mv, [.t 5], none⟩,
 ⟨some 22, .mv, [.t 0], none⟩,
 ⟨some 23, .mv, [.t 6], none⟩,
 ⟨some 24, .call n_impl_WeightOf 12288, [.t 22, .t 23], none⟩,
 ⟨some 25, .bin .add, [.t 21, .t 24], none⟩,
 ⟨some 5, .mv, [.t 25], none⟩] [6, 21, 22, 23, 24, 25])
 .skip))))
 (.region false [⟨some 26, .bin .add, [.t 14, .c (.i 1)], none⟩,
 ⟨some 14, .mv, [.t 26], none⟩] [6, 26]))))
def F_impl_CountWeight_W0 : LC := .loop F_impl_CountWeight_L0
def F_impl_CountWeight : LF :=
 { nparams := 2, results := [.t 4], body :=
 (.seq
 (.region false [⟨some 4, .mv, [.c (.i 0)], none⟩] [4])
 (.seq
 (.seq
 (.region false [⟨some 7, .mv, [.t 0], none⟩,
 ⟨some 8, .mv, [.t 1], none⟩,
 ⟨some 9, .call n_impl_CountOk 4608, [.t 7, .t 8], none⟩,
 ⟨some 10, .un .not, [.t 9], none⟩] [7, 8, 9])
 (.cond (.t 10) [10]
 (.seq
 (.region false [⟨some 4, .mv, [.c (.i (-1))], none⟩] [0, 1])
 .ret)
 .skip))
 (.seq
 (.region false [⟨some 5, .mv, [.c (.i 0)], none⟩] [])
 (.seq
 (.seq
 (.region false [⟨some 11, .mv, [.t 0], none⟩,
 ⟨some 12, .len, [.t 11], none⟩,
 ⟨some 13, .call n_impl_statesOf 6656, [.t 12], none⟩,
 ⟨some 14, .mv, [.c (.i 0)], none⟩] [11, 12])
 (.block 0
 F_impl_CountWeight_W0))
 (.seq
 (.region false [⟨some 27, .mv, [.t 5], none⟩,
 ⟨some 4, .mv, [.t 27], none⟩] [0, 1, 5, 13, 14, 27])
 .ret))))) }
/-- spec.CountBest -/
def F_spec_CountBest : LF :=
 { nparams := 2, results := [.t 4], body :=
 (.seq
 (.region false [⟨some 4, .mv, [.c (.i 0)], none⟩] [4])
 (.seq
 (.seq
 (.region false [⟨some 5, .mv, [.t 0], none⟩,
 ⟨some 6, .mv, [.t 1], none⟩,
 ⟨some 7, .call n_spec_CountOk 3584, [.t 5, .t 6], none⟩,
 ⟨some 8, .un .not, [.t 7], none⟩] [5, 6, 7])
 (.cond (.t 8) [8]
 (.seq
 (.region false [⟨some 4, .mv, [.c (.i (-1))], none⟩] [0, 1])
 .ret)
 .skip))
 (.seq
 (.region true [⟨some 9, .mv, [.t 0], none⟩,
 ⟨some 10, .mv, [.t 0], none⟩,
 ⟨some 11, .len, [.t 10], none⟩,
 ⟨some 12, .bin .shl, [.c (.i 1), .t 11], none⟩,
 ⟨some 13, .bin .sub, [.t 12, .c (.i 1)], none⟩,
 ⟨some 14, .mv, [.t 1], none⟩,
 ⟨some 15, .mv, [.t 0], none⟩,
 ⟨some 16, .len, [.t 15], none⟩,
 ⟨some 17, .call n_spec_l1Power 8704, [.t 16], none⟩,
 ⟨some 18, .call n_spec_l8Best 9216, [.t 9, .t 13, .t 14, .t 17], none⟩,
 ⟨some 4, .mv, [.t 18], none⟩] [0, 1, 9, 10, 11, 12, 13, 14, 15, 16, 17, 18])
 .ret))) }
/-- impl.CountBest -/
def F_impl_CountBest : LF :=
 { nparams := 2, results := [.t 4], body :=
 (.seq
 (.region false [⟨some 4, .mv, [.c (.i 0)], none⟩] [4])
 (.seq
 (.seq
 (.region false [⟨some 5, .mv, [.t 0], none⟩,
 ⟨some 6, .mv, [.t 1], none⟩,
 ⟨some 7, .call n_impl_CountOk 3584, [.t 5, .t 6], none⟩,
 ⟨some 8, .un .not, [.t 7], none⟩] [5, 6, 7])
 (.cond (.t 8) [8]
 (.seq
 (.region false [⟨some 4, .mv, [.c (.i (-1))], none⟩] [0, 1])
 .ret)
 .skip))
 (.seq
 (.region false [⟨some 9, .mv, [.t 0], none⟩,
 ⟨some 10, .mv, [.t 0], none⟩,
 ⟨some 11, .call n_impl_allOf 5632, [.t 10], none⟩,
 ⟨some 12, .mv, [.t 1], none⟩,
 ⟨some 13, .call n_impl_leastToCount 6656, [.t 9, .t 11, .t 12, .c (.fn n_impl_CountBest_1 [])], none⟩,
 ⟨some 4, .mv, [.t 13], none⟩] [0, 1, 9, 10, 11, 12, 13])
 .ret))) }
/-- spec.TestsOk -/
def F_spec_TestsOk_L0 : LC :=
 (.seq
 (.seq
 (.region false [⟨some 4, .mv, [.t 3], none⟩,
 ⟨some 5, .mv, [.t 0], none⟩,
 ⟨some 6, .len, [.t 5], none⟩,
 ⟨some 7, .bin .lss, [.t 4, .t 6], none⟩] [4, 5, 6])
 (.cond (.t 7) [7]
 .skip
 (.exit 0)))
 (.seq
 (.block 1
 (.seq
 (.region false [⟨some 10, .mv, [.t 0], none⟩,
 ⟨some 11, .mv, [.t 3], none⟩,
 ⟨some 12, .idxa 2, [.t 10, .t 11], none⟩,
 ⟨some 13, .fld 0 1 false, [.t 12], none⟩,
 ⟨some 14, .load 1 false, [.t 13], none⟩,
 ⟨some 15, .call n_spec_l1In 7680, [.t 14, .c (.i 1), .c (.i 9)], none⟩,
 ⟨some 16, .un .not, [.t 15], none⟩,
 ⟨some 17, .mv, [.t 16], none⟩,
 ⟨some 18, .mv, [.t 0], some (17, false)⟩,
 ⟨some 19, .mv, [.t 3], some (17, false)⟩,
 ⟨some 20, .idxa 2, [.t 18, .t 19], some (17, false)⟩,
 ⟨some 21, .fld 1 1 false, [.t 20], some (17, false)⟩,
 ⟨some 22, .load 1 false, [.t 21], some (17, false)⟩,
 ⟨some 23, .call n_spec_l1In 11776, [.t 22, .c (.i 1), .c (.i 5)], some (17, false)⟩,
 ⟨some 24, .un .not, [.t 23], some (17, false)⟩,
 ⟨some 25, .pick, [.t 17, .c (.b true), .t 24], none⟩] [10, 11, 12, 13, 14, 15, 16, 17, 18, 19, 20, 21, 22, 23, 24])
 (.cond (.t 25) [25]
 (.seq
 (.region false [⟨some 2, .mv, [.c (.b false)], none⟩] [0, 3])
 .ret)
 .skip)))
 (.region false [⟨some 8, .mv, [.t 3], none⟩,
 ⟨some 9, .bin .add, [.t 8, .c (.i 1)], none⟩,
 ⟨some 3, .mv, [.t 9], none⟩] [8, 9])))
def F_spec_TestsOk_W0 : LC := .loop F_spec_TestsOk_L0
def F_spec_TestsOk : LF :=
 { nparams := 1, results := [.t 2], body :=
 (.seq
 (.region false [⟨some 2, .mv, [.c (.b false)], none⟩] [2])
 (.seq
 (.seq
 (.region false [⟨some 3, .mv, [.c (.i 0)], none⟩] [])
 (.block 0
 F_spec_TestsOk_W0))
 (.seq
 (.region false [⟨some 26, .mv, [.t 0], none⟩,
 ⟨some 27, .len, [.t 26], none⟩,
 ⟨some 28, .call n_spec_l1In 14336, [.t 27, .c (.i 1), .c (.i 5)], none⟩,
 ⟨some 2, .mv, [.t 28], none⟩] [0, 3, 26, 27, 28])
 .ret))) }
/-- spec.l1In -/
def F_spec_l1In : LF :=
 { nparams := 3, results := [.t 6], body :=
 (.seq
 (.region false [⟨some 6, .mv, [.c (.b false)], none⟩] [6])
 (.seq
 (.region false [⟨some 7, .mv, [.t 0], none⟩,
 ⟨some 8, .mv, [.t 1], none⟩,
 ⟨some 9, .bin .geq, [.t 7, .t 8], none⟩,
 ⟨some 10, .mv, [.t 9], none⟩,
 ⟨some 11, .mv, [.t 0], some (10, true)⟩,
 ⟨some 12, .mv, [.t 2], some (10, true)⟩,
 ⟨some 13, .bin .leq, [.t 11, .t 12], some (10, true)⟩,
 ⟨some 14, .pick, [.t 10, .t 13, .c (.b false)], none⟩,
 ⟨some 6, .mv, [.t 14], none⟩] [0, 1, 2, 7, 8, 9, 10, 11, 12, 13, 14])
 .ret)) }
/-- laws.toTest -/
def F_laws_toTest : LF :=
 { nparams := 1, results := [.c 2 2 true], body :=
 (.seq
 (.region false [⟨some 1, .box 528, [.t 0], none⟩,
 ⟨some 2, .alloc 1040 (.st [.i 0, .i 0]), [], none⟩] [0])
 (.seq
 (.region false [⟨some 3, .alloc 1552 (.st [.i 0, .i 0]), [], none⟩] [])
 (.seq
 (.region false [⟨some 4, .fld 0 1 false, [.t 1], none⟩,
 ⟨some 5, .load 1 false, [.t 4], none⟩,
 ⟨some 6, .fld 0 1 false, [.t 3], none⟩,
 ⟨none, .store 1, [.t 6, .t 5], none⟩] [4, 5, 6])
 (.seq
 (.region false [⟨some 7, .fld 1 1 false, [.t 1], none⟩,
 ⟨some 8, .load 1 false, [.t 7], none⟩,
 ⟨some 9, .fld 1 1 false, [.t 3], none⟩,
 ⟨none, .store 1, [.t 9, .t 8], none⟩] [1, 7, 8, 9])
 (.seq
 (.region false [⟨some 10, .load 2 true, [.t 3], none⟩,
 ⟨none, .store 2, [.t 2, .t 10], none⟩] [3, 10])
 .ret))))) }
/-- impl.TestsOk -/
def F_impl_TestsOk_L0 : LC :=
 (.seq
 (.region false [⟨some 12, .bin .lss, [.t 11, .t 10], none⟩] [])
 (.seq
 (.cond (.t 12) [12]
 .skip
 (.exit 0))
 (.seq
 (.block 1
 (.seq
 (.region false [⟨some 13, .idxa 2, [.t 9, .t 11], none⟩,
 ⟨some 14, .load 2 true, [.t 13], none⟩,
 ⟨some 4, .alloc 2064 (.st [.i 0, .i 0]), [], none⟩,
 ⟨none, .store 2, [.t 4, .t 14], none⟩] [13, 14])
 (.seq
 (.region false [⟨some 15, .fld 0 1 false, [.t 4], none⟩,
 ⟨some 16, .load 1 false, [.t 15], none⟩,
 ⟨some 17, .call n_impl_isWithin 8704, [.t 16, .c (.i 1), .c (.i 9)], none⟩,
 ⟨some 18, .un .not, [.t 17], none⟩,
 ⟨some 19, .mv, [.t 18], none⟩,
 ⟨some 20, .fld 1 1 false, [.t 4], some (19, false)⟩,
 ⟨some 21, .load 1 false, [.t 20], some (19, false)⟩,
 ⟨some 22, .call n_impl_isWithin 11264, [.t 21, .c (.i 1), .c (.i 5)], some (19, false)⟩,
 ⟨some 23, .un .not, [.t 22], some (19, false)⟩,
 ⟨some 24, .pick, [.t 19, .c (.b true), .t 23], none⟩] [4, 15, 16, 17, 18, 19, 20, 21, 22, 23])
 (.cond (.t 24) [24]
 (.seq
 (.region false [⟨some 2, .mv, [.c (.b false)], none⟩] [9, 10, 11])
 .ret)
 .skip))))
 (.region false [⟨some 25, .bin .add, [.t 11, .c (.i 1)], none⟩,
 ⟨some 11, .mv, [.t 25], none⟩] [25]))))
def F_impl_TestsOk_W0 : LC := .loop F_impl_TestsOk_L0
def F_impl_TestsOk : LF :=
 { nparams := 1, results := [.t 2], body :=
 (.seq
 (.region false [⟨some 2, .mv, [.c (.b false)], none⟩] [2])
 (.seq
 (.seq
 (.region false [⟨some 5, .mv, [.t 0], none⟩,
 ⟨some 6, .len, [.t 5], none⟩,
 ⟨some 7, .call n_impl_manyOk 3584, [.t 6], none⟩,
 ⟨some 8, .un .not, [.t 7], none⟩] [5, 6, 7])
 (.cond (.t 8) [8]
 (.seq
 (.region false [⟨some 2, .mv, [.c (.b false)], none⟩] [0])
 .ret)
 .skip))
 (.seq
 (.seq
 (.region false [⟨some 9, .mv, [.t 0], none⟩,
 ⟨some 10, .len, [.t 9], none⟩,
 ⟨some 11, .mv, [.c (.i 0)], none⟩] [0])
 (.block 0
 F_impl_TestsOk_W0))
 (.seq
 (.region false [⟨some 2, .mv, [.c (.b true)], none⟩] [9, 10, 11])
 .ret)))) }
/-- impl.isWithin -/
def F_impl_isWithin : LF :=
 { nparams := 3, results := [.t 6], body :=
 (.seq
 (.region false [⟨some 6, .mv, [.c (.b false)], none⟩] [6])
 (.seq
 (.region false [⟨some 7, .mv, [.t 1], none⟩,
 ⟨some 8, .mv, [.t 0], none⟩,
 ⟨some 9, .bin .leq, [.t 7, .t 8], none⟩,
 ⟨some 10, .mv, [.t 9], none⟩,
 ⟨some 11, .mv, [.t 0], some (10, true)⟩,
 ⟨some 12, .mv, [.t 2], some (10, true)⟩,
 ⟨some 13, .bin .leq, [.t 11, .t 12], some (10, true)⟩,
 ⟨some 14, .pick, [.t 10, .t 13, .c (.b false)], none⟩,
 ⟨some 6, .mv, [.t 14], none⟩] [0, 1, 2, 7, 8, 9, 10, 11, 12, 13, 14])
 .ret)) }
/-- laws.eqTest -/
def F_laws_eqTest : LF :=
 { nparams := 2, results := [.t 4], body :=
 (.seq
 (.region false [⟨some 2, .box 1040, [.t 0], none⟩,
 ⟨some 3, .box 1552, [.t 1], none⟩,
 ⟨some 4, .mv, [.c (.b false)], none⟩] [0, 1, 4])
 (.seq
 (.seq
 (.region false [⟨some 5, .fld 0 1 false, [.t 2], none⟩,
 ⟨some 6, .load 1 false, [.t 5], none⟩,
 ⟨some 7, .fld 0 1 false, [.t 3], none⟩,
 ⟨some 8, .load 1 false, [.t 7], none⟩,
 ⟨some 9, .bin .neq, [.t 6, .t 8], none⟩] [5, 6, 7, 8])
 (.cond (.t 9) [9]
 (.seq
 (.region false [⟨some 4, .mv, [.c (.b false)], none⟩] [2, 3])
 .ret)
 .skip))
 (.seq
 (.seq
 (.region false [⟨some 10, .fld 1 1 false, [.t 2], none⟩,
 ⟨some 11, .load 1 false, [.t 10], none⟩,
 ⟨some 12, .fld 1 1 false, [.t 3], none⟩,
 ⟨some 13, .load 1 false, [.t 12], none⟩,
 ⟨some 14, .bin .neq, [.t 11, .t 13], none⟩] [2, 3, 10, 11, 12, 13])
 (.cond (.t 14) [14]
 (.seq
 (.region false [⟨some 4, .mv, [.c (.b false)], none⟩] [])
 .ret)
 .skip))
 (.seq
 (.region false [⟨some 4, .mv, [.c (.b true)], none⟩] [])
 .ret)))) }
/-- spec.l8Heads -/
def F_spec_l8Heads_L0 : LC :=
 (.seq
 (.seq
 (.region false [⟨some 4, .mv, [.t 0], none⟩,
 ⟨some 5, .bin .gtr, [.t 4, .c (.i 0)], none⟩] [4])
 (.cond (.t 5) [5]
 .skip
 (.exit 0)))
 (.block 1
 (.seq
 (.region false [⟨some 6, .mv, [.t 3], none⟩,
 ⟨some 7, .mv, [.t 0], none⟩,
 ⟨some 8, .bin .rem, [.t 7, .c (.i 2)], none⟩,
 ⟨some 9, .bin .add, [.t 6, .t 8], none⟩,
 ⟨some 3, .mv, [.t 9], none⟩] [6, 7, 8, 9])
 (.region false [⟨some 10, .mv, [.t 0], none⟩,
 ⟨some 11, .bin .quo, [.t 10, .c (.i 2)], none⟩,
 ⟨some 0, .mv, [.t 11], none⟩] [10, 11]))))
def F_spec_l8Heads_W0 : LC := .loop F_spec_l8Heads_L0
def F_spec_l8Heads : LF :=
 { nparams := 1, results := [.t 2], body :=
 (.seq
 (.region false [⟨some 2, .mv, [.c (.i 0)], none⟩] [2])
 (.seq
 (.region false [⟨some 3, .mv, [.c (.i 0)], none⟩] [])
 (.seq
 (.block 0
 F_spec_l8Heads_W0)
 (.seq
 (.region false [⟨some 12, .mv, [.t 3], none⟩,
 ⟨some 2, .mv, [.t 12], none⟩] [0, 3, 12])
 .ret)))) }
/-- spec.l1Weight -/
def F_spec_l1Weight_L0 : LC :=
 (.seq
 (.seq
 (.region false [⟨some 7, .mv, [.t 6], none⟩,
 ⟨some 8, .mv, [.t 0], none⟩,
 ⟨some 9, .len, [.t 8], none⟩,
 ⟨some 10, .bin .lss, [.t 7, .t 9], none⟩] [7, 8, 9])
 (.cond (.t 10) [10]
 .skip
 (.exit 0)))
 (.seq
 (.block 1
 (.seq
 (.region false [⟨some 13, .mv, [.t 1], none⟩,
 ⟨some 14, .mv, [.t 6], none⟩,
 ⟨some 15, .bin .shr, [.t 13, .t 14], none⟩,
 ⟨some 16, .bin .rem, [.t 15, .c (.i 2)], none⟩,
 ⟨some 17, .bin .eql, [.t 16, .c (.i 1)], none⟩] [13, 14, 15, 16])
 (.cond (.t 17) [17]
 (.region false [⟨some 18, .mv, [.t 5], none⟩,
 ⟨some 19, .mv, [.t 0], none⟩,
 ⟨some 20, .mv, [.t 6], none⟩,
 ⟨some 21, .idxa 2, [.t 19, .t 20], none⟩,
 ⟨some 22, .fld 1 1 false, [.t 21], none⟩,
 ⟨some 23, .load 1 false, [.t 22], none⟩,
 ⟨some 24, .bin .mul, [.t 18, .t 23], none⟩,
 ⟨some 5, .mv, [.t 24], none⟩] [18, 19, 20, 21, 22, 23, 24])
 (.region false [⟨some 25, .mv, [.t 5], none⟩,
 ⟨some 26, .mv, [.t 0], none⟩,
 ⟨some 27, .mv, [.t 6], none⟩,
 ⟨some 28, .idxa 2, [.t 26, .t 27], none⟩,
 ⟨some 29, .fld 1 1 false, [.t 28], none⟩,
 ⟨some 30, .load 1 false, [.t 29], none⟩,
 ⟨some 31, .bin .sub, [.c (.i 6), .t 30], none⟩,
 ⟨some 32, .bin .mul, [.t 25, .t 31], none⟩,
 ⟨some 5, .mv, [.t 32], none⟩] [25, 26, 27, 28, 29, 30, 31, 32]))))
 (.region false [⟨some 11, .mv, [.t 6], none⟩,
 ⟨some 12, .bin .add, [.t 11, .c (.i 1)], none⟩,
 ⟨some 6, .mv, [.t 12], none⟩] [11, 12])))
def F_spec_l1Weight_W0 : LC := .loop F_spec_l1Weight_L0
def F_spec_l1Weight : LF :=
 { nparams := 2, results := [.t 4], body :=
 (.seq
 (.region false [⟨some 4, .mv, [.c (.i 0)], none⟩] [4])
 (.seq
 (.region false [⟨some 5, .mv, [.c (.i 1)], none⟩] [])
 (.seq
 (.seq
 (.region false [⟨some 6, .mv, [.c (.i 0)], none⟩] [])
 (.block 0
 F_spec_l1Weight_W0))
 (.seq
 (.region false [⟨some 33, .mv, [.t 5], none⟩,
 ⟨some 4, .mv, [.t 33], none⟩] [0, 1, 5, 6, 33])
 .ret)))) }
/-- impl.statesOf -/
def F_impl_statesOf : LF :=
 { nparams := 1, results := [.t 2], body :=
 (.seq
 (.region false [⟨some 2, .mv, [.c (.i 0)], none⟩] [2])
 (.seq
 (.region false [⟨some 3, .mv, [.t 0], none⟩,
 ⟨some 4, .bin .shl, [.c (.i 1), .t 3], none⟩,
 ⟨some 2, .mv, [.t 4], none⟩] [0, 3, 4])
 .ret)) }
/-- impl.sizeOf -/
def F_impl_sizeOf : LF :=
 { nparams := 1, results := [.t 2], body :=
 (.seq
 (.region false [⟨some 2, .mv, [.c (.i 0)], none⟩] [2])
 (.seq
 (.region false [⟨some 3, .mv, [.t 0], none⟩,
 ⟨some 4, .conv .i2q 2048, [.t 3], none⟩,
 ⟨some 5, .call n_math_bits_OnesCount 2560, [.t 4], none⟩,
 ⟨some 2, .mv, [.t 5], none⟩] [0, 3, 4, 5])
 .ret)) }
/-- impl.WeightOf -/
def F_impl_WeightOf_L0 : LC :=
 (.seq
 (.region false [⟨some 21, .bin .lss, [.t 20, .t 19], none⟩] [])
 (.seq
 (.cond (.t 21) [21]
 .skip
 (.exit 0))
 (.seq
 (.block 1
 (.seq
 (.region false [⟨some 22, .mv, [.t 20], none⟩,
 ⟨some 23, .idxa 2, [.t 18, .t 20], none⟩,
 ⟨some 24, .load 2 true, [.t 23], none⟩,
 ⟨some 7, .alloc 3600 (.st [.i 0, .i 0]), [], none⟩,
 ⟨some 6, .mv, [.t 22], none⟩,
 ⟨none, .store 2, [.t 7, .t 24], none⟩] [22, 23, 24])
 (.seq
 (.region false [⟨some 25, .mv, [.t 1], none⟩,
 ⟨some 26, .mv, [.t 6], none⟩,
 ⟨some 27, .call n_impl_outcomeIn 13824, [.t 25, .t 26], none⟩,
 ⟨some 28, .bin .eql, [.t 27, .c (.i 1)], none⟩] [6, 25, 26, 27])
 (.cond (.t 28) [28]
 (.region false [⟨some 29, .mv, [.t 5], none⟩,
 ⟨some 30, .fld 1 1 false, [.t 7], none⟩,
 ⟨some 31, .load 1 false, [.t 30], none⟩,
 ⟨some 32, .bin .mul, [.t 29, .t 31], none⟩,
 ⟨some 5, .mv, [.t 32], none⟩] [7, 29, 30, 31, 32])
 (.region false [⟨some 33, .mv, [.t 5], none⟩,
 ⟨some 34, .fld 1 1 false, [.t 7], none⟩,
 ⟨some 35, .load 1 false, [.t 34], none⟩,
 ⟨some 36, .bin .sub, [.c (.i 6), .t 35], none⟩,
 ⟨some 37, .bin .mul, [.t 33, .t 36], none⟩,
 ⟨some 5, .mv, [.t 37], none⟩] [7, 33, 34, 35, 36, 37])))))
 (.region false [⟨some 38, .bin .add, [.t 20, .c (.i 1)], none⟩,
 ⟨some 20, .mv, [.t 38], none⟩] [38]))))
def F_impl_WeightOf_W0 : LC := .loop F_impl_WeightOf_L0
def F_impl_WeightOf : LF :=
 { nparams := 2, results := [.t 4], body :=
 (.seq
 (.region false [⟨some 4, .mv, [.c (.i 0)], none⟩] [4])
 (.seq
 (.seq
 (.region false [⟨some 8, .mv, [.t 0], none⟩,
 ⟨some 9, .call n_impl_TestsOk 4608, [.t 8], none⟩,
 ⟨some 10, .un .not, [.t 9], none⟩,
 ⟨some 11, .mv, [.t 10], none⟩,
 ⟨some 12, .mv, [.t 0], some (11, false)⟩,
 ⟨some 13, .len, [.t 12], some (11, false)⟩,
 ⟨some 14, .mv, [.t 1], some (11, false)⟩,
 ⟨some 15, .call n_impl_StateOk 7680, [.t 13, .t 14], some (11, false)⟩,
 ⟨some 16, .un .not, [.t 15], some (11, false)⟩,
 ⟨some 17, .pick, [.t 11, .c (.b true), .t 16], none⟩] [8, 9, 10, 11, 12, 13, 14, 15, 16])
 (.cond (.t 17) [17]
 (.seq
 (.region false [⟨some 4, .mv, [.c (.i (-1))], none⟩] [0, 1])
 .ret)
 .skip))
 (.seq
 (.region false [⟨some 5, .mv, [.c (.i 1)], none⟩] [])
 (.seq
 (.seq
 (.region false [⟨some 18, .mv, [.t 0], none⟩,
 ⟨some 19, .len, [.t 18], none⟩,
 ⟨some 20, .mv, [.c (.i 0)], none⟩] [0])
 (.block 0
 F_impl_WeightOf_W0))
 (.seq
 (.region false [⟨some 39, .mv, [.t 5], none⟩,
 ⟨some 4, .mv, [.t 39], none⟩] [1, 5, 18, 19, 20, 39])
 .ret))))) }
/-- spec.l8Best -/
def F_spec_l8Best_L0 : LC :=
 (.seq
 (.seq
 (.region false [⟨some 20, .mv, [.t 10], none⟩,
 ⟨some 21, .mv, [.t 0], none⟩,
 ⟨some 22, .len, [.t 21], none⟩,
 ⟨some 23, .bin .lss, [.t 20, .t 22], none⟩] [20, 21, 22])
 (.cond (.t 23) [23]
 .skip
 (.exit 0)))
 (.seq
 (.block 1
 (.seq
 (.seq
 (.region false [⟨some 26, .mv, [.t 1], none⟩,
 ⟨some 27, .mv, [.t 10], none⟩,
 ⟨some 28, .bin .shr, [.t 26, .t 27], none⟩,
 ⟨some 29, .bin .rem, [.t 28, .c (.i 2)], none⟩,
 ⟨some 30, .bin .eql, [.t 29, .c (.i 0)], none⟩] [26, 27, 28, 29])
 (.cond (.t 30) [30]
 (.exit 1)
 .skip))
 (.seq
 (.region true [⟨some 31, .mv, [.t 3], none⟩,
 ⟨some 32, .mv, [.t 0], none⟩,
 ⟨some 33, .mv, [.t 10], none⟩,
 ⟨some 34, .idxa 2, [.t 32, .t 33], none⟩,
 ⟨some 35, .fld 0 1 false, [.t 34], none⟩,
 ⟨some 36, .load 1 false, [.t 35], none⟩,
 ⟨some 37, .bin .mul, [.t 31, .t 36], none⟩,
 ⟨some 38, .mv, [.t 0], none⟩,
 ⟨some 39, .mv, [.t 1], none⟩,
 ⟨some 40, .mv, [.t 10], none⟩,
 ⟨some 41, .bin .shl, [.c (.i 1), .t 40], none⟩,
 ⟨some 42, .bin .sub, [.t 39, .t 41], none⟩,
 ⟨some 43, .mv, [.t 2], none⟩,
 ⟨some 44, .bin .sub, [.t 43, .c (.i 1)], none⟩,
 ⟨some 45, .mv, [.t 3], none⟩,
 ⟨some 46, .bin .quo, [.t 45, .c (.i 6)], none⟩,
 ⟨some 47, .mv, [.t 0], none⟩,
 ⟨some 48, .mv, [.t 10], none⟩,
 ⟨some 49, .idxa 2, [.t 47, .t 48], none⟩,
 ⟨some 50, .fld 1 1 false, [.t 49], none⟩,
 ⟨some 51, .load 1 false, [.t 50], none⟩,
 ⟨some 52, .bin .mul, [.t 46, .t 51], none⟩,
 ⟨some 53, .call n_spec_l8Best 27136, [.t 38, .t 42, .t 44, .t 52], none⟩,
 ⟨some 54, .bin .add, [.t 37, .t 53], none⟩,
 ⟨some 55, .mv, [.t 0], none⟩,
 ⟨some 56, .mv, [.t 1], none⟩,
 ⟨some 57, .mv, [.t 10], none⟩,
 ⟨some 58, .bin .shl, [.c (.i 1), .t 57], none⟩,
 ⟨some 59, .bin .sub, [.t 56, .t 58], none⟩,
 ⟨some 60, .mv, [.t 2], none⟩,
 ⟨some 61, .mv, [.t 3], none⟩,
 ⟨some 62, .bin .quo, [.t 61, .c (.i 6)], none⟩,
 ⟨some 63, .mv, [.t 0], none⟩,
 ⟨some 64, .mv, [.t 10], none⟩,
 ⟨some 65, .idxa 2, [.t 63, .t 64], none⟩,
 ⟨some 66, .fld 1 1 false, [.t 65], none⟩,
 ⟨some 67, .load 1 false, [.t 66], none⟩,
 ⟨some 68, .bin .sub, [.c (.i 6), .t 67], none⟩,
 ⟨some 69, .bin .mul, [.t 62, .t 68], none⟩,
 ⟨some 70, .call n_spec_l8Best 35840, [.t 55, .t 59, .t 60, .t 69], none⟩,
 ⟨some 71, .bin .add, [.t 54, .t 70], none⟩,
 ⟨some 11, .mv, [.t 71], none⟩] [31, 32, 33, 34, 35, 36, 37, 38, 39, 40, 41, 42, 43, 44, 45, 46, 47, 48, 49, 50, 51, 52, 53, 54, 55, 56, 57, 58, 59, 60, 61, 62, 63, 64, 65, 66, 67, 68, 69, 70, 71])
 (.seq
 (.region false [⟨some 72, .mv, [.t 9], none⟩,
 ⟨some 73, .bin .lss, [.t 72, .c (.i 0)], none⟩,
 ⟨some 74, .mv, [.t 73], none⟩,
 ⟨some 75, .mv, [.t 11], some (74, false)⟩,
 ⟨some 76, .mv, [.t 9], some (74, false)⟩,
 ⟨some 77, .bin .lss, [.t 75, .t 76], some (74, false)⟩,
 ⟨some 78, .pick, [.t 74, .c (.b true), .t 77], none⟩] [72, 73, 74, 75, 76, 77])
 (.cond (.t 78) [78]
 (.region false [⟨some 79, .mv, [.t 11], none⟩,
 ⟨some 9, .mv, [.t 79], none⟩] [11, 79])
 .skip)))))
 (.region false [⟨some 24, .mv, [.t 10], none⟩,
 ⟨some 25, .bin .add, [.t 24, .c (.i 1)], none⟩,
 ⟨some 10, .mv, [.t 25], none⟩] [11, 24, 25])))
def F_spec_l8Best_W0 : LC := .loop F_spec_l8Best_L0
def F_spec_l8Best : LF :=
 { nparams := 4, results := [.t 8], body :=
 (.seq
 (.region false [⟨some 8, .mv, [.c (.i 0)], none⟩] [8])
 (.seq
 (.seq
 (.region false [⟨some 12, .mv, [.t 2], none⟩,
 ⟨some 13, .bin .eql, [.t 12, .c (.i 0)], none⟩,
 ⟨some 14, .mv, [.t 13], none⟩,
 ⟨some 15, .mv, [.t 2], some (14, false)⟩,
 ⟨some 16, .mv, [.t 1], some (14, false)⟩,
 ⟨some 17, .call n_spec_l8Heads 8704, [.t 16], some (14, false)⟩,
 ⟨some 18, .bin .gtr, [.t 15, .t 17], some (14, false)⟩,
 ⟨some 19, .pick, [.t 14, .c (.b true), .t 18], none⟩] [12, 13, 14, 15, 16, 17, 18])
 (.cond (.t 19) [19]
 (.seq
 (.region false [⟨some 8, .mv, [.c (.i 0)], none⟩] [0, 1, 2, 3])
 .ret)
 .skip))
 (.seq
 (.region false [⟨some 9, .mv, [.c (.i (-1))], none⟩] [])
 (.seq
 (.seq
 (.region false [⟨some 10, .mv, [.c (.i 0)], none⟩] [])
 (.block 0
 F_spec_l8Best_W0))
 (.seq
 (.region false [⟨some 80, .mv, [.t 9], none⟩,
 ⟨some 8, .mv, [.t 80], none⟩] [0, 1, 2, 3, 9, 10, 80])
 .ret))))) }
/-- spec.l1Power -/
def F_spec_l1Power_L0 : LC :=
 (.seq
 (.seq
 (.region false [⟨some 5, .mv, [.t 4], none⟩,
 ⟨some 6, .mv, [.t 0], none⟩,
 ⟨some 7, .bin .lss, [.t 5, .t 6], none⟩] [5, 6])
 (.cond (.t 7) [7]
 .skip
 (.exit 0)))
 (.seq
 (.block 1
 (.region false [⟨some 10, .mv, [.t 3], none⟩,
 ⟨some 11, .bin .mul, [.t 10, .c (.i 6)], none⟩,
 ⟨some 3, .mv, [.t 11], none⟩] [10, 11]))
 (.region false [⟨some 8, .mv, [.t 4], none⟩,
 ⟨some 9, .bin .add, [.t 8, .c (.i 1)], none⟩,
 ⟨some 4, .mv, [.t 9], none⟩] [8, 9])))
def F_spec_l1Power_W0 : LC := .loop F_spec_l1Power_L0
def F_spec_l1Power : LF :=
 { nparams := 1, results := [.t 2], body :=
 (.seq
 (.region false [⟨some 2, .mv, [.c (.i 0)], none⟩] [2])
 (.seq
 (.region false [⟨some 3, .mv, [.c (.i 1)], none⟩] [])
 (.seq
 (.seq
 (.region false [⟨some 4, .mv, [.c (.i 0)], none⟩] [])
 (.block 0
 F_spec_l1Power_W0))
 (.seq
 (.region false [⟨some 12, .mv, [.t 3], none⟩,
 ⟨some 2, .mv, [.t 12], none⟩] [0, 3, 4, 12])
 .ret)))) }
/-- impl.leastToCount -/
def F_impl_leastToCount_L0 : LC :=
 (.seq
 (.region false [⟨some 32, .bin .lss, [.t 31, .t 30], none⟩] [])
 (.seq
 (.cond (.t 32) [32]
 .skip
 (.exit 0))
 (.seq
 (.block 1
 (.seq
 (.region false [⟨some 33, .mv, [.t 31], none⟩,
 ⟨some 34, .idxa 2, [.t 29, .t 31], none⟩,
 ⟨some 35, .load 2 true, [.t 34], none⟩,
 ⟨some 12, .alloc 6160 (.st [.i 0, .i 0]), [], none⟩,
 ⟨some 11, .mv, [.t 33], none⟩,
 ⟨none, .store 2, [.t 12, .t 35], none⟩] [33, 34, 35])
 (.seq
 (.seq
 (.region false [⟨some 36, .mv, [.t 9], none⟩,
 ⟨some 37, .mv, [.t 11], none⟩,
 ⟨some 38, .call n_impl_hasTest 19456, [.t 36, .t 37], none⟩,
 ⟨some 39, .un .not, [.t 38], none⟩] [36, 37, 38])
 (.cond (.t 39) [39]
 (.exit 1)
 .skip))
 (.seq
 (.region false [⟨some 40, .mv, [.t 1], none⟩,
 ⟨some 41, .mv, [.t 11], none⟩,
 ⟨some 42, .bin .shl, [.c (.i 1), .t 41], none⟩,
 ⟨some 43, .bin .andNot, [.t 40, .t 42], none⟩,
 ⟨some 13, .mv, [.t 43], none⟩] [11, 40, 41, 42, 43])
 (.seq
 (.region false [⟨some 44, .mv, [.t 0], none⟩,
 ⟨some 45, .mv, [.t 13], none⟩,
 ⟨some 46, .mv, [.t 2], none⟩,
 ⟨some 47, .mv, [.t 3], none⟩,
 ⟨some 48, .call n_impl_leastToCount 24576, [.t 44, .t 45, .t 46, .t 47], none⟩,
 ⟨some 14, .mv, [.t 48], none⟩] [44, 45, 46, 47, 48])
 (.seq
 (.region false [⟨some 49, .mv, [.t 0], none⟩,
 ⟨some 50, .mv, [.t 13], none⟩,
 ⟨some 51, .mv, [.t 2], none⟩,
 ⟨some 52, .bin .sub, [.t 51, .c (.i 1)], none⟩,
 ⟨some 53, .mv, [.t 3], none⟩,
 ⟨some 54, .call n_impl_leastToCount 27648, [.t 49, .t 50, .t 52, .t 53], none⟩,
 ⟨some 15, .mv, [.t 54], none⟩] [13, 49, 50, 51, 52, 53, 54])
 (.seq
 (.region true [⟨some 55, .load 2 true, [.t 12], none⟩,
 ⟨some 56, .mv, [.t 1], none⟩,
 ⟨some 57, .call n_impl_sizeOf 29184, [.t 56], none⟩,
 ⟨some 58, .mv, [.t 14], none⟩,
 ⟨some 59, .mv, [.t 15], none⟩,
 ⟨some 60, .call n_impl_averageAsking 30720, [.t 55, .t 57, .t 58, .t 59], none⟩,
 ⟨some 16, .mv, [.t 60], none⟩] [12, 14, 15, 55, 56, 57, 58, 59, 60])
 (.seq
 (.region false [⟨some 61, .mv, [.t 10], none⟩,
 ⟨some 62, .bin .eql, [.t 61, .c (.i (-1))], none⟩,
 ⟨some 63, .mv, [.t 62], none⟩,
 ⟨some 64, .mv, [.t 16], some (63, false)⟩,
 ⟨some 65, .mv, [.t 10], some (63, false)⟩,
 ⟨some 66, .bin .lss, [.t 64, .t 65], some (63, false)⟩,
 ⟨some 67, .pick, [.t 63, .c (.b true), .t 66], none⟩] [61, 62, 63, 64, 65, 66])
 (.cond (.t 67) [67]
 (.region false [⟨some 68, .mv, [.t 16], none⟩,
 ⟨some 10, .mv, [.t 68], none⟩] [16, 68])
 .skip)))))))))
 (.region false [⟨some 69, .bin .add, [.t 31, .c (.i 1)], none⟩,
 ⟨some 31, .mv, [.t 69], none⟩] [11, 12, 16, 69]))))
def F_impl_leastToCount_W0 : LC := .loop F_impl_leastToCount_L0
def F_impl_leastToCount : LF :=
 { nparams := 4, results := [.t 8], body :=
 (.seq
 (.region false [⟨some 8, .mv, [.c (.i 0)], none⟩] [8])
 (.seq
 (.seq
 (.region false [⟨some 17, .mv, [.t 2], none⟩,
 ⟨some 18, .bin .eql, [.t 17, .c (.i 0)], none⟩,
 ⟨some 19, .mv, [.t 18], none⟩,
 ⟨some 20, .mv, [.t 1], some (19, false)⟩,
 ⟨some 21, .call n_impl_sizeOf 10752, [.t 20], some (19, false)⟩,
 ⟨some 22, .mv, [.t 2], some (19, false)⟩,
 ⟨some 23, .bin .lss, [.t 21, .t 22], some (19, false)⟩,
 ⟨some 24, .pick, [.t 19, .c (.b true), .t 23], none⟩] [17, 18, 19, 20, 21, 22, 23])
 (.cond (.t 24) [24]
 (.seq
 (.region false [⟨some 8, .mv, [.c (.i 0)], none⟩] [0, 1, 2, 3])
 .ret)
 .skip))
 (.seq
 (.region false [⟨some 25, .mv, [.t 3], none⟩,
 ⟨some 26, .mv, [.t 1], none⟩,
 ⟨some 27, .mv, [.t 2], none⟩,
 ⟨some 28, .calld 14336, [.t 25, .t 26, .t 27], none⟩,
 ⟨some 9, .mv, [.t 28], none⟩,
 ⟨some 10, .mv, [.c (.i (-1))], none⟩] [25, 26, 27, 28])
 (.seq
 (.seq
 (.region false [⟨some 29, .mv, [.t 0], none⟩,
 ⟨some 30, .len, [.t 29], none⟩,
 ⟨some 31, .mv, [.c (.i 0)], none⟩] [])
 (.block 0
 F_impl_leastToCount_W0))
 (.seq
 (.region false [⟨some 70, .mv, [.t 10], none⟩,
 ⟨some 8, .mv, [.t 70], none⟩] [0, 1, 2, 3, 9, 10, 29, 30, 31, 70])
 .ret))))) }
/-- impl.allOf -/
def F_impl_allOf : LF :=
 { nparams := 1, results := [.t 2], body :=
 (.seq
 (.region false [⟨some 2, .mv, [.c (.i 0)], none⟩] [2])
 (.seq
 (.region false [⟨some 3, .mv, [.t 0], none⟩,
 ⟨some 4, .len, [.t 3], none⟩,
 ⟨some 5, .call n_impl_statesOf 2560, [.t 4], none⟩,
 ⟨some 6, .bin .sub, [.t 5, .c (.i 1)], none⟩,
 ⟨some 2, .mv, [.t 6], none⟩] [0, 3, 4, 5, 6])
 .ret)) }
/-- impl.CountBest$1 -/
def F_impl_CountBest_1 : LF :=
 { nparams := 2, results := [.t 4], body :=
 (.seq
 (.region false [⟨some 4, .mv, [.c (.i 0)], none⟩] [1, 4])
 (.seq
 (.region false [⟨some 5, .mv, [.t 0], none⟩,
 ⟨some 4, .mv, [.t 5], none⟩] [0, 5])
 .ret)) }
/-- impl.manyOk -/
def F_impl_manyOk : LF :=
 { nparams := 1, results := [.t 2], body :=
 (.seq
 (.region false [⟨some 2, .mv, [.c (.b false)], none⟩] [2])
 (.seq
 (.region false [⟨some 3, .mv, [.t 0], none⟩,
 ⟨some 4, .call n_impl_isWithin 2048, [.t 3, .c (.i 1), .c (.i 5)], none⟩,
 ⟨some 2, .mv, [.t 4], none⟩] [0, 3, 4])
 .ret)) }
/-- bits.OnesCount -/
def F_math_bits_OnesCount : LF :=
 { nparams := 1, results := [.t 2], body :=
 (.seq
 (.region false [⟨some 2, .mv, [.c (.i 0)], none⟩] [2])
 (.seq
 (.cond (.c (.b false)) []
 (.seq
 .void
 .ret)
 .skip)
 (.seq
 (.region false [⟨some 6, .mv, [.t 0], none⟩,
 ⟨some 7, .call n_math_bits_OnesCount64 3584, [.t 6], none⟩,
 ⟨some 2, .mv, [.t 7], none⟩] [0, 6, 7])
 .ret))) }
/-- impl.StateOk -/
def F_impl_StateOk : LF :=
 { nparams := 2, results := [.t 4], body :=
 (.seq
 (.region false [⟨some 4, .mv, [.c (.b false)], none⟩] [4])
 (.seq
 (.region false [⟨some 5, .mv, [.t 0], none⟩,
 ⟨some 6, .call n_impl_manyOk 3072, [.t 5], none⟩,
 ⟨some 7, .mv, [.t 6], none⟩,
 ⟨some 8, .mv, [.t 1], some (7, true)⟩,
 ⟨some 9, .mv, [.t 0], some (7, true)⟩,
 ⟨some 10, .call n_impl_statesOf 5120, [.t 9], some (7, true)⟩,
 ⟨some 11, .bin .sub, [.t 10, .c (.i 1)], some (7, true)⟩,
 ⟨some 12, .call n_impl_isWithin 6144, [.t 8, .c (.i 0), .t 11], some (7, true)⟩,
 ⟨some 13, .pick, [.t 7, .t 12, .c (.b false)], none⟩,
 ⟨some 4, .mv, [.t 13], none⟩] [0, 1, 5, 6, 7, 8, 9, 10, 11, 12, 13])
 .ret)) }
/-- impl.outcomeIn -/
def F_impl_outcomeIn : LF :=
 { nparams := 2, results := [.t 4], body :=
 (.seq
 (.region false [⟨some 4, .mv, [.c (.i 0)], none⟩] [4])
 (.seq
 (.region false [⟨some 5, .mv, [.t 0], none⟩,
 ⟨some 6, .mv, [.t 1], none⟩,
 ⟨some 7, .bin .shr, [.t 5, .t 6], none⟩,
 ⟨some 8, .bin .and, [.t 7, .c (.i 1)], none⟩,
 ⟨some 4, .mv, [.t 8], none⟩] [0, 1, 5, 6, 7, 8])
 .ret)) }
/-- impl.hasTest -/
def F_impl_hasTest : LF :=
 { nparams := 2, results := [.t 4], body :=
 (.seq
 (.region false [⟨some 4, .mv, [.c (.b false)], none⟩] [4])
 (.seq
 (.region false [⟨some 5, .mv, [.t 0], none⟩,
 ⟨some 6, .mv, [.t 1], none⟩,
 ⟨some 7, .bin .shr, [.t 5, .t 6], none⟩,
 ⟨some 8, .bin .and, [.t 7, .c (.i 1)], none⟩,
 ⟨some 9, .bin .eql, [.t 8, .c (.i 1)], none⟩,
 ⟨some 4, .mv, [.t 9], none⟩] [0, 1, 5, 6, 7, 8, 9])
 .ret)) }
/-- impl.averageAsking -/
def F_impl_averageAsking : LF :=
 { nparams := 4, results := [.t 8], body :=
 (.seq
 (.region false [⟨some 4, .box 2064, [.t 0], none⟩,
 ⟨some 8, .mv, [.c (.i 0)], none⟩] [0, 8])
 (.seq
 (.region true [⟨some 9, .fld 0 1 false, [.t 4], none⟩,
 ⟨some 10, .load 1 false, [.t 9], none⟩,
 ⟨some 11, .mv, [.t 1], none⟩,
 ⟨some 12, .call n_impl_wholeOf 6144, [.t 11], none⟩,
 ⟨some 13, .bin .mul, [.t 10, .t 12], none⟩,
 ⟨some 14, .fld 1 1 false, [.t 4], none⟩,
 ⟨some 15, .load 1 false, [.t 14], none⟩,
 ⟨some 16, .bin .sub, [.c (.i 6), .t 15], none⟩,
 ⟨some 17, .mv, [.t 2], none⟩,
 ⟨some 18, .bin .mul, [.t 16, .t 17], none⟩,
 ⟨some 19, .bin .add, [.t 13, .t 18], none⟩,
 ⟨some 20, .fld 1 1 false, [.t 4], none⟩,
 ⟨some 21, .load 1 false, [.t 20], none⟩,
 ⟨some 22, .mv, [.t 3], none⟩,
 ⟨some 23, .bin .mul, [.t 21, .t 22], none⟩,
 ⟨some 24, .bin .add, [.t 19, .t 23], none⟩,
 ⟨some 8, .mv, [.t 24], none⟩] [1, 2, 3, 4, 9, 10, 11, 12, 13, 14, 15, 16, 17, 18, 19, 20, 21, 22, 23, 24])
 .ret)) }
/-- bits.OnesCount64 -/
def F_math_bits_OnesCount64 : LF :=
 { nparams := 1, results := [.t 2], body :=
 (.seq
 (.region false [⟨some 2, .mv, [.c (.i 0)], none⟩] [2])
 (.seq
 (.region false [⟨some 3, .mv, [.t 0], none⟩,
 ⟨some 4, .bin .shr, [.t 3, .c (.q 1)], none⟩,
 ⟨some 5, .bin .and, [.t 4, .c (.q 6148914691236517205)], none⟩,
 ⟨some 6, .mv, [.t 0], none⟩,
 ⟨some 7, .bin .and, [.t 6, .c (.q 6148914691236517205)], none⟩,
 ⟨some 8, .bin .add, [.t 5, .t 7], none⟩,
 ⟨some 0, .mv, [.t 8], none⟩] [3, 4, 5, 6, 7, 8])
 (.seq
 (.region false [⟨some 9, .mv, [.t 0], none⟩,
 ⟨some 10, .bin .shr, [.t 9, .c (.q 2)], none⟩,
 ⟨some 11, .bin .and, [.t 10, .c (.q 3689348814741910323)], none⟩,
 ⟨some 12, .mv, [.t 0], none⟩,
 ⟨some 13, .bin .and, [.t 12, .c (.q 3689348814741910323)], none⟩,
 ⟨some 14, .bin .add, [.t 11, .t 13], none⟩,
 ⟨some 0, .mv, [.t 14], none⟩] [9, 10, 11, 12, 13, 14])
 (.seq
 (.region false [⟨some 15, .mv, [.t 0], none⟩,
 ⟨some 16, .bin .shr, [.t 15, .c (.q 4)], none⟩,
 ⟨some 17, .mv, [.t 0], none⟩,
 ⟨some 18, .bin .add, [.t 16, .t 17], none⟩,
 ⟨some 19, .bin .and, [.t 18, .c (.q 1085102592571150095)], none⟩,
 ⟨some 0, .mv, [.t 19], none⟩] [15, 16, 17, 18, 19])
 (.seq
 (.region false [⟨some 20, .mv, [.t 0], none⟩,
 ⟨some 21, .mv, [.t 0], none⟩,
 ⟨some 22, .bin .shr, [.t 21, .c (.q 8)], none⟩,
 ⟨some 23, .bin .add, [.t 20, .t 22], none⟩,
 ⟨some 0, .mv, [.t 23], none⟩] [20, 21, 22, 23])
 (.seq
 (.region false [⟨some 24, .mv, [.t 0], none⟩,
 ⟨some 25, .mv, [.t 0], none⟩,
 ⟨some 26, .bin .shr, [.t 25, .c (.q 16)], none⟩,
 ⟨some 27, .bin .add, [.t 24, .t 26], none⟩,
 ⟨some 0, .mv, [.t 27], none⟩] [24, 25, 26, 27])
 (.seq
 (.region false [⟨some 28, .mv, [.t 0], none⟩,
 ⟨some 29, .mv, [.t 0], none⟩,
 ⟨some 30, .bin .shr, [.t 29, .c (.q 32)], none⟩,
 ⟨some 31, .bin .add, [.t 28, .t 30], none⟩,
 ⟨some 0, .mv, [.t 31], none⟩] [28, 29, 30, 31])
 (.seq
 (.region false [⟨some 32, .mv, [.t 0], none⟩,
 ⟨some 33, .conv .q2i 16896, [.t 32], none⟩,
 ⟨some 34, .bin .and, [.t 33, .c (.i 127)], none⟩,
 ⟨some 2, .mv, [.t 34], none⟩] [0, 32, 33, 34])
 .ret)))))))) }
/-- impl.wholeOf -/
def F_impl_wholeOf_L0 : LC :=
 (.seq
 (.region false [⟨some 6, .bin .lss, [.t 5, .t 4], none⟩] [])
 (.seq
 (.cond (.t 6) [6]
 .skip
 (.exit 0))
 (.seq
 (.block 1
 (.region false [⟨some 7, .mv, [.t 3], none⟩,
 ⟨some 8, .bin .mul, [.t 7, .c (.i 6)], none⟩,
 ⟨some 3, .mv, [.t 8], none⟩] [7, 8]))
 (.region false [⟨some 9, .bin .add, [.t 5, .c (.i 1)], none⟩,
 ⟨some 5, .mv, [.t 9], none⟩] [9]))))
def F_impl_wholeOf_W0 : LC := .loop F_impl_wholeOf_L0
def F_impl_wholeOf : LF :=
 { nparams := 1, results := [.t 2], body :=
 (.seq
 (.region false [⟨some 2, .mv, [.c (.i 0)], none⟩] [2])
 (.seq
 (.region false [⟨some 3, .mv, [.c (.i 1)], none⟩] [])
 (.seq
 (.seq
 (.region false [⟨some 4, .mv, [.t 0], none⟩,
 ⟨some 5, .mv, [.c (.i 0)], none⟩] [0])
 (.block 0
 F_impl_wholeOf_W0))
 (.seq
 (.region false [⟨some 10, .mv, [.t 3], none⟩,
 ⟨some 2, .mv, [.t 10], none⟩] [3, 4, 5, 10])
 .ret)))) }
def lf : Nat → Option LF
 | 3 => some F_laws_FnExactCountOk
 | 4 => some F_laws_FnExactCountWeight
 | 5 => some F_laws_FnExactCountBest
 | 8 => some F_laws_szTestS
 | 9 => some F_spec_CountOk
 | 10 => some F_laws_toTestS
 | 11 => some F_impl_CountOk
 | 12 => some F_laws_eqTestS
 | 13 => some F_spec_CountWeight
 | 14 => some F_impl_CountWeight
 | 15 => some F_spec_CountBest
 | 16 => some F_impl_CountBest
 | 30 => some F_spec_TestsOk
 | 31 => some F_spec_l1In
 | 32 => some F_laws_toTest
 | 33 => some F_impl_TestsOk
 | 34 => some F_impl_isWithin
 | 35 => some F_laws_eqTest
 | 36 => some F_spec_l8Heads
 | 37 => some F_spec_l1Weight
 | 38 => some F_impl_statesOf
 | 39 => some F_impl_sizeOf
 | 40 => some F_impl_WeightOf
 | 41 => some F_spec_l8Best
 | 42 => some F_spec_l1Power
 | 43 => some F_impl_leastToCount
 | 44 => some F_impl_allOf
 | 45 => some F_impl_CountBest_1
 | 57 => some F_impl_manyOk
 | 58 => some F_math_bits_OnesCount
 | 59 => some F_impl_StateOk
 | 60 => some F_impl_outcomeIn
 | 61 => some F_impl_hasTest
 | 62 => some F_impl_averageAsking
 | 69 => some F_math_bits_OnesCount64
 | 70 => some F_impl_wholeOf
 | _ => none
theorem w_laws_toTestS_0 (S : LS) : ex lf F_laws_toTestS_W0 S = match ex lf F_laws_toTestS_L0 S with | some (.normal, S1) => ex lf F_laws_toTestS_W0 S1 | r => r := ex_loop lf F_laws_toTestS_L0 S
theorem w_laws_eqTestS_0 (S : LS) : ex lf F_laws_eqTestS_W0 S = match ex lf F_laws_eqTestS_L0 S with | some (.normal, S1) => ex lf F_laws_eqTestS_W0 S1 | r => r := ex_loop lf F_laws_eqTestS_L0 S
theorem w_spec_CountWeight_0 (S : LS) : ex lf F_spec_CountWeight_W0 S = match ex lf F_spec_CountWeight_L0 S with | some (.normal, S1) => ex lf F_spec_CountWeight_W0 S1 | r => r := ex_loop lf F_spec_CountWeight_L0 S
theorem w_impl_CountWeight_0 (S : LS) : ex lf F_impl_CountWeight_W0 S = match ex lf F_impl_CountWeight_L0 S with | some (.normal, S1) => ex lf F_impl_CountWeight_W0 S1 | r => r := ex_loop lf F_impl_CountWeight_L0 S
theorem w_spec_TestsOk_0 (S : LS) : ex lf F_spec_TestsOk_W0 S = match ex lf F_spec_TestsOk_L0 S with | some (.normal, S1) => ex lf F_spec_TestsOk_W0 S1 | r => r := ex_loop lf F_spec_TestsOk_L0 S
theorem w_impl_TestsOk_0 (S : LS) : ex lf F_impl_TestsOk_W0 S = match ex lf F_impl_TestsOk_L0 S with | some (.normal, S1) => ex lf F_impl_TestsOk_W0 S1 | r => r := ex_loop lf F_impl_TestsOk_L0 S
theorem w_spec_l8Heads_0 (S : LS) : ex lf F_spec_l8Heads_W0 S = match ex lf F_spec_l8Heads_L0 S with | some (.normal, S1) => ex lf F_spec_l8Heads_W0 S1 | r => r := ex_loop lf F_spec_l8Heads_L0 S
theorem w_spec_l1Weight_0 (S : LS) : ex lf F_spec_l1Weight_W0 S = match ex lf F_spec_l1Weight_L0 S with | some (.normal, S1) => ex lf F_spec_l1Weight_W0 S1 | r => r := ex_loop lf F_spec_l1Weight_L0 S
theorem w_impl_WeightOf_0 (S : LS) : ex lf F_impl_WeightOf_W0 S = match ex lf F_impl_WeightOf_L0 S with | some (.normal, S1) => ex lf F_impl_WeightOf_W0 S1 | r => r := ex_loop lf F_impl_WeightOf_L0 S
theorem w_spec_l8Best_0 (S : LS) : ex lf F_spec_l8Best_W0 S = match ex lf F_spec_l8Best_L0 S with | some (.normal, S1) => ex lf F_spec_l8Best_W0 S1 | r => r := ex_loop lf F_spec_l8Best_L0 S
theorem w_spec_l1Power_0 (S : LS) : ex lf F_spec_l1Power_W0 S = match ex lf F_spec_l1Power_L0 S with | some (.normal, S1) => ex lf F_spec_l1Power_W0 S1 | r => r := ex_loop lf F_spec_l1Power_L0 S
theorem w_impl_leastToCount_0 (S : LS) : ex lf F_impl_leastToCount_W0 S = match ex lf F_impl_leastToCount_L0 S with | some (.normal, S1) => ex lf F_impl_leastToCount_W0 S1 | r => r := ex_loop lf F_impl_leastToCount_L0 S
theorem w_impl_wholeOf_0 (S : LS) : ex lf F_impl_wholeOf_W0 S = match ex lf F_impl_wholeOf_L0 S with | some (.normal, S1) => ex lf F_impl_wholeOf_W0 S1 | r => r := ex_loop lf F_impl_wholeOf_L0 S
end Zz
