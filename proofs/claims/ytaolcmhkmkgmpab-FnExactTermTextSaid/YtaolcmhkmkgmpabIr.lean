/- The functions of the program, read as data. No conditions. -/
import Derived.Test.YtaolcmhkmkgmpabLgC
set_option linter.unusedSectionVars false
set_option linter.unusedVariables false
set_option linter.unusedSimpArgs false
namespace Zz
open Go.Lg
instance : GL := ⟨[], [19], ["l4_orders.go:82"], []⟩
def n_laws_FnTermText : Nat := 3
def n_laws_FnReadTerm : Nat := 4
def n_laws_FnExactTermText : Nat := 5
def n_laws_FnExactReadTerm : Nat := 6
def n_spec_DrawTermText : Nat := 7
def n_impl_TermText : Nat := 8
def n_spec_TermText : Nat := 9
def n_impl_TermOk : Nat := 10
def n_laws_alive : Nat := 11
def n_impl_ReadTerm : Nat := 12
def n_laws_sameMarks : Nat := 13
def n_spec_DrawReadTerm : Nat := 14
def n_spec_ReadTerm : Nat := 15
def n_laws_szMarkS : Nat := 16
def n_laws_toMarkS : Nat := 17
def n_laws_eqMarkS : Nat := 18
def n_laws_markMarkS : Nat := 19
def n_laws_heldMarkS : Nat := 20
def n_spec_l20Asked : Nat := 21
def n_spec_l20Open : Nat := 22
def n_impl_foldTerm_impl_writtenPart : Nat := 23
def n_impl_writePart : Nat := 24
def n_spec_TermOk : Nat := 25
def n_spec_l2Text : Nat := 26
def n_impl_manyOk : Nat := 27
def n_impl_isWithin : Nat := 28
def n_impl_partsTaken : Nat := 29
def n_impl_markOk : Nat := 30
def n_impl_TestsOk : Nat := 31
def n_impl_readOr : Nat := 32
def n_spec_l20Rd_pick : Nat := 33
def n_spec_l20Term : Nat := 34
def n_spec_l2Or : Nat := 35
def n_laws_toMark : Nat := 36
def n_laws_eqMark : Nat := 37
def n_impl_bracketedFrom : Nat := 38
def n_spec_l1In : Nat := 39
def n_spec_l2Held : Nat := 40
def n_spec_l2Starts : Nat := 41
def n_impl_readRow : Nat := 42
def n_impl_readAnd : Nat := 43
def n_spec_l20Rd_odd : Nat := 44
def n_spec_l2And : Nat := 45
def n_impl_readNot : Nat := 46
def n_spec_l2Atom : Nat := 47
def n_impl_readLetter : Nat := 48
/-- laws.FnTermText -/
def F_laws_FnTermText : LF :=
 { nparams := 1, results := [.t 2], body :=
 (.seq
 (.region false [⟨some 2, .mv, [.c (.b false)], none⟩] [2])
 (.seq
 (.seq
 (.region false [⟨some 8, .mv, [.t 0], none⟩,
 ⟨some 9, .len, [.t 8], none⟩,
 ⟨some 10, .bin .gtr, [.t 9, .c (.i 1048576)], none⟩] [8, 9])
 (.cond (.t 10) [10]
 (.seq
 (.region false [⟨some 2, .mv, [.c (.b true)], none⟩] [0])
 .ret)
 .skip))
 (.seq
 (.region false [⟨some 12, .mv, [.t 0], none⟩,
 ⟨some 13, .call n_spec_DrawTermText 6656, [.t 12], none⟩,
 ⟨some 11, .mv, [.t 13], none⟩,
 ⟨some 14, .ext 0, [.t 11], none⟩,
 ⟨some 15, .ext 1, [.t 11], none⟩,
 ⟨some 3, .mv, [.t 14], none⟩,
 ⟨some 4, .mv, [.t 15], none⟩] [0, 11, 12, 13, 14, 15])
 (.seq
 (.region false [⟨some 16, .mv, [.t 3], none⟩,
 ⟨some 17, .mv, [.t 4], none⟩,
 ⟨some 18, .call n_impl_TermText 9216, [.t 16, .t 17], none⟩,
 ⟨some 5, .mv, [.t 18], none⟩] [16, 17, 18])
 (.seq
 (.seq
 (.region false [⟨some 19, .mv, [.t 5], none⟩,
 ⟨some 20, .mv, [.t 3], none⟩,
 ⟨some 21, .mv, [.t 4], none⟩,
 ⟨some 22, .call n_spec_TermText 11264, [.t 20, .t 21], none⟩,
 ⟨some 23, .bin .neq, [.t 19, .t 22], none⟩] [19, 20, 21, 22])
 (.cond (.t 23) [23]
 (.seq
 (.region false [⟨some 2, .mv, [.c (.b false)], none⟩] [3, 4, 5])
 .ret)
 .skip))
 (.seq
 (.seq
 (.region false [⟨some 24, .mv, [.t 5], none⟩,
 ⟨some 25, .bin .eql, [.t 24, .c (.s [])], none⟩] [24])
 (.cond (.t 25) [25]
 (.seq
 (.region false [⟨some 26, .mv, [.t 3], none⟩,
 ⟨some 27, .mv, [.t 4], none⟩,
 ⟨some 28, .call n_impl_TermOk 14336, [.t 26, .t 27], none⟩,
 ⟨some 29, .un .not, [.t 28], none⟩,
 ⟨some 30, .mv, [.t 29], none⟩,
 ⟨some 31, .call n_laws_alive 15872, [], some (30, true)⟩,
 ⟨some 32, .pick, [.t 30, .t 31, .c (.b false)], none⟩,
 ⟨some 2, .mv, [.t 32], none⟩] [3, 4, 5, 26, 27, 28, 29, 30, 31, 32])
 .ret)
 .skip))
 (.seq
 (.region false [⟨some 34, .mv, [.t 3], none⟩,
 ⟨some 35, .mv, [.t 5], none⟩,
 ⟨some 36, .call n_impl_ReadTerm 18432, [.t 34, .t 35], none⟩,
 ⟨some 33, .mv, [.t 36], none⟩,
 ⟨some 37, .ext 0, [.t 33], none⟩,
 ⟨some 38, .ext 1, [.t 33], none⟩,
 ⟨some 6, .mv, [.t 37], none⟩,
 ⟨some 7, .mv, [.t 38], none⟩] [3, 5, 33, 34, 35, 36, 37, 38])
 (.seq
 (.region false [⟨some 39, .mv, [.t 7], none⟩,
 ⟨some 40, .mv, [.t 39], none⟩,
 ⟨some 41, .mv, [.t 6], some (40, true)⟩,
 ⟨some 42, .mv, [.t 4], some (40, true)⟩,
 ⟨some 43, .call n_laws_sameMarks 22016, [.t 41, .t 42], some (40, true)⟩,
 ⟨some 44, .pick, [.t 40, .t 43, .c (.b false)], none⟩,
 ⟨some 2, .mv, [.t 44], none⟩] [4, 6, 7, 39, 40, 41, 42, 43, 44])
 .ret)))))))) }
/-- laws.FnReadTerm -/
def F_laws_FnReadTerm : LF :=
 { nparams := 1, results := [.t 2], body :=
 (.seq
 (.region false [⟨some 2, .mv, [.c (.b false)], none⟩] [2])
 (.seq
 (.seq
 (.region false [⟨some 11, .mv, [.t 0], none⟩,
 ⟨some 12, .len, [.t 11], none⟩,
 ⟨some 13, .bin .gtr, [.t 12, .c (.i 1048576)], none⟩] [11, 12])
 (.cond (.t 13) [13]
 (.seq
 (.region false [⟨some 2, .mv, [.c (.b true)], none⟩] [0])
 .ret)
 .skip))
 (.seq
 (.region false [⟨some 15, .mv, [.t 0], none⟩,
 ⟨some 16, .call n_spec_DrawReadTerm 8192, [.t 15], none⟩,
 ⟨some 14, .mv, [.t 16], none⟩,
 ⟨some 17, .ext 0, [.t 14], none⟩,
 ⟨some 18, .ext 1, [.t 14], none⟩,
 ⟨some 3, .mv, [.t 17], none⟩,
 ⟨some 4, .mv, [.t 18], none⟩] [0, 14, 15, 16, 17, 18])
 (.seq
 (.region false [⟨some 20, .mv, [.t 3], none⟩,
 ⟨some 21, .mv, [.t 4], none⟩,
 ⟨some 22, .call n_impl_ReadTerm 11264, [.t 20, .t 21], none⟩,
 ⟨some 19, .mv, [.t 22], none⟩,
 ⟨some 23, .ext 0, [.t 19], none⟩,
 ⟨some 24, .ext 1, [.t 19], none⟩,
 ⟨some 5, .mv, [.t 23], none⟩,
 ⟨some 6, .mv, [.t 24], none⟩] [19, 20, 21, 22, 23, 24])
 (.seq
 (.region false [⟨some 26, .mv, [.t 3], none⟩,
 ⟨some 27, .mv, [.t 4], none⟩,
 ⟨some 28, .call n_spec_ReadTerm 14336, [.t 26, .t 27], none⟩,
 ⟨some 25, .mv, [.t 28], none⟩,
 ⟨some 29, .ext 0, [.t 25], none⟩,
 ⟨some 30, .ext 1, [.t 25], none⟩,
 ⟨some 7, .mv, [.t 29], none⟩,
 ⟨some 8, .mv, [.t 30], none⟩] [25, 26, 27, 28, 29, 30])
 (.seq
 (.seq
 (.region false [⟨some 31, .mv, [.t 5], none⟩,
 ⟨some 32, .mv, [.t 7], none⟩,
 ⟨some 33, .call n_laws_sameMarks 16896, [.t 31, .t 32], none⟩,
 ⟨some 34, .un .not, [.t 33], none⟩,
 ⟨some 35, .mv, [.t 34], none⟩,
 ⟨some 36, .mv, [.t 6], some (35, false)⟩,
 ⟨some 37, .mv, [.t 8], some (35, false)⟩,
 ⟨some 38, .eqb true, [.t 36, .t 37], some (35, false)⟩,
 ⟨some 39, .pick, [.t 35, .c (.b true), .t 38], none⟩] [7, 8, 31, 32, 33, 34, 35, 36, 37, 38])
 (.cond (.t 39) [39]
 (.seq
 (.region false [⟨some 2, .mv, [.c (.b false)], none⟩] [3, 4, 5, 6])
 .ret)
 .skip))
 (.seq
 (.seq
 (.region false [⟨some 40, .mv, [.t 6], none⟩,
 ⟨some 41, .un .not, [.t 40], none⟩] [6, 40])
 (.cond (.t 41) [41]
 (.seq
 (.region false [⟨some 42, .mv, [.t 5], none⟩,
 ⟨some 43, .len, [.t 42], none⟩,
 ⟨some 44, .bin .eql, [.t 43, .c (.i 0)], none⟩,
 ⟨some 45, .mv, [.t 44], none⟩,
 ⟨some 46, .call n_laws_alive 23552, [], some (45, true)⟩,
 ⟨some 47, .pick, [.t 45, .t 46, .c (.b false)], none⟩,
 ⟨some 2, .mv, [.t 47], none⟩] [3, 4, 5, 42, 43, 44, 45, 46, 47])
 .ret)
 .skip))
 (.seq
 (.region false [⟨some 49, .mv, [.t 3], none⟩,
 ⟨some 50, .mv, [.t 4], none⟩,
 ⟨some 51, .bin .add, [.c (.s [40]), .t 50], none⟩,
 ⟨some 52, .bin .add, [.t 51, .c (.s [41])], none⟩,
 ⟨some 53, .call n_impl_ReadTerm 27136, [.t 49, .t 52], none⟩,
 ⟨some 48, .mv, [.t 53], none⟩,
 ⟨some 54, .ext 0, [.t 48], none⟩,
 ⟨some 55, .ext 1, [.t 48], none⟩,
 ⟨some 9, .mv, [.t 54], none⟩,
 ⟨some 10, .mv, [.t 55], none⟩] [9, 48, 49, 50, 51, 52, 53, 54, 55])
 (.seq
 (.region false [⟨some 56, .mv, [.t 3], none⟩,
 ⟨some 57, .mv, [.t 5], none⟩,
 ⟨some 58, .call n_impl_TermText 29696, [.t 56, .t 57], none⟩,
 ⟨some 59, .mv, [.t 4], none⟩,
 ⟨some 60, .bin .eql, [.t 58, .t 59], none⟩,
 ⟨some 61, .mv, [.t 60], none⟩,
 ⟨some 62, .mv, [.t 3], some (61, true)⟩,
 ⟨some 63, .mv, [.t 5], some (61, true)⟩,
 ⟨some 64, .call n_impl_TermOk 32768, [.t 62, .t 63], some (61, true)⟩,
 ⟨some 65, .pick, [.t 61, .t 64, .c (.b false)], none⟩,
 ⟨some 66, .mv, [.t 65], none⟩,
 ⟨some 67, .mv, [.t 10], some (66, true)⟩,
 ⟨some 68, .un .not, [.t 67], some (66, true)⟩,
 ⟨some 69, .pick, [.t 66, .t 68, .c (.b false)], none⟩,
 ⟨some 2, .mv, [.t 69], none⟩] [3, 4, 5, 10, 56, 57, 58, 59, 60, 61, 62, 63, 64, 65, 66, 67, 68, 69])
 .ret))))))))) }
/-- laws.FnExactTermText -/
def F_laws_FnExactTermText : LF :=
 { nparams := 2, results := [.t 4], body :=
 (.seq
 (.region false [⟨some 4, .mv, [.c (.b false)], none⟩] [4])
 (.seq
 (.region false [⟨some 5, .mv, [.c (.i 1048576)], none⟩] [])
 (.seq
 (.region false [⟨some 9, .mv, [.t 1], none⟩,
 ⟨some 10, .mv, [.t 5], none⟩,
 ⟨some 11, .call n_laws_szMarkS 5632, [.t 9, .t 10], none⟩,
 ⟨some 5, .mv, [.t 11], none⟩] [9, 10, 11])
 (.seq
 (.seq
 (.region false [⟨some 12, .mv, [.t 5], none⟩,
 ⟨some 13, .bin .lss, [.t 12, .c (.i 0)], none⟩] [5, 12])
 (.cond (.t 13) [13]
 (.seq
 (.region false [⟨some 4, .mv, [.c (.b true)], none⟩] [0, 1])
 .ret)
 .skip))
 (.seq
 (.region false [⟨some 14, .mv, [.t 0], none⟩,
 ⟨some 15, .mv, [.t 1], none⟩,
 ⟨some 16, .call n_laws_toMarkS 8192, [.t 15], none⟩,
 ⟨some 17, .call n_spec_TermText 8704, [.t 14, .t 16], none⟩,
 ⟨some 6, .mv, [.t 17], none⟩] [14, 15, 16, 17])
 (.seq
 (.region false [⟨some 18, .mv, [.t 1], none⟩,
 ⟨some 19, .call n_laws_toMarkS 9728, [.t 18], none⟩,
 ⟨some 7, .mv, [.t 19], none⟩] [18, 19])
 (.seq
 (.region false [⟨some 20, .mv, [.t 0], none⟩,
 ⟨some 21, .mv, [.t 7], none⟩,
 ⟨some 22, .call n_impl_TermText 11264, [.t 20, .t 21], none⟩,
 ⟨some 8, .mv, [.t 22], none⟩] [0, 20, 21, 22])
 (.seq
 (.seq
 (.region false [⟨some 23, .mv, [.t 8], none⟩,
 ⟨some 24, .mv, [.t 6], none⟩,
 ⟨some 25, .bin .neq, [.t 23, .t 24], none⟩] [6, 8, 23, 24])
 (.cond (.t 25) [25]
 (.seq
 (.region false [⟨some 4, .mv, [.c (.b false)], none⟩] [1, 7])
 .ret)
 .skip))
 (.seq
 (.seq
 (.region false [⟨some 26, .mv, [.t 7], none⟩,
 ⟨some 27, .mv, [.t 1], none⟩,
 ⟨some 28, .call n_laws_toMarkS 14336, [.t 27], none⟩,
 ⟨some 29, .call n_laws_eqMarkS 14848, [.t 26, .t 28], none⟩,
 ⟨some 30, .un .not, [.t 29], none⟩] [1, 7, 26, 27, 28, 29])
 (.cond (.t 30) [30]
 (.seq
 (.region false [⟨some 4, .mv, [.c (.b false)], none⟩] [])
 .ret)
 .skip))
 (.seq
 (.region false [⟨some 4, .mv, [.c (.b true)], none⟩] [])
 .ret)))))))))) }
/-- laws.FnExactReadTerm -/
def F_laws_FnExactReadTerm : LF :=
 { nparams := 2, results := [.t 4], body :=
 (.seq
 (.region false [⟨some 4, .mv, [.c (.b false)], none⟩] [4])
 (.seq
 (.seq
 (.region false [⟨some 13, .mv, [.t 1], none⟩,
 ⟨some 14, .lens, [.t 13], none⟩,
 ⟨some 15, .bin .gtr, [.t 14, .c (.i 1048576)], none⟩] [13, 14])
 (.cond (.t 15) [15]
 (.seq
 (.region false [⟨some 4, .mv, [.c (.b true)], none⟩] [0, 1])
 .ret)
 .skip))
 (.seq
 (.region false [⟨some 17, .mv, [.t 0], none⟩,
 ⟨some 18, .mv, [.t 1], none⟩,
 ⟨some 19, .call n_spec_ReadTerm 9728, [.t 17, .t 18], none⟩,
 ⟨some 16, .mv, [.t 19], none⟩,
 ⟨some 20, .ext 0, [.t 16], none⟩,
 ⟨some 21, .ext 1, [.t 16], none⟩,
 ⟨some 5, .mv, [.t 20], none⟩,
 ⟨some 6, .mv, [.t 21], none⟩] [16, 17, 18, 19, 20, 21])
 (.seq
 (.region false [⟨some 23, .mv, [.t 0], none⟩,
 ⟨some 24, .mv, [.t 1], none⟩,
 ⟨some 25, .call n_impl_ReadTerm 12800, [.t 23, .t 24], none⟩,
 ⟨some 22, .mv, [.t 25], none⟩,
 ⟨some 26, .ext 0, [.t 22], none⟩,
 ⟨some 27, .ext 1, [.t 22], none⟩,
 ⟨some 7, .mv, [.t 26], none⟩,
 ⟨some 8, .mv, [.t 27], none⟩] [22, 23, 24, 25, 26, 27])
 (.seq
 (.seq
 (.region false [⟨some 28, .mv, [.t 7], none⟩,
 ⟨some 29, .mv, [.t 5], none⟩,
 ⟨some 30, .call n_laws_eqMarkS 15360, [.t 28, .t 29], none⟩,
 ⟨some 31, .un .not, [.t 30], none⟩,
 ⟨some 32, .mv, [.t 31], none⟩,
 ⟨some 33, .mv, [.t 8], some (32, false)⟩,
 ⟨some 34, .mv, [.t 6], some (32, false)⟩,
 ⟨some 35, .eqb true, [.t 33, .t 34], some (32, false)⟩,
 ⟨some 36, .pick, [.t 32, .c (.b true), .t 35], none⟩] [8, 28, 29, 30, 31, 32, 33, 34, 35])
 (.cond (.t 36) [36]
 (.seq
 (.region false [⟨some 4, .mv, [.c (.b false)], none⟩] [0, 1, 5, 6, 7])
 .ret)
 .skip))
 (.seq
 (.region false [⟨some 9, .mv, [.c (.i 1)], none⟩] [])
 (.seq
 (.region false [⟨some 37, .mv, [.t 7], none⟩,
 ⟨some 38, .mv, [.t 9], none⟩,
 ⟨some 39, .call n_laws_markMarkS 19972, [.t 37, .t 38], none⟩,
 ⟨some 9, .mv, [.t 39], none⟩] [37, 38, 39])
 (.seq
 (.region false [⟨some 10, .mv, [.c (.i 1)], none⟩] [])
 (.seq
 (.region false [⟨some 40, .mv, [.t 7], none⟩,
 ⟨some 41, .mv, [.t 10], none⟩,
 ⟨some 42, .call n_laws_heldMarkS 21504, [.t 40, .t 41], none⟩,
 ⟨some 10, .mv, [.t 42], none⟩] [40, 41, 42])
 (.seq
 (.seq
 (.region false [⟨some 43, .mv, [.t 10], none⟩,
 ⟨some 44, .bin .lss, [.t 43, .c (.i 0)], none⟩] [43])
 (.cond (.t 44) [44]
 (.seq
 (.region false [⟨some 4, .mv, [.c (.b false)], none⟩] [0, 1, 5, 6, 7, 9, 10])
 .ret)
 .skip))
 (.seq
 (.seq
 (.region false [⟨some 45, .mv, [.t 10], none⟩,
 ⟨some 46, .mv, [.t 9], none⟩,
 ⟨some 47, .bin .neq, [.t 45, .t 46], none⟩] [10, 45, 46])
 (.cond (.t 47) [47]
 (.seq
 (.region false [⟨some 4, .mv, [.c (.b false)], none⟩] [0, 1, 5, 6, 7, 9])
 .ret)
 .skip))
 (.seq
 (.region false [⟨some 49, .mv, [.t 0], none⟩,
 ⟨some 50, .mv, [.t 1], none⟩,
 ⟨some 51, .call n_impl_ReadTerm 26112, [.t 49, .t 50], none⟩,
 ⟨some 48, .mv, [.t 51], none⟩,
 ⟨some 52, .ext 0, [.t 48], none⟩,
 ⟨some 53, .ext 1, [.t 48], none⟩,
 ⟨some 11, .mv, [.t 52], none⟩,
 ⟨some 12, .mv, [.t 53], none⟩] [0, 1, 48, 49, 50, 51, 52, 53])
 (.seq
 (.seq
 (.region false [⟨some 54, .mv, [.t 11], none⟩,
 ⟨some 55, .mv, [.t 5], none⟩,
 ⟨some 56, .call n_laws_eqMarkS 28672, [.t 54, .t 55], none⟩,
 ⟨some 57, .un .not, [.t 56], none⟩,
 ⟨some 58, .mv, [.t 57], none⟩,
 ⟨some 59, .mv, [.t 12], some (58, false)⟩,
 ⟨some 60, .mv, [.t 6], some (58, false)⟩,
 ⟨some 61, .eqb true, [.t 59, .t 60], some (58, false)⟩,
 ⟨some 62, .pick, [.t 58, .c (.b true), .t 61], none⟩] [5, 6, 11, 12, 54, 55, 56, 57, 58, 59, 60, 61])
 (.cond (.t 62) [62]
 (.seq
 (.region false [⟨some 4, .mv, [.c (.b false)], none⟩] [7, 9])
 .ret)
 .skip))
 (.seq
 (.region false [⟨some 10, .mv, [.c (.i 1)], none⟩] [])
 (.seq
 (.region false [⟨some 63, .mv, [.t 7], none⟩,
 ⟨some 64, .mv, [.t 10], none⟩,
 ⟨some 65, .call n_laws_heldMarkS 33280, [.t 63, .t 64], none⟩,
 ⟨some 10, .mv, [.t 65], none⟩] [7, 63, 64, 65])
 (.seq
 (.seq
 (.region false [⟨some 66, .mv, [.t 10], none⟩,
 ⟨some 67, .bin .lss, [.t 66, .c (.i 0)], none⟩] [66])
 (.cond (.t 67) [67]
 (.seq
 (.region false [⟨some 4, .mv, [.c (.b false)], none⟩] [9, 10])
 .ret)
 .skip))
 (.seq
 (.seq
 (.region false [⟨some 68, .mv, [.t 10], none⟩,
 ⟨some 69, .mv, [.t 9], none⟩,
 ⟨some 70, .bin .neq, [.t 68, .t 69], none⟩] [9, 10, 68, 69])
 (.cond (.t 70) [70]
 (.seq
 (.region false [⟨some 4, .mv, [.c (.b false)], none⟩] [])
 .ret)
 .skip))
 (.seq
 (.region false [⟨some 4, .mv, [.c (.b true)], none⟩] [])
 .ret)))))))))))))))))) }
/-- spec.DrawTermText -/
def F_spec_DrawTermText : LF :=
 { nparams := 1, results := [.t 2, .t 3], body :=
 (.seq
 (.region false [⟨some 2, .mv, [.c (.i 0)], none⟩,
 ⟨some 3, .newnil 1552, [], none⟩] [2, 3])
 (.seq
 (.region false [⟨some 4, .mv, [.t 0], none⟩,
 ⟨some 5, .call n_spec_l20Open 2560, [.t 4], none⟩,
 ⟨some 6, .call n_spec_l20Asked 3072, [.t 5, .c (.i 9)], none⟩,
 ⟨some 7, .ext 0, [.t 6], none⟩,
 ⟨some 8, .ext 1, [.t 6], none⟩,
 ⟨some 2, .mv, [.t 7], none⟩,
 ⟨some 3, .mv, [.t 8], none⟩] [0, 4, 5, 6, 7, 8])
 .ret)) }
/-- impl.TermText -/
def F_impl_TermText : LF :=
 { nparams := 2, results := [.t 4], body :=
 (.seq
 (.region false [⟨some 4, .mv, [.c (.s [])], none⟩] [4])
 (.seq
 (.seq
 (.region false [⟨some 5, .mv, [.t 0], none⟩,
 ⟨some 6, .mv, [.t 1], none⟩,
 ⟨some 7, .call n_impl_TermOk 3584, [.t 5, .t 6], none⟩,
 ⟨some 8, .un .not, [.t 7], none⟩] [0, 5, 6, 7])
 (.cond (.t 8) [8]
 (.seq
 (.region false [⟨some 4, .mv, [.c (.s [])], none⟩] [1])
 .ret)
 .skip))
 (.seq
 (.region false [⟨some 9, .mv, [.t 1], none⟩,
 ⟨some 10, .call n_impl_foldTerm_impl_writtenPart 5120, [.t 9, .c (.fn n_impl_writePart [])], none⟩,
 ⟨some 11, .fldv 0 1 false, [.t 10], none⟩,
 ⟨some 4, .mv, [.t 11], none⟩] [1, 9, 10, 11])
 .ret))) }
/-- spec.TermText -/
def F_spec_TermText : LF :=
 { nparams := 2, results := [.t 4], body :=
 (.seq
 (.region false [⟨some 4, .mv, [.c (.s [])], none⟩] [4])
 (.seq
 (.seq
 (.region false [⟨some 5, .mv, [.t 0], none⟩,
 ⟨some 6, .mv, [.t 1], none⟩,
 ⟨some 7, .call n_spec_TermOk 3584, [.t 5, .t 6], none⟩,
 ⟨some 8, .un .not, [.t 7], none⟩] [0, 5, 6, 7])
 (.cond (.t 8) [8]
 (.seq
 (.region false [⟨some 4, .mv, [.c (.s [])], none⟩] [1])
 .ret)
 .skip))
 (.seq
 (.region false [⟨some 9, .mv, [.t 1], none⟩,
 ⟨some 10, .call n_spec_l2Text 5120, [.t 9], none⟩,
 ⟨some 4, .mv, [.t 10], none⟩] [1, 9, 10])
 .ret))) }
/-- impl.TermOk -/
def F_impl_TermOk_L0 : LC :=
 (.seq
 (.region false [⟨some 21, .bin .lss, [.t 20, .t 19], none⟩] [])
 (.seq
 (.cond (.t 21) [21]
 .skip
 (.exit 0))
 (.seq
 (.block 1
 (.seq
 (.region false [⟨some 22, .idxa 2, [.t 18, .t 20], none⟩,
 ⟨some 23, .load 2 true, [.t 22], none⟩,
 ⟨some 7, .alloc 3600 (.st [.i 0, .i 0]), [], none⟩,
 ⟨none, .store 2, [.t 7, .t 23], none⟩] [22, 23])
 (.seq
 (.region false [⟨some 24, .fld 0 1 false, [.t 7], none⟩,
 ⟨some 25, .load 1 false, [.t 24], none⟩,
 ⟨some 26, .call n_impl_partsTaken 13312, [.t 25], none⟩,
 ⟨some 8, .mv, [.t 26], none⟩] [24, 25, 26])
 (.seq
 (.seq
 (.region false [⟨some 27, .mv, [.t 0], none⟩,
 ⟨some 28, .load 2 true, [.t 7], none⟩,
 ⟨some 29, .call n_impl_markOk 14848, [.t 27, .t 28], none⟩,
 ⟨some 30, .un .not, [.t 29], none⟩,
 ⟨some 31, .mv, [.t 30], none⟩,
 ⟨some 32, .mv, [.t 5], some (31, false)⟩,
 ⟨some 33, .mv, [.t 8], some (31, false)⟩,
 ⟨some 34, .bin .lss, [.t 32, .t 33], some (31, false)⟩,
 ⟨some 35, .pick, [.t 31, .c (.b true), .t 34], none⟩] [7, 27, 28, 29, 30, 31, 32, 33, 34])
 (.cond (.t 35) [35]
 (.seq
 (.region false [⟨some 4, .mv, [.c (.b false)], none⟩] [0, 5, 8, 18, 19, 20])
 .ret)
 .skip))
 (.region false [⟨some 36, .mv, [.t 5], none⟩,
 ⟨some 37, .mv, [.t 8], none⟩,
 ⟨some 38, .bin .sub, [.c (.i 1), .t 37], none⟩,
 ⟨some 39, .bin .add, [.t 36, .t 38], none⟩,
 ⟨some 5, .mv, [.t 39], none⟩] [8, 36, 37, 38, 39])))))
 (.region false [⟨some 40, .bin .add, [.t 20, .c (.i 1)], none⟩,
 ⟨some 20, .mv, [.t 40], none⟩] [40]))))
def F_impl_TermOk_W0 : LC := .loop F_impl_TermOk_L0
def F_impl_TermOk : LF :=
 { nparams := 2, results := [.t 4], body :=
 (.seq
 (.region false [⟨some 4, .mv, [.c (.b false)], none⟩] [4])
 (.seq
 (.seq
 (.region false [⟨some 9, .mv, [.t 0], none⟩,
 ⟨some 10, .call n_impl_manyOk 5120, [.t 9], none⟩,
 ⟨some 11, .un .not, [.t 10], none⟩,
 ⟨some 12, .mv, [.t 11], none⟩,
 ⟨some 13, .mv, [.t 1], some (12, false)⟩,
 ⟨some 14, .len, [.t 13], some (12, false)⟩,
 ⟨some 15, .call n_impl_isWithin 7680, [.t 14, .c (.i 1), .c (.i 13)], some (12, false)⟩,
 ⟨some 16, .un .not, [.t 15], some (12, false)⟩,
 ⟨some 17, .pick, [.t 12, .c (.b true), .t 16], none⟩] [9, 10, 11, 12, 13, 14, 15, 16])
 (.cond (.t 17) [17]
 (.seq
 (.region false [⟨some 4, .mv, [.c (.b false)], none⟩] [0, 1])
 .ret)
 .skip))
 (.seq
 (.region false [⟨some 5, .mv, [.c (.i 0)], none⟩] [])
 (.seq
 (.seq
 (.region false [⟨some 18, .mv, [.t 1], none⟩,
 ⟨some 19, .len, [.t 18], none⟩,
 ⟨some 20, .mv, [.c (.i 0)], none⟩] [1])
 (.block 0
 F_impl_TermOk_W0))
 (.seq
 (.region false [⟨some 41, .mv, [.t 5], none⟩,
 ⟨some 42, .bin .eql, [.t 41, .c (.i 1)], none⟩,
 ⟨some 4, .mv, [.t 42], none⟩] [0, 5, 18, 19, 20, 41, 42])
 .ret))))) }
/-- laws.alive -/
def F_laws_alive : LF :=
 { nparams := 0, results := [.t 0], body :=
 (.seq
 (.region false [⟨some 0, .mv, [.c (.b false)], none⟩] [0])
 (.seq
 (.region false [⟨some 1, .build [.i 0, .i 0] [(0, 1), (1, 1)], [.c (.i 1), .c (.i 1)], none⟩,
 ⟨some 2, .bslice 1040 1 2 (.st [.i 0, .i 0]) [0], [.t 1], none⟩,
 ⟨some 3, .call n_impl_TestsOk 1536, [.t 2], none⟩,
 ⟨some 4, .mv, [.t 3], none⟩,
 ⟨some 5, .build [.i 0, .i 0] [], [], some (4, true)⟩,
 ⟨some 6, .bslice 3088 1 2 (.st [.i 0, .i 0]) [0], [.t 5], some (4, true)⟩,
 ⟨some 7, .call n_impl_TestsOk 3584, [.t 6], some (4, true)⟩,
 ⟨some 8, .un .not, [.t 7], some (4, true)⟩,
 ⟨some 9, .pick, [.t 4, .t 8, .c (.b false)], none⟩,
 ⟨some 0, .mv, [.t 9], none⟩] [1, 2, 3, 4, 5, 6, 7, 8, 9])
 .ret)) }
/-- impl.ReadTerm -/
def F_impl_ReadTerm : LF :=
 { nparams := 2, results := [.t 4, .t 5], body :=
 (.seq
 (.region false [⟨some 4, .newnil 2064, [], none⟩,
 ⟨some 5, .mv, [.c (.b false)], none⟩] [4, 5])
 (.seq
 (.seq
 (.region false [⟨some 8, .mv, [.t 1], none⟩,
 ⟨some 9, .lens, [.t 8], none⟩,
 ⟨some 10, .bin .gtr, [.t 9, .c (.i 80)], none⟩] [8, 9])
 (.cond (.t 10) [10]
 (.seq
 (.region false [⟨some 4, .newnil 2064, [], none⟩,
 ⟨some 5, .mv, [.c (.b false)], none⟩] [0, 1])
 .ret)
 .skip))
 (.seq
 (.region false [⟨some 12, .mv, [.t 1], none⟩,
 ⟨some 13, .call n_impl_readOr 6656, [.t 12], none⟩,
 ⟨some 11, .mv, [.t 13], none⟩,
 ⟨some 14, .ext 0, [.t 11], none⟩,
 ⟨some 15, .ext 1, [.t 11], none⟩,
 ⟨some 6, .mv, [.t 14], none⟩,
 ⟨some 7, .mv, [.t 15], none⟩] [11, 12, 13, 14, 15])
 (.seq
 (.seq
 (.region false [⟨some 16, .mv, [.t 7], none⟩,
 ⟨some 17, .bin .neq, [.t 16, .c (.s [])], none⟩,
 ⟨some 18, .mv, [.t 17], none⟩,
 ⟨some 19, .mv, [.t 0], some (18, false)⟩,
 ⟨some 20, .mv, [.t 6], some (18, false)⟩,
 ⟨some 21, .call n_impl_TermOk 10752, [.t 19, .t 20], some (18, false)⟩,
 ⟨some 22, .un .not, [.t 21], some (18, false)⟩,
 ⟨some 23, .pick, [.t 18, .c (.b true), .t 22], none⟩,
 ⟨some 24, .mv, [.t 23], none⟩,
 ⟨some 25, .mv, [.t 0], some (24, false)⟩,
 ⟨some 26, .mv, [.t 6], some (24, false)⟩,
 ⟨some 27, .call n_impl_TermText 13824, [.t 25, .t 26], some (24, false)⟩,
 ⟨some 28, .mv, [.t 1], some (24, false)⟩,
 ⟨some 29, .bin .neq, [.t 27, .t 28], some (24, false)⟩,
 ⟨some 30, .pick, [.t 24, .c (.b true), .t 29], none⟩] [0, 1, 7, 16, 17, 18, 19, 20, 21, 22, 23, 24, 25, 26, 27, 28, 29])
 (.cond (.t 30) [30]
 (.seq
 (.region false [⟨some 4, .newnil 2064, [], none⟩,
 ⟨some 5, .mv, [.c (.b false)], none⟩] [6])
 .ret)
 .skip))
 (.seq
 (.region false [⟨some 31, .mv, [.t 6], none⟩,
 ⟨some 4, .mv, [.t 31], none⟩,
 ⟨some 5, .mv, [.c (.b true)], none⟩] [6, 31])
 .ret))))) }
/-- laws.sameMarks -/
def F_laws_sameMarks_L0 : LC :=
 (.seq
 (.seq
 (.region false [⟨some 11, .mv, [.t 5], none⟩,
 ⟨some 12, .mv, [.t 0], none⟩,
 ⟨some 13, .len, [.t 12], none⟩,
 ⟨some 14, .bin .lss, [.t 11, .t 13], none⟩] [11, 12, 13])
 (.cond (.t 14) [14]
 .skip
 (.exit 0)))
 (.seq
 (.block 1
 (.seq
 (.region true [⟨some 17, .mv, [.t 0], none⟩,
 ⟨some 18, .mv, [.t 5], none⟩,
 ⟨some 19, .idxa 2, [.t 17, .t 18], none⟩,
 ⟨some 20, .load 2 true, [.t 19], none⟩,
 ⟨some 21, .mv, [.t 1], none⟩,
 ⟨some 22, .mv, [.t 5], none⟩,
 ⟨some 23, .idxa 2, [.t 21, .t 22], none⟩,
 ⟨some 24, .load 2 true, [.t 23], none⟩,
 ⟨some 25, .eqs true 2, [.t 20, .t 24], none⟩] [17, 18, 19, 20, 21, 22, 23, 24])
 (.cond (.t 25) [25]
 (.seq
 (.region false [⟨some 4, .mv, [.c (.b false)], none⟩] [0, 1, 5])
 .ret)
 .skip)))
 (.region false [⟨some 15, .mv, [.t 5], none⟩,
 ⟨some 16, .bin .add, [.t 15, .c (.i 1)], none⟩,
 ⟨some 5, .mv, [.t 16], none⟩] [15, 16])))
def F_laws_sameMarks_W0 : LC := .loop F_laws_sameMarks_L0
def F_laws_sameMarks : LF :=
 { nparams := 2, results := [.t 4], body :=
 (.seq
 (.region false [⟨some 4, .mv, [.c (.b false)], none⟩] [4])
 (.seq
 (.seq
 (.region false [⟨some 6, .mv, [.t 0], none⟩,
 ⟨some 7, .len, [.t 6], none⟩,
 ⟨some 8, .mv, [.t 1], none⟩,
 ⟨some 9, .len, [.t 8], none⟩,
 ⟨some 10, .bin .neq, [.t 7, .t 9], none⟩] [6, 7, 8, 9])
 (.cond (.t 10) [10]
 (.seq
 (.region false [⟨some 4, .mv, [.c (.b false)], none⟩] [0, 1])
 .ret)
 .skip))
 (.seq
 (.seq
 (.region false [⟨some 5, .mv, [.c (.i 0)], none⟩] [])
 (.block 0
 F_laws_sameMarks_W0))
 (.seq
 (.region false [⟨some 4, .mv, [.c (.b true)], none⟩] [0, 1, 5])
 .ret)))) }
/-- spec.DrawReadTerm -/
def F_spec_DrawReadTerm : LF :=
 { nparams := 1, results := [.t 2, .t 3], body :=
 (.seq
 (.region false [⟨some 2, .mv, [.c (.i 0)], none⟩,
 ⟨some 3, .mv, [.c (.s [])], none⟩] [2, 3])
 (.seq
 (.region false [⟨some 8, .mv, [.t 0], none⟩,
 ⟨some 9, .call n_spec_l20Open 4608, [.t 8], none⟩,
 ⟨some 4, .mv, [.t 9], none⟩] [0, 8, 9])
 (.seq
 (.region false [⟨some 10, .mv, [.t 4], none⟩,
 ⟨some 11, .call n_spec_l20Rd_pick 5632, [.t 10, .c (.i 5)], none⟩,
 ⟨some 12, .bin .add, [.c (.i 1), .t 11], none⟩,
 ⟨some 5, .mv, [.t 12], none⟩] [10, 11, 12])
 (.seq
 (.region false [⟨some 13, .mv, [.t 5], none⟩,
 ⟨some 14, .mv, [.t 4], none⟩,
 ⟨some 15, .mv, [.t 5], none⟩,
 ⟨some 16, .call n_spec_l20Term 8192, [.t 14, .t 15, .c (.i 0)], none⟩,
 ⟨some 17, .call n_spec_TermText 8704, [.t 13, .t 16], none⟩,
 ⟨some 6, .mv, [.t 17], none⟩] [13, 14, 15, 16, 17])
 (.seq
 (.seq
 (.region false [⟨some 18, .mv, [.t 4], none⟩,
 ⟨some 19, .call n_spec_l20Rd_pick 9728, [.t 18, .c (.i 3)], none⟩,
 ⟨some 20, .bin .eql, [.t 19, .c (.i 0)], none⟩,
 ⟨some 21, .mv, [.t 20], none⟩,
 ⟨some 22, .mv, [.t 6], some (21, true)⟩,
 ⟨some 23, .lens, [.t 22], some (21, true)⟩,
 ⟨some 24, .bin .gtr, [.t 23, .c (.i 0)], some (21, true)⟩,
 ⟨some 25, .pick, [.t 21, .t 24, .c (.b false)], none⟩] [18, 19, 20, 21, 22, 23, 24])
 (.cond (.t 25) [25]
 (.seq
 (.region false [⟨some 26, .mv, [.t 4], none⟩,
 ⟨some 27, .mv, [.t 6], none⟩,
 ⟨some 28, .lens, [.t 27], none⟩,
 ⟨some 29, .call n_spec_l20Rd_pick 14848, [.t 26, .t 28], none⟩,
 ⟨some 7, .mv, [.t 29], none⟩] [26, 27, 28, 29])
 (.seq
 (.region true [⟨some 30, .mv, [.t 5], none⟩,
 ⟨some 31, .mv, [.t 6], none⟩,
 ⟨some 32, .mv, [.t 7], none⟩,
 ⟨some 33, .slices false true, [.t 31, .t 32], none⟩,
 ⟨some 34, .bslice 17416 8 1 (.s []) [0, 1, 2, 3, 4, 5, 6, 7], [.c (.s []), .c (.s [40]), .c (.s [41]), .c (.s [38]), .c (.s [124]), .c (.s [33]), .c (.s [97]), .c (.s [101])], none⟩,
 ⟨some 35, .mv, [.t 4], none⟩,
 ⟨some 36, .call n_spec_l20Rd_pick 18432, [.t 35, .c (.i 8)], none⟩,
 ⟨some 37, .idxa 1, [.t 34, .t 36], none⟩,
 ⟨some 38, .load 1 false, [.t 37], none⟩,
 ⟨some 39, .bin .add, [.t 33, .t 38], none⟩,
 ⟨some 40, .mv, [.t 6], none⟩,
 ⟨some 41, .mv, [.t 7], none⟩,
 ⟨some 42, .mv, [.t 4], none⟩,
 ⟨some 43, .call n_spec_l20Rd_pick 22016, [.t 42, .c (.i 2)], none⟩,
 ⟨some 44, .bin .add, [.t 41, .t 43], none⟩,
 ⟨some 45, .slices true false, [.t 40, .t 44], none⟩,
 ⟨some 46, .bin .add, [.t 39, .t 45], none⟩,
 ⟨some 2, .mv, [.t 30], none⟩,
 ⟨some 3, .mv, [.t 46], none⟩] [4, 5, 6, 7, 30, 31, 32, 33, 34, 35, 36, 37, 38, 39, 40, 41, 42, 43, 44, 45, 46])
 .ret))
 .skip))
 (.seq
 (.region false [⟨some 47, .mv, [.t 5], none⟩,
 ⟨some 48, .mv, [.t 6], none⟩,
 ⟨some 2, .mv, [.t 47], none⟩,
 ⟨some 3, .mv, [.t 48], none⟩] [4, 5, 6, 47, 48])
 .ret)))))) }
/-- spec.ReadTerm -/
def F_spec_ReadTerm : LF :=
 { nparams := 2, results := [.t 4, .t 5], body :=
 (.seq
 (.region false [⟨some 4, .newnil 2064, [], none⟩,
 ⟨some 5, .mv, [.c (.b false)], none⟩] [4, 5])
 (.seq
 (.seq
 (.region false [⟨some 8, .mv, [.t 1], none⟩,
 ⟨some 9, .lens, [.t 8], none⟩,
 ⟨some 10, .bin .gtr, [.t 9, .c (.i 80)], none⟩] [8, 9])
 (.cond (.t 10) [10]
 (.seq
 (.region false [⟨some 11, .bslice 5648 0 2 (.st [.i 0, .i 0]) [], [], none⟩,
 ⟨some 4, .mv, [.t 11], none⟩,
 ⟨some 5, .mv, [.c (.b false)], none⟩] [0, 1, 11])
 .ret)
 .skip))
 (.seq
 (.region false [⟨some 13, .mv, [.t 1], none⟩,
 ⟨some 14, .call n_spec_l2Or 7168, [.t 13, .c (.i 0)], none⟩,
 ⟨some 12, .mv, [.t 14], none⟩,
 ⟨some 15, .ext 0, [.t 12], none⟩,
 ⟨some 16, .ext 1, [.t 12], none⟩,
 ⟨some 6, .mv, [.t 15], none⟩,
 ⟨some 7, .mv, [.t 16], none⟩] [12, 13, 14, 15, 16])
 (.seq
 (.seq
 (.region false [⟨some 17, .mv, [.t 7], none⟩,
 ⟨some 18, .mv, [.t 1], none⟩,
 ⟨some 19, .lens, [.t 18], none⟩,
 ⟨some 20, .bin .neq, [.t 17, .t 19], none⟩,
 ⟨some 21, .mv, [.t 20], none⟩,
 ⟨some 22, .mv, [.t 0], some (21, false)⟩,
 ⟨some 23, .mv, [.t 6], some (21, false)⟩,
 ⟨some 24, .call n_spec_TermOk 12288, [.t 22, .t 23], some (21, false)⟩,
 ⟨some 25, .un .not, [.t 24], some (21, false)⟩,
 ⟨some 26, .pick, [.t 21, .c (.b true), .t 25], none⟩,
 ⟨some 27, .mv, [.t 26], none⟩,
 ⟨some 28, .mv, [.t 6], some (27, false)⟩,
 ⟨some 29, .call n_spec_l2Text 14848, [.t 28], some (27, false)⟩,
 ⟨some 30, .mv, [.t 1], some (27, false)⟩,
 ⟨some 31, .bin .neq, [.t 29, .t 30], some (27, false)⟩,
 ⟨some 32, .pick, [.t 27, .c (.b true), .t 31], none⟩] [0, 1, 7, 17, 18, 19, 20, 21, 22, 23, 24, 25, 26, 27, 28, 29, 30, 31])
 (.cond (.t 32) [32]
 (.seq
 (.region false [⟨some 33, .bslice 16912 0 2 (.st [.i 0, .i 0]) [], [], none⟩,
 ⟨some 4, .mv, [.t 33], none⟩,
 ⟨some 5, .mv, [.c (.b false)], none⟩] [6, 33])
 .ret)
 .skip))
 (.seq
 (.region false [⟨some 34, .mv, [.t 6], none⟩,
 ⟨some 4, .mv, [.t 34], none⟩,
 ⟨some 5, .mv, [.c (.b true)], none⟩] [6, 34])
 .ret))))) }
/-- laws.szMarkS -/
def F_laws_szMarkS : LF :=
 { nparams := 2, results := [.t 4], body :=
 (.seq
 (.region false [⟨some 4, .mv, [.c (.i 0)], none⟩] [4])
 (.seq
 (.region false [⟨some 5, .mv, [.t 1], none⟩,
 ⟨some 6, .mv, [.t 0], none⟩,
 ⟨some 7, .len, [.t 6], none⟩,
 ⟨some 8, .bin .sub, [.t 5, .t 7], none⟩,
 ⟨some 1, .mv, [.t 8], none⟩] [0, 5, 6, 7, 8])
 (.seq
 (.seq
 (.region false [⟨some 9, .mv, [.t 1], none⟩,
 ⟨some 10, .bin .lss, [.t 9, .c (.i 0)], none⟩] [9])
 (.cond (.t 10) [10]
 (.seq
 (.region false [⟨some 4, .mv, [.c (.i (-1))], none⟩] [1])
 .ret)
 .skip))
 (.seq
 (.region false [⟨some 11, .mv, [.t 1], none⟩,
 ⟨some 4, .mv, [.t 11], none⟩] [1, 11])
 .ret)))) }
/-- laws.toMarkS -/
def F_laws_toMarkS_L0 : LC :=
 (.seq
 (.seq
 (.region false [⟨some 8, .mv, [.t 4], none⟩,
 ⟨some 9, .mv, [.t 0], none⟩,
 ⟨some 10, .len, [.t 9], none⟩,
 ⟨some 11, .bin .lss, [.t 8, .t 10], none⟩] [8, 9, 10])
 (.cond (.t 11) [11]
 .skip
 (.exit 0)))
 (.seq
 (.block 1
 (.region false [⟨some 14, .mv, [.t 3], none⟩,
 ⟨some 15, .mv, [.t 4], none⟩,
 ⟨some 16, .mv, [.t 0], none⟩,
 ⟨some 17, .mv, [.t 4], none⟩,
 ⟨some 18, .idxa 2, [.t 16, .t 17], none⟩,
 ⟨some 19, .load 2 true, [.t 18], none⟩,
 ⟨some 20, .call n_laws_toMark 10240, [.t 19], none⟩,
 ⟨some 21, .idxa 2, [.t 14, .t 15], none⟩,
 ⟨none, .store 2, [.t 21, .t 20], none⟩] [14, 15, 16, 17, 18, 19, 20, 21]))
 (.region false [⟨some 12, .mv, [.t 4], none⟩,
 ⟨some 13, .bin .add, [.t 12, .c (.i 1)], none⟩,
 ⟨some 4, .mv, [.t 13], none⟩] [12, 13])))
def F_laws_toMarkS_W0 : LC := .loop F_laws_toMarkS_L0
def F_laws_toMarkS : LF :=
 { nparams := 1, results := [.t 2], body :=
 (.seq
 (.region false [⟨some 2, .newnil 1040, [], none⟩] [2])
 (.seq
 (.region false [⟨some 5, .mv, [.t 0], none⟩,
 ⟨some 6, .len, [.t 5], none⟩,
 ⟨some 7, .make 3600 2 (.st [.i 0, .i 0]), [.t 6, .t 6], none⟩,
 ⟨some 3, .mv, [.t 7], none⟩] [5, 6, 7])
 (.seq
 (.seq
 (.region false [⟨some 4, .mv, [.c (.i 0)], none⟩] [])
 (.block 0
 F_laws_toMarkS_W0))
 (.seq
 (.region false [⟨some 22, .mv, [.t 3], none⟩,
 ⟨some 2, .mv, [.t 22], none⟩] [0, 3, 4, 22])
 .ret)))) }
/-- laws.eqMarkS -/
def F_laws_eqMarkS_L0 : LC :=
 (.seq
 (.seq
 (.region false [⟨some 11, .mv, [.t 5], none⟩,
 ⟨some 12, .mv, [.t 0], none⟩,
 ⟨some 13, .len, [.t 12], none⟩,
 ⟨some 14, .bin .lss, [.t 11, .t 13], none⟩] [11, 12, 13])
 (.cond (.t 14) [14]
 .skip
 (.exit 0)))
 (.seq
 (.block 1
 (.seq
 (.region true [⟨some 17, .mv, [.t 0], none⟩,
 ⟨some 18, .mv, [.t 5], none⟩,
 ⟨some 19, .idxa 2, [.t 17, .t 18], none⟩,
 ⟨some 20, .load 2 true, [.t 19], none⟩,
 ⟨some 21, .mv, [.t 1], none⟩,
 ⟨some 22, .mv, [.t 5], none⟩,
 ⟨some 23, .idxa 2, [.t 21, .t 22], none⟩,
 ⟨some 24, .load 2 true, [.t 23], none⟩,
 ⟨some 25, .call n_laws_eqMark 12800, [.t 20, .t 24], none⟩,
 ⟨some 26, .un .not, [.t 25], none⟩] [17, 18, 19, 20, 21, 22, 23, 24, 25])
 (.cond (.t 26) [26]
 (.seq
 (.region false [⟨some 4, .mv, [.c (.b false)], none⟩] [0, 1, 5])
 .ret)
 .skip)))
 (.region false [⟨some 15, .mv, [.t 5], none⟩,
 ⟨some 16, .bin .add, [.t 15, .c (.i 1)], none⟩,
 ⟨some 5, .mv, [.t 16], none⟩] [15, 16])))
def F_laws_eqMarkS_W0 : LC := .loop F_laws_eqMarkS_L0
def F_laws_eqMarkS : LF :=
 { nparams := 2, results := [.t 4], body :=
 (.seq
 (.region false [⟨some 4, .mv, [.c (.b false)], none⟩] [4])
 (.seq
 (.seq
 (.region false [⟨some 6, .mv, [.t 0], none⟩,
 ⟨some 7, .len, [.t 6], none⟩,
 ⟨some 8, .mv, [.t 1], none⟩,
 ⟨some 9, .len, [.t 8], none⟩,
 ⟨some 10, .bin .neq, [.t 7, .t 9], none⟩] [6, 7, 8, 9])
 (.cond (.t 10) [10]
 (.seq
 (.region false [⟨some 4, .mv, [.c (.b false)], none⟩] [0, 1])
 .ret)
 .skip))
 (.seq
 (.seq
 (.region false [⟨some 5, .mv, [.c (.i 0)], none⟩] [])
 (.block 0
 F_laws_eqMarkS_W0))
 (.seq
 (.region false [⟨some 4, .mv, [.c (.b true)], none⟩] [0, 1, 5])
 .ret)))) }
/-- laws.markMarkS -/
def F_laws_markMarkS_L0 : LC :=
 (.seq
 (.seq
 (.region false [⟨some 6, .mv, [.t 5], none⟩,
 ⟨some 7, .mv, [.t 0], none⟩,
 ⟨some 8, .len, [.t 7], none⟩,
 ⟨some 9, .bin .lss, [.t 6, .t 8], none⟩] [6, 7, 8])
 (.cond (.t 9) [9]
 .skip
 (.exit 0)))
 (.seq
 (.block 1
 (.seq
 (.region false [⟨some 12, .mv, [.t 0], none⟩,
 ⟨some 13, .mv, [.t 5], none⟩,
 ⟨some 14, .mv, [.t 1], none⟩,
 ⟨some 15, .idxa 2, [.t 12, .t 13], none⟩,
 ⟨some 16, .fld 0 1 false, [.t 15], none⟩,
 ⟨none, .store 1, [.t 16, .t 14], none⟩] [12, 13, 14, 15, 16])
 (.seq
 (.region false [⟨some 17, .mv, [.t 1], none⟩,
 ⟨some 18, .bin .add, [.t 17, .c (.i 1)], none⟩,
 ⟨some 1, .mv, [.t 18], none⟩] [17, 18])
 (.seq
 (.region false [⟨some 19, .mv, [.t 0], none⟩,
 ⟨some 20, .mv, [.t 5], none⟩,
 ⟨some 21, .mv, [.t 1], none⟩,
 ⟨some 22, .idxa 2, [.t 19, .t 20], none⟩,
 ⟨some 23, .fld 1 1 false, [.t 22], none⟩,
 ⟨none, .store 1, [.t 23, .t 21], none⟩] [19, 20, 21, 22, 23])
 (.region false [⟨some 24, .mv, [.t 1], none⟩,
 ⟨some 25, .bin .add, [.t 24, .c (.i 1)], none⟩,
 ⟨some 1, .mv, [.t 25], none⟩] [24, 25])))))
 (.region false [⟨some 10, .mv, [.t 5], none⟩,
 ⟨some 11, .bin .add, [.t 10, .c (.i 1)], none⟩,
 ⟨some 5, .mv, [.t 11], none⟩] [10, 11])))
def F_laws_markMarkS_W0 : LC := .loop F_laws_markMarkS_L0
def F_laws_markMarkS : LF :=
 { nparams := 2, results := [.t 4], body :=
 (.seq
 (.region false [⟨some 4, .mv, [.c (.i 0)], none⟩] [4])
 (.seq
 (.seq
 (.region false [⟨some 5, .mv, [.c (.i 0)], none⟩] [])
 (.block 0
 F_laws_markMarkS_W0))
 (.seq
 (.region false [⟨some 26, .mv, [.t 1], none⟩,
 ⟨some 4, .mv, [.t 26], none⟩] [1, 5, 26])
 .ret))) }
/-- laws.heldMarkS -/
def F_laws_heldMarkS_L0 : LC :=
 (.seq
 (.seq
 (.region false [⟨some 6, .mv, [.t 5], none⟩,
 ⟨some 7, .mv, [.t 0], none⟩,
 ⟨some 8, .len, [.t 7], none⟩,
 ⟨some 9, .bin .lss, [.t 6, .t 8], none⟩] [6, 7, 8])
 (.cond (.t 9) [9]
 .skip
 (.exit 0)))
 (.seq
 (.block 1
 (.seq
 (.seq
 (.region false [⟨some 12, .mv, [.t 0], none⟩,
 ⟨some 13, .mv, [.t 5], none⟩,
 ⟨some 14, .idxa 2, [.t 12, .t 13], none⟩,
 ⟨some 15, .fld 0 1 false, [.t 14], none⟩,
 ⟨some 16, .load 1 false, [.t 15], none⟩,
 ⟨some 17, .mv, [.t 1], none⟩,
 ⟨some 18, .bin .neq, [.t 16, .t 17], none⟩] [12, 13, 14, 15, 16, 17])
 (.cond (.t 18) [18]
 (.seq
 (.region false [⟨some 4, .mv, [.c (.i (-1))], none⟩] [0, 1, 5])
 .ret)
 .skip))
 (.seq
 (.region false [⟨some 19, .mv, [.t 1], none⟩,
 ⟨some 20, .bin .add, [.t 19, .c (.i 1)], none⟩,
 ⟨some 1, .mv, [.t 20], none⟩] [19, 20])
 (.seq
 (.seq
 (.region false [⟨some 21, .mv, [.t 0], none⟩,
 ⟨some 22, .mv, [.t 5], none⟩,
 ⟨some 23, .idxa 2, [.t 21, .t 22], none⟩,
 ⟨some 24, .fld 1 1 false, [.t 23], none⟩,
 ⟨some 25, .load 1 false, [.t 24], none⟩,
 ⟨some 26, .mv, [.t 1], none⟩,
 ⟨some 27, .bin .neq, [.t 25, .t 26], none⟩] [21, 22, 23, 24, 25, 26])
 (.cond (.t 27) [27]
 (.seq
 (.region false [⟨some 4, .mv, [.c (.i (-1))], none⟩] [0, 1, 5])
 .ret)
 .skip))
 (.region false [⟨some 28, .mv, [.t 1], none⟩,
 ⟨some 29, .bin .add, [.t 28, .c (.i 1)], none⟩,
 ⟨some 1, .mv, [.t 29], none⟩] [28, 29])))))
 (.region false [⟨some 10, .mv, [.t 5], none⟩,
 ⟨some 11, .bin .add, [.t 10, .c (.i 1)], none⟩,
 ⟨some 5, .mv, [.t 11], none⟩] [10, 11])))
def F_laws_heldMarkS_W0 : LC := .loop F_laws_heldMarkS_L0
def F_laws_heldMarkS : LF :=
 { nparams := 2, results := [.t 4], body :=
 (.seq
 (.region false [⟨some 4, .mv, [.c (.i 0)], none⟩] [4])
 (.seq
 (.seq
 (.region false [⟨some 5, .mv, [.c (.i 0)], none⟩] [])
 (.block 0
 F_laws_heldMarkS_W0))
 (.seq
 (.region false [⟨some 30, .mv, [.t 1], none⟩,
 ⟨some 4, .mv, [.t 30], none⟩] [0, 1, 5, 30])
 .ret))) }
/-- spec.l20Asked -/
def F_spec_l20Asked : LF :=
 { nparams := 2, results := [.t 4, .t 5], body :=
 (.seq
 (.region false [⟨some 4, .mv, [.c (.i 0)], none⟩,
 ⟨some 5, .newnil 2576, [], none⟩] [4, 5])
 (.seq
 (.region false [⟨some 7, .mv, [.t 0], none⟩,
 ⟨some 8, .call n_spec_l20Rd_pick 4096, [.t 7, .c (.i 5)], none⟩,
 ⟨some 9, .bin .add, [.c (.i 1), .t 8], none⟩,
 ⟨some 6, .mv, [.t 9], none⟩] [7, 8, 9])
 (.seq
 (.region false [⟨some 10, .mv, [.t 6], none⟩,
 ⟨some 11, .mv, [.t 0], none⟩,
 ⟨some 12, .call n_spec_l20Rd_pick 6144, [.t 11, .c (.i 60)], none⟩,
 ⟨some 13, .bin .quo, [.t 12, .c (.i 59)], none⟩,
 ⟨some 14, .bin .mul, [.t 13, .c (.i 5)], none⟩,
 ⟨some 15, .bin .add, [.t 10, .t 14], none⟩,
 ⟨some 16, .mv, [.t 0], none⟩,
 ⟨some 17, .mv, [.t 6], none⟩,
 ⟨some 18, .mv, [.t 1], none⟩,
 ⟨some 19, .call n_spec_l20Term 9728, [.t 16, .t 17, .t 18], none⟩,
 ⟨some 4, .mv, [.t 15], none⟩,
 ⟨some 5, .mv, [.t 19], none⟩] [1, 6, 10, 11, 12, 13, 14, 15, 16, 17, 18, 19])
 .ret))) }
/-- spec.l20Open -/
def F_spec_l20Open : LF :=
 { nparams := 1, results := [.t 2], body :=
 (.seq
 (.region false [⟨some 2, .mv, [.c (.np)], none⟩] [2])
 (.seq
 (.seq
 (.region false [⟨some 3, .mv, [.t 0], none⟩,
 ⟨some 4, .len, [.t 3], none⟩,
 ⟨some 5, .bin .gtr, [.t 4, .c (.i 2000)], none⟩] [3, 4])
 (.cond (.t 5) [5]
 (.region false [⟨some 6, .mv, [.t 0], none⟩,
 ⟨some 7, .slice false true 1, [.t 6, .c (.i 2000)], none⟩,
 ⟨some 0, .mv, [.t 7], none⟩] [6, 7])
 .skip))
 (.seq
 (.region false [⟨some 8, .mv, [.t 0], none⟩,
 ⟨some 9, .build [.sl 1 [], .i 0] [(0, 1)], [.t 8], none⟩,
 ⟨some 10, .box 5136, [.t 9], none⟩,
 ⟨some 2, .mv, [.t 10], none⟩] [0, 8, 9, 10])
 .ret))) }
/-- impl.writtenPart] -/
def F_impl_foldTerm_impl_writtenPart_L0 : LC :=
 (.seq
 (.region false [⟨some 13, .bin .lss, [.t 12, .t 11], none⟩] [])
 (.seq
 (.cond (.t 13) [13]
 .skip
 (.exit 0))
 (.seq
 (.block 1
 (.seq
 (.region false [⟨some 14, .idxa 2, [.t 10, .t 12], none⟩,
 ⟨some 15, .load 2 true, [.t 14], none⟩,
 ⟨some 7, .alloc 3600 (.st [.i 0, .i 0]), [], none⟩,
 ⟨none, .store 2, [.t 7, .t 15], none⟩] [14, 15])
 (.seq
 (.region false [⟨some 16, .mv, [.t 5], none⟩,
 ⟨some 17, .len, [.t 16], none⟩,
 ⟨some 18, .fld 0 1 false, [.t 7], none⟩,
 ⟨some 19, .load 1 false, [.t 18], none⟩,
 ⟨some 20, .call n_impl_partsTaken 10240, [.t 19], none⟩,
 ⟨some 21, .bin .sub, [.t 17, .t 20], none⟩,
 ⟨some 8, .mv, [.t 21], none⟩] [16, 17, 18, 19, 20, 21])
 (.seq
 (.region true [⟨some 22, .mv, [.t 1], none⟩,
 ⟨some 23, .load 2 true, [.t 7], none⟩,
 ⟨some 24, .mv, [.t 5], none⟩,
 ⟨some 25, .mv, [.t 8], none⟩,
 ⟨some 26, .slice true false 2, [.t 24, .t 25], none⟩,
 ⟨some 27, .calld 13824, [.t 22, .t 23, .t 26], none⟩,
 ⟨some 9, .alloc 4624 (.st [.s [], .i 0]), [], none⟩,
 ⟨none, .store 2, [.t 9, .t 27], none⟩] [7, 22, 23, 24, 25, 26, 27])
 (.region true [⟨some 28, .mv, [.t 5], none⟩,
 ⟨some 29, .mv, [.t 8], none⟩,
 ⟨some 30, .slice false true 2, [.t 28, .t 29], none⟩,
 ⟨some 31, .load 2 true, [.t 9], none⟩,
 ⟨some 32, .bslice 16400 1 2 (.st [.s [], .i 0]) [0], [.t 31], none⟩,
 ⟨some 33, .app 16912 2, [.t 30, .t 32], none⟩,
 ⟨some 5, .mv, [.t 33], none⟩] [8, 9, 28, 29, 30, 31, 32, 33])))))
 (.region false [⟨some 34, .bin .add, [.t 12, .c (.i 1)], none⟩,
 ⟨some 12, .mv, [.t 34], none⟩] [34]))))
def F_impl_foldTerm_impl_writtenPart_W0 : LC := .loop F_impl_foldTerm_impl_writtenPart_L0
def F_impl_foldTerm_impl_writtenPart : LF :=
 { nparams := 2, results := [.c 4 2 true], body :=
 (.seq
 (.region false [⟨some 4, .alloc 2064 (.st [.s [], .i 0]), [], none⟩] [])
 (.seq
 (.region false [⟨some 5, .newnil 2576, [], none⟩] [])
 (.seq
 (.seq
 (.region false [⟨some 10, .mv, [.t 0], none⟩,
 ⟨some 11, .len, [.t 10], none⟩,
 ⟨some 12, .mv, [.c (.i 0)], none⟩] [0])
 (.block 0
 F_impl_foldTerm_impl_writtenPart_W0))
 (.seq
 (.region false [⟨some 35, .mv, [.t 5], none⟩,
 ⟨some 36, .idxa 2, [.t 35, .c (.i 0)], none⟩,
 ⟨some 37, .load 2 true, [.t 36], none⟩,
 ⟨none, .store 2, [.t 4, .t 37], none⟩] [1, 5, 10, 11, 12, 35, 36, 37])
 .ret)))) }
/-- impl.writePart -/
def F_impl_writePart : LF :=
 { nparams := 2, results := [.c 4 2 true], body :=
 (.seq
 (.region false [⟨some 2, .box 1040, [.t 0], none⟩,
 ⟨some 4, .alloc 2064 (.st [.s [], .i 0]), [], none⟩] [0])
 (.seq
 (.region false [⟨some 6, .fld 0 1 false, [.t 2], none⟩,
 ⟨some 7, .load 1 false, [.t 6], none⟩,
 ⟨some 8, .build [.s [], .i 0] [(1, 1)], [.t 7], none⟩,
 ⟨some 5, .alloc 2576 (.st [.s [], .i 0]), [], none⟩,
 ⟨none, .store 2, [.t 5, .t 8], none⟩] [6, 7, 8])
 (.seq
 (.seq
 (.region false [⟨some 9, .fld 0 1 false, [.t 2], none⟩,
 ⟨some 10, .load 1 false, [.t 9], none⟩] [9])
 (.block 0
 (.seq
 (.region false [⟨some 12, .bin .eql, [.t 10, .c (.i 0)], none⟩,
 ⟨some 11, .mv, [.t 12], none⟩] [12])
 (.cond (.t 11) [11]
 (.region false [⟨some 13, .fld 1 1 false, [.t 2], none⟩,
 ⟨some 14, .load 1 false, [.t 13], none⟩,
 ⟨some 15, .bin .add, [.c (.i 97), .t 14], none⟩,
 ⟨some 16, .conv .i2r 8192, [.t 15], none⟩,
 ⟨some 17, .conv .r2s 8704, [.t 16], none⟩,
 ⟨some 18, .fld 0 1 false, [.t 5], none⟩,
 ⟨none, .store 1, [.t 18, .t 17], none⟩] [1, 2, 10, 13, 14, 15, 16, 17, 18])
 (.seq
 (.region false [⟨some 20, .bin .eql, [.t 10, .c (.i 1)], none⟩,
 ⟨some 19, .mv, [.t 20], none⟩] [2, 20])
 (.cond (.t 19) [19]
 (.region false [⟨some 21, .mv, [.t 1], none⟩,
 ⟨some 22, .idxa 2, [.t 21, .c (.i 0)], none⟩,
 ⟨some 23, .load 2 true, [.t 22], none⟩,
 ⟨some 24, .call n_impl_bracketedFrom 12288, [.c (.i 2), .t 23], none⟩,
 ⟨some 25, .bin .add, [.c (.s [33]), .t 24], none⟩,
 ⟨some 26, .fld 0 1 false, [.t 5], none⟩,
 ⟨none, .store 1, [.t 26, .t 25], none⟩] [1, 10, 21, 22, 23, 24, 25, 26])
 (.seq
 (.region false [⟨some 28, .bin .eql, [.t 10, .c (.i 2)], none⟩,
 ⟨some 27, .mv, [.t 28], none⟩] [28])
 (.cond (.t 27) [27]
 (.region true [⟨some 29, .mv, [.t 1], none⟩,
 ⟨some 30, .idxa 2, [.t 29, .c (.i 0)], none⟩,
 ⟨some 31, .load 2 true, [.t 30], none⟩,
 ⟨some 32, .call n_impl_bracketedFrom 16384, [.c (.i 3), .t 31], none⟩,
 ⟨some 33, .bin .add, [.t 32, .c (.s [38])], none⟩,
 ⟨some 34, .mv, [.t 1], none⟩,
 ⟨some 35, .idxa 2, [.t 34, .c (.i 1)], none⟩,
 ⟨some 36, .load 2 true, [.t 35], none⟩,
 ⟨some 37, .call n_impl_bracketedFrom 18944, [.c (.i 2), .t 36], none⟩,
 ⟨some 38, .bin .add, [.t 33, .t 37], none⟩,
 ⟨some 39, .fld 0 1 false, [.t 5], none⟩,
 ⟨none, .store 1, [.t 39, .t 38], none⟩] [1, 10, 29, 30, 31, 32, 33, 34, 35, 36, 37, 38, 39])
 (.seq
 (.region false [⟨some 41, .bin .eql, [.t 10, .c (.i 3)], none⟩,
 ⟨some 40, .mv, [.t 41], none⟩] [10, 41])
 (.cond (.t 40) [40]
 (.region true [⟨some 42, .mv, [.t 1], none⟩,
 ⟨some 43, .idxa 2, [.t 42, .c (.i 0)], none⟩,
 ⟨some 44, .fld 0 1 false, [.t 43], none⟩,
 ⟨some 45, .load 1 false, [.t 44], none⟩,
 ⟨some 46, .bin .add, [.t 45, .c (.s [124])], none⟩,
 ⟨some 47, .mv, [.t 1], none⟩,
 ⟨some 48, .idxa 2, [.t 47, .c (.i 1)], none⟩,
 ⟨some 49, .load 2 true, [.t 48], none⟩,
 ⟨some 50, .call n_impl_bracketedFrom 25600, [.c (.i 3), .t 49], none⟩,
 ⟨some 51, .bin .add, [.t 46, .t 50], none⟩,
 ⟨some 52, .fld 0 1 false, [.t 5], none⟩,
 ⟨none, .store 1, [.t 52, .t 51], none⟩] [1, 42, 43, 44, 45, 46, 47, 48, 49, 50, 51, 52])
 .skip))))))))))
 (.seq
 (.region false [⟨some 53, .load 2 true, [.t 5], none⟩,
 ⟨none, .store 2, [.t 4, .t 53], none⟩] [1, 5, 53])
 .ret)))) }
/-- spec.TermOk -/
def F_spec_TermOk_L0 : LC :=
 (.seq
 (.seq
 (.region false [⟨some 7, .mv, [.t 6], none⟩,
 ⟨some 8, .mv, [.t 1], none⟩,
 ⟨some 9, .len, [.t 8], none⟩,
 ⟨some 10, .bin .lss, [.t 7, .t 9], none⟩] [7, 8, 9])
 (.cond (.t 10) [10]
 .skip
 (.exit 0)))
 (.seq
 (.block 1
 (.block 2
 (.seq
 (.region false [⟨some 14, .mv, [.t 1], none⟩,
 ⟨some 15, .mv, [.t 6], none⟩,
 ⟨some 16, .idxa 2, [.t 14, .t 15], none⟩,
 ⟨some 17, .fld 0 1 false, [.t 16], none⟩,
 ⟨some 18, .load 1 false, [.t 17], none⟩,
 ⟨some 19, .bin .eql, [.t 18, .c (.i 0)], none⟩,
 ⟨some 20, .mv, [.t 19], none⟩,
 ⟨some 21, .mv, [.t 1], some (20, true)⟩,
 ⟨some 22, .mv, [.t 6], some (20, true)⟩,
 ⟨some 23, .idxa 2, [.t 21, .t 22], some (20, true)⟩,
 ⟨some 24, .fld 1 1 false, [.t 23], some (20, true)⟩,
 ⟨some 25, .load 1 false, [.t 24], some (20, true)⟩,
 ⟨some 26, .bin .geq, [.t 25, .c (.i 0)], some (20, true)⟩,
 ⟨some 27, .pick, [.t 20, .t 26, .c (.b false)], none⟩,
 ⟨some 28, .mv, [.t 27], none⟩,
 ⟨some 29, .mv, [.t 1], some (28, true)⟩,
 ⟨some 30, .mv, [.t 6], some (28, true)⟩,
 ⟨some 31, .idxa 2, [.t 29, .t 30], some (28, true)⟩,
 ⟨some 32, .fld 1 1 false, [.t 31], some (28, true)⟩,
 ⟨some 33, .load 1 false, [.t 32], some (28, true)⟩,
 ⟨some 34, .mv, [.t 0], some (28, true)⟩,
 ⟨some 35, .bin .lss, [.t 33, .t 34], some (28, true)⟩,
 ⟨some 36, .pick, [.t 28, .t 35, .c (.b false)], none⟩,
 ⟨some 13, .mv, [.t 36], none⟩] [14, 15, 16, 17, 18, 19, 20, 21, 22, 23, 24, 25, 26, 27, 28, 29, 30, 31, 32, 33, 34, 35, 36])
 (.cond (.t 13) [13]
 (.region false [⟨some 37, .mv, [.t 5], none⟩,
 ⟨some 38, .bin .add, [.t 37, .c (.i 1)], none⟩,
 ⟨some 5, .mv, [.t 38], none⟩] [37, 38])
 (.seq
 (.region false [⟨some 40, .mv, [.t 1], none⟩,
 ⟨some 41, .mv, [.t 6], none⟩,
 ⟨some 42, .idxa 2, [.t 40, .t 41], none⟩,
 ⟨some 43, .load 2 true, [.t 42], none⟩,
 ⟨some 44, .build [.i 0, .i 0] [(0, 1)], [.c (.i 1)], none⟩,
 ⟨some 45, .eqs false 2, [.t 43, .t 44], none⟩,
 ⟨some 46, .mv, [.t 45], none⟩,
 ⟨some 47, .mv, [.t 5], some (46, true)⟩,
 ⟨some 48, .bin .geq, [.t 47, .c (.i 1)], some (46, true)⟩,
 ⟨some 49, .pick, [.t 46, .t 48, .c (.b false)], none⟩,
 ⟨some 39, .mv, [.t 49], none⟩] [40, 41, 42, 43, 44, 45, 46, 47, 48, 49])
 (.cond (.t 39) [39]
 .skip
 (.seq
 (.region false [⟨some 51, .mv, [.t 1], none⟩,
 ⟨some 52, .mv, [.t 6], none⟩,
 ⟨some 53, .idxa 2, [.t 51, .t 52], none⟩,
 ⟨some 54, .load 2 true, [.t 53], none⟩,
 ⟨some 55, .build [.i 0, .i 0] [(0, 1)], [.c (.i 2)], none⟩,
 ⟨some 56, .eqs false 2, [.t 54, .t 55], none⟩,
 ⟨some 57, .mv, [.t 56], none⟩,
 ⟨some 58, .mv, [.t 1], some (57, false)⟩,
 ⟨some 59, .mv, [.t 6], some (57, false)⟩,
 ⟨some 60, .idxa 2, [.t 58, .t 59], some (57, false)⟩,
 ⟨some 61, .load 2 true, [.t 60], some (57, false)⟩,
 ⟨some 62, .build [.i 0, .i 0] [(0, 1)], [.c (.i 3)], some (57, false)⟩,
 ⟨some 63, .eqs false 2, [.t 61, .t 62], some (57, false)⟩,
 ⟨some 64, .pick, [.t 57, .c (.b true), .t 63], none⟩,
 ⟨some 65, .mv, [.t 64], none⟩,
 ⟨some 66, .mv, [.t 5], some (65, true)⟩,
 ⟨some 67, .bin .geq, [.t 66, .c (.i 2)], some (65, true)⟩,
 ⟨some 68, .pick, [.t 65, .t 67, .c (.b false)], none⟩,
 ⟨some 50, .mv, [.t 68], none⟩] [51, 52, 53, 54, 55, 56, 57, 58, 59, 60, 61, 62, 63, 64, 65, 66, 67, 68])
 (.cond (.t 50) [50]
 (.region false [⟨some 69, .mv, [.t 5], none⟩,
 ⟨some 70, .bin .sub, [.t 69, .c (.i 1)], none⟩,
 ⟨some 5, .mv, [.t 70], none⟩] [69, 70])
 (.seq
 (.region false [⟨some 4, .mv, [.c (.b false)], none⟩] [0, 1, 5, 6])
 .ret)))))))))
 (.region false [⟨some 11, .mv, [.t 6], none⟩,
 ⟨some 12, .bin .add, [.t 11, .c (.i 1)], none⟩,
 ⟨some 6, .mv, [.t 12], none⟩] [11, 12])))
def F_spec_TermOk_W0 : LC := .loop F_spec_TermOk_L0
def F_spec_TermOk : LF :=
 { nparams := 2, results := [.t 4], body :=
 (.seq
 (.region false [⟨some 4, .mv, [.c (.b false)], none⟩] [4])
 (.seq
 (.region false [⟨some 5, .mv, [.c (.i 0)], none⟩] [])
 (.seq
 (.seq
 (.region false [⟨some 6, .mv, [.c (.i 0)], none⟩] [])
 (.block 0
 F_spec_TermOk_W0))
 (.seq
 (.region false [⟨some 71, .mv, [.t 0], none⟩,
 ⟨some 72, .call n_spec_l1In 36864, [.t 71, .c (.i 1), .c (.i 5)], none⟩,
 ⟨some 73, .mv, [.t 72], none⟩,
 ⟨some 74, .mv, [.t 5], some (73, true)⟩,
 ⟨some 75, .bin .eql, [.t 74, .c (.i 1)], some (73, true)⟩,
 ⟨some 76, .pick, [.t 73, .t 75, .c (.b false)], none⟩,
 ⟨some 77, .mv, [.t 76], none⟩,
 ⟨some 78, .mv, [.t 1], some (77, true)⟩,
 ⟨some 79, .len, [.t 78], some (77, true)⟩,
 ⟨some 80, .bin .leq, [.t 79, .c (.i 13)], some (77, true)⟩,
 ⟨some 81, .pick, [.t 77, .t 80, .c (.b false)], none⟩,
 ⟨some 4, .mv, [.t 81], none⟩] [0, 1, 5, 6, 71, 72, 73, 74, 75, 76, 77, 78, 79, 80, 81])
 .ret)))) }
/-- spec.l2Text -/
def F_spec_l2Text : LF :=
 { nparams := 1, results := [.t 2], body :=
 (.seq
 (.region false [⟨some 2, .mv, [.c (.s [])], none⟩] [2])
 (.seq
 (.region false [⟨some 5, .mv, [.t 0], none⟩,
 ⟨some 6, .len, [.t 5], none⟩,
 ⟨some 7, .bin .sub, [.t 6, .c (.i 1)], none⟩,
 ⟨some 3, .mv, [.t 7], none⟩] [5, 6, 7])
 (.seq
 (.seq
 (.region false [⟨some 8, .mv, [.t 0], none⟩,
 ⟨some 9, .mv, [.t 3], none⟩,
 ⟨some 10, .idxa 2, [.t 8, .t 9], none⟩,
 ⟨some 11, .fld 0 1 false, [.t 10], none⟩,
 ⟨some 12, .load 1 false, [.t 11], none⟩] [8, 9, 10, 11])
 (.block 0
 (.seq
 (.region false [⟨some 14, .bin .eql, [.t 12, .c (.i 0)], none⟩,
 ⟨some 13, .mv, [.t 14], none⟩] [14])
 (.cond (.t 13) [13]
 (.seq
 (.region true [⟨some 15, .mv, [.t 0], none⟩,
 ⟨some 16, .mv, [.t 3], none⟩,
 ⟨some 17, .idxa 2, [.t 15, .t 16], none⟩,
 ⟨some 18, .fld 1 1 false, [.t 17], none⟩,
 ⟨some 19, .load 1 false, [.t 18], none⟩,
 ⟨some 20, .mv, [.t 0], none⟩,
 ⟨some 21, .mv, [.t 3], none⟩,
 ⟨some 22, .idxa 2, [.t 20, .t 21], none⟩,
 ⟨some 23, .fld 1 1 false, [.t 22], none⟩,
 ⟨some 24, .load 1 false, [.t 23], none⟩,
 ⟨some 25, .bin .add, [.t 24, .c (.i 1)], none⟩,
 ⟨some 26, .slices true true, [.c (.s [97, 98, 99, 100, 101]), .t 19, .t 25], none⟩,
 ⟨some 2, .mv, [.t 26], none⟩] [0, 3, 12, 15, 16, 17, 18, 19, 20, 21, 22, 23, 24, 25, 26])
 .ret)
 (.seq
 (.region false [⟨some 28, .bin .eql, [.t 12, .c (.i 1)], none⟩,
 ⟨some 27, .mv, [.t 28], none⟩] [12, 28])
 (.cond (.t 27) [27]
 (.seq
 (.region false [⟨some 29, .mv, [.t 0], none⟩,
 ⟨some 30, .mv, [.t 3], none⟩,
 ⟨some 31, .slice false true 2, [.t 29, .t 30], none⟩,
 ⟨some 32, .call n_spec_l2Held 16384, [.t 31, .c (.i 2)], none⟩,
 ⟨some 33, .bin .add, [.c (.s [33]), .t 32], none⟩,
 ⟨some 2, .mv, [.t 33], none⟩] [0, 3, 29, 30, 31, 32, 33])
 .ret)
 .skip))))))
 (.seq
 (.region false [⟨some 34, .mv, [.t 0], none⟩,
 ⟨some 35, .mv, [.t 3], none⟩,
 ⟨some 36, .bin .sub, [.t 35, .c (.i 1)], none⟩,
 ⟨some 37, .call n_spec_l2Starts 18944, [.t 34, .t 36], none⟩,
 ⟨some 4, .mv, [.t 37], none⟩] [34, 35, 36, 37])
 (.seq
 (.seq
 (.region false [⟨some 38, .mv, [.t 0], none⟩,
 ⟨some 39, .mv, [.t 3], none⟩,
 ⟨some 40, .idxa 2, [.t 38, .t 39], none⟩,
 ⟨some 41, .fld 0 1 false, [.t 40], none⟩,
 ⟨some 42, .load 1 false, [.t 41], none⟩,
 ⟨some 43, .bin .eql, [.t 42, .c (.i 3)], none⟩] [38, 39, 40, 41, 42])
 (.cond (.t 43) [43]
 (.seq
 (.region true [⟨some 44, .mv, [.t 0], none⟩,
 ⟨some 45, .mv, [.t 4], none⟩,
 ⟨some 46, .slice false true 2, [.t 44, .t 45], none⟩,
 ⟨some 47, .call n_spec_l2Held 24064, [.t 46, .c (.i 0)], none⟩,
 ⟨some 48, .bin .add, [.t 47, .c (.s [124])], none⟩,
 ⟨some 49, .mv, [.t 0], none⟩,
 ⟨some 50, .mv, [.t 4], none⟩,
 ⟨some 51, .mv, [.t 3], none⟩,
 ⟨some 52, .slice true true 2, [.t 49, .t 50, .t 51], none⟩,
 ⟨some 53, .call n_spec_l2Held 27136, [.t 52, .c (.i 1)], none⟩,
 ⟨some 54, .bin .add, [.t 48, .t 53], none⟩,
 ⟨some 2, .mv, [.t 54], none⟩] [0, 3, 4, 44, 45, 46, 47, 48, 49, 50, 51, 52, 53, 54])
 .ret)
 .skip))
 (.seq
 (.region true [⟨some 55, .mv, [.t 0], none⟩,
 ⟨some 56, .mv, [.t 4], none⟩,
 ⟨some 57, .slice false true 2, [.t 55, .t 56], none⟩,
 ⟨some 58, .call n_spec_l2Held 29696, [.t 57, .c (.i 1)], none⟩,
 ⟨some 59, .bin .add, [.t 58, .c (.s [38])], none⟩,
 ⟨some 60, .mv, [.t 0], none⟩,
 ⟨some 61, .mv, [.t 4], none⟩,
 ⟨some 62, .mv, [.t 3], none⟩,
 ⟨some 63, .slice true true 2, [.t 60, .t 61, .t 62], none⟩,
 ⟨some 64, .call n_spec_l2Held 32768, [.t 63, .c (.i 2)], none⟩,
 ⟨some 65, .bin .add, [.t 59, .t 64], none⟩,
 ⟨some 2, .mv, [.t 65], none⟩] [0, 3, 4, 55, 56, 57, 58, 59, 60, 61, 62, 63, 64, 65])
 .ret)))))) }
/-- impl.manyOk -/
def F_impl_manyOk : LF :=
 { nparams := 1, results := [.t 2], body :=
 (.seq
 (.region false [⟨some 2, .mv, [.c (.b false)], none⟩] [2])
 (.seq
 (.region false [⟨some 3, .mv, [.t 0], none⟩,
 ⟨some 4, .call n_impl_isWithin 2048, [.t 3, .c (.i 1), .c (.i 5)], none⟩,
 ⟨some 2, .mv, [.t 4], none⟩] [0, 3, 4])
 .ret)) }
/-- impl.isWithin -/
def F_impl_isWithin : LF :=
 { nparams := 3, results := [.t 6], body :=
 (.seq
 (.region false [⟨some 6, .mv, [.c (.b false)], none⟩] [6])
 (.seq
 (.region false [⟨some 7, .mv, [.t 1], none⟩,
 ⟨some 8, .mv, [.t 0], none⟩,
 ⟨some 9, .bin .leq, [.t 7, .t 8], none⟩,
 ⟨some 10, .mv, [.t 9], none⟩,
 ⟨some 11, .mv, [.t 0], some (10, true)⟩,
 ⟨some 12, .mv, [.t 2], some (10, true)⟩,
 ⟨some 13, .bin .leq, [.t 11, .t 12], some (10, true)⟩,
 ⟨some 14, .pick, [.t 10, .t 13, .c (.b false)], none⟩,
 ⟨some 6, .mv, [.t 14], none⟩] [0, 1, 2, 7, 8, 9, 10, 11, 12, 13, 14])
 .ret)) }
/-- impl.partsTaken -/
def F_impl_partsTaken : LF :=
 { nparams := 1, results := [.t 2], body :=
 (.seq
 (.region false [⟨some 2, .mv, [.c (.i 0)], none⟩] [2])
 (.seq
 (.seq
 (.region false [⟨some 3, .mv, [.t 0], none⟩] [0])
 (.block 0
 (.seq
 (.region false [⟨some 5, .bin .eql, [.t 3, .c (.i 0)], none⟩,
 ⟨some 4, .mv, [.t 5], none⟩] [5])
 (.cond (.t 4) [4]
 (.seq
 (.region false [⟨some 2, .mv, [.c (.i 0)], none⟩] [3])
 .ret)
 (.seq
 (.region false [⟨some 7, .bin .eql, [.t 3, .c (.i 1)], none⟩,
 ⟨some 6, .mv, [.t 7], none⟩] [3, 7])
 (.cond (.t 6) [6]
 (.seq
 (.region false [⟨some 2, .mv, [.c (.i 1)], none⟩] [])
 .ret)
 .skip))))))
 (.seq
 (.region false [⟨some 2, .mv, [.c (.i 2)], none⟩] [])
 .ret))) }
/-- impl.markOk -/
def F_impl_markOk : LF :=
 { nparams := 2, results := [.t 4], body :=
 (.seq
 (.region false [⟨some 3, .box 1552, [.t 1], none⟩,
 ⟨some 4, .mv, [.c (.b false)], none⟩] [1, 4])
 (.seq
 (.seq
 (.region false [⟨some 5, .fld 0 1 false, [.t 3], none⟩,
 ⟨some 6, .load 1 false, [.t 5], none⟩,
 ⟨some 7, .bin .eql, [.t 6, .c (.i 0)], none⟩] [5, 6])
 (.cond (.t 7) [7]
 (.seq
 (.region false [⟨some 8, .fld 1 1 false, [.t 3], none⟩,
 ⟨some 9, .load 1 false, [.t 8], none⟩,
 ⟨some 10, .mv, [.t 0], none⟩,
 ⟨some 11, .bin .sub, [.t 10, .c (.i 1)], none⟩,
 ⟨some 12, .call n_impl_isWithin 6144, [.t 9, .c (.i 0), .t 11], none⟩,
 ⟨some 4, .mv, [.t 12], none⟩] [0, 3, 8, 9, 10, 11, 12])
 .ret)
 .skip))
 (.seq
 (.region false [⟨some 13, .fld 0 1 false, [.t 3], none⟩,
 ⟨some 14, .load 1 false, [.t 13], none⟩,
 ⟨some 15, .call n_impl_isWithin 7680, [.t 14, .c (.i 1), .c (.i 3)], none⟩,
 ⟨some 16, .mv, [.t 15], none⟩,
 ⟨some 17, .fld 1 1 false, [.t 3], some (16, true)⟩,
 ⟨some 18, .load 1 false, [.t 17], some (16, true)⟩,
 ⟨some 19, .bin .eql, [.t 18, .c (.i 0)], some (16, true)⟩,
 ⟨some 20, .pick, [.t 16, .t 19, .c (.b false)], none⟩,
 ⟨some 4, .mv, [.t 20], none⟩] [0, 3, 13, 14, 15, 16, 17, 18, 19, 20])
 .ret))) }
/-- impl.TestsOk -/
def F_impl_TestsOk_L0 : LC :=
 (.seq
 (.region false [⟨some 12, .bin .lss, [.t 11, .t 10], none⟩] [])
 (.seq
 (.cond (.t 12) [12]
 .skip
 (.exit 0))
 (.seq
 (.block 1
 (.seq
 (.region false [⟨some 13, .idxa 2, [.t 9, .t 11], none⟩,
 ⟨some 14, .load 2 true, [.t 13], none⟩,
 ⟨some 4, .alloc 2064 (.st [.i 0, .i 0]), [], none⟩,
 ⟨none, .store 2, [.t 4, .t 14], none⟩] [13, 14])
 (.seq
 (.region false [⟨some 15, .fld 0 1 false, [.t 4], none⟩,
 ⟨some 16, .load 1 false, [.t 15], none⟩,
 ⟨some 17, .call n_impl_isWithin 8704, [.t 16, .c (.i 1), .c (.i 9)], none⟩,
 ⟨some 18, .un .not, [.t 17], none⟩,
 ⟨some 19, .mv, [.t 18], none⟩,
 ⟨some 20, .fld 1 1 false, [.t 4], some (19, false)⟩,
 ⟨some 21, .load 1 false, [.t 20], some (19, false)⟩,
 ⟨some 22, .call n_impl_isWithin 11264, [.t 21, .c (.i 1), .c (.i 5)], some (19, false)⟩,
 ⟨some 23, .un .not, [.t 22], some (19, false)⟩,
 ⟨some 24, .pick, [.t 19, .c (.b true), .t 23], none⟩] [4, 15, 16, 17, 18, 19, 20, 21, 22, 23])
 (.cond (.t 24) [24]
 (.seq
 (.region false [⟨some 2, .mv, [.c (.b false)], none⟩] [9, 10, 11])
 .ret)
 .skip))))
 (.region false [⟨some 25, .bin .add, [.t 11, .c (.i 1)], none⟩,
 ⟨some 11, .mv, [.t 25], none⟩] [25]))))
def F_impl_TestsOk_W0 : LC := .loop F_impl_TestsOk_L0
def F_impl_TestsOk : LF :=
 { nparams := 1, results := [.t 2], body :=
 (.seq
 (.region false [⟨some 2, .mv, [.c (.b false)], none⟩] [2])
 (.seq
 (.seq
 (.region false [⟨some 5, .mv, [.t 0], none⟩,
 ⟨some 6, .len, [.t 5], none⟩,
 ⟨some 7, .call n_impl_manyOk 3584, [.t 6], none⟩,
 ⟨some 8, .un .not, [.t 7], none⟩] [5, 6, 7])
 (.cond (.t 8) [8]
 (.seq
 (.region false [⟨some 2, .mv, [.c (.b false)], none⟩] [0])
 .ret)
 .skip))
 (.seq
 (.seq
 (.region false [⟨some 9, .mv, [.t 0], none⟩,
 ⟨some 10, .len, [.t 9], none⟩,
 ⟨some 11, .mv, [.c (.i 0)], none⟩] [0])
 (.block 0
 F_impl_TestsOk_W0))
 (.seq
 (.region false [⟨some 2, .mv, [.c (.b true)], none⟩] [9, 10, 11])
 .ret)))) }
/-- impl.readOr -/
def F_impl_readOr : LF :=
 { nparams := 1, results := [.t 2, .t 3], body :=
 (.seq
 (.region false [⟨some 2, .newnil 1040, [], none⟩,
 ⟨some 3, .mv, [.c (.s [])], none⟩] [2, 3])
 (.seq
 (.region false [⟨some 4, .mv, [.t 0], none⟩,
 ⟨some 5, .call n_impl_readRow 2560, [.t 4, .c (.y 124), .c (.i 3), .c (.fn n_impl_readAnd [])], none⟩,
 ⟨some 6, .ext 0, [.t 5], none⟩,
 ⟨some 7, .ext 1, [.t 5], none⟩,
 ⟨some 2, .mv, [.t 6], none⟩,
 ⟨some 3, .mv, [.t 7], none⟩] [0, 4, 5, 6, 7])
 .ret)) }
/-- spec.l20Rd).pick -/
def F_spec_l20Rd_pick : LF :=
 { nparams := 2, results := [.t 4], body :=
 (.seq
 (.region false [⟨some 4, .mv, [.c (.i 0)], none⟩] [4])
 (.seq
 (.region false [⟨some 7, .mv, [.t 0], none⟩,
 ⟨some 8, .mv, [.t 0], none⟩,
 ⟨some 9, .chk, [.t 8], none⟩,
 ⟨some 10, .fld 1 1 false, [.t 9], none⟩,
 ⟨some 11, .load 1 false, [.t 10], none⟩,
 ⟨some 12, .bin .add, [.t 11, .c (.i 1)], none⟩,
 ⟨some 13, .chk, [.t 7], none⟩,
 ⟨some 14, .fld 1 1 false, [.t 13], none⟩,
 ⟨none, .store 1, [.t 14, .t 12], none⟩] [7, 8, 9, 10, 11, 12, 13, 14])
 (.seq
 (.seq
 (.region false [⟨some 15, .mv, [.t 1], none⟩,
 ⟨some 16, .bin .lss, [.t 15, .c (.i 1)], none⟩,
 ⟨some 17, .mv, [.t 16], none⟩,
 ⟨some 18, .mv, [.t 0], some (17, false)⟩,
 ⟨some 19, .chk, [.t 18], some (17, false)⟩,
 ⟨some 20, .fld 0 1 false, [.t 19], some (17, false)⟩,
 ⟨some 21, .load 1 false, [.t 20], some (17, false)⟩,
 ⟨some 22, .len, [.t 21], some (17, false)⟩,
 ⟨some 23, .bin .eql, [.t 22, .c (.i 0)], some (17, false)⟩,
 ⟨some 24, .pick, [.t 17, .c (.b true), .t 23], none⟩] [15, 16, 17, 18, 19, 20, 21, 22, 23])
 (.cond (.t 24) [24]
 (.seq
 (.region false [⟨some 4, .mv, [.c (.i 0)], none⟩] [1])
 .ret)
 .skip))
 (.seq
 (.region false [⟨some 25, .mv, [.t 0], none⟩,
 ⟨some 26, .chk, [.t 25], none⟩,
 ⟨some 27, .fld 1 1 false, [.t 26], none⟩,
 ⟨some 28, .load 1 false, [.t 27], none⟩,
 ⟨some 29, .bin .sub, [.t 28, .c (.i 1)], none⟩,
 ⟨some 5, .mv, [.t 29], none⟩] [25, 26, 27, 28, 29])
 (.seq
 (.seq
 (.region false [⟨some 30, .mv, [.t 5], none⟩,
 ⟨some 31, .mv, [.t 0], none⟩,
 ⟨some 32, .chk, [.t 31], none⟩,
 ⟨some 33, .fld 0 1 false, [.t 32], none⟩,
 ⟨some 34, .load 1 false, [.t 33], none⟩,
 ⟨some 35, .len, [.t 34], none⟩,
 ⟨some 36, .bin .lss, [.t 30, .t 35], none⟩] [30, 31, 32, 33, 34, 35])
 (.cond (.t 36) [36]
 (.seq
 (.region false [⟨some 37, .mv, [.t 0], none⟩,
 ⟨some 38, .chk, [.t 37], none⟩,
 ⟨some 39, .fld 0 1 false, [.t 38], none⟩,
 ⟨some 40, .load 1 false, [.t 39], none⟩,
 ⟨some 41, .mv, [.t 5], none⟩,
 ⟨some 42, .idxa 1, [.t 40, .t 41], none⟩,
 ⟨some 43, .load 1 false, [.t 42], none⟩,
 ⟨some 44, .conv .b2i 22528, [.t 43], none⟩,
 ⟨some 45, .mv, [.t 1], none⟩,
 ⟨some 46, .bin .rem, [.t 44, .t 45], none⟩,
 ⟨some 4, .mv, [.t 46], none⟩] [1, 5, 37, 38, 39, 40, 41, 42, 43, 44, 45, 46])
 .ret)
 .skip))
 (.seq
 (.region true [⟨some 47, .mv, [.t 0], none⟩,
 ⟨some 48, .chk, [.t 47], none⟩,
 ⟨some 49, .fld 0 1 false, [.t 48], none⟩,
 ⟨some 50, .load 1 false, [.t 49], none⟩,
 ⟨some 51, .mv, [.t 5], none⟩,
 ⟨some 52, .mv, [.t 0], none⟩,
 ⟨some 53, .chk, [.t 52], none⟩,
 ⟨some 54, .fld 0 1 false, [.t 53], none⟩,
 ⟨some 55, .load 1 false, [.t 54], none⟩,
 ⟨some 56, .len, [.t 55], none⟩,
 ⟨some 57, .bin .rem, [.t 51, .t 56], none⟩,
 ⟨some 58, .idxa 1, [.t 50, .t 57], none⟩,
 ⟨some 59, .load 1 false, [.t 58], none⟩,
 ⟨some 60, .conv .b2i 30720, [.t 59], none⟩,
 ⟨some 61, .bin .mul, [.t 60, .c (.i 131)], none⟩,
 ⟨some 62, .mv, [.t 0], none⟩,
 ⟨some 63, .chk, [.t 62], none⟩,
 ⟨some 64, .fld 0 1 false, [.t 63], none⟩,
 ⟨some 65, .load 1 false, [.t 64], none⟩,
 ⟨some 66, .mv, [.t 5], none⟩,
 ⟨some 67, .bin .mul, [.t 66, .c (.i 7)], none⟩,
 ⟨some 68, .bin .add, [.t 67, .c (.i 3)], none⟩,
 ⟨some 69, .mv, [.t 0], none⟩,
 ⟨some 70, .chk, [.t 69], none⟩,
 ⟨some 71, .fld 0 1 false, [.t 70], none⟩,
 ⟨some 72, .load 1 false, [.t 71], none⟩,
 ⟨some 73, .len, [.t 72], none⟩,
 ⟨some 74, .bin .rem, [.t 68, .t 73], none⟩,
 ⟨some 75, .idxa 1, [.t 65, .t 74], none⟩,
 ⟨some 76, .load 1 false, [.t 75], none⟩,
 ⟨some 77, .conv .b2i 39424, [.t 76], none⟩,
 ⟨some 78, .bin .mul, [.t 77, .c (.i 1117)], none⟩,
 ⟨some 79, .bin .add, [.t 61, .t 78], none⟩,
 ⟨some 80, .mv, [.t 5], none⟩,
 ⟨some 81, .bin .mul, [.t 80, .c (.i 29)], none⟩,
 ⟨some 82, .bin .add, [.t 79, .t 81], none⟩,
 ⟨some 83, .mv, [.t 5], none⟩,
 ⟨some 84, .mv, [.t 0], none⟩,
 ⟨some 85, .chk, [.t 84], none⟩,
 ⟨some 86, .fld 0 1 false, [.t 85], none⟩,
 ⟨some 87, .load 1 false, [.t 86], none⟩,
 ⟨some 88, .len, [.t 87], none⟩,
 ⟨some 89, .bin .quo, [.t 83, .t 88], none⟩,
 ⟨some 90, .bin .mul, [.t 89, .c (.i 53)], none⟩,
 ⟨some 91, .bin .add, [.t 82, .t 90], none⟩,
 ⟨some 6, .mv, [.t 91], none⟩] [5, 47, 48, 49, 50, 51, 52, 53, 54, 55, 56, 57, 58, 59, 60, 61, 62, 63, 64, 65, 66, 67, 68, 69, 70, 71, 72, 73, 74, 75, 76, 77, 78, 79, 80, 81, 82, 83, 84, 85, 86, 87, 88, 89, 90, 91])
 (.seq
 (.region false [⟨some 92, .mv, [.t 6], none⟩,
 ⟨some 93, .mv, [.t 6], none⟩,
 ⟨some 94, .bin .quo, [.t 93, .c (.i 64)], none⟩,
 ⟨some 95, .bin .xor, [.t 92, .t 94], none⟩,
 ⟨some 6, .mv, [.t 95], none⟩] [92, 93, 94, 95])
 (.seq
 (.region false [⟨some 96, .mv, [.t 6], none⟩,
 ⟨some 97, .mv, [.t 1], none⟩,
 ⟨some 98, .bin .rem, [.t 96, .t 97], none⟩,
 ⟨some 4, .mv, [.t 98], none⟩] [1, 6, 96, 97, 98])
 .ret)))))))) }
/-- spec.l20Term -/
def F_spec_l20Term_L0 : LC :=
 (.seq
 (.seq
 (.region false [⟨some 23, .mv, [.t 9], none⟩,
 ⟨some 24, .mv, [.t 1], none⟩,
 ⟨some 25, .bin .lss, [.t 23, .t 24], none⟩,
 ⟨some 26, .mv, [.t 25], none⟩,
 ⟨some 27, .mv, [.t 8], some (26, true)⟩,
 ⟨some 28, .pick, [.t 26, .t 27, .c (.b false)], none⟩] [23, 24, 25, 26, 27])
 (.cond (.t 28) [28]
 .skip
 (.exit 0)))
 (.seq
 (.block 1
 (.seq
 (.region false [⟨some 31, .mv, [.t 0], none⟩,
 ⟨some 32, .call n_spec_l20Rd_pick 16384, [.t 31, .c (.i 4)], none⟩,
 ⟨some 33, .bin .gtr, [.t 32, .c (.i 0)], none⟩,
 ⟨some 34, .mv, [.t 33], none⟩,
 ⟨some 35, .mv, [.t 9], some (34, false)⟩,
 ⟨some 36, .bin .eql, [.t 35, .c (.i 0)], some (34, false)⟩,
 ⟨some 37, .pick, [.t 34, .c (.b true), .t 36], none⟩] [31, 32, 33, 34, 35, 36])
 (.cond (.t 37) [37]
 (.region false [⟨some 38, .mv, [.t 7], none⟩,
 ⟨some 39, .mv, [.t 9], none⟩,
 ⟨some 40, .build [.i 0, .i 0] [(0, 1), (1, 1)], [.c (.i 0), .t 39], none⟩,
 ⟨some 41, .bslice 21008 1 2 (.st [.i 0, .i 0]) [0], [.t 40], none⟩,
 ⟨some 42, .bslice 21512 1 1 (.sl 1 []) [0], [.t 41], none⟩,
 ⟨some 43, .app 22024 1, [.t 38, .t 42], none⟩,
 ⟨some 7, .mv, [.t 43], none⟩] [38, 39, 40, 41, 42, 43])
 .skip)))
 (.region false [⟨some 29, .mv, [.t 9], none⟩,
 ⟨some 30, .bin .add, [.t 29, .c (.i 1)], none⟩,
 ⟨some 9, .mv, [.t 30], none⟩] [29, 30])))
def F_spec_l20Term_W0 : LC := .loop F_spec_l20Term_L0
def F_spec_l20Term_L1 : LC :=
 (.seq
 (.seq
 (.region false [⟨some 47, .mv, [.t 10], none⟩,
 ⟨some 48, .bin .gtr, [.t 47, .c (.i 0)], none⟩,
 ⟨some 49, .mv, [.t 48], none⟩,
 ⟨some 50, .mv, [.t 8], some (49, true)⟩,
 ⟨some 51, .un .not, [.t 50], some (49, true)⟩,
 ⟨some 52, .pick, [.t 49, .t 51, .c (.b false)], none⟩] [47, 48, 49, 50, 51])
 (.cond (.t 52) [52]
 .skip
 (.exit 2)))
 (.seq
 (.block 3
 (.region false [⟨some 55, .mv, [.t 7], none⟩,
 ⟨some 56, .mv, [.t 0], none⟩,
 ⟨some 57, .mv, [.t 1], none⟩,
 ⟨some 58, .call n_spec_l20Rd_pick 29696, [.t 56, .t 57], none⟩,
 ⟨some 59, .build [.i 0, .i 0] [(0, 1), (1, 1)], [.c (.i 0), .t 58], none⟩,
 ⟨some 60, .bslice 30736 1 2 (.st [.i 0, .i 0]) [0], [.t 59], none⟩,
 ⟨some 61, .bslice 31240 1 1 (.sl 1 []) [0], [.t 60], none⟩,
 ⟨some 62, .app 31752 1, [.t 55, .t 61], none⟩,
 ⟨some 7, .mv, [.t 62], none⟩] [55, 56, 57, 58, 59, 60, 61, 62]))
 (.region false [⟨some 53, .mv, [.t 10], none⟩,
 ⟨some 54, .bin .sub, [.t 53, .c (.i 1)], none⟩,
 ⟨some 10, .mv, [.t 54], none⟩] [53, 54])))
def F_spec_l20Term_W1 : LC := .loop F_spec_l20Term_L1
def F_spec_l20Term_L2 : LC :=
 (.ghost (.rename 7 9736)
 (.seq
 (.seq
 (.region false [⟨some 63, .mv, [.t 7], none⟩,
 ⟨some 64, .len, [.t 63], none⟩,
 ⟨some 65, .bin .gtr, [.t 64, .c (.i 1)], none⟩] [63, 64])
 (.cond (.t 65) [65]
 .skip
 (.exit 4)))
 (.block 5
 (.seq
 (.region false [⟨some 66, .mv, [.t 0], none⟩,
 ⟨some 67, .mv, [.t 7], none⟩,
 ⟨some 68, .len, [.t 67], none⟩,
 ⟨some 69, .bin .sub, [.t 68, .c (.i 1)], none⟩,
 ⟨some 70, .call n_spec_l20Rd_pick 35840, [.t 66, .t 69], none⟩,
 ⟨some 12, .mv, [.t 70], none⟩] [66, 67, 68, 69, 70])
 (.seq
 (.seq
 (.region false [⟨some 71, .mv, [.t 11], none⟩,
 ⟨some 72, .bin .gtr, [.t 71, .c (.i 0)], none⟩,
 ⟨some 73, .mv, [.t 72], none⟩,
 ⟨some 74, .mv, [.t 0], some (73, true)⟩,
 ⟨some 75, .call n_spec_l20Rd_pick 38400, [.t 74, .c (.i 4)], some (73, true)⟩,
 ⟨some 76, .bin .eql, [.t 75, .c (.i 0)], some (73, true)⟩,
 ⟨some 77, .pick, [.t 73, .t 76, .c (.b false)], none⟩] [71, 72, 73, 74, 75, 76])
 (.cond (.t 77) [77]
 (.seq
 (.region false [⟨some 78, .mv, [.t 11], none⟩,
 ⟨some 79, .bin .sub, [.t 78, .c (.i 1)], none⟩,
 ⟨some 11, .mv, [.t 79], none⟩] [78, 79])
 (.seq
 (.region false [⟨some 80, .mv, [.t 7], none⟩,
 ⟨some 81, .mv, [.t 12], none⟩,
 ⟨some 82, .bslice 42000 0 2 (.st [.i 0, .i 0]) [], [], none⟩,
 ⟨some 83, .mv, [.t 7], none⟩,
 ⟨some 84, .mv, [.t 12], none⟩,
 ⟨some 85, .idxa 1, [.t 83, .t 84], none⟩,
 ⟨some 86, .load 1 false, [.t 85], none⟩,
 ⟨some 87, .app 44560 2, [.t 82, .t 86], none⟩,
 ⟨some 88, .build [.i 0, .i 0] [(0, 1)], [.c (.i 1)], none⟩,
 ⟨some 89, .bslice 45584 1 2 (.st [.i 0, .i 0]) [0], [.t 88], none⟩,
 ⟨some 90, .app 46096 2, [.t 87, .t 89], none⟩,
 ⟨some 91, .idxa 1, [.t 80, .t 81], none⟩,
 ⟨none, .store 1, [.t 91, .t 90], none⟩] [12, 80, 81, 82, 83, 84, 85, 86, 87, 88, 89, 90, 91])
 (.exit 5)))
 .skip))
 (.seq
 (.region true [⟨some 92, .bslice 47120 0 2 (.st [.i 0, .i 0]) [], [], none⟩,
 ⟨some 93, .mv, [.t 7], none⟩,
 ⟨some 94, .mv, [.t 12], none⟩,
 ⟨some 95, .idxa 1, [.t 93, .t 94], none⟩,
 ⟨some 96, .load 1 false, [.t 95], none⟩,
 ⟨some 97, .app 49680 2, [.t 92, .t 96], none⟩,
 ⟨some 98, .mv, [.t 7], none⟩,
 ⟨some 99, .mv, [.t 12], none⟩,
 ⟨some 100, .bin .add, [.t 99, .c (.i 1)], none⟩,
 ⟨some 101, .idxa 1, [.t 98, .t 100], none⟩,
 ⟨some 102, .load 1 false, [.t 101], none⟩,
 ⟨some 103, .app 52752 2, [.t 97, .t 102], none⟩,
 ⟨some 104, .mv, [.t 0], none⟩,
 ⟨some 105, .call n_spec_l20Rd_pick 53760, [.t 104, .c (.i 2)], none⟩,
 ⟨some 106, .bin .add, [.c (.i 2), .t 105], none⟩,
 ⟨some 107, .build [.i 0, .i 0] [(0, 1)], [.t 106], none⟩,
 ⟨some 108, .bslice 55312 1 2 (.st [.i 0, .i 0]) [0], [.t 107], none⟩,
 ⟨some 109, .app 55824 2, [.t 103, .t 108], none⟩,
 ⟨some 13, .mv, [.t 109], none⟩] [92, 93, 94, 95, 96, 97, 98, 99, 100, 101, 102, 103, 104, 105, 106, 107, 108, 109])
 (.seq
 (.region false [⟨some 110, .bslice 56328 0 1 (.sl 1 []) [], [], none⟩,
 ⟨some 111, .mv, [.t 7], none⟩,
 ⟨some 112, .mv, [.t 12], none⟩,
 ⟨some 113, .slice false true 1, [.t 111, .t 112], none⟩,
 ⟨some 114, .app 58376 1, [.t 110, .t 113], none⟩,
 ⟨some 14, .mv, [.t 114], none⟩] [110, 111, 112, 113, 114])
 (.seq
 (.region false [⟨some 115, .mv, [.t 14], none⟩,
 ⟨some 116, .mv, [.t 13], none⟩,
 ⟨some 117, .bslice 59912 1 1 (.sl 1 []) [0], [.t 116], none⟩,
 ⟨some 118, .app 60424 1, [.t 115, .t 117], none⟩,
 ⟨some 14, .mv, [.t 118], none⟩] [13, 115, 116, 117, 118])
 (.region false [⟨some 119, .mv, [.t 14], none⟩,
 ⟨some 120, .mv, [.t 7], none⟩,
 ⟨some 121, .mv, [.t 12], none⟩,
 ⟨some 122, .bin .add, [.t 121, .c (.i 2)], none⟩,
 ⟨some 123, .slice true false 1, [.t 120, .t 122], none⟩,
 ⟨some 124, .app 63496 1, [.t 119, .t 123], none⟩,
 ⟨some 7, .mv, [.t 124], none⟩] [12, 14, 119, 120, 121, 122, 123, 124])))))))))
def F_spec_l20Term_W2 : LC := .loop F_spec_l20Term_L2
def F_spec_l20Term : LF :=
 { nparams := 3, results := [.t 6], body :=
 (.seq
 (.region false [⟨some 6, .newnil 3088, [], none⟩] [6])
 (.seq
 (.region false [⟨some 16, .mv, [.t 1], none⟩,
 ⟨some 17, .mm true, [.t 16, .c (.i 1)], none⟩,
 ⟨some 18, .mm false, [.t 17, .c (.i 5)], none⟩,
 ⟨some 1, .mv, [.t 18], none⟩] [16, 17, 18])
 (.seq
 (.region false [⟨some 19, .bslice 9736 0 1 (.sl 1 []) [], [], none⟩,
 ⟨some 7, .mv, [.t 19], none⟩] [19])
 (.seq
 (.region false [⟨some 20, .mv, [.t 0], none⟩,
 ⟨some 21, .call n_spec_l20Rd_pick 10752, [.t 20, .c (.i 2)], none⟩,
 ⟨some 22, .bin .eql, [.t 21, .c (.i 0)], none⟩,
 ⟨some 8, .mv, [.t 22], none⟩] [20, 21, 22])
 (.seq
 (.seq
 (.region false [⟨some 9, .mv, [.c (.i 0)], none⟩] [])
 (.block 0
 F_spec_l20Term_W0))
 (.seq
 (.seq
 (.region false [⟨some 44, .mv, [.t 0], none⟩,
 ⟨some 45, .call n_spec_l20Rd_pick 23040, [.t 44, .c (.i 5)], none⟩,
 ⟨some 46, .bin .add, [.c (.i 1), .t 45], none⟩,
 ⟨some 10, .mv, [.t 46], none⟩] [9, 44, 45, 46])
 (.block 2
 F_spec_l20Term_W1))
 (.seq
 (.region false [⟨some 11, .mv, [.c (.i 2)], none⟩] [1, 8, 10])
 (.seq
 (.block 4
 F_spec_l20Term_W2)
 (.seq
 (.region false [⟨some 125, .mv, [.t 7], none⟩,
 ⟨some 126, .idxa 1, [.t 125, .c (.i 0)], none⟩,
 ⟨some 127, .load 1 false, [.t 126], none⟩,
 ⟨some 15, .mv, [.t 127], none⟩] [7, 11, 125, 126, 127])
 (.ghost (.promote 15 7696)
 (.seq
 (.seq
 (.region false [⟨some 128, .mv, [.t 0], none⟩,
 ⟨some 129, .mv, [.t 2], none⟩,
 ⟨some 130, .call n_spec_l20Rd_odd 66560, [.t 128, .t 129], none⟩] [2, 128, 129])
 (.cond (.t 130) [130]
 (.seq
 (.region false [⟨some 131, .mv, [.t 0], none⟩,
 ⟨some 132, .call n_spec_l20Rd_pick 67584, [.t 131, .c (.i 3)], none⟩] [131])
 (.block 6
 (.seq
 (.region false [⟨some 137, .bin .eql, [.t 132, .c (.i 0)], none⟩,
 ⟨some 136, .mv, [.t 137], none⟩] [137])
 (.cond (.t 136) [136]
 (.seq
 (.region false [⟨some 138, .bslice 70672 0 2 (.st [.i 0, .i 0]) [], [], none⟩,
 ⟨some 6, .mv, [.t 138], none⟩] [15, 132, 138])
 .ret)
 (.seq
 (.region false [⟨some 140, .bin .eql, [.t 132, .c (.i 1)], none⟩,
 ⟨some 139, .mv, [.t 140], none⟩] [132, 140])
 (.cond (.t 139) [139]
 (.seq
 (.region false [⟨some 141, .mv, [.t 15], none⟩,
 ⟨some 142, .build [.i 0, .i 0] [(0, 1)], [.c (.i 2)], none⟩,
 ⟨some 143, .bslice 73232 1 2 (.st [.i 0, .i 0]) [0], [.t 142], none⟩,
 ⟨some 144, .app 73744 2, [.t 141, .t 143], none⟩,
 ⟨some 6, .mv, [.t 144], none⟩] [15, 141, 142, 143, 144])
 .ret)
 (.region false [⟨some 133, .mv, [.t 15], none⟩,
 ⟨some 134, .build [.i 0, .i 0] [(0, 1), (1, 1)], [.c (.i 0), .c (.i 5)], none⟩,
 ⟨some 135, .idxa 2, [.t 133, .c (.i 0)], none⟩,
 ⟨none, .store 2, [.t 135, .t 134], none⟩] [133, 134, 135])))))))
 .skip))
 (.seq
 (.region false [⟨some 145, .mv, [.t 15], none⟩,
 ⟨some 6, .mv, [.t 145], none⟩] [15, 145])
 .ret)))))))))))) }
/-- spec.l2Or -/
def F_spec_l2Or_L0 : LC :=
 (.ghost (.rename 6 6673)
 (.seq
 (.seq
 (.region false [⟨some 16, .mv, [.t 7], none⟩,
 ⟨some 17, .bin .geq, [.t 16, .c (.i 0)], none⟩,
 ⟨some 18, .mv, [.t 17], none⟩,
 ⟨some 19, .mv, [.t 7], some (18, true)⟩,
 ⟨some 20, .mv, [.t 0], some (18, true)⟩,
 ⟨some 21, .lens, [.t 20], some (18, true)⟩,
 ⟨some 22, .bin .lss, [.t 19, .t 21], some (18, true)⟩,
 ⟨some 23, .pick, [.t 18, .t 22, .c (.b false)], none⟩,
 ⟨some 24, .mv, [.t 23], none⟩,
 ⟨some 25, .mv, [.t 0], some (24, true)⟩,
 ⟨some 26, .mv, [.t 7], some (24, true)⟩,
 ⟨some 27, .idx, [.t 25, .t 26], some (24, true)⟩,
 ⟨some 28, .bin .eql, [.t 27, .c (.y 124)], some (24, true)⟩,
 ⟨some 29, .pick, [.t 24, .t 28, .c (.b false)], none⟩] [16, 17, 18, 19, 20, 21, 22, 23, 24, 25, 26, 27, 28])
 (.cond (.t 29) [29]
 .skip
 (.exit 0)))
 (.block 1
 (.seq
 (.region false [⟨some 31, .mv, [.t 0], none⟩,
 ⟨some 32, .mv, [.t 7], none⟩,
 ⟨some 33, .bin .add, [.t 32, .c (.i 1)], none⟩,
 ⟨some 34, .call n_spec_l2And 17408, [.t 31, .t 33], none⟩,
 ⟨some 30, .mv, [.t 34], none⟩,
 ⟨some 35, .ext 0, [.t 30], none⟩,
 ⟨some 36, .ext 1, [.t 30], none⟩,
 ⟨some 8, .mv, [.t 35], none⟩,
 ⟨some 9, .mv, [.t 36], none⟩] [7, 30, 31, 32, 33, 34, 35, 36])
 (.seq
 (.region false [⟨some 37, .bslice 18960 0 2 (.st [.i 0, .i 0]) [], [], none⟩,
 ⟨some 38, .mv, [.t 6], none⟩,
 ⟨some 39, .app 19984 2, [.t 37, .t 38], none⟩,
 ⟨some 40, .mv, [.t 8], none⟩,
 ⟨some 41, .app 21008 2, [.t 39, .t 40], none⟩,
 ⟨some 42, .build [.i 0, .i 0] [(0, 1)], [.c (.i 3)], none⟩,
 ⟨some 43, .bslice 22032 1 2 (.st [.i 0, .i 0]) [0], [.t 42], none⟩,
 ⟨some 44, .app 22544 2, [.t 41, .t 43], none⟩,
 ⟨some 6, .mv, [.t 44], none⟩] [8, 37, 38, 39, 40, 41, 42, 43, 44])
 (.region false [⟨some 45, .mv, [.t 9], none⟩,
 ⟨some 7, .mv, [.t 45], none⟩] [9, 45]))))))
def F_spec_l2Or_W0 : LC := .loop F_spec_l2Or_L0
def F_spec_l2Or : LF :=
 { nparams := 2, results := [.t 4, .t 5], body :=
 (.seq
 (.region false [⟨some 4, .newnil 2064, [], none⟩,
 ⟨some 5, .mv, [.c (.i 0)], none⟩] [4, 5])
 (.seq
 (.region false [⟨some 11, .mv, [.t 0], none⟩,
 ⟨some 12, .mv, [.t 1], none⟩,
 ⟨some 13, .call n_spec_l2And 6656, [.t 11, .t 12], none⟩,
 ⟨some 10, .mv, [.t 13], none⟩,
 ⟨some 14, .ext 0, [.t 10], none⟩,
 ⟨some 15, .ext 1, [.t 10], none⟩,
 ⟨some 6, .mv, [.t 14], none⟩,
 ⟨some 7, .mv, [.t 15], none⟩] [1, 10, 11, 12, 13, 14, 15])
 (.seq
 (.block 0
 F_spec_l2Or_W0)
 (.seq
 (.region false [⟨some 46, .mv, [.t 6], none⟩,
 ⟨some 47, .mv, [.t 7], none⟩,
 ⟨some 4, .mv, [.t 46], none⟩,
 ⟨some 5, .mv, [.t 47], none⟩] [0, 6, 7, 46, 47])
 .ret)))) }
/-- laws.toMark -/
def F_laws_toMark : LF :=
 { nparams := 1, results := [.c 2 2 true], body :=
 (.seq
 (.region false [⟨some 1, .box 528, [.t 0], none⟩,
 ⟨some 2, .alloc 1040 (.st [.i 0, .i 0]), [], none⟩] [0])
 (.seq
 (.region false [⟨some 3, .alloc 1552 (.st [.i 0, .i 0]), [], none⟩] [])
 (.seq
 (.region false [⟨some 4, .fld 0 1 false, [.t 1], none⟩,
 ⟨some 5, .load 1 false, [.t 4], none⟩,
 ⟨some 6, .fld 0 1 false, [.t 3], none⟩,
 ⟨none, .store 1, [.t 6, .t 5], none⟩] [4, 5, 6])
 (.seq
 (.region false [⟨some 7, .fld 1 1 false, [.t 1], none⟩,
 ⟨some 8, .load 1 false, [.t 7], none⟩,
 ⟨some 9, .fld 1 1 false, [.t 3], none⟩,
 ⟨none, .store 1, [.t 9, .t 8], none⟩] [1, 7, 8, 9])
 (.seq
 (.region false [⟨some 10, .load 2 true, [.t 3], none⟩,
 ⟨none, .store 2, [.t 2, .t 10], none⟩] [3, 10])
 .ret))))) }
/-- laws.eqMark -/
def F_laws_eqMark : LF :=
 { nparams := 2, results := [.t 4], body :=
 (.seq
 (.region false [⟨some 2, .box 1040, [.t 0], none⟩,
 ⟨some 3, .box 1552, [.t 1], none⟩,
 ⟨some 4, .mv, [.c (.b false)], none⟩] [0, 1, 4])
 (.seq
 (.seq
 (.region false [⟨some 5, .fld 0 1 false, [.t 2], none⟩,
 ⟨some 6, .load 1 false, [.t 5], none⟩,
 ⟨some 7, .fld 0 1 false, [.t 3], none⟩,
 ⟨some 8, .load 1 false, [.t 7], none⟩,
 ⟨some 9, .bin .neq, [.t 6, .t 8], none⟩] [5, 6, 7, 8])
 (.cond (.t 9) [9]
 (.seq
 (.region false [⟨some 4, .mv, [.c (.b false)], none⟩] [2, 3])
 .ret)
 .skip))
 (.seq
 (.seq
 (.region false [⟨some 10, .fld 1 1 false, [.t 2], none⟩,
 ⟨some 11, .load 1 false, [.t 10], none⟩,
 ⟨some 12, .fld 1 1 false, [.t 3], none⟩,
 ⟨some 13, .load 1 false, [.t 12], none⟩,
 ⟨some 14, .bin .neq, [.t 11, .t 13], none⟩] [2, 3, 10, 11, 12, 13])
 (.cond (.t 14) [14]
 (.seq
 (.region false [⟨some 4, .mv, [.c (.b false)], none⟩] [])
 .ret)
 .skip))
 (.seq
 (.region false [⟨some 4, .mv, [.c (.b true)], none⟩] [])
 .ret)))) }
/-- impl.bracketedFrom -/
def F_impl_bracketedFrom : LF :=
 { nparams := 2, results := [.t 4], body :=
 (.seq
 (.region false [⟨some 3, .box 1552, [.t 1], none⟩,
 ⟨some 4, .mv, [.c (.s [])], none⟩] [1, 4])
 (.seq
 (.seq
 (.region false [⟨some 5, .fld 1 1 false, [.t 3], none⟩,
 ⟨some 6, .load 1 false, [.t 5], none⟩,
 ⟨some 7, .mv, [.t 0], none⟩,
 ⟨some 8, .bin .geq, [.t 6, .t 7], none⟩] [0, 5, 6, 7])
 (.cond (.t 8) [8]
 (.seq
 (.region false [⟨some 9, .fld 0 1 false, [.t 3], none⟩,
 ⟨some 10, .load 1 false, [.t 9], none⟩,
 ⟨some 11, .bin .add, [.c (.s [40]), .t 10], none⟩,
 ⟨some 12, .bin .add, [.t 11, .c (.s [41])], none⟩,
 ⟨some 4, .mv, [.t 12], none⟩] [3, 9, 10, 11, 12])
 .ret)
 .skip))
 (.seq
 (.region false [⟨some 13, .fld 0 1 false, [.t 3], none⟩,
 ⟨some 14, .load 1 false, [.t 13], none⟩,
 ⟨some 4, .mv, [.t 14], none⟩] [3, 13, 14])
 .ret))) }
/-- spec.l1In -/
def F_spec_l1In : LF :=
 { nparams := 3, results := [.t 6], body :=
 (.seq
 (.region false [⟨some 6, .mv, [.c (.b false)], none⟩] [6])
 (.seq
 (.region false [⟨some 7, .mv, [.t 0], none⟩,
 ⟨some 8, .mv, [.t 1], none⟩,
 ⟨some 9, .bin .geq, [.t 7, .t 8], none⟩,
 ⟨some 10, .mv, [.t 9], none⟩,
 ⟨some 11, .mv, [.t 0], some (10, true)⟩,
 ⟨some 12, .mv, [.t 2], some (10, true)⟩,
 ⟨some 13, .bin .leq, [.t 11, .t 12], some (10, true)⟩,
 ⟨some 14, .pick, [.t 10, .t 13, .c (.b false)], none⟩,
 ⟨some 6, .mv, [.t 14], none⟩] [0, 1, 2, 7, 8, 9, 10, 11, 12, 13, 14])
 .ret)) }
/-- spec.l2Held -/
def F_spec_l2Held : LF :=
 { nparams := 2, results := [.t 4], body :=
 (.seq
 (.region false [⟨some 4, .mv, [.c (.s [])], none⟩] [4])
 (.seq
 (.region false [⟨some 5, .mv, [.c (.i 2)], none⟩] [])
 (.seq
 (.seq
 (.region false [⟨some 6, .mv, [.t 0], none⟩,
 ⟨some 7, .mv, [.t 0], none⟩,
 ⟨some 8, .len, [.t 7], none⟩,
 ⟨some 9, .bin .sub, [.t 8, .c (.i 1)], none⟩,
 ⟨some 10, .idxa 2, [.t 6, .t 9], none⟩,
 ⟨some 11, .fld 0 1 false, [.t 10], none⟩,
 ⟨some 12, .load 1 false, [.t 11], none⟩] [6, 7, 8, 9, 10, 11])
 (.block 0
 (.seq
 (.region false [⟨some 14, .bin .eql, [.t 12, .c (.i 3)], none⟩,
 ⟨some 13, .mv, [.t 14], none⟩] [14])
 (.cond (.t 13) [13]
 (.region false [⟨some 5, .mv, [.c (.i 0)], none⟩] [12])
 (.seq
 (.region false [⟨some 16, .bin .eql, [.t 12, .c (.i 2)], none⟩,
 ⟨some 15, .mv, [.t 16], none⟩] [12, 16])
 (.cond (.t 15) [15]
 (.region false [⟨some 5, .mv, [.c (.i 1)], none⟩] [])
 .skip))))))
 (.seq
 (.seq
 (.region false [⟨some 17, .mv, [.t 5], none⟩,
 ⟨some 18, .mv, [.t 1], none⟩,
 ⟨some 19, .bin .lss, [.t 17, .t 18], none⟩] [1, 5, 17, 18])
 (.cond (.t 19) [19]
 (.seq
 (.region false [⟨some 20, .mv, [.t 0], none⟩,
 ⟨some 21, .call n_spec_l2Text 10752, [.t 20], none⟩,
 ⟨some 22, .bin .add, [.c (.s [40]), .t 21], none⟩,
 ⟨some 23, .bin .add, [.t 22, .c (.s [41])], none⟩,
 ⟨some 4, .mv, [.t 23], none⟩] [0, 20, 21, 22, 23])
 .ret)
 .skip))
 (.seq
 (.region false [⟨some 24, .mv, [.t 0], none⟩,
 ⟨some 25, .call n_spec_l2Text 12800, [.t 24], none⟩,
 ⟨some 4, .mv, [.t 25], none⟩] [0, 24, 25])
 .ret))))) }
/-- spec.l2Starts -/
def F_spec_l2Starts_L0 : LC :=
 (.seq
 (.seq
 (.region false [⟨some 8, .mv, [.t 5], none⟩,
 ⟨some 9, .bin .gtr, [.t 8, .c (.i 0)], none⟩] [8])
 (.cond (.t 9) [9]
 .skip
 (.exit 0)))
 (.block 1
 (.seq
 (.seq
 (.region false [⟨some 10, .mv, [.t 0], none⟩,
 ⟨some 11, .mv, [.t 6], none⟩,
 ⟨some 12, .idxa 2, [.t 10, .t 11], none⟩,
 ⟨some 13, .fld 0 1 false, [.t 12], none⟩,
 ⟨some 14, .load 1 false, [.t 13], none⟩] [10, 11, 12, 13])
 (.block 2
 (.seq
 (.region false [⟨some 18, .bin .eql, [.t 14, .c (.i 0)], none⟩,
 ⟨some 17, .mv, [.t 18], none⟩] [18])
 (.cond (.t 17) [17]
 (.region false [⟨some 19, .mv, [.t 5], none⟩,
 ⟨some 20, .bin .sub, [.t 19, .c (.i 1)], none⟩,
 ⟨some 5, .mv, [.t 20], none⟩] [14, 19, 20])
 (.seq
 (.region false [⟨some 22, .bin .eql, [.t 14, .c (.i 1)], none⟩,
 ⟨some 21, .mv, [.t 22], none⟩] [14, 22])
 (.cond (.t 21) [21]
 .skip
 (.region false [⟨some 15, .mv, [.t 5], none⟩,
 ⟨some 16, .bin .add, [.t 15, .c (.i 1)], none⟩,
 ⟨some 5, .mv, [.t 16], none⟩] [15, 16])))))))
 (.region false [⟨some 23, .mv, [.t 6], none⟩,
 ⟨some 24, .bin .sub, [.t 23, .c (.i 1)], none⟩,
 ⟨some 6, .mv, [.t 24], none⟩] [23, 24]))))
def F_spec_l2Starts_W0 : LC := .loop F_spec_l2Starts_L0
def F_spec_l2Starts : LF :=
 { nparams := 2, results := [.t 4], body :=
 (.seq
 (.region false [⟨some 4, .mv, [.c (.i 0)], none⟩] [4])
 (.seq
 (.region false [⟨some 5, .mv, [.c (.i 1)], none⟩] [])
 (.seq
 (.region false [⟨some 7, .mv, [.t 1], none⟩,
 ⟨some 6, .mv, [.t 7], none⟩] [1, 7])
 (.seq
 (.block 0
 F_spec_l2Starts_W0)
 (.seq
 (.region false [⟨some 25, .mv, [.t 6], none⟩,
 ⟨some 26, .bin .add, [.t 25, .c (.i 1)], none⟩,
 ⟨some 4, .mv, [.t 26], none⟩] [0, 5, 6, 25, 26])
 .ret))))) }
/-- impl.readRow -/
def F_impl_readRow_L0 : LC :=
 (.seq
 (.seq
 (.region false [⟨some 19, .mv, [.t 10], none⟩,
 ⟨some 20, .len, [.t 19], none⟩,
 ⟨some 21, .bin .gtr, [.t 20, .c (.i 0)], none⟩,
 ⟨some 22, .mv, [.t 21], none⟩,
 ⟨some 23, .mv, [.t 11], some (22, true)⟩,
 ⟨some 24, .bin .neq, [.t 23, .c (.s [])], some (22, true)⟩,
 ⟨some 25, .pick, [.t 22, .t 24, .c (.b false)], none⟩,
 ⟨some 26, .mv, [.t 25], none⟩,
 ⟨some 27, .mv, [.t 11], some (26, true)⟩,
 ⟨some 28, .idx, [.t 27, .c (.i 0)], some (26, true)⟩,
 ⟨some 29, .mv, [.t 1], some (26, true)⟩,
 ⟨some 30, .bin .eql, [.t 28, .t 29], some (26, true)⟩,
 ⟨some 31, .pick, [.t 26, .t 30, .c (.b false)], none⟩] [19, 20, 21, 22, 23, 24, 25, 26, 27, 28, 29, 30])
 (.cond (.t 31) [31]
 .skip
 (.exit 0)))
 (.block 1
 (.seq
 (.region false [⟨some 12, .newnil 6160, [], none⟩] [12])
 (.seq
 (.region false [⟨some 33, .mv, [.t 3], none⟩,
 ⟨some 34, .mv, [.t 11], none⟩,
 ⟨some 35, .slices true false, [.t 34, .c (.i 1)], none⟩,
 ⟨some 36, .calld 18432, [.t 33, .t 35], none⟩,
 ⟨some 32, .mv, [.t 36], none⟩,
 ⟨some 37, .ext 0, [.t 32], none⟩,
 ⟨some 38, .ext 1, [.t 32], none⟩,
 ⟨some 12, .mv, [.t 37], none⟩,
 ⟨some 11, .mv, [.t 38], none⟩] [32, 33, 34, 35, 36, 37, 38])
 (.seq
 (.seq
 (.region false [⟨some 39, .mv, [.t 12], none⟩,
 ⟨some 40, .len, [.t 39], none⟩,
 ⟨some 41, .bin .eql, [.t 40, .c (.i 0)], none⟩] [39, 40])
 (.cond (.t 41) [41]
 (.seq
 (.region false [⟨some 8, .newnil 4112, [], none⟩,
 ⟨some 9, .mv, [.c (.s [])], none⟩] [1, 2, 3, 10, 11, 12])
 .ret)
 .skip))
 (.region false [⟨some 42, .mv, [.t 10], none⟩,
 ⟨some 43, .mv, [.t 12], none⟩,
 ⟨some 44, .app 22544 2, [.t 42, .t 43], none⟩,
 ⟨some 45, .mv, [.t 2], none⟩,
 ⟨some 46, .build [.i 0, .i 0] [(0, 1)], [.t 45], none⟩,
 ⟨some 47, .bslice 24080 1 2 (.st [.i 0, .i 0]) [0], [.t 46], none⟩,
 ⟨some 48, .app 24592 2, [.t 44, .t 47], none⟩,
 ⟨some 10, .mv, [.t 48], none⟩] [12, 42, 43, 44, 45, 46, 47, 48]))))))
def F_impl_readRow_W0 : LC := .loop F_impl_readRow_L0
def F_impl_readRow : LF :=
 { nparams := 4, results := [.t 8, .t 9], body :=
 (.seq
 (.region false [⟨some 8, .newnil 4112, [], none⟩,
 ⟨some 9, .mv, [.c (.s [])], none⟩] [8, 9])
 (.seq
 (.region false [⟨some 14, .mv, [.t 3], none⟩,
 ⟨some 15, .mv, [.t 0], none⟩,
 ⟨some 16, .calld 8192, [.t 14, .t 15], none⟩,
 ⟨some 13, .mv, [.t 16], none⟩,
 ⟨some 17, .ext 0, [.t 13], none⟩,
 ⟨some 18, .ext 1, [.t 13], none⟩,
 ⟨some 10, .mv, [.t 17], none⟩,
 ⟨some 11, .mv, [.t 18], none⟩] [0, 13, 14, 15, 16, 17, 18])
 (.seq
 (.block 0
 F_impl_readRow_W0)
 (.seq
 (.region false [⟨some 49, .mv, [.t 10], none⟩,
 ⟨some 50, .mv, [.t 11], none⟩,
 ⟨some 8, .mv, [.t 49], none⟩,
 ⟨some 9, .mv, [.t 50], none⟩] [1, 2, 3, 10, 11, 49, 50])
 .ret)))) }
/-- impl.readAnd -/
def F_impl_readAnd : LF :=
 { nparams := 1, results := [.t 2, .t 3], body :=
 (.seq
 (.region false [⟨some 2, .newnil 1040, [], none⟩,
 ⟨some 3, .mv, [.c (.s [])], none⟩] [2, 3])
 (.seq
 (.region false [⟨some 4, .mv, [.t 0], none⟩,
 ⟨some 5, .call n_impl_readRow 2560, [.t 4, .c (.y 38), .c (.i 2), .c (.fn n_impl_readNot [])], none⟩,
 ⟨some 6, .ext 0, [.t 5], none⟩,
 ⟨some 7, .ext 1, [.t 5], none⟩,
 ⟨some 2, .mv, [.t 6], none⟩,
 ⟨some 3, .mv, [.t 7], none⟩] [0, 4, 5, 6, 7])
 .ret)) }
/-- spec.l20Rd).odd -/
def F_spec_l20Rd_odd : LF :=
 { nparams := 2, results := [.t 4], body :=
 (.seq
 (.region false [⟨some 4, .mv, [.c (.b false)], none⟩] [4])
 (.seq
 (.region false [⟨some 5, .mv, [.t 1], none⟩,
 ⟨some 6, .bin .gtr, [.t 5, .c (.i 0)], none⟩,
 ⟨some 7, .mv, [.t 6], none⟩,
 ⟨some 8, .mv, [.t 0], some (7, true)⟩,
 ⟨some 9, .mv, [.t 1], some (7, true)⟩,
 ⟨some 10, .call n_spec_l20Rd_pick 5120, [.t 8, .t 9], some (7, true)⟩,
 ⟨some 11, .mv, [.t 1], some (7, true)⟩,
 ⟨some 12, .bin .sub, [.t 11, .c (.i 1)], some (7, true)⟩,
 ⟨some 13, .bin .eql, [.t 10, .t 12], some (7, true)⟩,
 ⟨some 14, .pick, [.t 7, .t 13, .c (.b false)], none⟩,
 ⟨some 4, .mv, [.t 14], none⟩] [1, 5, 6, 7, 8, 9, 10, 11, 12, 13, 14])
 .ret)) }
/-- spec.l2And -/
def F_spec_l2And_L0 : LC :=
 (.ghost (.rename 6 6673)
 (.seq
 (.seq
 (.region false [⟨some 16, .mv, [.t 7], none⟩,
 ⟨some 17, .bin .geq, [.t 16, .c (.i 0)], none⟩,
 ⟨some 18, .mv, [.t 17], none⟩,
 ⟨some 19, .mv, [.t 7], some (18, true)⟩,
 ⟨some 20, .mv, [.t 0], some (18, true)⟩,
 ⟨some 21, .lens, [.t 20], some (18, true)⟩,
 ⟨some 22, .bin .lss, [.t 19, .t 21], some (18, true)⟩,
 ⟨some 23, .pick, [.t 18, .t 22, .c (.b false)], none⟩,
 ⟨some 24, .mv, [.t 23], none⟩,
 ⟨some 25, .mv, [.t 0], some (24, true)⟩,
 ⟨some 26, .mv, [.t 7], some (24, true)⟩,
 ⟨some 27, .idx, [.t 25, .t 26], some (24, true)⟩,
 ⟨some 28, .bin .eql, [.t 27, .c (.y 38)], some (24, true)⟩,
 ⟨some 29, .pick, [.t 24, .t 28, .c (.b false)], none⟩] [16, 17, 18, 19, 20, 21, 22, 23, 24, 25, 26, 27, 28])
 (.cond (.t 29) [29]
 .skip
 (.exit 0)))
 (.block 1
 (.seq
 (.region false [⟨some 31, .mv, [.t 0], none⟩,
 ⟨some 32, .mv, [.t 7], none⟩,
 ⟨some 33, .bin .add, [.t 32, .c (.i 1)], none⟩,
 ⟨some 34, .call n_spec_l2Atom 17408, [.t 31, .t 33], none⟩,
 ⟨some 30, .mv, [.t 34], none⟩,
 ⟨some 35, .ext 0, [.t 30], none⟩,
 ⟨some 36, .ext 1, [.t 30], none⟩,
 ⟨some 8, .mv, [.t 35], none⟩,
 ⟨some 9, .mv, [.t 36], none⟩] [7, 30, 31, 32, 33, 34, 35, 36])
 (.seq
 (.region false [⟨some 37, .bslice 18960 0 2 (.st [.i 0, .i 0]) [], [], none⟩,
 ⟨some 38, .mv, [.t 6], none⟩,
 ⟨some 39, .app 19984 2, [.t 37, .t 38], none⟩,
 ⟨some 40, .mv, [.t 8], none⟩,
 ⟨some 41, .app 21008 2, [.t 39, .t 40], none⟩,
 ⟨some 42, .build [.i 0, .i 0] [(0, 1)], [.c (.i 2)], none⟩,
 ⟨some 43, .bslice 22032 1 2 (.st [.i 0, .i 0]) [0], [.t 42], none⟩,
 ⟨some 44, .app 22544 2, [.t 41, .t 43], none⟩,
 ⟨some 6, .mv, [.t 44], none⟩] [8, 37, 38, 39, 40, 41, 42, 43, 44])
 (.region false [⟨some 45, .mv, [.t 9], none⟩,
 ⟨some 7, .mv, [.t 45], none⟩] [9, 45]))))))
def F_spec_l2And_W0 : LC := .loop F_spec_l2And_L0
def F_spec_l2And : LF :=
 { nparams := 2, results := [.t 4, .t 5], body :=
 (.seq
 (.region false [⟨some 4, .newnil 2064, [], none⟩,
 ⟨some 5, .mv, [.c (.i 0)], none⟩] [4, 5])
 (.seq
 (.region false [⟨some 11, .mv, [.t 0], none⟩,
 ⟨some 12, .mv, [.t 1], none⟩,
 ⟨some 13, .call n_spec_l2Atom 6656, [.t 11, .t 12], none⟩,
 ⟨some 10, .mv, [.t 13], none⟩,
 ⟨some 14, .ext 0, [.t 10], none⟩,
 ⟨some 15, .ext 1, [.t 10], none⟩,
 ⟨some 6, .mv, [.t 14], none⟩,
 ⟨some 7, .mv, [.t 15], none⟩] [1, 10, 11, 12, 13, 14, 15])
 (.seq
 (.block 0
 F_spec_l2And_W0)
 (.seq
 (.region false [⟨some 46, .mv, [.t 6], none⟩,
 ⟨some 47, .mv, [.t 7], none⟩,
 ⟨some 4, .mv, [.t 46], none⟩,
 ⟨some 5, .mv, [.t 47], none⟩] [0, 6, 7, 46, 47])
 .ret)))) }
/-- impl.readNot -/
def F_impl_readNot : LF :=
 { nparams := 1, results := [.t 2, .t 3], body :=
 (.seq
 (.region false [⟨some 2, .newnil 1040, [], none⟩,
 ⟨some 3, .mv, [.c (.s [])], none⟩] [2, 3])
 (.seq
 (.seq
 (.region false [⟨some 8, .mv, [.t 0], none⟩,
 ⟨some 9, .bin .eql, [.t 8, .c (.s [])], none⟩] [8])
 (.cond (.t 9) [9]
 (.seq
 (.region false [⟨some 2, .newnil 1040, [], none⟩,
 ⟨some 3, .mv, [.c (.s [])], none⟩] [0])
 .ret)
 .skip))
 (.seq
 (.seq
 (.region false [⟨some 10, .mv, [.t 0], none⟩,
 ⟨some 11, .idx, [.t 10, .c (.i 0)], none⟩] [10])
 (.block 0
 (.seq
 (.region false [⟨some 13, .bin .eql, [.t 11, .c (.y 33)], none⟩,
 ⟨some 12, .mv, [.t 13], none⟩] [13])
 (.cond (.t 12) [12]
 (.seq
 (.region false [⟨some 15, .mv, [.t 0], none⟩,
 ⟨some 16, .slices true false, [.t 15, .c (.i 1)], none⟩,
 ⟨some 17, .call n_impl_readNot 8704, [.t 16], none⟩,
 ⟨some 14, .mv, [.t 17], none⟩,
 ⟨some 18, .ext 0, [.t 14], none⟩,
 ⟨some 19, .ext 1, [.t 14], none⟩,
 ⟨some 4, .mv, [.t 18], none⟩,
 ⟨some 5, .mv, [.t 19], none⟩] [0, 11, 14, 15, 16, 17, 18, 19])
 (.seq
 (.seq
 (.region false [⟨some 20, .mv, [.t 4], none⟩,
 ⟨some 21, .len, [.t 20], none⟩,
 ⟨some 22, .bin .eql, [.t 21, .c (.i 0)], none⟩] [20, 21])
 (.cond (.t 22) [22]
 (.seq
 (.region false [⟨some 2, .newnil 1040, [], none⟩,
 ⟨some 3, .mv, [.c (.s [])], none⟩] [4, 5])
 .ret)
 .skip))
 (.seq
 (.region false [⟨some 23, .mv, [.t 4], none⟩,
 ⟨some 24, .build [.i 0, .i 0] [(0, 1)], [.c (.i 1)], none⟩,
 ⟨some 25, .bslice 12816 1 2 (.st [.i 0, .i 0]) [0], [.t 24], none⟩,
 ⟨some 26, .app 13328 2, [.t 23, .t 25], none⟩,
 ⟨some 27, .mv, [.t 5], none⟩,
 ⟨some 2, .mv, [.t 26], none⟩,
 ⟨some 3, .mv, [.t 27], none⟩] [4, 5, 23, 24, 25, 26, 27])
 .ret)))
 (.seq
 (.region false [⟨some 29, .bin .eql, [.t 11, .c (.y 40)], none⟩,
 ⟨some 28, .mv, [.t 29], none⟩] [11, 29])
 (.cond (.t 28) [28]
 (.seq
 (.region false [⟨some 31, .mv, [.t 0], none⟩,
 ⟨some 32, .slices true false, [.t 31, .c (.i 1)], none⟩,
 ⟨some 33, .call n_impl_readOr 16896, [.t 32], none⟩,
 ⟨some 30, .mv, [.t 33], none⟩,
 ⟨some 34, .ext 0, [.t 30], none⟩,
 ⟨some 35, .ext 1, [.t 30], none⟩,
 ⟨some 6, .mv, [.t 34], none⟩,
 ⟨some 7, .mv, [.t 35], none⟩] [0, 30, 31, 32, 33, 34, 35])
 (.seq
 (.seq
 (.region false [⟨some 36, .mv, [.t 7], none⟩,
 ⟨some 37, .bin .eql, [.t 36, .c (.s [])], none⟩,
 ⟨some 38, .mv, [.t 37], none⟩,
 ⟨some 39, .mv, [.t 7], some (38, false)⟩,
 ⟨some 40, .idx, [.t 39, .c (.i 0)], some (38, false)⟩,
 ⟨some 41, .bin .neq, [.t 40, .c (.y 41)], some (38, false)⟩,
 ⟨some 42, .pick, [.t 38, .c (.b true), .t 41], none⟩] [36, 37, 38, 39, 40, 41])
 (.cond (.t 42) [42]
 (.seq
 (.region false [⟨some 2, .newnil 1040, [], none⟩,
 ⟨some 3, .mv, [.c (.s [])], none⟩] [6, 7])
 .ret)
 .skip))
 (.seq
 (.region true [⟨some 43, .mv, [.t 6], none⟩,
 ⟨some 44, .mv, [.t 7], none⟩,
 ⟨some 45, .slices true false, [.t 44, .c (.i 1)], none⟩,
 ⟨some 2, .mv, [.t 43], none⟩,
 ⟨some 3, .mv, [.t 45], none⟩] [6, 7, 43, 44, 45])
 .ret)))
 .skip))))))
 (.seq
 (.region false [⟨some 46, .mv, [.t 0], none⟩,
 ⟨some 47, .call n_impl_readLetter 24064, [.t 46], none⟩,
 ⟨some 48, .ext 0, [.t 47], none⟩,
 ⟨some 49, .ext 1, [.t 47], none⟩,
 ⟨some 2, .mv, [.t 48], none⟩,
 ⟨some 3, .mv, [.t 49], none⟩] [0, 46, 47, 48, 49])
 .ret)))) }
/-- spec.l2Atom -/
def F_spec_l2Atom : LF :=
 { nparams := 2, results := [.t 4, .t 5], body :=
 (.seq
 (.region false [⟨some 4, .newnil 2064, [], none⟩,
 ⟨some 5, .mv, [.c (.i 0)], none⟩] [4, 5])
 (.seq
 (.seq
 (.region false [⟨some 10, .mv, [.t 1], none⟩,
 ⟨some 11, .bin .lss, [.t 10, .c (.i 0)], none⟩,
 ⟨some 12, .mv, [.t 11], none⟩,
 ⟨some 13, .mv, [.t 1], some (12, false)⟩,
 ⟨some 14, .mv, [.t 0], some (12, false)⟩,
 ⟨some 15, .lens, [.t 14], some (12, false)⟩,
 ⟨some 16, .bin .geq, [.t 13, .t 15], some (12, false)⟩,
 ⟨some 17, .pick, [.t 12, .c (.b true), .t 16], none⟩] [10, 11, 12, 13, 14, 15, 16])
 (.cond (.t 17) [17]
 (.seq
 (.region false [⟨some 18, .bslice 9232 0 2 (.st [.i 0, .i 0]) [], [], none⟩,
 ⟨some 4, .mv, [.t 18], none⟩,
 ⟨some 5, .mv, [.c (.i (-1))], none⟩] [0, 1, 18])
 .ret)
 .skip))
 (.seq
 (.block 0
 (.seq
 (.region false [⟨some 20, .mv, [.t 0], none⟩,
 ⟨some 21, .mv, [.t 1], none⟩,
 ⟨some 22, .idx, [.t 20, .t 21], none⟩,
 ⟨some 23, .bin .geq, [.t 22, .c (.y 97)], none⟩,
 ⟨some 24, .mv, [.t 23], none⟩,
 ⟨some 25, .mv, [.t 0], some (24, true)⟩,
 ⟨some 26, .mv, [.t 1], some (24, true)⟩,
 ⟨some 27, .idx, [.t 25, .t 26], some (24, true)⟩,
 ⟨some 28, .bin .leq, [.t 27, .c (.y 101)], some (24, true)⟩,
 ⟨some 29, .pick, [.t 24, .t 28, .c (.b false)], none⟩,
 ⟨some 19, .mv, [.t 29], none⟩] [20, 21, 22, 23, 24, 25, 26, 27, 28, 29])
 (.cond (.t 19) [19]
 (.seq
 (.region false [⟨some 30, .mv, [.t 0], none⟩,
 ⟨some 31, .mv, [.t 1], none⟩,
 ⟨some 32, .idx, [.t 30, .t 31], none⟩,
 ⟨some 33, .bin .sub, [.t 32, .c (.y 97)], none⟩,
 ⟨some 34, .conv .b2i 17408, [.t 33], none⟩,
 ⟨some 35, .build [.i 0, .i 0] [(0, 1), (1, 1)], [.c (.i 0), .t 34], none⟩,
 ⟨some 36, .bslice 18448 1 2 (.st [.i 0, .i 0]) [0], [.t 35], none⟩,
 ⟨some 37, .mv, [.t 1], none⟩,
 ⟨some 38, .bin .add, [.t 37, .c (.i 1)], none⟩,
 ⟨some 4, .mv, [.t 36], none⟩,
 ⟨some 5, .mv, [.t 38], none⟩] [0, 1, 30, 31, 32, 33, 34, 35, 36, 37, 38])
 .ret)
 (.seq
 (.region false [⟨some 40, .mv, [.t 0], none⟩,
 ⟨some 41, .mv, [.t 1], none⟩,
 ⟨some 42, .idx, [.t 40, .t 41], none⟩,
 ⟨some 43, .bin .eql, [.t 42, .c (.y 33)], none⟩,
 ⟨some 39, .mv, [.t 43], none⟩] [40, 41, 42, 43])
 (.cond (.t 39) [39]
 (.seq
 (.region false [⟨some 45, .mv, [.t 0], none⟩,
 ⟨some 46, .mv, [.t 1], none⟩,
 ⟨some 47, .bin .add, [.t 46, .c (.i 1)], none⟩,
 ⟨some 48, .call n_spec_l2Atom 24576, [.t 45, .t 47], none⟩,
 ⟨some 44, .mv, [.t 48], none⟩,
 ⟨some 49, .ext 0, [.t 44], none⟩,
 ⟨some 50, .ext 1, [.t 44], none⟩,
 ⟨some 6, .mv, [.t 49], none⟩,
 ⟨some 7, .mv, [.t 50], none⟩] [0, 1, 44, 45, 46, 47, 48, 49, 50])
 (.seq
 (.region false [⟨some 51, .bslice 26128 0 2 (.st [.i 0, .i 0]) [], [], none⟩,
 ⟨some 52, .mv, [.t 6], none⟩,
 ⟨some 53, .app 27152 2, [.t 51, .t 52], none⟩,
 ⟨some 54, .build [.i 0, .i 0] [(0, 1)], [.c (.i 1)], none⟩,
 ⟨some 55, .bslice 28176 1 2 (.st [.i 0, .i 0]) [0], [.t 54], none⟩,
 ⟨some 56, .app 28688 2, [.t 53, .t 55], none⟩,
 ⟨some 57, .mv, [.t 7], none⟩,
 ⟨some 4, .mv, [.t 56], none⟩,
 ⟨some 5, .mv, [.t 57], none⟩] [6, 7, 51, 52, 53, 54, 55, 56, 57])
 .ret))
 (.seq
 (.region false [⟨some 59, .mv, [.t 0], none⟩,
 ⟨some 60, .mv, [.t 1], none⟩,
 ⟨some 61, .idx, [.t 59, .t 60], none⟩,
 ⟨some 62, .bin .eql, [.t 61, .c (.y 40)], none⟩,
 ⟨some 58, .mv, [.t 62], none⟩] [59, 60, 61, 62])
 (.cond (.t 58) [58]
 (.seq
 (.region false [⟨some 64, .mv, [.t 0], none⟩,
 ⟨some 65, .mv, [.t 1], none⟩,
 ⟨some 66, .bin .add, [.t 65, .c (.i 1)], none⟩,
 ⟨some 67, .call n_spec_l2Or 34304, [.t 64, .t 66], none⟩,
 ⟨some 63, .mv, [.t 67], none⟩,
 ⟨some 68, .ext 0, [.t 63], none⟩,
 ⟨some 69, .ext 1, [.t 63], none⟩,
 ⟨some 8, .mv, [.t 68], none⟩,
 ⟨some 9, .mv, [.t 69], none⟩] [1, 63, 64, 65, 66, 67, 68, 69])
 (.seq
 (.seq
 (.region false [⟨some 70, .mv, [.t 9], none⟩,
 ⟨some 71, .bin .lss, [.t 70, .c (.i 0)], none⟩,
 ⟨some 72, .mv, [.t 71], none⟩,
 ⟨some 73, .mv, [.t 9], some (72, false)⟩,
 ⟨some 74, .mv, [.t 0], some (72, false)⟩,
 ⟨some 75, .lens, [.t 74], some (72, false)⟩,
 ⟨some 76, .bin .geq, [.t 73, .t 75], some (72, false)⟩,
 ⟨some 77, .pick, [.t 72, .c (.b true), .t 76], none⟩,
 ⟨some 78, .mv, [.t 77], none⟩,
 ⟨some 79, .mv, [.t 0], some (78, false)⟩,
 ⟨some 80, .mv, [.t 9], some (78, false)⟩,
 ⟨some 81, .idx, [.t 79, .t 80], some (78, false)⟩,
 ⟨some 82, .bin .neq, [.t 81, .c (.y 41)], some (78, false)⟩,
 ⟨some 83, .pick, [.t 78, .c (.b true), .t 82], none⟩] [0, 70, 71, 72, 73, 74, 75, 76, 77, 78, 79, 80, 81, 82])
 (.cond (.t 83) [83]
 (.seq
 (.region false [⟨some 84, .bslice 43024 0 2 (.st [.i 0, .i 0]) [], [], none⟩,
 ⟨some 4, .mv, [.t 84], none⟩,
 ⟨some 5, .mv, [.c (.i (-1))], none⟩] [8, 9, 84])
 .ret)
 .skip))
 (.seq
 (.region false [⟨some 85, .mv, [.t 8], none⟩,
 ⟨some 86, .mv, [.t 9], none⟩,
 ⟨some 87, .bin .add, [.t 86, .c (.i 1)], none⟩,
 ⟨some 4, .mv, [.t 85], none⟩,
 ⟨some 5, .mv, [.t 87], none⟩] [8, 9, 85, 86, 87])
 .ret)))
 .skip)))))))
 (.seq
 (.region false [⟨some 88, .bslice 45072 0 2 (.st [.i 0, .i 0]) [], [], none⟩,
 ⟨some 4, .mv, [.t 88], none⟩,
 ⟨some 5, .mv, [.c (.i (-1))], none⟩] [0, 1, 88])
 .ret)))) }
/-- impl.readLetter -/
def F_impl_readLetter : LF :=
 { nparams := 1, results := [.t 2, .t 3], body :=
 (.seq
 (.region false [⟨some 2, .newnil 1040, [], none⟩,
 ⟨some 3, .mv, [.c (.s [])], none⟩] [2, 3])
 (.seq
 (.region false [⟨some 5, .mv, [.t 0], none⟩,
 ⟨some 6, .idx, [.t 5, .c (.i 0)], none⟩,
 ⟨some 7, .conv .b2i 3584, [.t 6], none⟩,
 ⟨some 8, .bin .sub, [.t 7, .c (.i 97)], none⟩,
 ⟨some 4, .mv, [.t 8], none⟩] [5, 6, 7, 8])
 (.seq
 (.seq
 (.region false [⟨some 9, .mv, [.t 4], none⟩,
 ⟨some 10, .call n_impl_isWithin 5120, [.t 9, .c (.i 0), .c (.i 4)], none⟩,
 ⟨some 11, .un .not, [.t 10], none⟩] [9, 10])
 (.cond (.t 11) [11]
 (.seq
 (.region false [⟨some 2, .newnil 1040, [], none⟩,
 ⟨some 3, .mv, [.c (.s [])], none⟩] [0, 4])
 .ret)
 .skip))
 (.seq
 (.region true [⟨some 12, .mv, [.t 4], none⟩,
 ⟨some 13, .build [.i 0, .i 0] [(1, 1)], [.t 12], none⟩,
 ⟨some 14, .bslice 7184 1 2 (.st [.i 0, .i 0]) [0], [.t 13], none⟩,
 ⟨some 15, .mv, [.t 0], none⟩,
 ⟨some 16, .slices true false, [.t 15, .c (.i 1)], none⟩,
 ⟨some 2, .mv, [.t 14], none⟩,
 ⟨some 3, .mv, [.t 16], none⟩] [0, 4, 12, 13, 14, 15, 16])
 .ret)))) }
def lf : Nat → Option LF
 | 3 => some F_laws_FnTermText
 | 4 => some F_laws_FnReadTerm
 | 5 => some F_laws_FnExactTermText
 | 6 => some F_laws_FnExactReadTerm
 | 7 => some F_spec_DrawTermText
 | 8 => some F_impl_TermText
 | 9 => some F_spec_TermText
 | 10 => some F_impl_TermOk
 | 11 => some F_laws_alive
 | 12 => some F_impl_ReadTerm
 | 13 => some F_laws_sameMarks
 | 14 => some F_spec_DrawReadTerm
 | 15 => some F_spec_ReadTerm
 | 16 => some F_laws_szMarkS
 | 17 => some F_laws_toMarkS
 | 18 => some F_laws_eqMarkS
 | 19 => some F_laws_markMarkS
 | 20 => some F_laws_heldMarkS
 | 21 => some F_spec_l20Asked
 | 22 => some F_spec_l20Open
 | 23 => some F_impl_foldTerm_impl_writtenPart
 | 24 => some F_impl_writePart
 | 25 => some F_spec_TermOk
 | 26 => some F_spec_l2Text
 | 27 => some F_impl_manyOk
 | 28 => some F_impl_isWithin
 | 29 => some F_impl_partsTaken
 | 30 => some F_impl_markOk
 | 31 => some F_impl_TestsOk
 | 32 => some F_impl_readOr
 | 33 => some F_spec_l20Rd_pick
 | 34 => some F_spec_l20Term
 | 35 => some F_spec_l2Or
 | 36 => some F_laws_toMark
 | 37 => some F_laws_eqMark
 | 38 => some F_impl_bracketedFrom
 | 39 => some F_spec_l1In
 | 40 => some F_spec_l2Held
 | 41 => some F_spec_l2Starts
 | 42 => some F_impl_readRow
 | 43 => some F_impl_readAnd
 | 44 => some F_spec_l20Rd_odd
 | 45 => some F_spec_l2And
 | 46 => some F_impl_readNot
 | 47 => some F_spec_l2Atom
 | 48 => some F_impl_readLetter
 | _ => none
theorem w_impl_TermOk_0 (S : LS) : ex lf F_impl_TermOk_W0 S = match ex lf F_impl_TermOk_L0 S with | some (.normal, S1) => ex lf F_impl_TermOk_W0 S1 | r => r := ex_loop lf F_impl_TermOk_L0 S
theorem w_laws_sameMarks_0 (S : LS) : ex lf F_laws_sameMarks_W0 S = match ex lf F_laws_sameMarks_L0 S with | some (.normal, S1) => ex lf F_laws_sameMarks_W0 S1 | r => r := ex_loop lf F_laws_sameMarks_L0 S
theorem w_laws_toMarkS_0 (S : LS) : ex lf F_laws_toMarkS_W0 S = match ex lf F_laws_toMarkS_L0 S with | some (.normal, S1) => ex lf F_laws_toMarkS_W0 S1 | r => r := ex_loop lf F_laws_toMarkS_L0 S
theorem w_laws_eqMarkS_0 (S : LS) : ex lf F_laws_eqMarkS_W0 S = match ex lf F_laws_eqMarkS_L0 S with | some (.normal, S1) => ex lf F_laws_eqMarkS_W0 S1 | r => r := ex_loop lf F_laws_eqMarkS_L0 S
theorem w_laws_markMarkS_0 (S : LS) : ex lf F_laws_markMarkS_W0 S = match ex lf F_laws_markMarkS_L0 S with | some (.normal, S1) => ex lf F_laws_markMarkS_W0 S1 | r => r := ex_loop lf F_laws_markMarkS_L0 S
theorem w_laws_heldMarkS_0 (S : LS) : ex lf F_laws_heldMarkS_W0 S = match ex lf F_laws_heldMarkS_L0 S with | some (.normal, S1) => ex lf F_laws_heldMarkS_W0 S1 | r => r := ex_loop lf F_laws_heldMarkS_L0 S
theorem w_impl_foldTerm_impl_writtenPart_0 (S : LS) : ex lf F_impl_foldTerm_impl_writtenPart_W0 S = match ex lf F_impl_foldTerm_impl_writtenPart_L0 S with | some (.normal, S1) => ex lf F_impl_foldTerm_impl_writtenPart_W0 S1 | r => r := ex_loop lf F_impl_foldTerm_impl_writtenPart_L0 S
theorem w_spec_TermOk_0 (S : LS) : ex lf F_spec_TermOk_W0 S = match ex lf F_spec_TermOk_L0 S with | some (.normal, S1) => ex lf F_spec_TermOk_W0 S1 | r => r := ex_loop lf F_spec_TermOk_L0 S
theorem w_impl_TestsOk_0 (S : LS) : ex lf F_impl_TestsOk_W0 S = match ex lf F_impl_TestsOk_L0 S with | some (.normal, S1) => ex lf F_impl_TestsOk_W0 S1 | r => r := ex_loop lf F_impl_TestsOk_L0 S
theorem w_spec_l20Term_0 (S : LS) : ex lf F_spec_l20Term_W0 S = match ex lf F_spec_l20Term_L0 S with | some (.normal, S1) => ex lf F_spec_l20Term_W0 S1 | r => r := ex_loop lf F_spec_l20Term_L0 S
theorem w_spec_l20Term_1 (S : LS) : ex lf F_spec_l20Term_W1 S = match ex lf F_spec_l20Term_L1 S with | some (.normal, S1) => ex lf F_spec_l20Term_W1 S1 | r => r := ex_loop lf F_spec_l20Term_L1 S
theorem w_spec_l20Term_2 (S : LS) : ex lf F_spec_l20Term_W2 S = match ex lf F_spec_l20Term_L2 S with | some (.normal, S1) => ex lf F_spec_l20Term_W2 S1 | r => r := ex_loop lf F_spec_l20Term_L2 S
theorem w_spec_l2Or_0 (S : LS) : ex lf F_spec_l2Or_W0 S = match ex lf F_spec_l2Or_L0 S with | some (.normal, S1) => ex lf F_spec_l2Or_W0 S1 | r => r := ex_loop lf F_spec_l2Or_L0 S
theorem w_spec_l2Starts_0 (S : LS) : ex lf F_spec_l2Starts_W0 S = match ex lf F_spec_l2Starts_L0 S with | some (.normal, S1) => ex lf F_spec_l2Starts_W0 S1 | r => r := ex_loop lf F_spec_l2Starts_L0 S
theorem w_impl_readRow_0 (S : LS) : ex lf F_impl_readRow_W0 S = match ex lf F_impl_readRow_L0 S with | some (.normal, S1) => ex lf F_impl_readRow_W0 S1 | r => r := ex_loop lf F_impl_readRow_L0 S
theorem w_spec_l2And_0 (S : LS) : ex lf F_spec_l2And_W0 S = match ex lf F_spec_l2And_L0 S with | some (.normal, S1) => ex lf F_spec_l2And_W0 S1 | r => r := ex_loop lf F_spec_l2And_L0 S
end Zz
