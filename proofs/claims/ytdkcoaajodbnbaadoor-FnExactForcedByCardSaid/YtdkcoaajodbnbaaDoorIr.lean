/- The functions of the program, read as data. No conditions. -/
import Derived.Test.YtdkcoaajodbnbaaDoorLgC
set_option linter.unusedSectionVars false
set_option linter.unusedVariables false
set_option linter.unusedSimpArgs false
namespace Zz
open Go.Lg
instance : GL := ⟨[(0, .st [.w (2863311530#32), .w (3435973836#32), .w (4042322160#32), .w (4278255360#32), .w (4294901760#32)])], [38, 39], ["l4_orders.go:82"], [], [], []⟩
theorem gEnv_0 : gEnv [0] = [(1048576, .adr (.st [.w (2863311530#32), .w (3435973836#32), .w (4042322160#32), .w (4278255360#32), .w (4294901760#32)]))] := rfl
def n_laws_FnForcedBy : Nat := 3
def n_laws_FnForcedProof : Nat := 4
def n_laws_FnLeastProofs : Nat := 5
def n_laws_FnProofOk : Nat := 6
def n_laws_FnTurnsIn : Nat := 7
def n_laws_FnExactForcedBy : Nat := 8
def n_laws_FnExactLeastProofs : Nat := 9
def n_laws_FnExactProofOk : Nat := 10
def n_spec_DrawForcedBy : Nat := 11
def n_impl_ForcedBy : Nat := 12
def n_spec_ForcedBy : Nat := 13
def n_laws_alive : Nat := 14
def n_impl_AgreesOk : Nat := 15
def n_impl_ValueOf : Nat := 16
def n_spec_TermOk : Nat := 17
def n_spec_KnownOk : Nat := 18
def n_impl_ProofOk : Nat := 19
def n_spec_DrawLeastProofs : Nat := 20
def n_impl_LeastProofs : Nat := 21
def n_laws_sameInts : Nat := 22
def n_spec_LeastProofs : Nat := 23
def n_spec_StateOk : Nat := 24
def n_impl_IdleTests : Nat := 25
def n_laws_ascend : Nat := 26
def n_spec_DrawProofOk : Nat := 27
def n_spec_ProofOk : Nat := 28
def n_impl_DualTerm : Nat := 29
def n_spec_DrawTurnsIn : Nat := 30
def n_impl_TurnsIn : Nat := 31
def n_spec_TurnsIn : Nat := 32
def n_laws_szMarkS : Nat := 33
def n_laws_toMarkS : Nat := 34
def n_laws_toIntS : Nat := 35
def n_laws_eqMarkS : Nat := 36
def n_laws_eqIntS : Nat := 37
def n_laws_markMarkS : Nat := 38
def n_laws_markIntS : Nat := 39
def n_laws_heldIntS : Nat := 40
def n_spec_l20Open : Nat := 41
def n_spec_l20Rd_pick : Nat := 42
def n_spec_l20Term : Nat := 43
def n_spec_l20Known : Nat := 44
def n_impl_TermOk : Nat := 45
def n_impl_KnownOk : Nat := 46
def n_impl_valueAmong : Nat := 47
def n_impl_trueStates : Nat := 48
def n_impl_agreeingStates : Nat := 49
def n_spec_l3Forced : Nat := 50
def n_spec_l3Table : Nat := 51
def n_impl_TestsOk : Nat := 52
def n_impl_StateOk : Nat := 53
def n_impl_outcomeIn : Nat := 54
def n_impl_hasState : Nat := 55
def n_spec_l1In : Nat := 56
def n_impl_knownBy : Nat := 57
def n_spec_l20State : Nat := 58
def n_impl_setsWhere : Nat := 59
def n_impl_LeastProofs_1 : Nat := 60
def n_impl_isLeastProof : Nat := 61
def n_spec_l3Told : Nat := 62
def n_impl_testsWhere : Nat := 63
def n_impl_IdleTests_1 : Nat := 64
def n_impl_TurnsIn_1 : Nat := 65
def n_laws_toMark : Nat := 66
def n_laws_eqMark : Nat := 67
def n_spec_l20Rd_odd : Nat := 68
def n_impl_manyOk : Nat := 69
def n_impl_isWithin : Nat := 70
def n_impl_partsTaken : Nat := 71
def n_impl_markOk : Nat := 72
def n_impl_foldTerm_uint32 : Nat := 73
def n_impl_statesOfPart : Nat := 74
def n_impl_statesSaying : Nat := 75
def n_spec_l1Agrees : Nat := 76
def n_spec_l3Value : Nat := 77
def n_impl_statesOf : Nat := 78
def n_impl_hasTest : Nat := 79
def n_spec_l2Starts : Nat := 80
/-- laws.FnForcedBy -/
def F_laws_FnForcedBy_L0 : LC :=
 (.seq
 (.seq
 (.region false [⟨some 55, .mv, [.t 11], none⟩,
 ⟨some 56, .mv, [.t 3], none⟩,
 ⟨some 57, .bin .lss, [.t 55, .t 56], none⟩] [55, 56])
 (.cond (.t 57) [57]
 .skip
 (.exit 0)))
 (.seq
 (.block 1
 (.seq
 (.region false [⟨some 60, .mv, [.t 5], none⟩,
 ⟨some 61, .mv, [.t 11], none⟩,
 ⟨some 62, .idxa 1, [.t 60, .t 61], none⟩,
 ⟨some 63, .load 1 false, [.t 62], none⟩,
 ⟨some 64, .bin .eql, [.t 63, .c (.i (-1))], none⟩] [60, 61, 62, 63])
 (.cond (.t 64) [64]
 (.region false [⟨some 65, .mv, [.t 10], none⟩,
 ⟨some 66, .bin .add, [.t 65, .c (.i 1)], none⟩,
 ⟨some 10, .mv, [.t 66], none⟩] [65, 66])
 .skip)))
 (.region false [⟨some 58, .mv, [.t 11], none⟩,
 ⟨some 59, .bin .add, [.t 58, .c (.i 1)], none⟩,
 ⟨some 11, .mv, [.t 59], none⟩] [58, 59])))
def F_laws_FnForcedBy_W0 : LC := .loop F_laws_FnForcedBy_L0
def F_laws_FnForcedBy_L1 : LC :=
 (.seq
 (.seq
 (.region false [⟨some 67, .mv, [.t 12], none⟩,
 ⟨some 68, .bin .lss, [.t 67, .c (.i 2)], none⟩,
 ⟨some 69, .mv, [.t 68], none⟩,
 ⟨some 70, .mv, [.t 5], some (69, true)⟩,
 ⟨some 71, .idxa 1, [.t 70, .c (.i 0)], some (69, true)⟩,
 ⟨some 72, .load 1 false, [.t 71], some (69, true)⟩,
 ⟨some 73, .bin .eql, [.t 72, .c (.i (-1))], some (69, true)⟩,
 ⟨some 74, .pick, [.t 69, .t 73, .c (.b false)], none⟩,
 ⟨some 75, .mv, [.t 74], none⟩,
 ⟨some 76, .mv, [.t 6], some (75, true)⟩,
 ⟨some 77, .bin .neq, [.t 76, .c (.i (-1))], some (75, true)⟩,
 ⟨some 78, .pick, [.t 75, .t 77, .c (.b false)], none⟩] [67, 68, 69, 70, 71, 72, 73, 74, 75, 76, 77])
 (.cond (.t 78) [78]
 .skip
 (.exit 2)))
 (.seq
 (.block 3
 (.seq
 (.region false [⟨some 81, .bslice 41480 0 1 (.i 0) [], [], none⟩,
 ⟨some 82, .mv, [.t 5], none⟩,
 ⟨some 83, .app 42504 1, [.t 81, .t 82], none⟩,
 ⟨some 13, .mv, [.t 83], none⟩] [81, 82, 83])
 (.seq
 (.region false [⟨some 84, .mv, [.t 13], none⟩,
 ⟨some 85, .mv, [.t 12], none⟩,
 ⟨some 86, .idxa 1, [.t 84, .c (.i 0)], none⟩,
 ⟨none, .store 1, [.t 86, .t 85], none⟩] [84, 85, 86])
 (.seq
 (.region false [⟨some 88, .mv, [.t 3], none⟩,
 ⟨some 89, .mv, [.t 4], none⟩,
 ⟨some 90, .mv, [.t 13], none⟩,
 ⟨some 91, .call n_impl_ForcedBy 46592, [.t 88, .t 89, .t 90], none⟩,
 ⟨some 87, .mv, [.t 91], none⟩,
 ⟨some 92, .ext 0, [.t 87], none⟩,
 ⟨some 93, .ext 1, [.t 87], none⟩,
 ⟨some 14, .mv, [.t 92], none⟩,
 ⟨some 15, .mv, [.t 93], none⟩] [13, 87, 88, 89, 90, 91, 92, 93])
 (.seq
 (.region false [⟨some 94, .mv, [.t 15], none⟩,
 ⟨some 95, .un .not, [.t 94], none⟩,
 ⟨some 96, .mv, [.t 95], none⟩,
 ⟨some 97, .mv, [.t 14], some (96, false)⟩,
 ⟨some 98, .mv, [.t 6], some (96, false)⟩,
 ⟨some 99, .bin .neq, [.t 97, .t 98], some (96, false)⟩,
 ⟨some 100, .pick, [.t 96, .c (.b true), .t 99], none⟩] [14, 15, 94, 95, 96, 97, 98, 99])
 (.cond (.t 100) [100]
 (.seq
 (.region false [⟨some 2, .mv, [.c (.b false)], none⟩] [3, 4, 5, 6, 10, 12])
 .ret)
 .skip))))))
 (.region false [⟨some 79, .mv, [.t 12], none⟩,
 ⟨some 80, .bin .add, [.t 79, .c (.i 1)], none⟩,
 ⟨some 12, .mv, [.t 80], none⟩] [79, 80])))
def F_laws_FnForcedBy_W1 : LC := .loop F_laws_FnForcedBy_L1
def F_laws_FnForcedBy_L2 : LC :=
 (.seq
 (.seq
 (.region false [⟨some 101, .mv, [.t 16], none⟩,
 ⟨some 102, .mv, [.t 3], none⟩,
 ⟨some 103, .bin .shl, [.c (.i 1), .t 102], none⟩,
 ⟨some 104, .bin .lss, [.t 101, .t 103], none⟩,
 ⟨some 105, .mv, [.t 104], none⟩,
 ⟨some 106, .mv, [.t 6], some (105, true)⟩,
 ⟨some 107, .bin .neq, [.t 106, .c (.i (-1))], some (105, true)⟩,
 ⟨some 108, .pick, [.t 105, .t 107, .c (.b false)], none⟩] [101, 102, 103, 104, 105, 106, 107])
 (.cond (.t 108) [108]
 .skip
 (.exit 4)))
 (.seq
 (.block 5
 (.seq
 (.region false [⟨some 111, .mv, [.t 3], none⟩,
 ⟨some 112, .mv, [.t 5], none⟩,
 ⟨some 113, .mv, [.t 16], none⟩,
 ⟨some 114, .call n_impl_AgreesOk 58368, [.t 111, .t 112, .t 113], none⟩,
 ⟨some 115, .mv, [.t 114], none⟩,
 ⟨some 116, .mv, [.t 3], some (115, true)⟩,
 ⟨some 117, .mv, [.t 4], some (115, true)⟩,
 ⟨some 118, .mv, [.t 16], some (115, true)⟩,
 ⟨some 119, .call n_impl_ValueOf 60928, [.t 116, .t 117, .t 118], some (115, true)⟩,
 ⟨some 120, .mv, [.t 6], some (115, true)⟩,
 ⟨some 121, .bin .eql, [.t 120, .c (.i 1)], some (115, true)⟩,
 ⟨some 122, .eqb true, [.t 119, .t 121], some (115, true)⟩,
 ⟨some 123, .pick, [.t 115, .t 122, .c (.b false)], none⟩] [111, 112, 113, 114, 115, 116, 117, 118, 119, 120, 121, 122])
 (.cond (.t 123) [123]
 (.seq
 (.region false [⟨some 2, .mv, [.c (.b false)], none⟩] [3, 4, 5, 6, 10, 16])
 .ret)
 .skip)))
 (.region false [⟨some 109, .mv, [.t 16], none⟩,
 ⟨some 110, .bin .add, [.t 109, .c (.i 1)], none⟩,
 ⟨some 16, .mv, [.t 110], none⟩] [109, 110])))
def F_laws_FnForcedBy_W2 : LC := .loop F_laws_FnForcedBy_L2
def F_laws_FnForcedBy : LF :=
 { nparams := 1, results := [.t 2], body :=
 (.seq
 (.region false [⟨some 2, .mv, [.c (.b false)], none⟩] [2])
 (.seq
 (.seq
 (.region false [⟨some 17, .mv, [.t 0], none⟩,
 ⟨some 18, .len, [.t 17], none⟩,
 ⟨some 19, .bin .gtr, [.t 18, .c (.i 1048576)], none⟩] [17, 18])
 (.cond (.t 19) [19]
 (.seq
 (.region false [⟨some 2, .mv, [.c (.b true)], none⟩] [0])
 .ret)
 .skip))
 (.seq
 (.region false [⟨some 21, .mv, [.t 0], none⟩,
 ⟨some 22, .call n_spec_DrawForcedBy 11264, [.t 21], none⟩,
 ⟨some 20, .mv, [.t 22], none⟩,
 ⟨some 23, .ext 0, [.t 20], none⟩,
 ⟨some 24, .ext 1, [.t 20], none⟩,
 ⟨some 25, .ext 2, [.t 20], none⟩,
 ⟨some 3, .mv, [.t 23], none⟩,
 ⟨some 4, .mv, [.t 24], none⟩,
 ⟨some 5, .mv, [.t 25], none⟩] [0, 20, 21, 22, 23, 24, 25])
 (.seq
 (.region false [⟨some 27, .mv, [.t 3], none⟩,
 ⟨some 28, .mv, [.t 4], none⟩,
 ⟨some 29, .mv, [.t 5], none⟩,
 ⟨some 30, .call n_impl_ForcedBy 15360, [.t 27, .t 28, .t 29], none⟩,
 ⟨some 26, .mv, [.t 30], none⟩,
 ⟨some 31, .ext 0, [.t 26], none⟩,
 ⟨some 32, .ext 1, [.t 26], none⟩,
 ⟨some 6, .mv, [.t 31], none⟩,
 ⟨some 7, .mv, [.t 32], none⟩] [26, 27, 28, 29, 30, 31, 32])
 (.seq
 (.region false [⟨some 34, .mv, [.t 3], none⟩,
 ⟨some 35, .mv, [.t 4], none⟩,
 ⟨some 36, .mv, [.t 5], none⟩,
 ⟨some 37, .call n_spec_ForcedBy 18944, [.t 34, .t 35, .t 36], none⟩,
 ⟨some 33, .mv, [.t 37], none⟩,
 ⟨some 38, .ext 0, [.t 33], none⟩,
 ⟨some 39, .ext 1, [.t 33], none⟩,
 ⟨some 8, .mv, [.t 38], none⟩,
 ⟨some 9, .mv, [.t 39], none⟩] [33, 34, 35, 36, 37, 38, 39])
 (.seq
 (.seq
 (.region false [⟨some 40, .mv, [.t 6], none⟩,
 ⟨some 41, .mv, [.t 8], none⟩,
 ⟨some 42, .bin .neq, [.t 40, .t 41], none⟩,
 ⟨some 43, .mv, [.t 42], none⟩,
 ⟨some 44, .mv, [.t 7], some (43, false)⟩,
 ⟨some 45, .mv, [.t 9], some (43, false)⟩,
 ⟨some 46, .eqb true, [.t 44, .t 45], some (43, false)⟩,
 ⟨some 47, .pick, [.t 43, .c (.b true), .t 46], none⟩] [8, 9, 40, 41, 42, 43, 44, 45, 46])
 (.cond (.t 47) [47]
 (.seq
 (.region false [⟨some 2, .mv, [.c (.b false)], none⟩] [3, 4, 5, 6, 7])
 .ret)
 .skip))
 (.seq
 (.seq
 (.region false [⟨some 48, .mv, [.t 7], none⟩,
 ⟨some 49, .un .not, [.t 48], none⟩] [7, 48])
 (.cond (.t 49) [49]
 (.seq
 (.region false [⟨some 50, .mv, [.t 6], none⟩,
 ⟨some 51, .bin .eql, [.t 50, .c (.i (-1))], none⟩,
 ⟨some 52, .mv, [.t 51], none⟩,
 ⟨some 53, .call n_laws_alive 27136, [], some (52, true)⟩,
 ⟨some 54, .pick, [.t 52, .t 53, .c (.b false)], none⟩,
 ⟨some 2, .mv, [.t 54], none⟩] [3, 4, 5, 6, 50, 51, 52, 53, 54])
 .ret)
 .skip))
 (.seq
 (.region false [⟨some 10, .mv, [.c (.i 0)], none⟩] [])
 (.seq
 (.seq
 (.region false [⟨some 11, .mv, [.c (.i 0)], none⟩] [])
 (.block 0
 F_laws_FnForcedBy_W0))
 (.seq
 (.seq
 (.region false [⟨some 12, .mv, [.c (.i 0)], none⟩] [11])
 (.block 2
 F_laws_FnForcedBy_W1))
 (.seq
 (.seq
 (.region false [⟨some 16, .mv, [.c (.i 0)], none⟩] [12])
 (.block 4
 F_laws_FnForcedBy_W2))
 (.seq
 (.region false [⟨some 124, .mv, [.t 10], none⟩,
 ⟨some 125, .bin .gtr, [.t 124, .c (.i 0)], none⟩,
 ⟨some 126, .mv, [.t 125], none⟩,
 ⟨some 127, .mv, [.t 6], some (126, false)⟩,
 ⟨some 128, .bin .neq, [.t 127, .c (.i (-1))], some (126, false)⟩,
 ⟨some 129, .pick, [.t 126, .c (.b true), .t 128], none⟩,
 ⟨some 2, .mv, [.t 129], none⟩] [3, 4, 5, 6, 10, 16, 124, 125, 126, 127, 128, 129])
 .ret)))))))))))) }
/-- laws.FnForcedProof -/
def F_laws_FnForcedProof_L0 : LC :=
 (.seq
 (.seq
 (.region false [⟨some 46, .mv, [.t 9], none⟩,
 ⟨some 47, .mv, [.t 3], none⟩,
 ⟨some 48, .bin .lss, [.t 46, .t 47], none⟩] [46, 47])
 (.cond (.t 48) [48]
 .skip
 (.exit 0)))
 (.seq
 (.block 1
 (.seq
 (.region false [⟨some 51, .mv, [.t 5], none⟩,
 ⟨some 52, .mv, [.t 9], none⟩,
 ⟨some 53, .idxa 1, [.t 51, .t 52], none⟩,
 ⟨some 54, .load 1 false, [.t 53], none⟩,
 ⟨some 55, .bin .neq, [.t 54, .c (.i (-1))], none⟩] [51, 52, 53, 54])
 (.cond (.t 55) [55]
 (.region false [⟨some 56, .mv, [.t 8], none⟩,
 ⟨some 57, .mv, [.t 9], none⟩,
 ⟨some 58, .bin .shl, [.c (.i 1), .t 57], none⟩,
 ⟨some 59, .bin .or, [.t 56, .t 58], none⟩,
 ⟨some 8, .mv, [.t 59], none⟩] [56, 57, 58, 59])
 .skip)))
 (.region false [⟨some 49, .mv, [.t 9], none⟩,
 ⟨some 50, .bin .add, [.t 49, .c (.i 1)], none⟩,
 ⟨some 9, .mv, [.t 50], none⟩] [49, 50])))
def F_laws_FnForcedProof_W0 : LC := .loop F_laws_FnForcedProof_L0
def F_laws_FnForcedProof_L1 : LC :=
 (.seq
 (.seq
 (.region false [⟨some 60, .mv, [.t 10], none⟩,
 ⟨some 61, .mv, [.t 3], none⟩,
 ⟨some 62, .bin .shl, [.c (.i 1), .t 61], none⟩,
 ⟨some 63, .bin .lss, [.t 60, .t 62], none⟩] [60, 61, 62])
 (.cond (.t 63) [63]
 .skip
 (.exit 2)))
 (.seq
 (.block 3
 (.seq
 (.region false [⟨some 66, .mv, [.t 3], none⟩,
 ⟨some 67, .mv, [.t 5], none⟩,
 ⟨some 68, .mv, [.t 10], none⟩,
 ⟨some 69, .call n_impl_AgreesOk 35328, [.t 66, .t 67, .t 68], none⟩,
 ⟨some 70, .mv, [.t 69], none⟩,
 ⟨some 71, .mv, [.t 3], some (70, true)⟩,
 ⟨some 72, .mv, [.t 4], some (70, true)⟩,
 ⟨some 73, .mv, [.t 10], some (70, true)⟩,
 ⟨some 74, .mv, [.t 8], some (70, true)⟩,
 ⟨some 75, .call n_impl_ProofOk 38400, [.t 71, .t 72, .t 73, .t 74], some (70, true)⟩,
 ⟨some 76, .mv, [.t 6], some (70, true)⟩,
 ⟨some 77, .bin .neq, [.t 76, .c (.i (-1))], some (70, true)⟩,
 ⟨some 78, .eqb true, [.t 75, .t 77], some (70, true)⟩,
 ⟨some 79, .pick, [.t 70, .t 78, .c (.b false)], none⟩] [66, 67, 68, 69, 70, 71, 72, 73, 74, 75, 76, 77, 78])
 (.cond (.t 79) [79]
 (.seq
 (.region false [⟨some 2, .mv, [.c (.b false)], none⟩] [3, 4, 5, 6, 8, 10])
 .ret)
 .skip)))
 (.region false [⟨some 64, .mv, [.t 10], none⟩,
 ⟨some 65, .bin .add, [.t 64, .c (.i 1)], none⟩,
 ⟨some 10, .mv, [.t 65], none⟩] [64, 65])))
def F_laws_FnForcedProof_W1 : LC := .loop F_laws_FnForcedProof_L1
def F_laws_FnForcedProof : LF :=
 { nparams := 1, results := [.t 2], body :=
 (.seq
 (.region false [⟨some 2, .mv, [.c (.b false)], none⟩] [2])
 (.seq
 (.seq
 (.region false [⟨some 11, .mv, [.t 0], none⟩,
 ⟨some 12, .len, [.t 11], none⟩,
 ⟨some 13, .bin .gtr, [.t 12, .c (.i 1048576)], none⟩] [11, 12])
 (.cond (.t 13) [13]
 (.seq
 (.region false [⟨some 2, .mv, [.c (.b true)], none⟩] [0])
 .ret)
 .skip))
 (.seq
 (.region false [⟨some 15, .mv, [.t 0], none⟩,
 ⟨some 16, .call n_spec_DrawForcedBy 8192, [.t 15], none⟩,
 ⟨some 14, .mv, [.t 16], none⟩,
 ⟨some 17, .ext 0, [.t 14], none⟩,
 ⟨some 18, .ext 1, [.t 14], none⟩,
 ⟨some 19, .ext 2, [.t 14], none⟩,
 ⟨some 3, .mv, [.t 17], none⟩,
 ⟨some 4, .mv, [.t 18], none⟩,
 ⟨some 5, .mv, [.t 19], none⟩] [0, 14, 15, 16, 17, 18, 19])
 (.seq
 (.region false [⟨some 21, .mv, [.t 3], none⟩,
 ⟨some 22, .mv, [.t 4], none⟩,
 ⟨some 23, .mv, [.t 5], none⟩,
 ⟨some 24, .call n_impl_ForcedBy 12288, [.t 21, .t 22, .t 23], none⟩,
 ⟨some 20, .mv, [.t 24], none⟩,
 ⟨some 25, .ext 0, [.t 20], none⟩,
 ⟨some 26, .ext 1, [.t 20], none⟩,
 ⟨some 6, .mv, [.t 25], none⟩,
 ⟨some 7, .mv, [.t 26], none⟩] [20, 21, 22, 23, 24, 25, 26])
 (.seq
 (.seq
 (.region false [⟨some 27, .mv, [.t 7], none⟩,
 ⟨some 28, .un .not, [.t 27], none⟩,
 ⟨some 29, .mv, [.t 28], none⟩,
 ⟨some 30, .mv, [.t 3], some (29, false)⟩,
 ⟨some 31, .mv, [.t 4], some (29, false)⟩,
 ⟨some 32, .call n_spec_TermOk 16384, [.t 30, .t 31], some (29, false)⟩,
 ⟨some 33, .un .not, [.t 32], some (29, false)⟩,
 ⟨some 34, .pick, [.t 29, .c (.b true), .t 33], none⟩,
 ⟨some 35, .mv, [.t 34], none⟩,
 ⟨some 36, .mv, [.t 3], some (35, false)⟩,
 ⟨some 37, .mv, [.t 5], some (35, false)⟩,
 ⟨some 38, .call n_spec_KnownOk 19456, [.t 36, .t 37], some (35, false)⟩,
 ⟨some 39, .un .not, [.t 38], some (35, false)⟩,
 ⟨some 40, .pick, [.t 35, .c (.b true), .t 39], none⟩] [27, 28, 29, 30, 31, 32, 33, 34, 35, 36, 37, 38, 39])
 (.cond (.t 40) [40]
 (.seq
 (.region false [⟨some 41, .mv, [.t 7], none⟩,
 ⟨some 42, .un .not, [.t 41], none⟩,
 ⟨some 43, .mv, [.t 42], none⟩,
 ⟨some 44, .call n_laws_alive 22528, [], some (43, true)⟩,
 ⟨some 45, .pick, [.t 43, .t 44, .c (.b false)], none⟩,
 ⟨some 2, .mv, [.t 45], none⟩] [3, 4, 5, 6, 7, 41, 42, 43, 44, 45])
 .ret)
 .skip))
 (.seq
 (.region false [⟨some 8, .mv, [.c (.i 0)], none⟩] [7])
 (.seq
 (.seq
 (.region false [⟨some 9, .mv, [.c (.i 0)], none⟩] [])
 (.block 0
 F_laws_FnForcedProof_W0))
 (.seq
 (.seq
 (.region false [⟨some 10, .mv, [.c (.i 0)], none⟩] [9])
 (.block 2
 F_laws_FnForcedProof_W1))
 (.seq
 (.region false [⟨some 80, .call n_laws_alive 40960, [], none⟩,
 ⟨some 2, .mv, [.t 80], none⟩] [3, 4, 5, 6, 8, 10, 80])
 .ret))))))))) }
/-- laws.FnLeastProofs -/
def F_laws_FnLeastProofs_L1 : LC :=
 (.seq
 (.seq
 (.region false [⟨some 97, .mv, [.t 11], none⟩,
 ⟨some 98, .mv, [.t 10], none⟩,
 ⟨some 99, .bin .lss, [.t 97, .t 98], none⟩] [97, 98])
 (.cond (.t 99) [99]
 .skip
 (.exit 2)))
 (.seq
 (.block 3
 (.seq
 (.region true [⟨some 102, .mv, [.t 6], none⟩,
 ⟨some 103, .mv, [.t 11], none⟩,
 ⟨some 104, .idxa 1, [.t 102, .t 103], none⟩,
 ⟨some 105, .load 1 false, [.t 104], none⟩,
 ⟨some 106, .mv, [.t 6], none⟩,
 ⟨some 107, .mv, [.t 10], none⟩,
 ⟨some 108, .idxa 1, [.t 106, .t 107], none⟩,
 ⟨some 109, .load 1 false, [.t 108], none⟩,
 ⟨some 110, .bin .and, [.t 105, .t 109], none⟩,
 ⟨some 111, .mv, [.t 6], none⟩,
 ⟨some 112, .mv, [.t 11], none⟩,
 ⟨some 113, .idxa 1, [.t 111, .t 112], none⟩,
 ⟨some 114, .load 1 false, [.t 113], none⟩,
 ⟨some 115, .bin .eql, [.t 110, .t 114], none⟩,
 ⟨some 116, .mv, [.t 115], none⟩,
 ⟨some 117, .mv, [.t 6], some (116, false)⟩,
 ⟨some 118, .mv, [.t 11], some (116, false)⟩,
 ⟨some 119, .idxa 1, [.t 117, .t 118], some (116, false)⟩,
 ⟨some 120, .load 1 false, [.t 119], some (116, false)⟩,
 ⟨some 121, .mv, [.t 6], some (116, false)⟩,
 ⟨some 122, .mv, [.t 10], some (116, false)⟩,
 ⟨some 123, .idxa 1, [.t 121, .t 122], some (116, false)⟩,
 ⟨some 124, .load 1 false, [.t 123], some (116, false)⟩,
 ⟨some 125, .bin .and, [.t 120, .t 124], some (116, false)⟩,
 ⟨some 126, .mv, [.t 6], some (116, false)⟩,
 ⟨some 127, .mv, [.t 10], some (116, false)⟩,
 ⟨some 128, .idxa 1, [.t 126, .t 127], some (116, false)⟩,
 ⟨some 129, .load 1 false, [.t 128], some (116, false)⟩,
 ⟨some 130, .bin .eql, [.t 125, .t 129], some (116, false)⟩,
 ⟨some 131, .pick, [.t 116, .c (.b true), .t 130], none⟩] [102, 103, 104, 105, 106, 107, 108, 109, 110, 111, 112, 113, 114, 115, 116, 117, 118, 119, 120, 121, 122, 123, 124, 125, 126, 127, 128, 129, 130])
 (.cond (.t 131) [131]
 (.seq
 (.region false [⟨some 2, .mv, [.c (.b false)], none⟩] [3, 4, 5, 6, 7, 8, 9, 10, 11])
 .ret)
 .skip)))
 (.region false [⟨some 100, .mv, [.t 11], none⟩,
 ⟨some 101, .bin .add, [.t 100, .c (.i 1)], none⟩,
 ⟨some 11, .mv, [.t 101], none⟩] [100, 101])))
def F_laws_FnLeastProofs_W1 : LC := .loop F_laws_FnLeastProofs_L1
def F_laws_FnLeastProofs_L2 : LC :=
 (.seq
 (.seq
 (.region false [⟨some 132, .mv, [.t 12], none⟩,
 ⟨some 133, .mv, [.t 8], none⟩,
 ⟨some 134, .len, [.t 133], none⟩,
 ⟨some 135, .bin .lss, [.t 132, .t 134], none⟩,
 ⟨some 136, .mv, [.t 135], none⟩,
 ⟨some 137, .mv, [.t 9], some (136, true)⟩,
 ⟨some 138, .pick, [.t 136, .t 137, .c (.b false)], none⟩] [132, 133, 134, 135, 136, 137])
 (.cond (.t 138) [138]
 .skip
 (.exit 4)))
 (.seq
 (.block 5
 (.seq
 (.region true [⟨some 141, .mv, [.t 6], none⟩,
 ⟨some 142, .mv, [.t 10], none⟩,
 ⟨some 143, .idxa 1, [.t 141, .t 142], none⟩,
 ⟨some 144, .load 1 false, [.t 143], none⟩,
 ⟨some 145, .mv, [.t 8], none⟩,
 ⟨some 146, .mv, [.t 12], none⟩,
 ⟨some 147, .idxa 1, [.t 145, .t 146], none⟩,
 ⟨some 148, .load 1 false, [.t 147], none⟩,
 ⟨some 149, .bin .and, [.t 144, .t 148], none⟩,
 ⟨some 150, .bin .eql, [.t 149, .c (.i 0)], none⟩] [141, 142, 143, 144, 145, 146, 147, 148, 149])
 (.cond (.t 150) [150]
 (.seq
 (.region false [⟨some 2, .mv, [.c (.b false)], none⟩] [3, 4, 5, 6, 7, 8, 9, 10, 12])
 .ret)
 .skip)))
 (.region false [⟨some 139, .mv, [.t 12], none⟩,
 ⟨some 140, .bin .add, [.t 139, .c (.i 1)], none⟩,
 ⟨some 12, .mv, [.t 140], none⟩] [139, 140])))
def F_laws_FnLeastProofs_W2 : LC := .loop F_laws_FnLeastProofs_L2
def F_laws_FnLeastProofs_L0 : LC :=
 (.seq
 (.seq
 (.region false [⟨some 73, .mv, [.t 10], none⟩,
 ⟨some 74, .mv, [.t 6], none⟩,
 ⟨some 75, .len, [.t 74], none⟩,
 ⟨some 76, .bin .lss, [.t 73, .t 75], none⟩] [73, 74, 75])
 (.cond (.t 76) [76]
 .skip
 (.exit 0)))
 (.seq
 (.block 1
 (.seq
 (.seq
 (.region false [⟨some 79, .mv, [.t 3], none⟩,
 ⟨some 80, .mv, [.t 4], none⟩,
 ⟨some 81, .mv, [.t 5], none⟩,
 ⟨some 82, .mv, [.t 6], none⟩,
 ⟨some 83, .mv, [.t 10], none⟩,
 ⟨some 84, .idxa 1, [.t 82, .t 83], none⟩,
 ⟨some 85, .load 1 false, [.t 84], none⟩,
 ⟨some 86, .call n_impl_ProofOk 44032, [.t 79, .t 80, .t 81, .t 85], none⟩,
 ⟨some 87, .un .not, [.t 86], none⟩,
 ⟨some 88, .mv, [.t 87], none⟩,
 ⟨some 89, .mv, [.t 6], some (88, false)⟩,
 ⟨some 90, .mv, [.t 10], some (88, false)⟩,
 ⟨some 91, .idxa 1, [.t 89, .t 90], some (88, false)⟩,
 ⟨some 92, .load 1 false, [.t 91], some (88, false)⟩,
 ⟨some 93, .mv, [.t 7], some (88, false)⟩,
 ⟨some 94, .bin .and, [.t 92, .t 93], some (88, false)⟩,
 ⟨some 95, .bin .neq, [.t 94, .c (.i 0)], some (88, false)⟩,
 ⟨some 96, .pick, [.t 88, .c (.b true), .t 95], none⟩] [79, 80, 81, 82, 83, 84, 85, 86, 87, 88, 89, 90, 91, 92, 93, 94, 95])
 (.cond (.t 96) [96]
 (.seq
 (.region false [⟨some 2, .mv, [.c (.b false)], none⟩] [3, 4, 5, 6, 7, 8, 9, 10])
 .ret)
 .skip))
 (.seq
 (.seq
 (.region false [⟨some 11, .mv, [.c (.i 0)], none⟩] [])
 (.block 2
 F_laws_FnLeastProofs_W1))
 (.seq
 (.region false [⟨some 12, .mv, [.c (.i 0)], none⟩] [11])
 (.block 4
 F_laws_FnLeastProofs_W2)))))
 (.region false [⟨some 77, .mv, [.t 10], none⟩,
 ⟨some 78, .bin .add, [.t 77, .c (.i 1)], none⟩,
 ⟨some 10, .mv, [.t 78], none⟩] [12, 77, 78])))
def F_laws_FnLeastProofs_W0 : LC := .loop F_laws_FnLeastProofs_L0
def F_laws_FnLeastProofs : LF :=
 { nparams := 1, results := [.t 2], body :=
 (.seq
 (.region false [⟨some 2, .mv, [.c (.b false)], none⟩] [2])
 (.seq
 (.seq
 (.region false [⟨some 13, .mv, [.t 0], none⟩,
 ⟨some 14, .len, [.t 13], none⟩,
 ⟨some 15, .bin .gtr, [.t 14, .c (.i 1048576)], none⟩] [13, 14])
 (.cond (.t 15) [15]
 (.seq
 (.region false [⟨some 2, .mv, [.c (.b true)], none⟩] [0])
 .ret)
 .skip))
 (.seq
 (.region false [⟨some 17, .mv, [.t 0], none⟩,
 ⟨some 18, .call n_spec_DrawLeastProofs 9216, [.t 17], none⟩,
 ⟨some 16, .mv, [.t 18], none⟩,
 ⟨some 19, .ext 0, [.t 16], none⟩,
 ⟨some 20, .ext 1, [.t 16], none⟩,
 ⟨some 21, .ext 2, [.t 16], none⟩,
 ⟨some 3, .mv, [.t 19], none⟩,
 ⟨some 4, .mv, [.t 20], none⟩,
 ⟨some 5, .mv, [.t 21], none⟩] [0, 16, 17, 18, 19, 20, 21])
 (.seq
 (.region false [⟨some 22, .mv, [.t 3], none⟩,
 ⟨some 23, .mv, [.t 4], none⟩,
 ⟨some 24, .mv, [.t 5], none⟩,
 ⟨some 25, .call n_impl_LeastProofs 12800, [.t 22, .t 23, .t 24], none⟩,
 ⟨some 6, .mv, [.t 25], none⟩] [22, 23, 24, 25])
 (.seq
 (.seq
 (.region false [⟨some 26, .mv, [.t 6], none⟩,
 ⟨some 27, .mv, [.t 3], none⟩,
 ⟨some 28, .mv, [.t 4], none⟩,
 ⟨some 29, .mv, [.t 5], none⟩,
 ⟨some 30, .call n_spec_LeastProofs 15360, [.t 27, .t 28, .t 29], none⟩,
 ⟨some 31, .call n_laws_sameInts 15872, [.t 26, .t 30], none⟩,
 ⟨some 32, .un .not, [.t 31], none⟩] [26, 27, 28, 29, 30, 31])
 (.cond (.t 32) [32]
 (.seq
 (.region false [⟨some 2, .mv, [.c (.b false)], none⟩] [3, 4, 5, 6])
 .ret)
 .skip))
 (.seq
 (.seq
 (.region false [⟨some 33, .mv, [.t 3], none⟩,
 ⟨some 34, .mv, [.t 4], none⟩,
 ⟨some 35, .call n_spec_TermOk 17920, [.t 33, .t 34], none⟩,
 ⟨some 36, .un .not, [.t 35], none⟩,
 ⟨some 37, .mv, [.t 36], none⟩,
 ⟨some 38, .mv, [.t 3], some (37, false)⟩,
 ⟨some 39, .mv, [.t 5], some (37, false)⟩,
 ⟨some 40, .call n_spec_StateOk 20480, [.t 38, .t 39], some (37, false)⟩,
 ⟨some 41, .un .not, [.t 40], some (37, false)⟩,
 ⟨some 42, .pick, [.t 37, .c (.b true), .t 41], none⟩] [33, 34, 35, 36, 37, 38, 39, 40, 41])
 (.cond (.t 42) [42]
 (.seq
 (.region false [⟨some 43, .mv, [.t 6], none⟩,
 ⟨some 44, .len, [.t 43], none⟩,
 ⟨some 45, .bin .eql, [.t 44, .c (.i 0)], none⟩,
 ⟨some 46, .mv, [.t 45], none⟩,
 ⟨some 47, .call n_laws_alive 24064, [], some (46, true)⟩,
 ⟨some 48, .pick, [.t 46, .t 47, .c (.b false)], none⟩,
 ⟨some 2, .mv, [.t 48], none⟩] [3, 4, 5, 6, 43, 44, 45, 46, 47, 48])
 .ret)
 .skip))
 (.seq
 (.region false [⟨some 49, .mv, [.t 3], none⟩,
 ⟨some 50, .mv, [.t 4], none⟩,
 ⟨some 51, .call n_impl_IdleTests 26112, [.t 49, .t 50], none⟩,
 ⟨some 7, .mv, [.t 51], none⟩] [49, 50, 51])
 (.seq
 (.region false [⟨some 52, .mv, [.t 3], none⟩,
 ⟨some 53, .mv, [.t 4], none⟩,
 ⟨some 54, .mv, [.t 3], none⟩,
 ⟨some 55, .bin .shl, [.c (.i 1), .t 54], none⟩,
 ⟨some 56, .bin .sub, [.t 55, .c (.i 1)], none⟩,
 ⟨some 57, .mv, [.t 5], none⟩,
 ⟨some 58, .bin .sub, [.t 56, .t 57], none⟩,
 ⟨some 59, .call n_impl_LeastProofs 30208, [.t 52, .t 53, .t 58], none⟩,
 ⟨some 8, .mv, [.t 59], none⟩] [52, 53, 54, 55, 56, 57, 58, 59])
 (.seq
 (.region true [⟨some 60, .mv, [.t 3], none⟩,
 ⟨some 61, .mv, [.t 4], none⟩,
 ⟨some 62, .mv, [.t 5], none⟩,
 ⟨some 63, .call n_impl_ValueOf 32256, [.t 60, .t 61, .t 62], none⟩,
 ⟨some 64, .mv, [.t 3], none⟩,
 ⟨some 65, .mv, [.t 4], none⟩,
 ⟨some 66, .mv, [.t 3], none⟩,
 ⟨some 67, .bin .shl, [.c (.i 1), .t 66], none⟩,
 ⟨some 68, .bin .sub, [.t 67, .c (.i 1)], none⟩,
 ⟨some 69, .mv, [.t 5], none⟩,
 ⟨some 70, .bin .sub, [.t 68, .t 69], none⟩,
 ⟨some 71, .call n_impl_ValueOf 36352, [.t 64, .t 65, .t 70], none⟩,
 ⟨some 72, .eqb true, [.t 63, .t 71], none⟩,
 ⟨some 9, .mv, [.t 72], none⟩] [60, 61, 62, 63, 64, 65, 66, 67, 68, 69, 70, 71, 72])
 (.seq
 (.seq
 (.region false [⟨some 10, .mv, [.c (.i 0)], none⟩] [])
 (.block 0
 F_laws_FnLeastProofs_W0))
 (.seq
 (.region false [⟨some 151, .mv, [.t 6], none⟩,
 ⟨some 152, .len, [.t 151], none⟩,
 ⟨some 153, .bin .gtr, [.t 152, .c (.i 0)], none⟩,
 ⟨some 154, .mv, [.t 153], none⟩,
 ⟨some 155, .mv, [.t 6], some (154, true)⟩,
 ⟨some 156, .call n_laws_ascend 79872, [.t 155], some (154, true)⟩,
 ⟨some 157, .pick, [.t 154, .t 156, .c (.b false)], none⟩,
 ⟨some 2, .mv, [.t 157], none⟩] [3, 4, 5, 6, 7, 8, 9, 10, 151, 152, 153, 154, 155, 156, 157])
 .ret))))))))))) }
/-- laws.FnProofOk -/
def F_laws_FnProofOk_L0 : LC :=
 (.seq
 (.seq
 (.region false [⟨some 53, .mv, [.t 8], none⟩,
 ⟨some 54, .mv, [.t 3], none⟩,
 ⟨some 55, .bin .lss, [.t 53, .t 54], none⟩,
 ⟨some 56, .mv, [.t 55], none⟩,
 ⟨some 57, .mv, [.t 7], some (56, true)⟩,
 ⟨some 58, .pick, [.t 56, .t 57, .c (.b false)], none⟩] [53, 54, 55, 56, 57])
 (.cond (.t 58) [58]
 .skip
 (.exit 0)))
 (.seq
 (.block 1
 (.seq
 (.region false [⟨some 61, .mv, [.t 3], none⟩,
 ⟨some 62, .mv, [.t 4], none⟩,
 ⟨some 63, .mv, [.t 5], none⟩,
 ⟨some 64, .mv, [.t 6], none⟩,
 ⟨some 65, .mv, [.t 8], none⟩,
 ⟨some 66, .bin .shl, [.c (.i 1), .t 65], none⟩,
 ⟨some 67, .bin .or, [.t 64, .t 66], none⟩,
 ⟨some 68, .call n_impl_ProofOk 34816, [.t 61, .t 62, .t 63, .t 67], none⟩,
 ⟨some 69, .un .not, [.t 68], none⟩] [61, 62, 63, 64, 65, 66, 67, 68])
 (.cond (.t 69) [69]
 (.seq
 (.region false [⟨some 2, .mv, [.c (.b false)], none⟩] [3, 4, 5, 6, 7, 8])
 .ret)
 .skip)))
 (.region false [⟨some 59, .mv, [.t 8], none⟩,
 ⟨some 60, .bin .add, [.t 59, .c (.i 1)], none⟩,
 ⟨some 8, .mv, [.t 60], none⟩] [59, 60])))
def F_laws_FnProofOk_W0 : LC := .loop F_laws_FnProofOk_L0
def F_laws_FnProofOk : LF :=
 { nparams := 1, results := [.t 2], body :=
 (.seq
 (.region false [⟨some 2, .mv, [.c (.b false)], none⟩] [2])
 (.seq
 (.seq
 (.region false [⟨some 10, .mv, [.t 0], none⟩,
 ⟨some 11, .len, [.t 10], none⟩,
 ⟨some 12, .bin .gtr, [.t 11, .c (.i 1048576)], none⟩] [10, 11])
 (.cond (.t 12) [12]
 (.seq
 (.region false [⟨some 2, .mv, [.c (.b true)], none⟩] [0])
 .ret)
 .skip))
 (.seq
 (.region false [⟨some 14, .mv, [.t 0], none⟩,
 ⟨some 15, .call n_spec_DrawProofOk 7680, [.t 14], none⟩,
 ⟨some 13, .mv, [.t 15], none⟩,
 ⟨some 16, .ext 0, [.t 13], none⟩,
 ⟨some 17, .ext 1, [.t 13], none⟩,
 ⟨some 18, .ext 2, [.t 13], none⟩,
 ⟨some 19, .ext 3, [.t 13], none⟩,
 ⟨some 3, .mv, [.t 16], none⟩,
 ⟨some 4, .mv, [.t 17], none⟩,
 ⟨some 5, .mv, [.t 18], none⟩,
 ⟨some 6, .mv, [.t 19], none⟩] [0, 13, 14, 15, 16, 17, 18, 19])
 (.seq
 (.region false [⟨some 20, .mv, [.t 3], none⟩,
 ⟨some 21, .mv, [.t 4], none⟩,
 ⟨some 22, .mv, [.t 5], none⟩,
 ⟨some 23, .mv, [.t 6], none⟩,
 ⟨some 24, .call n_impl_ProofOk 12288, [.t 20, .t 21, .t 22, .t 23], none⟩,
 ⟨some 7, .mv, [.t 24], none⟩] [20, 21, 22, 23, 24])
 (.seq
 (.seq
 (.region false [⟨some 25, .mv, [.t 7], none⟩,
 ⟨some 26, .mv, [.t 3], none⟩,
 ⟨some 27, .mv, [.t 4], none⟩,
 ⟨some 28, .mv, [.t 5], none⟩,
 ⟨some 29, .mv, [.t 6], none⟩,
 ⟨some 30, .call n_spec_ProofOk 15360, [.t 26, .t 27, .t 28, .t 29], none⟩,
 ⟨some 31, .eqb true, [.t 25, .t 30], none⟩] [25, 26, 27, 28, 29, 30])
 (.cond (.t 31) [31]
 (.seq
 (.region false [⟨some 2, .mv, [.c (.b false)], none⟩] [3, 4, 5, 6, 7])
 .ret)
 .skip))
 (.seq
 (.seq
 (.region false [⟨some 32, .mv, [.t 3], none⟩,
 ⟨some 33, .mv, [.t 4], none⟩,
 ⟨some 34, .call n_spec_TermOk 17408, [.t 32, .t 33], none⟩,
 ⟨some 35, .un .not, [.t 34], none⟩,
 ⟨some 36, .mv, [.t 35], none⟩,
 ⟨some 37, .mv, [.t 3], some (36, false)⟩,
 ⟨some 38, .mv, [.t 5], some (36, false)⟩,
 ⟨some 39, .call n_spec_StateOk 19968, [.t 37, .t 38], some (36, false)⟩,
 ⟨some 40, .un .not, [.t 39], some (36, false)⟩,
 ⟨some 41, .pick, [.t 36, .c (.b true), .t 40], none⟩,
 ⟨some 42, .mv, [.t 41], none⟩,
 ⟨some 43, .mv, [.t 3], some (42, false)⟩,
 ⟨some 44, .mv, [.t 6], some (42, false)⟩,
 ⟨some 45, .call n_spec_StateOk 23040, [.t 43, .t 44], some (42, false)⟩,
 ⟨some 46, .un .not, [.t 45], some (42, false)⟩,
 ⟨some 47, .pick, [.t 42, .c (.b true), .t 46], none⟩] [32, 33, 34, 35, 36, 37, 38, 39, 40, 41, 42, 43, 44, 45, 46])
 (.cond (.t 47) [47]
 (.seq
 (.region false [⟨some 48, .mv, [.t 7], none⟩,
 ⟨some 49, .un .not, [.t 48], none⟩,
 ⟨some 50, .mv, [.t 49], none⟩,
 ⟨some 51, .call n_laws_alive 26112, [], some (50, true)⟩,
 ⟨some 52, .pick, [.t 50, .t 51, .c (.b false)], none⟩,
 ⟨some 2, .mv, [.t 52], none⟩] [3, 4, 5, 6, 7, 48, 49, 50, 51, 52])
 .ret)
 .skip))
 (.seq
 (.seq
 (.region false [⟨some 8, .mv, [.c (.i 0)], none⟩] [])
 (.block 0
 F_laws_FnProofOk_W0))
 (.seq
 (.region false [⟨some 70, .mv, [.t 3], none⟩,
 ⟨some 71, .bin .shl, [.c (.i 1), .t 70], none⟩,
 ⟨some 72, .bin .sub, [.t 71, .c (.i 1)], none⟩,
 ⟨some 9, .mv, [.t 72], none⟩] [8, 70, 71, 72])
 (.seq
 (.region false [⟨some 73, .mv, [.t 3], none⟩,
 ⟨some 74, .mv, [.t 4], none⟩,
 ⟨some 75, .mv, [.t 5], none⟩,
 ⟨some 76, .mv, [.t 9], none⟩,
 ⟨some 77, .call n_impl_ProofOk 39424, [.t 73, .t 74, .t 75, .t 76], none⟩,
 ⟨some 78, .mv, [.t 77], none⟩,
 ⟨some 79, .mv, [.t 3], some (78, true)⟩,
 ⟨some 80, .mv, [.t 3], some (78, true)⟩,
 ⟨some 81, .mv, [.t 4], some (78, true)⟩,
 ⟨some 82, .call n_impl_DualTerm 41984, [.t 80, .t 81], some (78, true)⟩,
 ⟨some 83, .mv, [.t 9], some (78, true)⟩,
 ⟨some 84, .mv, [.t 5], some (78, true)⟩,
 ⟨some 85, .bin .sub, [.t 83, .t 84], some (78, true)⟩,
 ⟨some 86, .mv, [.t 6], some (78, true)⟩,
 ⟨some 87, .call n_impl_ProofOk 44544, [.t 79, .t 82, .t 85, .t 86], some (78, true)⟩,
 ⟨some 88, .mv, [.t 7], some (78, true)⟩,
 ⟨some 89, .eqb false, [.t 87, .t 88], some (78, true)⟩,
 ⟨some 90, .pick, [.t 78, .t 89, .c (.b false)], none⟩,
 ⟨some 2, .mv, [.t 90], none⟩] [3, 4, 5, 6, 7, 9, 73, 74, 75, 76, 77, 78, 79, 80, 81, 82, 83, 84, 85, 86, 87, 88, 89, 90])
 .ret))))))))) }
/-- laws.FnTurnsIn -/
def F_laws_FnTurnsIn_L0 : LC :=
 (.seq
 (.seq
 (.region false [⟨some 43, .mv, [.t 9], none⟩,
 ⟨some 44, .mv, [.t 8], none⟩,
 ⟨some 45, .len, [.t 44], none⟩,
 ⟨some 46, .bin .lss, [.t 43, .t 45], none⟩] [43, 44, 45])
 (.cond (.t 46) [46]
 .skip
 (.exit 0)))
 (.seq
 (.block 1
 (.region false [⟨some 49, .mv, [.t 7], none⟩,
 ⟨some 50, .mv, [.t 8], none⟩,
 ⟨some 51, .mv, [.t 9], none⟩,
 ⟨some 52, .idxa 1, [.t 50, .t 51], none⟩,
 ⟨some 53, .load 1 false, [.t 52], none⟩,
 ⟨some 54, .bin .and, [.t 49, .t 53], none⟩,
 ⟨some 7, .mv, [.t 54], none⟩] [49, 50, 51, 52, 53, 54]))
 (.region false [⟨some 47, .mv, [.t 9], none⟩,
 ⟨some 48, .bin .add, [.t 47, .c (.i 1)], none⟩,
 ⟨some 9, .mv, [.t 48], none⟩] [47, 48])))
def F_laws_FnTurnsIn_W0 : LC := .loop F_laws_FnTurnsIn_L0
def F_laws_FnTurnsIn : LF :=
 { nparams := 1, results := [.t 2], body :=
 (.seq
 (.region false [⟨some 2, .mv, [.c (.b false)], none⟩] [2])
 (.seq
 (.seq
 (.region false [⟨some 10, .mv, [.t 0], none⟩,
 ⟨some 11, .len, [.t 10], none⟩,
 ⟨some 12, .bin .gtr, [.t 11, .c (.i 1048576)], none⟩] [10, 11])
 (.cond (.t 12) [12]
 (.seq
 (.region false [⟨some 2, .mv, [.c (.b true)], none⟩] [0])
 .ret)
 .skip))
 (.seq
 (.region false [⟨some 14, .mv, [.t 0], none⟩,
 ⟨some 15, .call n_spec_DrawTurnsIn 7680, [.t 14], none⟩,
 ⟨some 13, .mv, [.t 15], none⟩,
 ⟨some 16, .ext 0, [.t 13], none⟩,
 ⟨some 17, .ext 1, [.t 13], none⟩,
 ⟨some 18, .ext 2, [.t 13], none⟩,
 ⟨some 3, .mv, [.t 16], none⟩,
 ⟨some 4, .mv, [.t 17], none⟩,
 ⟨some 5, .mv, [.t 18], none⟩] [0, 13, 14, 15, 16, 17, 18])
 (.seq
 (.region false [⟨some 19, .mv, [.t 3], none⟩,
 ⟨some 20, .mv, [.t 4], none⟩,
 ⟨some 21, .mv, [.t 5], none⟩,
 ⟨some 22, .call n_impl_TurnsIn 11264, [.t 19, .t 20, .t 21], none⟩,
 ⟨some 6, .mv, [.t 22], none⟩] [19, 20, 21, 22])
 (.seq
 (.seq
 (.region false [⟨some 23, .mv, [.t 6], none⟩,
 ⟨some 24, .mv, [.t 3], none⟩,
 ⟨some 25, .mv, [.t 4], none⟩,
 ⟨some 26, .mv, [.t 5], none⟩,
 ⟨some 27, .call n_spec_TurnsIn 13824, [.t 24, .t 25, .t 26], none⟩,
 ⟨some 28, .bin .neq, [.t 23, .t 27], none⟩] [23, 24, 25, 26, 27])
 (.cond (.t 28) [28]
 (.seq
 (.region false [⟨some 2, .mv, [.c (.b false)], none⟩] [3, 4, 5, 6])
 .ret)
 .skip))
 (.seq
 (.seq
 (.region false [⟨some 29, .mv, [.t 6], none⟩,
 ⟨some 30, .bin .lss, [.t 29, .c (.i 0)], none⟩] [29])
 (.cond (.t 30) [30]
 (.seq
 (.region false [⟨some 31, .mv, [.t 6], none⟩,
 ⟨some 32, .bin .eql, [.t 31, .c (.i (-1))], none⟩,
 ⟨some 33, .mv, [.t 32], none⟩,
 ⟨some 34, .call n_laws_alive 17408, [], some (33, true)⟩,
 ⟨some 35, .pick, [.t 33, .t 34, .c (.b false)], none⟩,
 ⟨some 2, .mv, [.t 35], none⟩] [3, 4, 5, 6, 31, 32, 33, 34, 35])
 .ret)
 .skip))
 (.seq
 (.region false [⟨some 36, .mv, [.t 3], none⟩,
 ⟨some 37, .bin .shl, [.c (.i 1), .t 36], none⟩,
 ⟨some 38, .bin .sub, [.t 37, .c (.i 1)], none⟩,
 ⟨some 7, .mv, [.t 38], none⟩] [36, 37, 38])
 (.seq
 (.region false [⟨some 39, .mv, [.t 3], none⟩,
 ⟨some 40, .mv, [.t 4], none⟩,
 ⟨some 41, .mv, [.t 5], none⟩,
 ⟨some 42, .call n_impl_LeastProofs 21504, [.t 39, .t 40, .t 41], none⟩,
 ⟨some 8, .mv, [.t 42], none⟩] [5, 39, 40, 41, 42])
 (.seq
 (.seq
 (.region false [⟨some 9, .mv, [.c (.i 0)], none⟩] [])
 (.block 0
 F_laws_FnTurnsIn_W0))
 (.seq
 (.region false [⟨some 55, .mv, [.t 6], none⟩,
 ⟨some 56, .mv, [.t 3], none⟩,
 ⟨some 57, .mv, [.t 4], none⟩,
 ⟨some 58, .call n_impl_IdleTests 29696, [.t 56, .t 57], none⟩,
 ⟨some 59, .bin .and, [.t 55, .t 58], none⟩,
 ⟨some 60, .bin .eql, [.t 59, .c (.i 0)], none⟩,
 ⟨some 61, .mv, [.t 60], none⟩,
 ⟨some 62, .mv, [.t 6], some (61, true)⟩,
 ⟨some 63, .mv, [.t 7], some (61, true)⟩,
 ⟨some 64, .bin .andNot, [.t 62, .t 63], some (61, true)⟩,
 ⟨some 65, .bin .eql, [.t 64, .c (.i 0)], some (61, true)⟩,
 ⟨some 66, .pick, [.t 61, .t 65, .c (.b false)], none⟩,
 ⟨some 67, .mv, [.t 66], none⟩,
 ⟨some 68, .mv, [.t 7], some (67, true)⟩,
 ⟨some 69, .mv, [.t 6], some (67, true)⟩,
 ⟨some 70, .bin .eql, [.t 68, .t 69], some (67, true)⟩,
 ⟨some 71, .pick, [.t 67, .t 70, .c (.b false)], none⟩,
 ⟨some 2, .mv, [.t 71], none⟩] [3, 4, 6, 7, 8, 9, 55, 56, 57, 58, 59, 60, 61, 62, 63, 64, 65, 66, 67, 68, 69, 70, 71])
 .ret)))))))))) }
/-- laws.FnExactForcedBy -/
def F_laws_FnExactForcedBy : LF :=
 { nparams := 3, results := [.t 6], body :=
 (.seq
 (.region false [⟨some 6, .mv, [.c (.b false)], none⟩] [6])
 (.seq
 (.seq
 (.region false [⟨some 14, .mv, [.t 2], none⟩,
 ⟨some 15, .len, [.t 14], none⟩,
 ⟨some 16, .bin .gtr, [.t 15, .c (.i 1048576)], none⟩] [14, 15])
 (.cond (.t 16) [16]
 (.seq
 (.region false [⟨some 6, .mv, [.c (.b true)], none⟩] [0, 1, 2])
 .ret)
 .skip))
 (.seq
 (.region false [⟨some 7, .mv, [.c (.i 1048576)], none⟩] [])
 (.seq
 (.region false [⟨some 17, .mv, [.t 1], none⟩,
 ⟨some 18, .mv, [.t 7], none⟩,
 ⟨some 19, .call n_laws_szMarkS 9728, [.t 17, .t 18], none⟩,
 ⟨some 7, .mv, [.t 19], none⟩] [17, 18, 19])
 (.seq
 (.seq
 (.region false [⟨some 20, .mv, [.t 7], none⟩,
 ⟨some 21, .bin .lss, [.t 20, .c (.i 0)], none⟩] [7, 20])
 (.cond (.t 21) [21]
 (.seq
 (.region false [⟨some 6, .mv, [.c (.b true)], none⟩] [0, 1, 2])
 .ret)
 .skip))
 (.seq
 (.region false [⟨some 23, .mv, [.t 0], none⟩,
 ⟨some 24, .mv, [.t 1], none⟩,
 ⟨some 25, .call n_laws_toMarkS 12800, [.t 24], none⟩,
 ⟨some 26, .mv, [.t 2], none⟩,
 ⟨some 27, .call n_laws_toIntS 13824, [.t 26], none⟩,
 ⟨some 28, .call n_spec_ForcedBy 14336, [.t 23, .t 25, .t 27], none⟩,
 ⟨some 22, .mv, [.t 28], none⟩,
 ⟨some 29, .ext 0, [.t 22], none⟩,
 ⟨some 30, .ext 1, [.t 22], none⟩,
 ⟨some 8, .mv, [.t 29], none⟩,
 ⟨some 9, .mv, [.t 30], none⟩] [22, 23, 24, 25, 26, 27, 28, 29, 30])
 (.seq
 (.region false [⟨some 31, .mv, [.t 1], none⟩,
 ⟨some 32, .call n_laws_toMarkS 16384, [.t 31], none⟩,
 ⟨some 10, .mv, [.t 32], none⟩] [31, 32])
 (.seq
 (.region false [⟨some 33, .mv, [.t 2], none⟩,
 ⟨some 34, .call n_laws_toIntS 17408, [.t 33], none⟩,
 ⟨some 11, .mv, [.t 34], none⟩] [33, 34])
 (.seq
 (.region false [⟨some 36, .mv, [.t 0], none⟩,
 ⟨some 37, .mv, [.t 10], none⟩,
 ⟨some 38, .mv, [.t 11], none⟩,
 ⟨some 39, .call n_impl_ForcedBy 19968, [.t 36, .t 37, .t 38], none⟩,
 ⟨some 35, .mv, [.t 39], none⟩,
 ⟨some 40, .ext 0, [.t 35], none⟩,
 ⟨some 41, .ext 1, [.t 35], none⟩,
 ⟨some 12, .mv, [.t 40], none⟩,
 ⟨some 13, .mv, [.t 41], none⟩] [0, 35, 36, 37, 38, 39, 40, 41])
 (.seq
 (.seq
 (.region false [⟨some 42, .mv, [.t 12], none⟩,
 ⟨some 43, .mv, [.t 8], none⟩,
 ⟨some 44, .bin .neq, [.t 42, .t 43], none⟩,
 ⟨some 45, .mv, [.t 44], none⟩,
 ⟨some 46, .mv, [.t 13], some (45, false)⟩,
 ⟨some 47, .mv, [.t 9], some (45, false)⟩,
 ⟨some 48, .eqb true, [.t 46, .t 47], some (45, false)⟩,
 ⟨some 49, .pick, [.t 45, .c (.b true), .t 48], none⟩] [8, 9, 12, 13, 42, 43, 44, 45, 46, 47, 48])
 (.cond (.t 49) [49]
 (.seq
 (.region false [⟨some 6, .mv, [.c (.b false)], none⟩] [1, 2, 10, 11])
 .ret)
 .skip))
 (.seq
 (.seq
 (.region false [⟨some 50, .mv, [.t 10], none⟩,
 ⟨some 51, .mv, [.t 1], none⟩,
 ⟨some 52, .call n_laws_toMarkS 26624, [.t 51], none⟩,
 ⟨some 53, .call n_laws_eqMarkS 27136, [.t 50, .t 52], none⟩,
 ⟨some 54, .un .not, [.t 53], none⟩] [1, 10, 50, 51, 52, 53])
 (.cond (.t 54) [54]
 (.seq
 (.region false [⟨some 6, .mv, [.c (.b false)], none⟩] [2, 11])
 .ret)
 .skip))
 (.seq
 (.seq
 (.region false [⟨some 55, .mv, [.t 11], none⟩,
 ⟨some 56, .mv, [.t 2], none⟩,
 ⟨some 57, .call n_laws_toIntS 29184, [.t 56], none⟩,
 ⟨some 58, .call n_laws_eqIntS 29696, [.t 55, .t 57], none⟩,
 ⟨some 59, .un .not, [.t 58], none⟩] [2, 11, 55, 56, 57, 58])
 (.cond (.t 59) [59]
 (.seq
 (.region false [⟨some 6, .mv, [.c (.b false)], none⟩] [])
 .ret)
 .skip))
 (.seq
 (.region false [⟨some 6, .mv, [.c (.b true)], none⟩] [])
 .ret))))))))))))) }
/-- laws.FnExactLeastProofs -/
def F_laws_FnExactLeastProofs : LF :=
 { nparams := 3, results := [.t 6], body :=
 (.seq
 (.region false [⟨some 6, .mv, [.c (.b false)], none⟩] [6])
 (.seq
 (.region false [⟨some 7, .mv, [.c (.i 1048576)], none⟩] [])
 (.seq
 (.region false [⟨some 15, .mv, [.t 1], none⟩,
 ⟨some 16, .mv, [.t 7], none⟩,
 ⟨some 17, .call n_laws_szMarkS 8704, [.t 15, .t 16], none⟩,
 ⟨some 7, .mv, [.t 17], none⟩] [15, 16, 17])
 (.seq
 (.seq
 (.region false [⟨some 18, .mv, [.t 7], none⟩,
 ⟨some 19, .bin .lss, [.t 18, .c (.i 0)], none⟩] [7, 18])
 (.cond (.t 19) [19]
 (.seq
 (.region false [⟨some 6, .mv, [.c (.b true)], none⟩] [0, 1, 2])
 .ret)
 .skip))
 (.seq
 (.region false [⟨some 20, .mv, [.t 0], none⟩,
 ⟨some 21, .mv, [.t 1], none⟩,
 ⟨some 22, .call n_laws_toMarkS 11264, [.t 21], none⟩,
 ⟨some 23, .mv, [.t 2], none⟩,
 ⟨some 24, .call n_spec_LeastProofs 12288, [.t 20, .t 22, .t 23], none⟩,
 ⟨some 8, .mv, [.t 24], none⟩] [20, 21, 22, 23, 24])
 (.seq
 (.region false [⟨some 25, .mv, [.t 1], none⟩,
 ⟨some 26, .call n_laws_toMarkS 13312, [.t 25], none⟩,
 ⟨some 9, .mv, [.t 26], none⟩] [25, 26])
 (.seq
 (.region false [⟨some 27, .mv, [.t 0], none⟩,
 ⟨some 28, .mv, [.t 9], none⟩,
 ⟨some 29, .mv, [.t 2], none⟩,
 ⟨some 30, .call n_impl_LeastProofs 15360, [.t 27, .t 28, .t 29], none⟩,
 ⟨some 10, .mv, [.t 30], none⟩] [27, 28, 29, 30])
 (.seq
 (.seq
 (.region false [⟨some 31, .mv, [.t 10], none⟩,
 ⟨some 32, .mv, [.t 8], none⟩,
 ⟨some 33, .call n_laws_eqIntS 16896, [.t 31, .t 32], none⟩,
 ⟨some 34, .un .not, [.t 33], none⟩] [31, 32, 33])
 (.cond (.t 34) [34]
 (.seq
 (.region false [⟨some 6, .mv, [.c (.b false)], none⟩] [0, 1, 2, 8, 9, 10])
 .ret)
 .skip))
 (.seq
 (.seq
 (.region false [⟨some 35, .mv, [.t 9], none⟩,
 ⟨some 36, .mv, [.t 1], none⟩,
 ⟨some 37, .call n_laws_toMarkS 18944, [.t 36], none⟩,
 ⟨some 38, .call n_laws_eqMarkS 19456, [.t 35, .t 37], none⟩,
 ⟨some 39, .un .not, [.t 38], none⟩] [35, 36, 37, 38])
 (.cond (.t 39) [39]
 (.seq
 (.region false [⟨some 6, .mv, [.c (.b false)], none⟩] [0, 1, 2, 8, 9, 10])
 .ret)
 .skip))
 (.seq
 (.region false [⟨some 11, .mv, [.c (.i 1)], none⟩] [])
 (.seq
 (.region false [⟨some 40, .mv, [.t 9], none⟩,
 ⟨some 41, .mv, [.t 11], none⟩,
 ⟨some 42, .call n_laws_markMarkS 21508, [.t 40, .t 41], none⟩,
 ⟨some 11, .mv, [.t 42], none⟩] [9, 40, 41, 42])
 (.seq
 (.seq
 (.region false [⟨some 43, .mv, [.t 11], none⟩,
 ⟨some 44, .bin .lss, [.t 43, .c (.i 0)], none⟩,
 ⟨some 45, .mv, [.t 44], none⟩,
 ⟨some 46, .mv, [.t 10], some (45, false)⟩,
 ⟨some 47, .mv, [.t 8], some (45, false)⟩,
 ⟨some 48, .call n_laws_eqIntS 24576, [.t 46, .t 47], some (45, false)⟩,
 ⟨some 49, .un .not, [.t 48], some (45, false)⟩,
 ⟨some 50, .pick, [.t 45, .c (.b true), .t 49], none⟩] [11, 43, 44, 45, 46, 47, 48, 49])
 (.cond (.t 50) [50]
 (.seq
 (.region false [⟨some 6, .mv, [.c (.b false)], none⟩] [0, 1, 2, 8, 10])
 .ret)
 .skip))
 (.seq
 (.region false [⟨some 12, .mv, [.c (.i 1)], none⟩] [])
 (.seq
 (.region false [⟨some 51, .mv, [.t 10], none⟩,
 ⟨some 52, .mv, [.t 12], none⟩,
 ⟨some 53, .call n_laws_markIntS 27140, [.t 51, .t 52], none⟩,
 ⟨some 12, .mv, [.t 53], none⟩] [51, 52, 53])
 (.seq
 (.region false [⟨some 13, .mv, [.c (.i 1)], none⟩] [])
 (.seq
 (.region false [⟨some 54, .mv, [.t 10], none⟩,
 ⟨some 55, .mv, [.t 13], none⟩,
 ⟨some 56, .call n_laws_heldIntS 28672, [.t 54, .t 55], none⟩,
 ⟨some 13, .mv, [.t 56], none⟩] [54, 55, 56])
 (.seq
 (.seq
 (.region false [⟨some 57, .mv, [.t 13], none⟩,
 ⟨some 58, .bin .lss, [.t 57, .c (.i 0)], none⟩] [57])
 (.cond (.t 58) [58]
 (.seq
 (.region false [⟨some 6, .mv, [.c (.b false)], none⟩] [0, 1, 2, 8, 10, 12, 13])
 .ret)
 .skip))
 (.seq
 (.seq
 (.region false [⟨some 59, .mv, [.t 13], none⟩,
 ⟨some 60, .mv, [.t 12], none⟩,
 ⟨some 61, .bin .neq, [.t 59, .t 60], none⟩] [13, 59, 60])
 (.cond (.t 61) [61]
 (.seq
 (.region false [⟨some 6, .mv, [.c (.b false)], none⟩] [0, 1, 2, 8, 10, 12])
 .ret)
 .skip))
 (.seq
 (.region false [⟨some 62, .mv, [.t 0], none⟩,
 ⟨some 63, .mv, [.t 1], none⟩,
 ⟨some 64, .call n_laws_toMarkS 32768, [.t 63], none⟩,
 ⟨some 65, .mv, [.t 2], none⟩,
 ⟨some 66, .call n_impl_LeastProofs 33792, [.t 62, .t 64, .t 65], none⟩,
 ⟨some 14, .mv, [.t 66], none⟩] [0, 1, 2, 62, 63, 64, 65, 66])
 (.seq
 (.seq
 (.region false [⟨some 67, .mv, [.t 14], none⟩,
 ⟨some 68, .mv, [.t 8], none⟩,
 ⟨some 69, .call n_laws_eqIntS 35328, [.t 67, .t 68], none⟩,
 ⟨some 70, .un .not, [.t 69], none⟩] [8, 14, 67, 68, 69])
 (.cond (.t 70) [70]
 (.seq
 (.region false [⟨some 6, .mv, [.c (.b false)], none⟩] [10, 12])
 .ret)
 .skip))
 (.seq
 (.region false [⟨some 13, .mv, [.c (.i 1)], none⟩] [])
 (.seq
 (.region false [⟨some 71, .mv, [.t 10], none⟩,
 ⟨some 72, .mv, [.t 13], none⟩,
 ⟨some 73, .call n_laws_heldIntS 37376, [.t 71, .t 72], none⟩,
 ⟨some 13, .mv, [.t 73], none⟩] [10, 71, 72, 73])
 (.seq
 (.seq
 (.region false [⟨some 74, .mv, [.t 13], none⟩,
 ⟨some 75, .bin .lss, [.t 74, .c (.i 0)], none⟩] [74])
 (.cond (.t 75) [75]
 (.seq
 (.region false [⟨some 6, .mv, [.c (.b false)], none⟩] [12, 13])
 .ret)
 .skip))
 (.seq
 (.seq
 (.region false [⟨some 76, .mv, [.t 13], none⟩,
 ⟨some 77, .mv, [.t 12], none⟩,
 ⟨some 78, .bin .neq, [.t 76, .t 77], none⟩] [12, 13, 76, 77])
 (.cond (.t 78) [78]
 (.seq
 (.region false [⟨some 6, .mv, [.c (.b false)], none⟩] [])
 .ret)
 .skip))
 (.seq
 (.region false [⟨some 6, .mv, [.c (.b true)], none⟩] [])
 .ret))))))))))))))))))))))))) }
/-- laws.FnExactProofOk -/
def F_laws_FnExactProofOk : LF :=
 { nparams := 4, results := [.t 8], body :=
 (.seq
 (.region false [⟨some 8, .mv, [.c (.b false)], none⟩] [8])
 (.seq
 (.region false [⟨some 9, .mv, [.c (.i 1048576)], none⟩] [])
 (.seq
 (.region false [⟨some 13, .mv, [.t 1], none⟩,
 ⟨some 14, .mv, [.t 9], none⟩,
 ⟨some 15, .call n_laws_szMarkS 7680, [.t 13, .t 14], none⟩,
 ⟨some 9, .mv, [.t 15], none⟩] [13, 14, 15])
 (.seq
 (.seq
 (.region false [⟨some 16, .mv, [.t 9], none⟩,
 ⟨some 17, .bin .lss, [.t 16, .c (.i 0)], none⟩] [9, 16])
 (.cond (.t 17) [17]
 (.seq
 (.region false [⟨some 8, .mv, [.c (.b true)], none⟩] [0, 1, 2, 3])
 .ret)
 .skip))
 (.seq
 (.region false [⟨some 18, .mv, [.t 0], none⟩,
 ⟨some 19, .mv, [.t 1], none⟩,
 ⟨some 20, .call n_laws_toMarkS 10240, [.t 19], none⟩,
 ⟨some 21, .mv, [.t 2], none⟩,
 ⟨some 22, .mv, [.t 3], none⟩,
 ⟨some 23, .call n_spec_ProofOk 11776, [.t 18, .t 20, .t 21, .t 22], none⟩,
 ⟨some 10, .mv, [.t 23], none⟩] [18, 19, 20, 21, 22, 23])
 (.seq
 (.region false [⟨some 24, .mv, [.t 1], none⟩,
 ⟨some 25, .call n_laws_toMarkS 12800, [.t 24], none⟩,
 ⟨some 11, .mv, [.t 25], none⟩] [24, 25])
 (.seq
 (.region false [⟨some 26, .mv, [.t 0], none⟩,
 ⟨some 27, .mv, [.t 11], none⟩,
 ⟨some 28, .mv, [.t 2], none⟩,
 ⟨some 29, .mv, [.t 3], none⟩,
 ⟨some 30, .call n_impl_ProofOk 15360, [.t 26, .t 27, .t 28, .t 29], none⟩,
 ⟨some 12, .mv, [.t 30], none⟩] [0, 2, 3, 26, 27, 28, 29, 30])
 (.seq
 (.seq
 (.region false [⟨some 31, .mv, [.t 12], none⟩,
 ⟨some 32, .mv, [.t 10], none⟩,
 ⟨some 33, .eqb true, [.t 31, .t 32], none⟩] [10, 12, 31, 32])
 (.cond (.t 33) [33]
 (.seq
 (.region false [⟨some 8, .mv, [.c (.b false)], none⟩] [1, 11])
 .ret)
 .skip))
 (.seq
 (.seq
 (.region false [⟨some 34, .mv, [.t 11], none⟩,
 ⟨some 35, .mv, [.t 1], none⟩,
 ⟨some 36, .call n_laws_toMarkS 18432, [.t 35], none⟩,
 ⟨some 37, .call n_laws_eqMarkS 18944, [.t 34, .t 36], none⟩,
 ⟨some 38, .un .not, [.t 37], none⟩] [1, 11, 34, 35, 36, 37])
 (.cond (.t 38) [38]
 (.seq
 (.region false [⟨some 8, .mv, [.c (.b false)], none⟩] [])
 .ret)
 .skip))
 (.seq
 (.region false [⟨some 8, .mv, [.c (.b true)], none⟩] [])
 .ret)))))))))) }
/-- spec.DrawForcedBy -/
def F_spec_DrawForcedBy : LF :=
 { nparams := 1, results := [.t 2, .t 3, .t 4], body :=
 (.seq
 (.region false [⟨some 2, .mv, [.c (.i 0)], none⟩,
 ⟨some 3, .newnil 1552, [], none⟩,
 ⟨some 4, .newnil 2056, [], none⟩] [2, 3, 4])
 (.seq
 (.region false [⟨some 7, .mv, [.t 0], none⟩,
 ⟨some 8, .call n_spec_l20Open 4096, [.t 7], none⟩,
 ⟨some 5, .mv, [.t 8], none⟩] [0, 7, 8])
 (.seq
 (.region false [⟨some 9, .mv, [.t 5], none⟩,
 ⟨some 10, .call n_spec_l20Rd_pick 5120, [.t 9, .c (.i 5)], none⟩,
 ⟨some 11, .bin .add, [.c (.i 1), .t 10], none⟩,
 ⟨some 6, .mv, [.t 11], none⟩] [9, 10, 11])
 (.seq
 (.region false [⟨some 12, .mv, [.t 6], none⟩,
 ⟨some 13, .mv, [.t 5], none⟩,
 ⟨some 14, .mv, [.t 6], none⟩,
 ⟨some 15, .call n_spec_l20Term 7680, [.t 13, .t 14, .c (.i 14)], none⟩,
 ⟨some 16, .mv, [.t 5], none⟩,
 ⟨some 17, .mv, [.t 6], none⟩,
 ⟨some 18, .call n_spec_l20Known 9216, [.t 16, .t 17], none⟩,
 ⟨some 2, .mv, [.t 12], none⟩,
 ⟨some 3, .mv, [.t 15], none⟩,
 ⟨some 4, .mv, [.t 18], none⟩] [5, 6, 12, 13, 14, 15, 16, 17, 18])
 .ret)))) }
/-- impl.ForcedBy -/
def F_impl_ForcedBy : LF :=
 { nparams := 3, results := [.t 6, .t 7], body :=
 (.seq
 (.region false [⟨some 6, .mv, [.c (.i 0)], none⟩,
 ⟨some 7, .mv, [.c (.b false)], none⟩] [6, 7])
 (.seq
 (.seq
 (.region false [⟨some 8, .mv, [.t 0], none⟩,
 ⟨some 9, .mv, [.t 1], none⟩,
 ⟨some 10, .call n_impl_TermOk 5120, [.t 8, .t 9], none⟩,
 ⟨some 11, .un .not, [.t 10], none⟩,
 ⟨some 12, .mv, [.t 11], none⟩,
 ⟨some 13, .mv, [.t 0], some (12, false)⟩,
 ⟨some 14, .mv, [.t 2], some (12, false)⟩,
 ⟨some 15, .call n_impl_KnownOk 7680, [.t 13, .t 14], some (12, false)⟩,
 ⟨some 16, .un .not, [.t 15], some (12, false)⟩,
 ⟨some 17, .pick, [.t 12, .c (.b true), .t 16], none⟩] [0, 8, 9, 10, 11, 12, 13, 14, 15, 16])
 (.cond (.t 17) [17]
 (.seq
 (.region false [⟨some 6, .mv, [.c (.i (-1))], none⟩,
 ⟨some 7, .mv, [.c (.b false)], none⟩] [1, 2])
 .ret)
 .skip))
 (.seq
 (.region false [⟨some 18, .mv, [.t 1], none⟩,
 ⟨some 19, .call n_impl_trueStates 9728, [.t 18], none⟩,
 ⟨some 20, .mv, [.t 2], none⟩,
 ⟨some 21, .call n_impl_agreeingStates 10752, [.t 20], none⟩,
 ⟨some 22, .call n_impl_valueAmong 11264, [.t 19, .t 21], none⟩,
 ⟨some 6, .mv, [.t 22], none⟩,
 ⟨some 7, .mv, [.c (.b true)], none⟩] [1, 2, 18, 19, 20, 21, 22])
 .ret))) }
/-- spec.ForcedBy -/
def F_spec_ForcedBy : LF :=
 { nparams := 3, results := [.t 6, .t 7], body :=
 (.seq
 (.region false [⟨some 6, .mv, [.c (.i 0)], none⟩,
 ⟨some 7, .mv, [.c (.b false)], none⟩] [6, 7])
 (.seq
 (.seq
 (.region false [⟨some 8, .mv, [.t 0], none⟩,
 ⟨some 9, .mv, [.t 1], none⟩,
 ⟨some 10, .call n_spec_TermOk 5120, [.t 8, .t 9], none⟩,
 ⟨some 11, .un .not, [.t 10], none⟩,
 ⟨some 12, .mv, [.t 11], none⟩,
 ⟨some 13, .mv, [.t 0], some (12, false)⟩,
 ⟨some 14, .mv, [.t 2], some (12, false)⟩,
 ⟨some 15, .call n_spec_KnownOk 7680, [.t 13, .t 14], some (12, false)⟩,
 ⟨some 16, .un .not, [.t 15], some (12, false)⟩,
 ⟨some 17, .pick, [.t 12, .c (.b true), .t 16], none⟩] [8, 9, 10, 11, 12, 13, 14, 15, 16])
 (.cond (.t 17) [17]
 (.seq
 (.region false [⟨some 6, .mv, [.c (.i (-1))], none⟩,
 ⟨some 7, .mv, [.c (.b false)], none⟩] [0, 1, 2])
 .ret)
 .skip))
 (.seq
 (.region false [⟨some 18, .mv, [.t 0], none⟩,
 ⟨some 19, .mv, [.t 0], none⟩,
 ⟨some 20, .mv, [.t 1], none⟩,
 ⟨some 21, .call n_spec_l3Table 10752, [.t 19, .t 20], none⟩,
 ⟨some 22, .mv, [.t 2], none⟩,
 ⟨some 23, .call n_spec_l3Forced 11776, [.t 18, .t 21, .t 22], none⟩,
 ⟨some 6, .mv, [.t 23], none⟩,
 ⟨some 7, .mv, [.c (.b true)], none⟩] [0, 1, 2, 18, 19, 20, 21, 22, 23])
 .ret))) }
/-- laws.alive -/
def F_laws_alive : LF :=
 { nparams := 0, results := [.t 0], body :=
 (.seq
 (.region false [⟨some 0, .mv, [.c (.b false)], none⟩] [0])
 (.seq
 (.region false [⟨some 1, .build [.i 0, .i 0] [(0, 1), (1, 1)], [.c (.i 1), .c (.i 1)], none⟩,
 ⟨some 2, .bslice 1040 1 2 (.st [.i 0, .i 0]) [0], [.t 1], none⟩,
 ⟨some 3, .call n_impl_TestsOk 1536, [.t 2], none⟩,
 ⟨some 4, .mv, [.t 3], none⟩,
 ⟨some 5, .build [.i 0, .i 0] [], [], some (4, true)⟩,
 ⟨some 6, .bslice 3088 1 2 (.st [.i 0, .i 0]) [0], [.t 5], some (4, true)⟩,
 ⟨some 7, .call n_impl_TestsOk 3584, [.t 6], some (4, true)⟩,
 ⟨some 8, .un .not, [.t 7], some (4, true)⟩,
 ⟨some 9, .pick, [.t 4, .t 8, .c (.b false)], none⟩,
 ⟨some 0, .mv, [.t 9], none⟩] [1, 2, 3, 4, 5, 6, 7, 8, 9])
 .ret)) }
/-- impl.AgreesOk -/
def F_impl_AgreesOk_L0 : LC :=
 (.seq
 (.region false [⟨some 22, .bin .lss, [.t 21, .t 20], none⟩] [])
 (.seq
 (.cond (.t 22) [22]
 .skip
 (.exit 0))
 (.seq
 (.block 1
 (.seq
 (.region false [⟨some 23, .mv, [.t 21], none⟩,
 ⟨some 24, .idxa 1, [.t 19, .t 21], none⟩,
 ⟨some 25, .load 1 false, [.t 24], none⟩,
 ⟨some 7, .mv, [.t 23], none⟩,
 ⟨some 8, .mv, [.t 25], none⟩] [23, 24, 25])
 (.seq
 (.region false [⟨some 26, .mv, [.t 8], none⟩,
 ⟨some 27, .bin .neq, [.t 26, .c (.i (-1))], none⟩,
 ⟨some 28, .mv, [.t 27], none⟩,
 ⟨some 29, .mv, [.t 8], some (28, true)⟩,
 ⟨some 30, .mv, [.t 2], some (28, true)⟩,
 ⟨some 31, .mv, [.t 7], some (28, true)⟩,
 ⟨some 32, .call n_impl_outcomeIn 16384, [.t 30, .t 31], some (28, true)⟩,
 ⟨some 33, .bin .neq, [.t 29, .t 32], some (28, true)⟩,
 ⟨some 34, .pick, [.t 28, .t 33, .c (.b false)], none⟩] [7, 8, 26, 27, 28, 29, 30, 31, 32, 33])
 (.cond (.t 34) [34]
 (.seq
 (.region false [⟨some 6, .mv, [.c (.b false)], none⟩] [2, 19, 20, 21])
 .ret)
 .skip))))
 (.region false [⟨some 35, .bin .add, [.t 21, .c (.i 1)], none⟩,
 ⟨some 21, .mv, [.t 35], none⟩] [35]))))
def F_impl_AgreesOk_W0 : LC := .loop F_impl_AgreesOk_L0
def F_impl_AgreesOk : LF :=
 { nparams := 3, results := [.t 6], body :=
 (.seq
 (.region false [⟨some 6, .mv, [.c (.b false)], none⟩] [6])
 (.seq
 (.seq
 (.region false [⟨some 9, .mv, [.t 0], none⟩,
 ⟨some 10, .mv, [.t 2], none⟩,
 ⟨some 11, .call n_impl_StateOk 5632, [.t 9, .t 10], none⟩,
 ⟨some 12, .un .not, [.t 11], none⟩,
 ⟨some 13, .mv, [.t 12], none⟩,
 ⟨some 14, .mv, [.t 0], some (13, false)⟩,
 ⟨some 15, .mv, [.t 1], some (13, false)⟩,
 ⟨some 16, .call n_impl_KnownOk 8192, [.t 14, .t 15], some (13, false)⟩,
 ⟨some 17, .un .not, [.t 16], some (13, false)⟩,
 ⟨some 18, .pick, [.t 13, .c (.b true), .t 17], none⟩] [0, 9, 10, 11, 12, 13, 14, 15, 16, 17])
 (.cond (.t 18) [18]
 (.seq
 (.region false [⟨some 6, .mv, [.c (.b false)], none⟩] [1, 2])
 .ret)
 .skip))
 (.seq
 (.seq
 (.region false [⟨some 19, .mv, [.t 1], none⟩,
 ⟨some 20, .len, [.t 19], none⟩,
 ⟨some 21, .mv, [.c (.i 0)], none⟩] [1])
 (.block 0
 F_impl_AgreesOk_W0))
 (.seq
 (.region false [⟨some 6, .mv, [.c (.b true)], none⟩] [2, 19, 20, 21])
 .ret)))) }
/-- impl.ValueOf -/
def F_impl_ValueOf : LF :=
 { nparams := 3, results := [.t 6], body :=
 (.seq
 (.region false [⟨some 6, .mv, [.c (.b false)], none⟩] [6])
 (.seq
 (.seq
 (.region false [⟨some 7, .mv, [.t 0], none⟩,
 ⟨some 8, .mv, [.t 1], none⟩,
 ⟨some 9, .call n_impl_TermOk 4608, [.t 7, .t 8], none⟩,
 ⟨some 10, .un .not, [.t 9], none⟩,
 ⟨some 11, .mv, [.t 10], none⟩,
 ⟨some 12, .mv, [.t 0], some (11, false)⟩,
 ⟨some 13, .mv, [.t 2], some (11, false)⟩,
 ⟨some 14, .call n_impl_StateOk 7168, [.t 12, .t 13], some (11, false)⟩,
 ⟨some 15, .un .not, [.t 14], some (11, false)⟩,
 ⟨some 16, .pick, [.t 11, .c (.b true), .t 15], none⟩] [0, 7, 8, 9, 10, 11, 12, 13, 14, 15])
 (.cond (.t 16) [16]
 (.seq
 (.region false [⟨some 6, .mv, [.c (.b false)], none⟩] [1, 2])
 .ret)
 .skip))
 (.seq
 (.region false [⟨some 17, .mv, [.t 1], none⟩,
 ⟨some 18, .call n_impl_trueStates 9216, [.t 17], none⟩,
 ⟨some 19, .mv, [.t 2], none⟩,
 ⟨some 20, .call n_impl_hasState 10240, [.t 18, .t 19], none⟩,
 ⟨some 6, .mv, [.t 20], none⟩] [1, 2, 17, 18, 19, 20])
 .ret))) }
/-- spec.TermOk -/
def F_spec_TermOk_L0 : LC :=
 (.seq
 (.seq
 (.region false [⟨some 7, .mv, [.t 6], none⟩,
 ⟨some 8, .mv, [.t 1], none⟩,
 ⟨some 9, .len, [.t 8], none⟩,
 ⟨some 10, .bin .lss, [.t 7, .t 9], none⟩] [7, 8, 9])
 (.cond (.t 10) [10]
 .skip
 (.exit 0)))
 (.seq
 (.block 1
 (.block 2
 (.seq
 (.region false [⟨some 14, .mv, [.t 1], none⟩,
 ⟨some 15, .mv, [.t 6], none⟩,
 ⟨some 16, .idxa 2, [.t 14, .t 15], none⟩,
 ⟨some 17, .fld 0 1 false, [.t 16], none⟩,
 ⟨some 18, .load 1 false, [.t 17], none⟩,
 ⟨some 19, .bin .eql, [.t 18, .c (.i 0)], none⟩,
 ⟨some 20, .mv, [.t 19], none⟩,
 ⟨some 21, .mv, [.t 1], some (20, true)⟩,
 ⟨some 22, .mv, [.t 6], some (20, true)⟩,
 ⟨some 23, .idxa 2, [.t 21, .t 22], some (20, true)⟩,
 ⟨some 24, .fld 1 1 false, [.t 23], some (20, true)⟩,
 ⟨some 25, .load 1 false, [.t 24], some (20, true)⟩,
 ⟨some 26, .bin .geq, [.t 25, .c (.i 0)], some (20, true)⟩,
 ⟨some 27, .pick, [.t 20, .t 26, .c (.b false)], none⟩,
 ⟨some 28, .mv, [.t 27], none⟩,
 ⟨some 29, .mv, [.t 1], some (28, true)⟩,
 ⟨some 30, .mv, [.t 6], some (28, true)⟩,
 ⟨some 31, .idxa 2, [.t 29, .t 30], some (28, true)⟩,
 ⟨some 32, .fld 1 1 false, [.t 31], some (28, true)⟩,
 ⟨some 33, .load 1 false, [.t 32], some (28, true)⟩,
 ⟨some 34, .mv, [.t 0], some (28, true)⟩,
 ⟨some 35, .bin .lss, [.t 33, .t 34], some (28, true)⟩,
 ⟨some 36, .pick, [.t 28, .t 35, .c (.b false)], none⟩,
 ⟨some 13, .mv, [.t 36], none⟩] [14, 15, 16, 17, 18, 19, 20, 21, 22, 23, 24, 25, 26, 27, 28, 29, 30, 31, 32, 33, 34, 35, 36])
 (.cond (.t 13) [13]
 (.region false [⟨some 37, .mv, [.t 5], none⟩,
 ⟨some 38, .bin .add, [.t 37, .c (.i 1)], none⟩,
 ⟨some 5, .mv, [.t 38], none⟩] [37, 38])
 (.seq
 (.region false [⟨some 40, .mv, [.t 1], none⟩,
 ⟨some 41, .mv, [.t 6], none⟩,
 ⟨some 42, .idxa 2, [.t 40, .t 41], none⟩,
 ⟨some 43, .load 2 true, [.t 42], none⟩,
 ⟨some 44, .build [.i 0, .i 0] [(0, 1)], [.c (.i 1)], none⟩,
 ⟨some 45, .eqs false 2, [.t 43, .t 44], none⟩,
 ⟨some 46, .mv, [.t 45], none⟩,
 ⟨some 47, .mv, [.t 5], some (46, true)⟩,
 ⟨some 48, .bin .geq, [.t 47, .c (.i 1)], some (46, true)⟩,
 ⟨some 49, .pick, [.t 46, .t 48, .c (.b false)], none⟩,
 ⟨some 39, .mv, [.t 49], none⟩] [40, 41, 42, 43, 44, 45, 46, 47, 48, 49])
 (.cond (.t 39) [39]
 .skip
 (.seq
 (.region false [⟨some 51, .mv, [.t 1], none⟩,
 ⟨some 52, .mv, [.t 6], none⟩,
 ⟨some 53, .idxa 2, [.t 51, .t 52], none⟩,
 ⟨some 54, .load 2 true, [.t 53], none⟩,
 ⟨some 55, .build [.i 0, .i 0] [(0, 1)], [.c (.i 2)], none⟩,
 ⟨some 56, .eqs false 2, [.t 54, .t 55], none⟩,
 ⟨some 57, .mv, [.t 56], none⟩,
 ⟨some 58, .mv, [.t 1], some (57, false)⟩,
 ⟨some 59, .mv, [.t 6], some (57, false)⟩,
 ⟨some 60, .idxa 2, [.t 58, .t 59], some (57, false)⟩,
 ⟨some 61, .load 2 true, [.t 60], some (57, false)⟩,
 ⟨some 62, .build [.i 0, .i 0] [(0, 1)], [.c (.i 3)], some (57, false)⟩,
 ⟨some 63, .eqs false 2, [.t 61, .t 62], some (57, false)⟩,
 ⟨some 64, .pick, [.t 57, .c (.b true), .t 63], none⟩,
 ⟨some 65, .mv, [.t 64], none⟩,
 ⟨some 66, .mv, [.t 5], some (65, true)⟩,
 ⟨some 67, .bin .geq, [.t 66, .c (.i 2)], some (65, true)⟩,
 ⟨some 68, .pick, [.t 65, .t 67, .c (.b false)], none⟩,
 ⟨some 50, .mv, [.t 68], none⟩] [51, 52, 53, 54, 55, 56, 57, 58, 59, 60, 61, 62, 63, 64, 65, 66, 67, 68])
 (.cond (.t 50) [50]
 (.region false [⟨some 69, .mv, [.t 5], none⟩,
 ⟨some 70, .bin .sub, [.t 69, .c (.i 1)], none⟩,
 ⟨some 5, .mv, [.t 70], none⟩] [69, 70])
 (.seq
 (.region false [⟨some 4, .mv, [.c (.b false)], none⟩] [0, 1, 5, 6])
 .ret)))))))))
 (.region false [⟨some 11, .mv, [.t 6], none⟩,
 ⟨some 12, .bin .add, [.t 11, .c (.i 1)], none⟩,
 ⟨some 6, .mv, [.t 12], none⟩] [11, 12])))
def F_spec_TermOk_W0 : LC := .loop F_spec_TermOk_L0
def F_spec_TermOk : LF :=
 { nparams := 2, results := [.t 4], body :=
 (.seq
 (.region false [⟨some 4, .mv, [.c (.b false)], none⟩] [4])
 (.seq
 (.region false [⟨some 5, .mv, [.c (.i 0)], none⟩] [])
 (.seq
 (.seq
 (.region false [⟨some 6, .mv, [.c (.i 0)], none⟩] [])
 (.block 0
 F_spec_TermOk_W0))
 (.seq
 (.region false [⟨some 71, .mv, [.t 0], none⟩,
 ⟨some 72, .call n_spec_l1In 36864, [.t 71, .c (.i 1), .c (.i 5)], none⟩,
 ⟨some 73, .mv, [.t 72], none⟩,
 ⟨some 74, .mv, [.t 5], some (73, true)⟩,
 ⟨some 75, .bin .eql, [.t 74, .c (.i 1)], some (73, true)⟩,
 ⟨some 76, .pick, [.t 73, .t 75, .c (.b false)], none⟩,
 ⟨some 77, .mv, [.t 76], none⟩,
 ⟨some 78, .mv, [.t 1], some (77, true)⟩,
 ⟨some 79, .len, [.t 78], some (77, true)⟩,
 ⟨some 80, .bin .leq, [.t 79, .c (.i 13)], some (77, true)⟩,
 ⟨some 81, .pick, [.t 77, .t 80, .c (.b false)], none⟩,
 ⟨some 4, .mv, [.t 81], none⟩] [0, 1, 5, 6, 71, 72, 73, 74, 75, 76, 77, 78, 79, 80, 81])
 .ret)))) }
/-- spec.KnownOk -/
def F_spec_KnownOk_L0 : LC :=
 (.seq
 (.seq
 (.region false [⟨some 6, .mv, [.t 5], none⟩,
 ⟨some 7, .mv, [.t 1], none⟩,
 ⟨some 8, .len, [.t 7], none⟩,
 ⟨some 9, .bin .lss, [.t 6, .t 8], none⟩] [6, 7, 8])
 (.cond (.t 9) [9]
 .skip
 (.exit 0)))
 (.seq
 (.block 1
 (.seq
 (.region false [⟨some 12, .mv, [.t 1], none⟩,
 ⟨some 13, .mv, [.t 5], none⟩,
 ⟨some 14, .idxa 1, [.t 12, .t 13], none⟩,
 ⟨some 15, .load 1 false, [.t 14], none⟩,
 ⟨some 16, .call n_spec_l1In 8192, [.t 15, .c (.i (-1)), .c (.i 1)], none⟩,
 ⟨some 17, .un .not, [.t 16], none⟩] [12, 13, 14, 15, 16])
 (.cond (.t 17) [17]
 (.seq
 (.region false [⟨some 4, .mv, [.c (.b false)], none⟩] [0, 1, 5])
 .ret)
 .skip)))
 (.region false [⟨some 10, .mv, [.t 5], none⟩,
 ⟨some 11, .bin .add, [.t 10, .c (.i 1)], none⟩,
 ⟨some 5, .mv, [.t 11], none⟩] [10, 11])))
def F_spec_KnownOk_W0 : LC := .loop F_spec_KnownOk_L0
def F_spec_KnownOk : LF :=
 { nparams := 2, results := [.t 4], body :=
 (.seq
 (.region false [⟨some 4, .mv, [.c (.b false)], none⟩] [4])
 (.seq
 (.seq
 (.region false [⟨some 5, .mv, [.c (.i 0)], none⟩] [])
 (.block 0
 F_spec_KnownOk_W0))
 (.seq
 (.region false [⟨some 18, .mv, [.t 0], none⟩,
 ⟨some 19, .call n_spec_l1In 9728, [.t 18, .c (.i 1), .c (.i 5)], none⟩,
 ⟨some 20, .mv, [.t 19], none⟩,
 ⟨some 21, .mv, [.t 1], some (20, true)⟩,
 ⟨some 22, .len, [.t 21], some (20, true)⟩,
 ⟨some 23, .mv, [.t 0], some (20, true)⟩,
 ⟨some 24, .bin .eql, [.t 22, .t 23], some (20, true)⟩,
 ⟨some 25, .pick, [.t 20, .t 24, .c (.b false)], none⟩,
 ⟨some 4, .mv, [.t 25], none⟩] [0, 1, 5, 18, 19, 20, 21, 22, 23, 24, 25])
 .ret))) }
/-- impl.ProofOk -/
def F_impl_ProofOk : LF :=
 { nparams := 4, results := [.t 8], body :=
 (.seq
 (.region false [⟨some 8, .mv, [.c (.b false)], none⟩] [8])
 (.seq
 (.seq
 (.region false [⟨some 11, .mv, [.t 0], none⟩,
 ⟨some 12, .mv, [.t 1], none⟩,
 ⟨some 13, .call n_impl_TermOk 6656, [.t 11, .t 12], none⟩,
 ⟨some 14, .un .not, [.t 13], none⟩,
 ⟨some 15, .mv, [.t 14], none⟩,
 ⟨some 16, .mv, [.t 0], some (15, false)⟩,
 ⟨some 17, .mv, [.t 2], some (15, false)⟩,
 ⟨some 18, .call n_impl_StateOk 9216, [.t 16, .t 17], some (15, false)⟩,
 ⟨some 19, .un .not, [.t 18], some (15, false)⟩,
 ⟨some 20, .pick, [.t 15, .c (.b true), .t 19], none⟩,
 ⟨some 21, .mv, [.t 20], none⟩,
 ⟨some 22, .mv, [.t 0], some (21, false)⟩,
 ⟨some 23, .mv, [.t 3], some (21, false)⟩,
 ⟨some 24, .call n_impl_StateOk 12288, [.t 22, .t 23], some (21, false)⟩,
 ⟨some 25, .un .not, [.t 24], some (21, false)⟩,
 ⟨some 26, .pick, [.t 21, .c (.b true), .t 25], none⟩] [11, 12, 13, 14, 15, 16, 17, 18, 19, 20, 21, 22, 23, 24, 25])
 (.cond (.t 26) [26]
 (.seq
 (.region false [⟨some 8, .mv, [.c (.b false)], none⟩] [0, 1, 2, 3])
 .ret)
 .skip))
 (.seq
 (.region false [⟨some 28, .mv, [.t 0], none⟩,
 ⟨some 29, .mv, [.t 1], none⟩,
 ⟨some 30, .mv, [.t 0], none⟩,
 ⟨some 31, .mv, [.t 2], none⟩,
 ⟨some 32, .mv, [.t 3], none⟩,
 ⟨some 33, .call n_impl_knownBy 16896, [.t 30, .t 31, .t 32], none⟩,
 ⟨some 34, .call n_impl_ForcedBy 17408, [.t 28, .t 29, .t 33], none⟩,
 ⟨some 27, .mv, [.t 34], none⟩,
 ⟨some 35, .ext 0, [.t 27], none⟩,
 ⟨some 36, .ext 1, [.t 27], none⟩,
 ⟨some 9, .mv, [.t 35], none⟩,
 ⟨some 10, .mv, [.t 36], none⟩] [0, 1, 2, 3, 10, 27, 28, 29, 30, 31, 32, 33, 34, 35, 36])
 (.seq
 (.region false [⟨some 37, .mv, [.t 9], none⟩,
 ⟨some 38, .bin .neq, [.t 37, .c (.i (-1))], none⟩,
 ⟨some 8, .mv, [.t 38], none⟩] [9, 37, 38])
 .ret)))) }
/-- spec.DrawLeastProofs -/
def F_spec_DrawLeastProofs : LF :=
 { nparams := 1, results := [.t 2, .t 3, .t 4], body :=
 (.seq
 (.region false [⟨some 2, .mv, [.c (.i 0)], none⟩,
 ⟨some 3, .newnil 1552, [], none⟩,
 ⟨some 4, .mv, [.c (.i 0)], none⟩] [2, 3, 4])
 (.seq
 (.region false [⟨some 5, .mv, [.t 0], none⟩,
 ⟨some 6, .call n_spec_l20Open 3072, [.t 5], none⟩,
 ⟨some 7, .call n_spec_l20State 3584, [.t 6, .c (.i 12)], none⟩,
 ⟨some 8, .ext 0, [.t 7], none⟩,
 ⟨some 9, .ext 1, [.t 7], none⟩,
 ⟨some 10, .ext 2, [.t 7], none⟩,
 ⟨some 2, .mv, [.t 8], none⟩,
 ⟨some 3, .mv, [.t 9], none⟩,
 ⟨some 4, .mv, [.t 10], none⟩] [0, 5, 6, 7, 8, 9, 10])
 .ret)) }
/-- impl.LeastProofs -/
def F_impl_LeastProofs : LF :=
 { nparams := 3, results := [.t 6], body :=
 (.seq
 (.region false [⟨some 3, .box 1544, [.t 0], none⟩,
 ⟨some 4, .box 2056, [.t 1], none⟩,
 ⟨some 5, .box 2568, [.t 2], none⟩,
 ⟨some 6, .newnil 3080, [], none⟩] [0, 1, 2, 6])
 (.seq
 (.seq
 (.region false [⟨some 7, .load 1 false, [.t 3], none⟩,
 ⟨some 8, .load 1 false, [.t 4], none⟩,
 ⟨some 9, .call n_impl_TermOk 4608, [.t 7, .t 8], none⟩,
 ⟨some 10, .un .not, [.t 9], none⟩,
 ⟨some 11, .mv, [.t 10], none⟩,
 ⟨some 12, .load 1 false, [.t 3], some (11, false)⟩,
 ⟨some 13, .load 1 false, [.t 5], some (11, false)⟩,
 ⟨some 14, .call n_impl_StateOk 7168, [.t 12, .t 13], some (11, false)⟩,
 ⟨some 15, .un .not, [.t 14], some (11, false)⟩,
 ⟨some 16, .pick, [.t 11, .c (.b true), .t 15], none⟩] [7, 8, 9, 10, 11, 12, 13, 14, 15])
 (.cond (.t 16) [16]
 (.seq
 (.region false [⟨some 6, .newnil 3080, [], none⟩] [3, 4, 5])
 .ret)
 .skip))
 (.seq
 (.region false [⟨some 17, .load 1 false, [.t 3], none⟩,
 ⟨some 18, .mkfn n_impl_LeastProofs_1, [.t 3, .t 4, .t 5], none⟩,
 ⟨some 19, .call n_impl_setsWhere 9728, [.t 17, .t 18], none⟩,
 ⟨some 6, .mv, [.t 19], none⟩] [3, 4, 5, 17, 18, 19])
 .ret))) }
/-- laws.sameInts -/
def F_laws_sameInts_L0 : LC :=
 (.seq
 (.seq
 (.region false [⟨some 11, .mv, [.t 5], none⟩,
 ⟨some 12, .mv, [.t 0], none⟩,
 ⟨some 13, .len, [.t 12], none⟩,
 ⟨some 14, .bin .lss, [.t 11, .t 13], none⟩] [11, 12, 13])
 (.cond (.t 14) [14]
 .skip
 (.exit 0)))
 (.seq
 (.block 1
 (.seq
 (.region true [⟨some 17, .mv, [.t 0], none⟩,
 ⟨some 18, .mv, [.t 5], none⟩,
 ⟨some 19, .idxa 1, [.t 17, .t 18], none⟩,
 ⟨some 20, .load 1 false, [.t 19], none⟩,
 ⟨some 21, .mv, [.t 1], none⟩,
 ⟨some 22, .mv, [.t 5], none⟩,
 ⟨some 23, .idxa 1, [.t 21, .t 22], none⟩,
 ⟨some 24, .load 1 false, [.t 23], none⟩,
 ⟨some 25, .bin .neq, [.t 20, .t 24], none⟩] [17, 18, 19, 20, 21, 22, 23, 24])
 (.cond (.t 25) [25]
 (.seq
 (.region false [⟨some 4, .mv, [.c (.b false)], none⟩] [0, 1, 5])
 .ret)
 .skip)))
 (.region false [⟨some 15, .mv, [.t 5], none⟩,
 ⟨some 16, .bin .add, [.t 15, .c (.i 1)], none⟩,
 ⟨some 5, .mv, [.t 16], none⟩] [15, 16])))
def F_laws_sameInts_W0 : LC := .loop F_laws_sameInts_L0
def F_laws_sameInts : LF :=
 { nparams := 2, results := [.t 4], body :=
 (.seq
 (.region false [⟨some 4, .mv, [.c (.b false)], none⟩] [4])
 (.seq
 (.seq
 (.region false [⟨some 6, .mv, [.t 0], none⟩,
 ⟨some 7, .len, [.t 6], none⟩,
 ⟨some 8, .mv, [.t 1], none⟩,
 ⟨some 9, .len, [.t 8], none⟩,
 ⟨some 10, .bin .neq, [.t 7, .t 9], none⟩] [6, 7, 8, 9])
 (.cond (.t 10) [10]
 (.seq
 (.region false [⟨some 4, .mv, [.c (.b false)], none⟩] [0, 1])
 .ret)
 .skip))
 (.seq
 (.seq
 (.region false [⟨some 5, .mv, [.c (.i 0)], none⟩] [])
 (.block 0
 F_laws_sameInts_W0))
 (.seq
 (.region false [⟨some 4, .mv, [.c (.b true)], none⟩] [0, 1, 5])
 .ret)))) }
/-- spec.LeastProofs -/
def F_spec_LeastProofs_L1 : LC :=
 (.seq
 (.seq
 (.region false [⟨some 41, .mv, [.t 11], none⟩,
 ⟨some 42, .mv, [.t 0], none⟩,
 ⟨some 43, .bin .lss, [.t 41, .t 42], none⟩,
 ⟨some 44, .mv, [.t 43], none⟩,
 ⟨some 45, .mv, [.t 10], some (44, true)⟩,
 ⟨some 46, .pick, [.t 44, .t 45, .c (.b false)], none⟩] [41, 42, 43, 44, 45])
 (.cond (.t 46) [46]
 .skip
 (.exit 2)))
 (.seq
 (.block 3
 (.region false [⟨some 49, .mv, [.t 9], none⟩,
 ⟨some 50, .mv, [.t 11], none⟩,
 ⟨some 51, .bin .shr, [.t 49, .t 50], none⟩,
 ⟨some 52, .bin .rem, [.t 51, .c (.i 2)], none⟩,
 ⟨some 53, .bin .eql, [.t 52, .c (.i 0)], none⟩,
 ⟨some 54, .mv, [.t 53], none⟩,
 ⟨some 55, .mv, [.t 0], some (54, false)⟩,
 ⟨some 56, .mv, [.t 8], some (54, false)⟩,
 ⟨some 57, .mv, [.t 0], some (54, false)⟩,
 ⟨some 58, .mv, [.t 2], some (54, false)⟩,
 ⟨some 59, .mv, [.t 9], some (54, false)⟩,
 ⟨some 60, .mv, [.t 11], some (54, false)⟩,
 ⟨some 61, .bin .shl, [.c (.i 1), .t 60], some (54, false)⟩,
 ⟨some 62, .bin .sub, [.t 59, .t 61], some (54, false)⟩,
 ⟨some 63, .call n_spec_l3Told 32256, [.t 57, .t 58, .t 62], some (54, false)⟩,
 ⟨some 64, .call n_spec_l3Forced 32768, [.t 55, .t 56, .t 63], some (54, false)⟩,
 ⟨some 65, .bin .eql, [.t 64, .c (.i (-1))], some (54, false)⟩,
 ⟨some 66, .pick, [.t 54, .c (.b true), .t 65], none⟩,
 ⟨some 10, .mv, [.t 66], none⟩] [49, 50, 51, 52, 53, 54, 55, 56, 57, 58, 59, 60, 61, 62, 63, 64, 65, 66]))
 (.region false [⟨some 47, .mv, [.t 11], none⟩,
 ⟨some 48, .bin .add, [.t 47, .c (.i 1)], none⟩,
 ⟨some 11, .mv, [.t 48], none⟩] [47, 48])))
def F_spec_LeastProofs_W1 : LC := .loop F_spec_LeastProofs_L1
def F_spec_LeastProofs_L0 : LC :=
 (.seq
 (.seq
 (.region false [⟨some 27, .mv, [.t 9], none⟩,
 ⟨some 28, .mv, [.t 0], none⟩,
 ⟨some 29, .bin .shl, [.c (.i 1), .t 28], none⟩,
 ⟨some 30, .bin .lss, [.t 27, .t 29], none⟩] [27, 28, 29])
 (.cond (.t 30) [30]
 .skip
 (.exit 0)))
 (.seq
 (.block 1
 (.seq
 (.region false [⟨some 33, .mv, [.t 0], none⟩,
 ⟨some 34, .mv, [.t 8], none⟩,
 ⟨some 35, .mv, [.t 0], none⟩,
 ⟨some 36, .mv, [.t 2], none⟩,
 ⟨some 37, .mv, [.t 9], none⟩,
 ⟨some 38, .call n_spec_l3Told 19456, [.t 35, .t 36, .t 37], none⟩,
 ⟨some 39, .call n_spec_l3Forced 19968, [.t 33, .t 34, .t 38], none⟩,
 ⟨some 40, .bin .neq, [.t 39, .c (.i (-1))], none⟩,
 ⟨some 10, .mv, [.t 40], none⟩] [33, 34, 35, 36, 37, 38, 39, 40])
 (.seq
 (.seq
 (.region false [⟨some 11, .mv, [.c (.i 0)], none⟩] [])
 (.block 2
 F_spec_LeastProofs_W1))
 (.seq
 (.region false [⟨some 67, .mv, [.t 10], none⟩] [10, 11])
 (.cond (.t 67) [67]
 (.region false [⟨some 68, .mv, [.t 7], none⟩,
 ⟨some 69, .mv, [.t 9], none⟩,
 ⟨some 70, .bslice 35848 1 1 (.i 0) [0], [.t 69], none⟩,
 ⟨some 71, .app 36360 1, [.t 68, .t 70], none⟩,
 ⟨some 7, .mv, [.t 71], none⟩] [68, 69, 70, 71])
 .skip)))))
 (.region false [⟨some 31, .mv, [.t 9], none⟩,
 ⟨some 32, .bin .add, [.t 31, .c (.i 1)], none⟩,
 ⟨some 9, .mv, [.t 32], none⟩] [31, 32])))
def F_spec_LeastProofs_W0 : LC := .loop F_spec_LeastProofs_L0
def F_spec_LeastProofs : LF :=
 { nparams := 3, results := [.t 6], body :=
 (.seq
 (.region false [⟨some 6, .newnil 3080, [], none⟩] [6])
 (.seq
 (.region false [⟨some 12, .bslice 6152 0 1 (.i 0) [], [], none⟩,
 ⟨some 7, .mv, [.t 12], none⟩] [12])
 (.seq
 (.seq
 (.region false [⟨some 13, .mv, [.t 0], none⟩,
 ⟨some 14, .mv, [.t 1], none⟩,
 ⟨some 15, .call n_spec_TermOk 7680, [.t 13, .t 14], none⟩,
 ⟨some 16, .un .not, [.t 15], none⟩,
 ⟨some 17, .mv, [.t 16], none⟩,
 ⟨some 18, .mv, [.t 0], some (17, false)⟩,
 ⟨some 19, .mv, [.t 2], some (17, false)⟩,
 ⟨some 20, .call n_spec_StateOk 10240, [.t 18, .t 19], some (17, false)⟩,
 ⟨some 21, .un .not, [.t 20], some (17, false)⟩,
 ⟨some 22, .pick, [.t 17, .c (.b true), .t 21], none⟩] [13, 14, 15, 16, 17, 18, 19, 20, 21])
 (.cond (.t 22) [22]
 (.seq
 (.region false [⟨some 23, .mv, [.t 7], none⟩,
 ⟨some 6, .mv, [.t 23], none⟩] [0, 1, 2, 7, 23])
 .ret)
 .skip))
 (.seq
 (.region false [⟨some 24, .mv, [.t 0], none⟩,
 ⟨some 25, .mv, [.t 1], none⟩,
 ⟨some 26, .call n_spec_l3Table 13312, [.t 24, .t 25], none⟩,
 ⟨some 8, .mv, [.t 26], none⟩] [1, 24, 25, 26])
 (.seq
 (.seq
 (.region false [⟨some 9, .mv, [.c (.i 0)], none⟩] [])
 (.block 0
 F_spec_LeastProofs_W0))
 (.seq
 (.region false [⟨some 72, .mv, [.t 7], none⟩,
 ⟨some 6, .mv, [.t 72], none⟩] [0, 2, 7, 8, 9, 72])
 .ret)))))) }
/-- spec.StateOk -/
def F_spec_StateOk : LF :=
 { nparams := 2, results := [.t 4], body :=
 (.seq
 (.region false [⟨some 4, .mv, [.c (.b false)], none⟩] [4])
 (.seq
 (.region false [⟨some 5, .mv, [.t 0], none⟩,
 ⟨some 6, .call n_spec_l1In 3072, [.t 5, .c (.i 1), .c (.i 5)], none⟩,
 ⟨some 7, .mv, [.t 6], none⟩,
 ⟨some 8, .mv, [.t 1], some (7, true)⟩,
 ⟨some 9, .mv, [.t 0], some (7, true)⟩,
 ⟨some 10, .bin .shl, [.c (.i 1), .t 9], some (7, true)⟩,
 ⟨some 11, .bin .sub, [.t 10, .c (.i 1)], some (7, true)⟩,
 ⟨some 12, .call n_spec_l1In 6144, [.t 8, .c (.i 0), .t 11], some (7, true)⟩,
 ⟨some 13, .pick, [.t 7, .t 12, .c (.b false)], none⟩,
 ⟨some 4, .mv, [.t 13], none⟩] [0, 1, 5, 6, 7, 8, 9, 10, 11, 12, 13])
 .ret)) }
/-- impl.IdleTests -/
def F_impl_IdleTests : LF :=
 { nparams := 2, results := [.t 4], body :=
 (.seq
 (.region false [⟨some 4, .mv, [.c (.i 0)], none⟩] [4])
 (.seq
 (.seq
 (.region false [⟨some 6, .mv, [.t 0], none⟩,
 ⟨some 7, .mv, [.t 1], none⟩,
 ⟨some 8, .call n_impl_TermOk 4096, [.t 6, .t 7], none⟩,
 ⟨some 9, .un .not, [.t 8], none⟩] [6, 7, 8])
 (.cond (.t 9) [9]
 (.seq
 (.region false [⟨some 4, .mv, [.c (.i (-1))], none⟩] [0, 1])
 .ret)
 .skip))
 (.seq
 (.region false [⟨some 10, .mv, [.t 1], none⟩,
 ⟨some 11, .call n_impl_trueStates 5632, [.t 10], none⟩,
 ⟨some 5, .alloc 2568 (.w (0#32)), [], none⟩,
 ⟨none, .store 1, [.t 5, .t 11], none⟩] [1, 10, 11])
 (.seq
 (.region false [⟨some 12, .mv, [.t 0], none⟩,
 ⟨some 13, .mkfn n_impl_IdleTests_1, [.t 5], none⟩,
 ⟨some 14, .call n_impl_testsWhere 7168, [.t 12, .t 13], none⟩,
 ⟨some 4, .mv, [.t 14], none⟩] [0, 5, 12, 13, 14])
 .ret)))) }
/-- laws.ascend -/
def F_laws_ascend_L0 : LC :=
 (.seq
 (.seq
 (.region false [⟨some 4, .mv, [.t 3], none⟩,
 ⟨some 5, .mv, [.t 0], none⟩,
 ⟨some 6, .len, [.t 5], none⟩,
 ⟨some 7, .bin .lss, [.t 4, .t 6], none⟩] [4, 5, 6])
 (.cond (.t 7) [7]
 .skip
 (.exit 0)))
 (.seq
 (.block 1
 (.seq
 (.region true [⟨some 10, .mv, [.t 0], none⟩,
 ⟨some 11, .mv, [.t 3], none⟩,
 ⟨some 12, .bin .sub, [.t 11, .c (.i 1)], none⟩,
 ⟨some 13, .idxa 1, [.t 10, .t 12], none⟩,
 ⟨some 14, .load 1 false, [.t 13], none⟩,
 ⟨some 15, .mv, [.t 0], none⟩,
 ⟨some 16, .mv, [.t 3], none⟩,
 ⟨some 17, .idxa 1, [.t 15, .t 16], none⟩,
 ⟨some 18, .load 1 false, [.t 17], none⟩,
 ⟨some 19, .bin .geq, [.t 14, .t 18], none⟩] [10, 11, 12, 13, 14, 15, 16, 17, 18])
 (.cond (.t 19) [19]
 (.seq
 (.region false [⟨some 2, .mv, [.c (.b false)], none⟩] [0, 3])
 .ret)
 .skip)))
 (.region false [⟨some 8, .mv, [.t 3], none⟩,
 ⟨some 9, .bin .add, [.t 8, .c (.i 1)], none⟩,
 ⟨some 3, .mv, [.t 9], none⟩] [8, 9])))
def F_laws_ascend_W0 : LC := .loop F_laws_ascend_L0
def F_laws_ascend : LF :=
 { nparams := 1, results := [.t 2], body :=
 (.seq
 (.region false [⟨some 2, .mv, [.c (.b false)], none⟩] [2])
 (.seq
 (.seq
 (.region false [⟨some 3, .mv, [.c (.i 1)], none⟩] [])
 (.block 0
 F_laws_ascend_W0))
 (.seq
 (.region false [⟨some 2, .mv, [.c (.b true)], none⟩] [0, 3])
 .ret))) }
/-- spec.DrawProofOk -/
def F_spec_DrawProofOk : LF :=
 { nparams := 1, results := [.t 2, .t 3, .t 4, .t 5], body :=
 (.seq
 (.region false [⟨some 2, .mv, [.c (.i 0)], none⟩,
 ⟨some 3, .newnil 1552, [], none⟩,
 ⟨some 4, .mv, [.c (.i 0)], none⟩,
 ⟨some 5, .mv, [.c (.i 0)], none⟩] [2, 3, 4, 5])
 (.seq
 (.region false [⟨some 10, .mv, [.t 0], none⟩,
 ⟨some 11, .call n_spec_l20Open 5632, [.t 10], none⟩,
 ⟨some 6, .mv, [.t 11], none⟩] [0, 10, 11])
 (.seq
 (.region false [⟨some 13, .mv, [.t 6], none⟩,
 ⟨some 14, .call n_spec_l20State 7168, [.t 13, .c (.i 14)], none⟩,
 ⟨some 12, .mv, [.t 14], none⟩,
 ⟨some 15, .ext 0, [.t 12], none⟩,
 ⟨some 16, .ext 1, [.t 12], none⟩,
 ⟨some 17, .ext 2, [.t 12], none⟩,
 ⟨some 7, .mv, [.t 15], none⟩,
 ⟨some 8, .mv, [.t 16], none⟩,
 ⟨some 9, .mv, [.t 17], none⟩] [12, 13, 14, 15, 16, 17])
 (.seq
 (.region true [⟨some 18, .mv, [.t 7], none⟩,
 ⟨some 19, .mv, [.t 8], none⟩,
 ⟨some 20, .mv, [.t 9], none⟩,
 ⟨some 21, .mv, [.t 6], none⟩,
 ⟨some 22, .mv, [.t 7], none⟩,
 ⟨some 23, .bin .shl, [.c (.i 1), .t 22], none⟩,
 ⟨some 24, .call n_spec_l20Rd_pick 12288, [.t 21, .t 23], none⟩,
 ⟨some 25, .mv, [.t 6], none⟩,
 ⟨some 26, .mv, [.t 7], none⟩,
 ⟨some 27, .bin .shl, [.c (.i 1), .t 26], none⟩,
 ⟨some 28, .call n_spec_l20Rd_pick 14336, [.t 25, .t 27], none⟩,
 ⟨some 29, .bin .or, [.t 24, .t 28], none⟩,
 ⟨some 2, .mv, [.t 18], none⟩,
 ⟨some 3, .mv, [.t 19], none⟩,
 ⟨some 4, .mv, [.t 20], none⟩,
 ⟨some 5, .mv, [.t 29], none⟩] [6, 7, 8, 9, 18, 19, 20, 21, 22, 23, 24, 25, 26, 27, 28, 29])
 .ret)))) }
/-- spec.ProofOk -/
def F_spec_ProofOk : LF :=
 { nparams := 4, results := [.t 8], body :=
 (.seq
 (.region false [⟨some 8, .mv, [.c (.b false)], none⟩] [8])
 (.seq
 (.seq
 (.region false [⟨some 9, .mv, [.t 0], none⟩,
 ⟨some 10, .mv, [.t 1], none⟩,
 ⟨some 11, .call n_spec_TermOk 5632, [.t 9, .t 10], none⟩,
 ⟨some 12, .un .not, [.t 11], none⟩,
 ⟨some 13, .mv, [.t 12], none⟩,
 ⟨some 14, .mv, [.t 0], some (13, false)⟩,
 ⟨some 15, .mv, [.t 2], some (13, false)⟩,
 ⟨some 16, .call n_spec_StateOk 8192, [.t 14, .t 15], some (13, false)⟩,
 ⟨some 17, .un .not, [.t 16], some (13, false)⟩,
 ⟨some 18, .pick, [.t 13, .c (.b true), .t 17], none⟩,
 ⟨some 19, .mv, [.t 18], none⟩,
 ⟨some 20, .mv, [.t 0], some (19, false)⟩,
 ⟨some 21, .mv, [.t 3], some (19, false)⟩,
 ⟨some 22, .call n_spec_StateOk 11264, [.t 20, .t 21], some (19, false)⟩,
 ⟨some 23, .un .not, [.t 22], some (19, false)⟩,
 ⟨some 24, .pick, [.t 19, .c (.b true), .t 23], none⟩] [9, 10, 11, 12, 13, 14, 15, 16, 17, 18, 19, 20, 21, 22, 23])
 (.cond (.t 24) [24]
 (.seq
 (.region false [⟨some 8, .mv, [.c (.b false)], none⟩] [0, 1, 2, 3])
 .ret)
 .skip))
 (.seq
 (.region false [⟨some 25, .mv, [.t 0], none⟩,
 ⟨some 26, .mv, [.t 0], none⟩,
 ⟨some 27, .mv, [.t 1], none⟩,
 ⟨some 28, .call n_spec_l3Table 14336, [.t 26, .t 27], none⟩,
 ⟨some 29, .mv, [.t 0], none⟩,
 ⟨some 30, .mv, [.t 2], none⟩,
 ⟨some 31, .mv, [.t 3], none⟩,
 ⟨some 32, .call n_spec_l3Told 16384, [.t 29, .t 30, .t 31], none⟩,
 ⟨some 33, .call n_spec_l3Forced 16896, [.t 25, .t 28, .t 32], none⟩,
 ⟨some 34, .bin .neq, [.t 33, .c (.i (-1))], none⟩,
 ⟨some 8, .mv, [.t 34], none⟩] [0, 1, 2, 3, 25, 26, 27, 28, 29, 30, 31, 32, 33, 34])
 .ret))) }
/-- impl.DualTerm -/
def F_impl_DualTerm_L0 : LC :=
 (.seq
 (.region false [⟨some 18, .bin .lss, [.t 17, .t 16], none⟩] [])
 (.seq
 (.cond (.t 18) [18]
 .skip
 (.exit 0))
 (.seq
 (.block 1
 (.seq
 (.region false [⟨some 19, .mv, [.t 17], none⟩,
 ⟨some 20, .idxa 2, [.t 15, .t 17], none⟩,
 ⟨some 21, .load 2 true, [.t 20], none⟩,
 ⟨some 7, .alloc 3600 (.st [.i 0, .i 0]), [], none⟩,
 ⟨some 6, .mv, [.t 19], none⟩,
 ⟨none, .store 2, [.t 7, .t 21], none⟩] [19, 20, 21])
 (.seq
 (.region false [⟨some 22, .fld 0 1 false, [.t 7], none⟩,
 ⟨some 23, .load 1 false, [.t 22], none⟩] [22])
 (.block 2
 (.seq
 (.region false [⟨some 29, .bin .eql, [.t 23, .c (.i 2)], none⟩,
 ⟨some 28, .mv, [.t 29], none⟩] [29])
 (.cond (.t 28) [28]
 (.region false [⟨some 30, .mv, [.t 5], none⟩,
 ⟨some 31, .mv, [.t 6], none⟩,
 ⟨some 32, .build [.i 0, .i 0] [(0, 1)], [.c (.i 3)], none⟩,
 ⟨some 33, .idxa 2, [.t 30, .t 31], none⟩,
 ⟨none, .store 2, [.t 33, .t 32], none⟩] [6, 7, 23, 30, 31, 32, 33])
 (.seq
 (.region false [⟨some 35, .bin .eql, [.t 23, .c (.i 3)], none⟩,
 ⟨some 34, .mv, [.t 35], none⟩] [23, 35])
 (.cond (.t 34) [34]
 (.region false [⟨some 36, .mv, [.t 5], none⟩,
 ⟨some 37, .mv, [.t 6], none⟩,
 ⟨some 38, .build [.i 0, .i 0] [(0, 1)], [.c (.i 2)], none⟩,
 ⟨some 39, .idxa 2, [.t 36, .t 37], none⟩,
 ⟨none, .store 2, [.t 39, .t 38], none⟩] [6, 7, 36, 37, 38, 39])
 (.region false [⟨some 24, .mv, [.t 5], none⟩,
 ⟨some 25, .mv, [.t 6], none⟩,
 ⟨some 26, .load 2 true, [.t 7], none⟩,
 ⟨some 27, .idxa 2, [.t 24, .t 25], none⟩,
 ⟨none, .store 2, [.t 27, .t 26], none⟩] [6, 7, 24, 25, 26, 27])))))))))
 (.region false [⟨some 40, .bin .add, [.t 17, .c (.i 1)], none⟩,
 ⟨some 17, .mv, [.t 40], none⟩] [40]))))
def F_impl_DualTerm_W0 : LC := .loop F_impl_DualTerm_L0
def F_impl_DualTerm : LF :=
 { nparams := 2, results := [.t 4], body :=
 (.seq
 (.region false [⟨some 4, .newnil 2064, [], none⟩] [4])
 (.seq
 (.seq
 (.region false [⟨some 8, .mv, [.t 0], none⟩,
 ⟨some 9, .mv, [.t 1], none⟩,
 ⟨some 10, .call n_impl_TermOk 5120, [.t 8, .t 9], none⟩,
 ⟨some 11, .un .not, [.t 10], none⟩] [0, 8, 9, 10])
 (.cond (.t 11) [11]
 (.seq
 (.region false [⟨some 4, .newnil 2064, [], none⟩] [1])
 .ret)
 .skip))
 (.seq
 (.region false [⟨some 12, .mv, [.t 1], none⟩,
 ⟨some 13, .len, [.t 12], none⟩,
 ⟨some 14, .make 7184 2 (.st [.i 0, .i 0]), [.t 13, .t 13], none⟩,
 ⟨some 5, .mv, [.t 14], none⟩] [12, 13, 14])
 (.seq
 (.seq
 (.region false [⟨some 15, .mv, [.t 1], none⟩,
 ⟨some 16, .len, [.t 15], none⟩,
 ⟨some 17, .mv, [.c (.i 0)], none⟩] [1])
 (.block 0
 F_impl_DualTerm_W0))
 (.seq
 (.region false [⟨some 41, .mv, [.t 5], none⟩,
 ⟨some 4, .mv, [.t 41], none⟩] [5, 15, 16, 17, 41])
 .ret))))) }
/-- spec.DrawTurnsIn -/
def F_spec_DrawTurnsIn : LF :=
 { nparams := 1, results := [.t 2, .t 3, .t 4], body :=
 (.seq
 (.region false [⟨some 2, .mv, [.c (.i 0)], none⟩,
 ⟨some 3, .newnil 1552, [], none⟩,
 ⟨some 4, .mv, [.c (.i 0)], none⟩] [2, 3, 4])
 (.seq
 (.region false [⟨some 5, .mv, [.t 0], none⟩,
 ⟨some 6, .call n_spec_l20Open 3072, [.t 5], none⟩,
 ⟨some 7, .call n_spec_l20State 3584, [.t 6, .c (.i 12)], none⟩,
 ⟨some 8, .ext 0, [.t 7], none⟩,
 ⟨some 9, .ext 1, [.t 7], none⟩,
 ⟨some 10, .ext 2, [.t 7], none⟩,
 ⟨some 2, .mv, [.t 8], none⟩,
 ⟨some 3, .mv, [.t 9], none⟩,
 ⟨some 4, .mv, [.t 10], none⟩] [0, 5, 6, 7, 8, 9, 10])
 .ret)) }
/-- impl.TurnsIn -/
def F_impl_TurnsIn : LF :=
 { nparams := 3, results := [.t 6], body :=
 (.seq
 (.region false [⟨some 5, .box 2568, [.t 2], none⟩,
 ⟨some 6, .mv, [.c (.i 0)], none⟩] [2, 6])
 (.seq
 (.seq
 (.region false [⟨some 8, .mv, [.t 0], none⟩,
 ⟨some 9, .mv, [.t 1], none⟩,
 ⟨some 10, .call n_impl_TermOk 5120, [.t 8, .t 9], none⟩,
 ⟨some 11, .un .not, [.t 10], none⟩,
 ⟨some 12, .mv, [.t 11], none⟩,
 ⟨some 13, .mv, [.t 0], some (12, false)⟩,
 ⟨some 14, .load 1 false, [.t 5], some (12, false)⟩,
 ⟨some 15, .call n_impl_StateOk 7680, [.t 13, .t 14], some (12, false)⟩,
 ⟨some 16, .un .not, [.t 15], some (12, false)⟩,
 ⟨some 17, .pick, [.t 12, .c (.b true), .t 16], none⟩] [8, 9, 10, 11, 12, 13, 14, 15, 16])
 (.cond (.t 17) [17]
 (.seq
 (.region false [⟨some 6, .mv, [.c (.i (-1))], none⟩] [0, 1, 5])
 .ret)
 .skip))
 (.seq
 (.region false [⟨some 18, .mv, [.t 1], none⟩,
 ⟨some 19, .call n_impl_trueStates 9728, [.t 18], none⟩,
 ⟨some 7, .alloc 3592 (.w (0#32)), [], none⟩,
 ⟨none, .store 1, [.t 7, .t 19], none⟩] [1, 18, 19])
 (.seq
 (.region false [⟨some 20, .mv, [.t 0], none⟩,
 ⟨some 21, .mkfn n_impl_TurnsIn_1, [.t 7, .t 5], none⟩,
 ⟨some 22, .call n_impl_testsWhere 11264, [.t 20, .t 21], none⟩,
 ⟨some 6, .mv, [.t 22], none⟩] [0, 5, 7, 20, 21, 22])
 .ret)))) }
/-- spec.TurnsIn -/
def F_spec_TurnsIn_L0 : LC :=
 (.seq
 (.seq
 (.region false [⟨some 24, .mv, [.t 9], none⟩,
 ⟨some 25, .mv, [.t 0], none⟩,
 ⟨some 26, .bin .lss, [.t 24, .t 25], none⟩] [24, 25])
 (.cond (.t 26) [26]
 .skip
 (.exit 0)))
 (.seq
 (.block 1
 (.seq
 (.region false [⟨some 29, .mv, [.t 2], none⟩,
 ⟨some 30, .mv, [.t 9], none⟩,
 ⟨some 31, .bin .shl, [.c (.i 1), .t 30], none⟩,
 ⟨some 32, .bin .xor, [.t 29, .t 31], none⟩,
 ⟨some 10, .mv, [.t 32], none⟩] [29, 30, 31, 32])
 (.seq
 (.region true [⟨some 33, .mv, [.t 8], none⟩,
 ⟨some 34, .mv, [.t 2], none⟩,
 ⟨some 35, .bin .shr, [.t 33, .t 34], none⟩,
 ⟨some 36, .bin .rem, [.t 35, .c (.i 2)], none⟩,
 ⟨some 37, .mv, [.t 8], none⟩,
 ⟨some 38, .mv, [.t 10], none⟩,
 ⟨some 39, .bin .shr, [.t 37, .t 38], none⟩,
 ⟨some 40, .bin .rem, [.t 39, .c (.i 2)], none⟩,
 ⟨some 41, .bin .neq, [.t 36, .t 40], none⟩] [10, 33, 34, 35, 36, 37, 38, 39, 40])
 (.cond (.t 41) [41]
 (.region false [⟨some 42, .mv, [.t 7], none⟩,
 ⟨some 43, .mv, [.t 9], none⟩,
 ⟨some 44, .bin .shl, [.c (.i 1), .t 43], none⟩,
 ⟨some 45, .bin .or, [.t 42, .t 44], none⟩,
 ⟨some 7, .mv, [.t 45], none⟩] [42, 43, 44, 45])
 .skip))))
 (.region false [⟨some 27, .mv, [.t 9], none⟩,
 ⟨some 28, .bin .add, [.t 27, .c (.i 1)], none⟩,
 ⟨some 9, .mv, [.t 28], none⟩] [27, 28])))
def F_spec_TurnsIn_W0 : LC := .loop F_spec_TurnsIn_L0
def F_spec_TurnsIn : LF :=
 { nparams := 3, results := [.t 6], body :=
 (.seq
 (.region false [⟨some 6, .mv, [.c (.i 0)], none⟩] [6])
 (.seq
 (.seq
 (.region false [⟨some 11, .mv, [.t 0], none⟩,
 ⟨some 12, .mv, [.t 1], none⟩,
 ⟨some 13, .call n_spec_TermOk 6656, [.t 11, .t 12], none⟩,
 ⟨some 14, .un .not, [.t 13], none⟩,
 ⟨some 15, .mv, [.t 14], none⟩,
 ⟨some 16, .mv, [.t 0], some (15, false)⟩,
 ⟨some 17, .mv, [.t 2], some (15, false)⟩,
 ⟨some 18, .call n_spec_StateOk 9216, [.t 16, .t 17], some (15, false)⟩,
 ⟨some 19, .un .not, [.t 18], some (15, false)⟩,
 ⟨some 20, .pick, [.t 15, .c (.b true), .t 19], none⟩] [11, 12, 13, 14, 15, 16, 17, 18, 19])
 (.cond (.t 20) [20]
 (.seq
 (.region false [⟨some 6, .mv, [.c (.i (-1))], none⟩] [0, 1, 2])
 .ret)
 .skip))
 (.seq
 (.region false [⟨some 7, .mv, [.c (.i 0)], none⟩] [])
 (.seq
 (.region false [⟨some 21, .mv, [.t 0], none⟩,
 ⟨some 22, .mv, [.t 1], none⟩,
 ⟨some 23, .call n_spec_l3Table 11776, [.t 21, .t 22], none⟩,
 ⟨some 8, .mv, [.t 23], none⟩] [1, 21, 22, 23])
 (.seq
 (.seq
 (.region false [⟨some 9, .mv, [.c (.i 0)], none⟩] [])
 (.block 0
 F_spec_TurnsIn_W0))
 (.seq
 (.region false [⟨some 46, .mv, [.t 7], none⟩,
 ⟨some 6, .mv, [.t 46], none⟩] [0, 2, 7, 8, 9, 46])
 .ret)))))) }
/-- laws.szMarkS -/
def F_laws_szMarkS : LF :=
 { nparams := 2, results := [.t 4], body :=
 (.seq
 (.region false [⟨some 4, .mv, [.c (.i 0)], none⟩] [4])
 (.seq
 (.region false [⟨some 5, .mv, [.t 1], none⟩,
 ⟨some 6, .mv, [.t 0], none⟩,
 ⟨some 7, .len, [.t 6], none⟩,
 ⟨some 8, .bin .sub, [.t 5, .t 7], none⟩,
 ⟨some 1, .mv, [.t 8], none⟩] [0, 5, 6, 7, 8])
 (.seq
 (.seq
 (.region false [⟨some 9, .mv, [.t 1], none⟩,
 ⟨some 10, .bin .lss, [.t 9, .c (.i 0)], none⟩] [9])
 (.cond (.t 10) [10]
 (.seq
 (.region false [⟨some 4, .mv, [.c (.i (-1))], none⟩] [1])
 .ret)
 .skip))
 (.seq
 (.region false [⟨some 11, .mv, [.t 1], none⟩,
 ⟨some 4, .mv, [.t 11], none⟩] [1, 11])
 .ret)))) }
/-- laws.toMarkS -/
def F_laws_toMarkS_L0 : LC :=
 (.seq
 (.seq
 (.region false [⟨some 8, .mv, [.t 4], none⟩,
 ⟨some 9, .mv, [.t 0], none⟩,
 ⟨some 10, .len, [.t 9], none⟩,
 ⟨some 11, .bin .lss, [.t 8, .t 10], none⟩] [8, 9, 10])
 (.cond (.t 11) [11]
 .skip
 (.exit 0)))
 (.seq
 (.block 1
 (.region false [⟨some 14, .mv, [.t 3], none⟩,
 ⟨some 15, .mv, [.t 4], none⟩,
 ⟨some 16, .mv, [.t 0], none⟩,
 ⟨some 17, .mv, [.t 4], none⟩,
 ⟨some 18, .idxa 2, [.t 16, .t 17], none⟩,
 ⟨some 19, .load 2 true, [.t 18], none⟩,
 ⟨some 20, .call n_laws_toMark 10240, [.t 19], none⟩,
 ⟨some 21, .idxa 2, [.t 14, .t 15], none⟩,
 ⟨none, .store 2, [.t 21, .t 20], none⟩] [14, 15, 16, 17, 18, 19, 20, 21]))
 (.region false [⟨some 12, .mv, [.t 4], none⟩,
 ⟨some 13, .bin .add, [.t 12, .c (.i 1)], none⟩,
 ⟨some 4, .mv, [.t 13], none⟩] [12, 13])))
def F_laws_toMarkS_W0 : LC := .loop F_laws_toMarkS_L0
def F_laws_toMarkS : LF :=
 { nparams := 1, results := [.t 2], body :=
 (.seq
 (.region false [⟨some 2, .newnil 1040, [], none⟩] [2])
 (.seq
 (.region false [⟨some 5, .mv, [.t 0], none⟩,
 ⟨some 6, .len, [.t 5], none⟩,
 ⟨some 7, .make 3600 2 (.st [.i 0, .i 0]), [.t 6, .t 6], none⟩,
 ⟨some 3, .mv, [.t 7], none⟩] [5, 6, 7])
 (.seq
 (.seq
 (.region false [⟨some 4, .mv, [.c (.i 0)], none⟩] [])
 (.block 0
 F_laws_toMarkS_W0))
 (.seq
 (.region false [⟨some 22, .mv, [.t 3], none⟩,
 ⟨some 2, .mv, [.t 22], none⟩] [0, 3, 4, 22])
 .ret)))) }
/-- laws.toIntS -/
def F_laws_toIntS_L0 : LC :=
 (.seq
 (.seq
 (.region false [⟨some 8, .mv, [.t 4], none⟩,
 ⟨some 9, .mv, [.t 0], none⟩,
 ⟨some 10, .len, [.t 9], none⟩,
 ⟨some 11, .bin .lss, [.t 8, .t 10], none⟩] [8, 9, 10])
 (.cond (.t 11) [11]
 .skip
 (.exit 0)))
 (.seq
 (.block 1
 (.region false [⟨some 14, .mv, [.t 3], none⟩,
 ⟨some 15, .mv, [.t 4], none⟩,
 ⟨some 16, .mv, [.t 0], none⟩,
 ⟨some 17, .mv, [.t 4], none⟩,
 ⟨some 18, .idxa 1, [.t 16, .t 17], none⟩,
 ⟨some 19, .load 1 false, [.t 18], none⟩,
 ⟨some 20, .idxa 1, [.t 14, .t 15], none⟩,
 ⟨none, .store 1, [.t 20, .t 19], none⟩] [14, 15, 16, 17, 18, 19, 20]))
 (.region false [⟨some 12, .mv, [.t 4], none⟩,
 ⟨some 13, .bin .add, [.t 12, .c (.i 1)], none⟩,
 ⟨some 4, .mv, [.t 13], none⟩] [12, 13])))
def F_laws_toIntS_W0 : LC := .loop F_laws_toIntS_L0
def F_laws_toIntS : LF :=
 { nparams := 1, results := [.t 2], body :=
 (.seq
 (.region false [⟨some 2, .newnil 1032, [], none⟩] [2])
 (.seq
 (.region false [⟨some 5, .mv, [.t 0], none⟩,
 ⟨some 6, .len, [.t 5], none⟩,
 ⟨some 7, .make 3592 1 (.i 0), [.t 6, .t 6], none⟩,
 ⟨some 3, .mv, [.t 7], none⟩] [5, 6, 7])
 (.seq
 (.seq
 (.region false [⟨some 4, .mv, [.c (.i 0)], none⟩] [])
 (.block 0
 F_laws_toIntS_W0))
 (.seq
 (.region false [⟨some 21, .mv, [.t 3], none⟩,
 ⟨some 2, .mv, [.t 21], none⟩] [0, 3, 4, 21])
 .ret)))) }
/-- laws.eqMarkS -/
def F_laws_eqMarkS_L0 : LC :=
 (.seq
 (.seq
 (.region false [⟨some 11, .mv, [.t 5], none⟩,
 ⟨some 12, .mv, [.t 0], none⟩,
 ⟨some 13, .len, [.t 12], none⟩,
 ⟨some 14, .bin .lss, [.t 11, .t 13], none⟩] [11, 12, 13])
 (.cond (.t 14) [14]
 .skip
 (.exit 0)))
 (.seq
 (.block 1
 (.seq
 (.region true [⟨some 17, .mv, [.t 0], none⟩,
 ⟨some 18, .mv, [.t 5], none⟩,
 ⟨some 19, .idxa 2, [.t 17, .t 18], none⟩,
 ⟨some 20, .load 2 true, [.t 19], none⟩,
 ⟨some 21, .mv, [.t 1], none⟩,
 ⟨some 22, .mv, [.t 5], none⟩,
 ⟨some 23, .idxa 2, [.t 21, .t 22], none⟩,
 ⟨some 24, .load 2 true, [.t 23], none⟩,
 ⟨some 25, .call n_laws_eqMark 12800, [.t 20, .t 24], none⟩,
 ⟨some 26, .un .not, [.t 25], none⟩] [17, 18, 19, 20, 21, 22, 23, 24, 25])
 (.cond (.t 26) [26]
 (.seq
 (.region false [⟨some 4, .mv, [.c (.b false)], none⟩] [0, 1, 5])
 .ret)
 .skip)))
 (.region false [⟨some 15, .mv, [.t 5], none⟩,
 ⟨some 16, .bin .add, [.t 15, .c (.i 1)], none⟩,
 ⟨some 5, .mv, [.t 16], none⟩] [15, 16])))
def F_laws_eqMarkS_W0 : LC := .loop F_laws_eqMarkS_L0
def F_laws_eqMarkS : LF :=
 { nparams := 2, results := [.t 4], body :=
 (.seq
 (.region false [⟨some 4, .mv, [.c (.b false)], none⟩] [4])
 (.seq
 (.seq
 (.region false [⟨some 6, .mv, [.t 0], none⟩,
 ⟨some 7, .len, [.t 6], none⟩,
 ⟨some 8, .mv, [.t 1], none⟩,
 ⟨some 9, .len, [.t 8], none⟩,
 ⟨some 10, .bin .neq, [.t 7, .t 9], none⟩] [6, 7, 8, 9])
 (.cond (.t 10) [10]
 (.seq
 (.region false [⟨some 4, .mv, [.c (.b false)], none⟩] [0, 1])
 .ret)
 .skip))
 (.seq
 (.seq
 (.region false [⟨some 5, .mv, [.c (.i 0)], none⟩] [])
 (.block 0
 F_laws_eqMarkS_W0))
 (.seq
 (.region false [⟨some 4, .mv, [.c (.b true)], none⟩] [0, 1, 5])
 .ret)))) }
/-- laws.eqIntS -/
def F_laws_eqIntS_L0 : LC :=
 (.seq
 (.seq
 (.region false [⟨some 11, .mv, [.t 5], none⟩,
 ⟨some 12, .mv, [.t 0], none⟩,
 ⟨some 13, .len, [.t 12], none⟩,
 ⟨some 14, .bin .lss, [.t 11, .t 13], none⟩] [11, 12, 13])
 (.cond (.t 14) [14]
 .skip
 (.exit 0)))
 (.seq
 (.block 1
 (.seq
 (.region true [⟨some 17, .mv, [.t 0], none⟩,
 ⟨some 18, .mv, [.t 5], none⟩,
 ⟨some 19, .idxa 1, [.t 17, .t 18], none⟩,
 ⟨some 20, .load 1 false, [.t 19], none⟩,
 ⟨some 21, .mv, [.t 1], none⟩,
 ⟨some 22, .mv, [.t 5], none⟩,
 ⟨some 23, .idxa 1, [.t 21, .t 22], none⟩,
 ⟨some 24, .load 1 false, [.t 23], none⟩,
 ⟨some 25, .bin .neq, [.t 20, .t 24], none⟩] [17, 18, 19, 20, 21, 22, 23, 24])
 (.cond (.t 25) [25]
 (.seq
 (.region false [⟨some 4, .mv, [.c (.b false)], none⟩] [0, 1, 5])
 .ret)
 .skip)))
 (.region false [⟨some 15, .mv, [.t 5], none⟩,
 ⟨some 16, .bin .add, [.t 15, .c (.i 1)], none⟩,
 ⟨some 5, .mv, [.t 16], none⟩] [15, 16])))
def F_laws_eqIntS_W0 : LC := .loop F_laws_eqIntS_L0
def F_laws_eqIntS : LF :=
 { nparams := 2, results := [.t 4], body :=
 (.seq
 (.region false [⟨some 4, .mv, [.c (.b false)], none⟩] [4])
 (.seq
 (.seq
 (.region false [⟨some 6, .mv, [.t 0], none⟩,
 ⟨some 7, .len, [.t 6], none⟩,
 ⟨some 8, .mv, [.t 1], none⟩,
 ⟨some 9, .len, [.t 8], none⟩,
 ⟨some 10, .bin .neq, [.t 7, .t 9], none⟩] [6, 7, 8, 9])
 (.cond (.t 10) [10]
 (.seq
 (.region false [⟨some 4, .mv, [.c (.b false)], none⟩] [0, 1])
 .ret)
 .skip))
 (.seq
 (.seq
 (.region false [⟨some 5, .mv, [.c (.i 0)], none⟩] [])
 (.block 0
 F_laws_eqIntS_W0))
 (.seq
 (.region false [⟨some 4, .mv, [.c (.b true)], none⟩] [0, 1, 5])
 .ret)))) }
/-- laws.markMarkS -/
def F_laws_markMarkS_L0 : LC :=
 (.seq
 (.seq
 (.region false [⟨some 6, .mv, [.t 5], none⟩,
 ⟨some 7, .mv, [.t 0], none⟩,
 ⟨some 8, .len, [.t 7], none⟩,
 ⟨some 9, .bin .lss, [.t 6, .t 8], none⟩] [6, 7, 8])
 (.cond (.t 9) [9]
 .skip
 (.exit 0)))
 (.seq
 (.block 1
 (.seq
 (.region false [⟨some 12, .mv, [.t 0], none⟩,
 ⟨some 13, .mv, [.t 5], none⟩,
 ⟨some 14, .mv, [.t 1], none⟩,
 ⟨some 15, .idxa 2, [.t 12, .t 13], none⟩,
 ⟨some 16, .fld 0 1 false, [.t 15], none⟩,
 ⟨none, .store 1, [.t 16, .t 14], none⟩] [12, 13, 14, 15, 16])
 (.seq
 (.region false [⟨some 17, .mv, [.t 1], none⟩,
 ⟨some 18, .bin .add, [.t 17, .c (.i 1)], none⟩,
 ⟨some 1, .mv, [.t 18], none⟩] [17, 18])
 (.seq
 (.region false [⟨some 19, .mv, [.t 0], none⟩,
 ⟨some 20, .mv, [.t 5], none⟩,
 ⟨some 21, .mv, [.t 1], none⟩,
 ⟨some 22, .idxa 2, [.t 19, .t 20], none⟩,
 ⟨some 23, .fld 1 1 false, [.t 22], none⟩,
 ⟨none, .store 1, [.t 23, .t 21], none⟩] [19, 20, 21, 22, 23])
 (.region false [⟨some 24, .mv, [.t 1], none⟩,
 ⟨some 25, .bin .add, [.t 24, .c (.i 1)], none⟩,
 ⟨some 1, .mv, [.t 25], none⟩] [24, 25])))))
 (.region false [⟨some 10, .mv, [.t 5], none⟩,
 ⟨some 11, .bin .add, [.t 10, .c (.i 1)], none⟩,
 ⟨some 5, .mv, [.t 11], none⟩] [10, 11])))
def F_laws_markMarkS_W0 : LC := .loop F_laws_markMarkS_L0
def F_laws_markMarkS : LF :=
 { nparams := 2, results := [.t 4], body :=
 (.seq
 (.region false [⟨some 4, .mv, [.c (.i 0)], none⟩] [4])
 (.seq
 (.seq
 (.region false [⟨some 5, .mv, [.c (.i 0)], none⟩] [])
 (.block 0
 F_laws_markMarkS_W0))
 (.seq
 (.region false [⟨some 26, .mv, [.t 1], none⟩,
 ⟨some 4, .mv, [.t 26], none⟩] [1, 5, 26])
 .ret))) }
/-- laws.markIntS -/
def F_laws_markIntS_L0 : LC :=
 (.seq
 (.seq
 (.region false [⟨some 6, .mv, [.t 5], none⟩,
 ⟨some 7, .mv, [.t 0], none⟩,
 ⟨some 8, .len, [.t 7], none⟩,
 ⟨some 9, .bin .lss, [.t 6, .t 8], none⟩] [6, 7, 8])
 (.cond (.t 9) [9]
 .skip
 (.exit 0)))
 (.seq
 (.block 1
 (.seq
 (.region false [⟨some 12, .mv, [.t 0], none⟩,
 ⟨some 13, .mv, [.t 5], none⟩,
 ⟨some 14, .mv, [.t 1], none⟩,
 ⟨some 15, .idxa 1, [.t 12, .t 13], none⟩,
 ⟨none, .store 1, [.t 15, .t 14], none⟩] [12, 13, 14, 15])
 (.region false [⟨some 16, .mv, [.t 1], none⟩,
 ⟨some 17, .bin .add, [.t 16, .c (.i 1)], none⟩,
 ⟨some 1, .mv, [.t 17], none⟩] [16, 17])))
 (.region false [⟨some 10, .mv, [.t 5], none⟩,
 ⟨some 11, .bin .add, [.t 10, .c (.i 1)], none⟩,
 ⟨some 5, .mv, [.t 11], none⟩] [10, 11])))
def F_laws_markIntS_W0 : LC := .loop F_laws_markIntS_L0
def F_laws_markIntS : LF :=
 { nparams := 2, results := [.t 4], body :=
 (.seq
 (.region false [⟨some 4, .mv, [.c (.i 0)], none⟩] [4])
 (.seq
 (.seq
 (.region false [⟨some 5, .mv, [.c (.i 0)], none⟩] [])
 (.block 0
 F_laws_markIntS_W0))
 (.seq
 (.region false [⟨some 18, .mv, [.t 1], none⟩,
 ⟨some 4, .mv, [.t 18], none⟩] [1, 5, 18])
 .ret))) }
/-- laws.heldIntS -/
def F_laws_heldIntS_L0 : LC :=
 (.seq
 (.seq
 (.region false [⟨some 6, .mv, [.t 5], none⟩,
 ⟨some 7, .mv, [.t 0], none⟩,
 ⟨some 8, .len, [.t 7], none⟩,
 ⟨some 9, .bin .lss, [.t 6, .t 8], none⟩] [6, 7, 8])
 (.cond (.t 9) [9]
 .skip
 (.exit 0)))
 (.seq
 (.block 1
 (.seq
 (.seq
 (.region false [⟨some 12, .mv, [.t 0], none⟩,
 ⟨some 13, .mv, [.t 5], none⟩,
 ⟨some 14, .idxa 1, [.t 12, .t 13], none⟩,
 ⟨some 15, .load 1 false, [.t 14], none⟩,
 ⟨some 16, .mv, [.t 1], none⟩,
 ⟨some 17, .bin .neq, [.t 15, .t 16], none⟩] [12, 13, 14, 15, 16])
 (.cond (.t 17) [17]
 (.seq
 (.region false [⟨some 4, .mv, [.c (.i (-1))], none⟩] [0, 1, 5])
 .ret)
 .skip))
 (.region false [⟨some 18, .mv, [.t 1], none⟩,
 ⟨some 19, .bin .add, [.t 18, .c (.i 1)], none⟩,
 ⟨some 1, .mv, [.t 19], none⟩] [18, 19])))
 (.region false [⟨some 10, .mv, [.t 5], none⟩,
 ⟨some 11, .bin .add, [.t 10, .c (.i 1)], none⟩,
 ⟨some 5, .mv, [.t 11], none⟩] [10, 11])))
def F_laws_heldIntS_W0 : LC := .loop F_laws_heldIntS_L0
def F_laws_heldIntS : LF :=
 { nparams := 2, results := [.t 4], body :=
 (.seq
 (.region false [⟨some 4, .mv, [.c (.i 0)], none⟩] [4])
 (.seq
 (.seq
 (.region false [⟨some 5, .mv, [.c (.i 0)], none⟩] [])
 (.block 0
 F_laws_heldIntS_W0))
 (.seq
 (.region false [⟨some 20, .mv, [.t 1], none⟩,
 ⟨some 4, .mv, [.t 20], none⟩] [0, 1, 5, 20])
 .ret))) }
/-- spec.l20Open -/
def F_spec_l20Open : LF :=
 { nparams := 1, results := [.t 2], body :=
 (.seq
 (.region false [⟨some 2, .mv, [.c (.np)], none⟩] [2])
 (.seq
 (.seq
 (.region false [⟨some 3, .mv, [.t 0], none⟩,
 ⟨some 4, .len, [.t 3], none⟩,
 ⟨some 5, .bin .gtr, [.t 4, .c (.i 2000)], none⟩] [3, 4])
 (.cond (.t 5) [5]
 (.region false [⟨some 6, .mv, [.t 0], none⟩,
 ⟨some 7, .slice false true 1, [.t 6, .c (.i 2000)], none⟩,
 ⟨some 0, .mv, [.t 7], none⟩] [6, 7])
 .skip))
 (.seq
 (.region false [⟨some 8, .mv, [.t 0], none⟩,
 ⟨some 9, .build [.sl 1 [], .i 0] [(0, 1)], [.t 8], none⟩,
 ⟨some 10, .box 5136, [.t 9], none⟩,
 ⟨some 2, .mv, [.t 10], none⟩] [0, 8, 9, 10])
 .ret))) }
/-- spec.l20Rd).pick -/
def F_spec_l20Rd_pick : LF :=
 { nparams := 2, results := [.t 4], body :=
 (.seq
 (.region false [⟨some 4, .mv, [.c (.i 0)], none⟩] [4])
 (.seq
 (.region false [⟨some 7, .mv, [.t 0], none⟩,
 ⟨some 8, .mv, [.t 0], none⟩,
 ⟨some 9, .chk, [.t 8], none⟩,
 ⟨some 10, .fld 1 1 false, [.t 9], none⟩,
 ⟨some 11, .load 1 false, [.t 10], none⟩,
 ⟨some 12, .bin .add, [.t 11, .c (.i 1)], none⟩,
 ⟨some 13, .chk, [.t 7], none⟩,
 ⟨some 14, .fld 1 1 false, [.t 13], none⟩,
 ⟨none, .store 1, [.t 14, .t 12], none⟩] [7, 8, 9, 10, 11, 12, 13, 14])
 (.seq
 (.seq
 (.region false [⟨some 15, .mv, [.t 1], none⟩,
 ⟨some 16, .bin .lss, [.t 15, .c (.i 1)], none⟩,
 ⟨some 17, .mv, [.t 16], none⟩,
 ⟨some 18, .mv, [.t 0], some (17, false)⟩,
 ⟨some 19, .chk, [.t 18], some (17, false)⟩,
 ⟨some 20, .fld 0 1 false, [.t 19], some (17, false)⟩,
 ⟨some 21, .load 1 false, [.t 20], some (17, false)⟩,
 ⟨some 22, .len, [.t 21], some (17, false)⟩,
 ⟨some 23, .bin .eql, [.t 22, .c (.i 0)], some (17, false)⟩,
 ⟨some 24, .pick, [.t 17, .c (.b true), .t 23], none⟩] [15, 16, 17, 18, 19, 20, 21, 22, 23])
 (.cond (.t 24) [24]
 (.seq
 (.region false [⟨some 4, .mv, [.c (.i 0)], none⟩] [1])
 .ret)
 .skip))
 (.seq
 (.region false [⟨some 25, .mv, [.t 0], none⟩,
 ⟨some 26, .chk, [.t 25], none⟩,
 ⟨some 27, .fld 1 1 false, [.t 26], none⟩,
 ⟨some 28, .load 1 false, [.t 27], none⟩,
 ⟨some 29, .bin .sub, [.t 28, .c (.i 1)], none⟩,
 ⟨some 5, .mv, [.t 29], none⟩] [25, 26, 27, 28, 29])
 (.seq
 (.seq
 (.region false [⟨some 30, .mv, [.t 5], none⟩,
 ⟨some 31, .mv, [.t 0], none⟩,
 ⟨some 32, .chk, [.t 31], none⟩,
 ⟨some 33, .fld 0 1 false, [.t 32], none⟩,
 ⟨some 34, .load 1 false, [.t 33], none⟩,
 ⟨some 35, .len, [.t 34], none⟩,
 ⟨some 36, .bin .lss, [.t 30, .t 35], none⟩] [30, 31, 32, 33, 34, 35])
 (.cond (.t 36) [36]
 (.seq
 (.region false [⟨some 37, .mv, [.t 0], none⟩,
 ⟨some 38, .chk, [.t 37], none⟩,
 ⟨some 39, .fld 0 1 false, [.t 38], none⟩,
 ⟨some 40, .load 1 false, [.t 39], none⟩,
 ⟨some 41, .mv, [.t 5], none⟩,
 ⟨some 42, .idxa 1, [.t 40, .t 41], none⟩,
 ⟨some 43, .load 1 false, [.t 42], none⟩,
 ⟨some 44, .conv .b2i 22528, [.t 43], none⟩,
 ⟨some 45, .mv, [.t 1], none⟩,
 ⟨some 46, .bin .rem, [.t 44, .t 45], none⟩,
 ⟨some 4, .mv, [.t 46], none⟩] [1, 5, 37, 38, 39, 40, 41, 42, 43, 44, 45, 46])
 .ret)
 .skip))
 (.seq
 (.region true [⟨some 47, .mv, [.t 0], none⟩,
 ⟨some 48, .chk, [.t 47], none⟩,
 ⟨some 49, .fld 0 1 false, [.t 48], none⟩,
 ⟨some 50, .load 1 false, [.t 49], none⟩,
 ⟨some 51, .mv, [.t 5], none⟩,
 ⟨some 52, .mv, [.t 0], none⟩,
 ⟨some 53, .chk, [.t 52], none⟩,
 ⟨some 54, .fld 0 1 false, [.t 53], none⟩,
 ⟨some 55, .load 1 false, [.t 54], none⟩,
 ⟨some 56, .len, [.t 55], none⟩,
 ⟨some 57, .bin .rem, [.t 51, .t 56], none⟩,
 ⟨some 58, .idxa 1, [.t 50, .t 57], none⟩,
 ⟨some 59, .load 1 false, [.t 58], none⟩,
 ⟨some 60, .conv .b2i 30720, [.t 59], none⟩,
 ⟨some 61, .bin .mul, [.t 60, .c (.i 131)], none⟩,
 ⟨some 62, .mv, [.t 0], none⟩,
 ⟨some 63, .chk, [.t 62], none⟩,
 ⟨some 64, .fld 0 1 false, [.t 63], none⟩,
 ⟨some 65, .load 1 false, [.t 64], none⟩,
 ⟨some 66, .mv, [.t 5], none⟩,
 ⟨some 67, .bin .mul, [.t 66, .c (.i 7)], none⟩,
 ⟨some 68, .bin .add, [.t 67, .c (.i 3)], none⟩,
 ⟨some 69, .mv, [.t 0], none⟩,
 ⟨some 70, .chk, [.t 69], none⟩,
 ⟨some 71, .fld 0 1 false, [.t 70], none⟩,
 ⟨some 72, .load 1 false, [.t 71], none⟩,
 ⟨some 73, .len, [.t 72], none⟩,
 ⟨some 74, .bin .rem, [.t 68, .t 73], none⟩,
 ⟨some 75, .idxa 1, [.t 65, .t 74], none⟩,
 ⟨some 76, .load 1 false, [.t 75], none⟩,
 ⟨some 77, .conv .b2i 39424, [.t 76], none⟩,
 ⟨some 78, .bin .mul, [.t 77, .c (.i 1117)], none⟩,
 ⟨some 79, .bin .add, [.t 61, .t 78], none⟩,
 ⟨some 80, .mv, [.t 5], none⟩,
 ⟨some 81, .bin .mul, [.t 80, .c (.i 29)], none⟩,
 ⟨some 82, .bin .add, [.t 79, .t 81], none⟩,
 ⟨some 83, .mv, [.t 5], none⟩,
 ⟨some 84, .mv, [.t 0], none⟩,
 ⟨some 85, .chk, [.t 84], none⟩,
 ⟨some 86, .fld 0 1 false, [.t 85], none⟩,
 ⟨some 87, .load 1 false, [.t 86], none⟩,
 ⟨some 88, .len, [.t 87], none⟩,
 ⟨some 89, .bin .quo, [.t 83, .t 88], none⟩,
 ⟨some 90, .bin .mul, [.t 89, .c (.i 53)], none⟩,
 ⟨some 91, .bin .add, [.t 82, .t 90], none⟩,
 ⟨some 6, .mv, [.t 91], none⟩] [5, 47, 48, 49, 50, 51, 52, 53, 54, 55, 56, 57, 58, 59, 60, 61, 62, 63, 64, 65, 66, 67, 68, 69, 70, 71, 72, 73, 74, 75, 76, 77, 78, 79, 80, 81, 82, 83, 84, 85, 86, 87, 88, 89, 90, 91])
 (.seq
 (.region false [⟨some 92, .mv, [.t 6], none⟩,
 ⟨some 93, .mv, [.t 6], none⟩,
 ⟨some 94, .bin .quo, [.t 93, .c (.i 64)], none⟩,
 ⟨some 95, .bin .xor, [.t 92, .t 94], none⟩,
 ⟨some 6, .mv, [.t 95], none⟩] [92, 93, 94, 95])
 (.seq
 (.region false [⟨some 96, .mv, [.t 6], none⟩,
 ⟨some 97, .mv, [.t 1], none⟩,
 ⟨some 98, .bin .rem, [.t 96, .t 97], none⟩,
 ⟨some 4, .mv, [.t 98], none⟩] [1, 6, 96, 97, 98])
 .ret)))))))) }
/-- spec.l20Term -/
def F_spec_l20Term_L0 : LC :=
 (.seq
 (.seq
 (.region false [⟨some 23, .mv, [.t 9], none⟩,
 ⟨some 24, .mv, [.t 1], none⟩,
 ⟨some 25, .bin .lss, [.t 23, .t 24], none⟩,
 ⟨some 26, .mv, [.t 25], none⟩,
 ⟨some 27, .mv, [.t 8], some (26, true)⟩,
 ⟨some 28, .pick, [.t 26, .t 27, .c (.b false)], none⟩] [23, 24, 25, 26, 27])
 (.cond (.t 28) [28]
 .skip
 (.exit 0)))
 (.seq
 (.block 1
 (.seq
 (.region false [⟨some 31, .mv, [.t 0], none⟩,
 ⟨some 32, .call n_spec_l20Rd_pick 16384, [.t 31, .c (.i 4)], none⟩,
 ⟨some 33, .bin .gtr, [.t 32, .c (.i 0)], none⟩,
 ⟨some 34, .mv, [.t 33], none⟩,
 ⟨some 35, .mv, [.t 9], some (34, false)⟩,
 ⟨some 36, .bin .eql, [.t 35, .c (.i 0)], some (34, false)⟩,
 ⟨some 37, .pick, [.t 34, .c (.b true), .t 36], none⟩] [31, 32, 33, 34, 35, 36])
 (.cond (.t 37) [37]
 (.region false [⟨some 38, .mv, [.t 7], none⟩,
 ⟨some 39, .mv, [.t 9], none⟩,
 ⟨some 40, .build [.i 0, .i 0] [(0, 1), (1, 1)], [.c (.i 0), .t 39], none⟩,
 ⟨some 41, .bslice 21008 1 2 (.st [.i 0, .i 0]) [0], [.t 40], none⟩,
 ⟨some 42, .bslice 21512 1 1 (.sl 1 []) [0], [.t 41], none⟩,
 ⟨some 43, .app 22024 1, [.t 38, .t 42], none⟩,
 ⟨some 7, .mv, [.t 43], none⟩] [38, 39, 40, 41, 42, 43])
 .skip)))
 (.region false [⟨some 29, .mv, [.t 9], none⟩,
 ⟨some 30, .bin .add, [.t 29, .c (.i 1)], none⟩,
 ⟨some 9, .mv, [.t 30], none⟩] [29, 30])))
def F_spec_l20Term_W0 : LC := .loop F_spec_l20Term_L0
def F_spec_l20Term_L1 : LC :=
 (.seq
 (.seq
 (.region false [⟨some 47, .mv, [.t 10], none⟩,
 ⟨some 48, .bin .gtr, [.t 47, .c (.i 0)], none⟩,
 ⟨some 49, .mv, [.t 48], none⟩,
 ⟨some 50, .mv, [.t 8], some (49, true)⟩,
 ⟨some 51, .un .not, [.t 50], some (49, true)⟩,
 ⟨some 52, .pick, [.t 49, .t 51, .c (.b false)], none⟩] [47, 48, 49, 50, 51])
 (.cond (.t 52) [52]
 .skip
 (.exit 2)))
 (.seq
 (.block 3
 (.region false [⟨some 55, .mv, [.t 7], none⟩,
 ⟨some 56, .mv, [.t 0], none⟩,
 ⟨some 57, .mv, [.t 1], none⟩,
 ⟨some 58, .call n_spec_l20Rd_pick 29696, [.t 56, .t 57], none⟩,
 ⟨some 59, .build [.i 0, .i 0] [(0, 1), (1, 1)], [.c (.i 0), .t 58], none⟩,
 ⟨some 60, .bslice 30736 1 2 (.st [.i 0, .i 0]) [0], [.t 59], none⟩,
 ⟨some 61, .bslice 31240 1 1 (.sl 1 []) [0], [.t 60], none⟩,
 ⟨some 62, .app 31752 1, [.t 55, .t 61], none⟩,
 ⟨some 7, .mv, [.t 62], none⟩] [55, 56, 57, 58, 59, 60, 61, 62]))
 (.region false [⟨some 53, .mv, [.t 10], none⟩,
 ⟨some 54, .bin .sub, [.t 53, .c (.i 1)], none⟩,
 ⟨some 10, .mv, [.t 54], none⟩] [53, 54])))
def F_spec_l20Term_W1 : LC := .loop F_spec_l20Term_L1
def F_spec_l20Term_L2 : LC :=
 (.ghost (.rename 7 9736)
 (.seq
 (.seq
 (.region false [⟨some 63, .mv, [.t 7], none⟩,
 ⟨some 64, .len, [.t 63], none⟩,
 ⟨some 65, .bin .gtr, [.t 64, .c (.i 1)], none⟩] [63, 64])
 (.cond (.t 65) [65]
 .skip
 (.exit 4)))
 (.block 5
 (.seq
 (.region false [⟨some 66, .mv, [.t 0], none⟩,
 ⟨some 67, .mv, [.t 7], none⟩,
 ⟨some 68, .len, [.t 67], none⟩,
 ⟨some 69, .bin .sub, [.t 68, .c (.i 1)], none⟩,
 ⟨some 70, .call n_spec_l20Rd_pick 35840, [.t 66, .t 69], none⟩,
 ⟨some 12, .mv, [.t 70], none⟩] [66, 67, 68, 69, 70])
 (.seq
 (.seq
 (.region false [⟨some 71, .mv, [.t 11], none⟩,
 ⟨some 72, .bin .gtr, [.t 71, .c (.i 0)], none⟩,
 ⟨some 73, .mv, [.t 72], none⟩,
 ⟨some 74, .mv, [.t 0], some (73, true)⟩,
 ⟨some 75, .call n_spec_l20Rd_pick 38400, [.t 74, .c (.i 4)], some (73, true)⟩,
 ⟨some 76, .bin .eql, [.t 75, .c (.i 0)], some (73, true)⟩,
 ⟨some 77, .pick, [.t 73, .t 76, .c (.b false)], none⟩] [71, 72, 73, 74, 75, 76])
 (.cond (.t 77) [77]
 (.seq
 (.region false [⟨some 78, .mv, [.t 11], none⟩,
 ⟨some 79, .bin .sub, [.t 78, .c (.i 1)], none⟩,
 ⟨some 11, .mv, [.t 79], none⟩] [78, 79])
 (.seq
 (.region false [⟨some 80, .mv, [.t 7], none⟩,
 ⟨some 81, .mv, [.t 12], none⟩,
 ⟨some 82, .bslice 42000 0 2 (.st [.i 0, .i 0]) [], [], none⟩,
 ⟨some 83, .mv, [.t 7], none⟩,
 ⟨some 84, .mv, [.t 12], none⟩,
 ⟨some 85, .idxa 1, [.t 83, .t 84], none⟩,
 ⟨some 86, .load 1 false, [.t 85], none⟩,
 ⟨some 87, .app 44560 2, [.t 82, .t 86], none⟩,
 ⟨some 88, .build [.i 0, .i 0] [(0, 1)], [.c (.i 1)], none⟩,
 ⟨some 89, .bslice 45584 1 2 (.st [.i 0, .i 0]) [0], [.t 88], none⟩,
 ⟨some 90, .app 46096 2, [.t 87, .t 89], none⟩,
 ⟨some 91, .idxa 1, [.t 80, .t 81], none⟩,
 ⟨none, .store 1, [.t 91, .t 90], none⟩] [12, 80, 81, 82, 83, 84, 85, 86, 87, 88, 89, 90, 91])
 (.exit 5)))
 .skip))
 (.seq
 (.region true [⟨some 92, .bslice 47120 0 2 (.st [.i 0, .i 0]) [], [], none⟩,
 ⟨some 93, .mv, [.t 7], none⟩,
 ⟨some 94, .mv, [.t 12], none⟩,
 ⟨some 95, .idxa 1, [.t 93, .t 94], none⟩,
 ⟨some 96, .load 1 false, [.t 95], none⟩,
 ⟨some 97, .app 49680 2, [.t 92, .t 96], none⟩,
 ⟨some 98, .mv, [.t 7], none⟩,
 ⟨some 99, .mv, [.t 12], none⟩,
 ⟨some 100, .bin .add, [.t 99, .c (.i 1)], none⟩,
 ⟨some 101, .idxa 1, [.t 98, .t 100], none⟩,
 ⟨some 102, .load 1 false, [.t 101], none⟩,
 ⟨some 103, .app 52752 2, [.t 97, .t 102], none⟩,
 ⟨some 104, .mv, [.t 0], none⟩,
 ⟨some 105, .call n_spec_l20Rd_pick 53760, [.t 104, .c (.i 2)], none⟩,
 ⟨some 106, .bin .add, [.c (.i 2), .t 105], none⟩,
 ⟨some 107, .build [.i 0, .i 0] [(0, 1)], [.t 106], none⟩,
 ⟨some 108, .bslice 55312 1 2 (.st [.i 0, .i 0]) [0], [.t 107], none⟩,
 ⟨some 109, .app 55824 2, [.t 103, .t 108], none⟩,
 ⟨some 13, .mv, [.t 109], none⟩] [92, 93, 94, 95, 96, 97, 98, 99, 100, 101, 102, 103, 104, 105, 106, 107, 108, 109])
 (.seq
 (.region false [⟨some 110, .bslice 56328 0 1 (.sl 1 []) [], [], none⟩,
 ⟨some 111, .mv, [.t 7], none⟩,
 ⟨some 112, .mv, [.t 12], none⟩,
 ⟨some 113, .slice false true 1, [.t 111, .t 112], none⟩,
 ⟨some 114, .app 58376 1, [.t 110, .t 113], none⟩,
 ⟨some 14, .mv, [.t 114], none⟩] [110, 111, 112, 113, 114])
 (.seq
 (.region false [⟨some 115, .mv, [.t 14], none⟩,
 ⟨some 116, .mv, [.t 13], none⟩,
 ⟨some 117, .bslice 59912 1 1 (.sl 1 []) [0], [.t 116], none⟩,
 ⟨some 118, .app 60424 1, [.t 115, .t 117], none⟩,
 ⟨some 14, .mv, [.t 118], none⟩] [13, 115, 116, 117, 118])
 (.region false [⟨some 119, .mv, [.t 14], none⟩,
 ⟨some 120, .mv, [.t 7], none⟩,
 ⟨some 121, .mv, [.t 12], none⟩,
 ⟨some 122, .bin .add, [.t 121, .c (.i 2)], none⟩,
 ⟨some 123, .slice true false 1, [.t 120, .t 122], none⟩,
 ⟨some 124, .app 63496 1, [.t 119, .t 123], none⟩,
 ⟨some 7, .mv, [.t 124], none⟩] [12, 14, 119, 120, 121, 122, 123, 124])))))))))
def F_spec_l20Term_W2 : LC := .loop F_spec_l20Term_L2
def F_spec_l20Term : LF :=
 { nparams := 3, results := [.t 6], body :=
 (.seq
 (.region false [⟨some 6, .newnil 3088, [], none⟩] [6])
 (.seq
 (.region false [⟨some 16, .mv, [.t 1], none⟩,
 ⟨some 17, .mm true, [.t 16, .c (.i 1)], none⟩,
 ⟨some 18, .mm false, [.t 17, .c (.i 5)], none⟩,
 ⟨some 1, .mv, [.t 18], none⟩] [16, 17, 18])
 (.seq
 (.region false [⟨some 19, .bslice 9736 0 1 (.sl 1 []) [], [], none⟩,
 ⟨some 7, .mv, [.t 19], none⟩] [19])
 (.seq
 (.region false [⟨some 20, .mv, [.t 0], none⟩,
 ⟨some 21, .call n_spec_l20Rd_pick 10752, [.t 20, .c (.i 2)], none⟩,
 ⟨some 22, .bin .eql, [.t 21, .c (.i 0)], none⟩,
 ⟨some 8, .mv, [.t 22], none⟩] [20, 21, 22])
 (.seq
 (.seq
 (.region false [⟨some 9, .mv, [.c (.i 0)], none⟩] [])
 (.block 0
 F_spec_l20Term_W0))
 (.seq
 (.seq
 (.region false [⟨some 44, .mv, [.t 0], none⟩,
 ⟨some 45, .call n_spec_l20Rd_pick 23040, [.t 44, .c (.i 5)], none⟩,
 ⟨some 46, .bin .add, [.c (.i 1), .t 45], none⟩,
 ⟨some 10, .mv, [.t 46], none⟩] [9, 44, 45, 46])
 (.block 2
 F_spec_l20Term_W1))
 (.seq
 (.region false [⟨some 11, .mv, [.c (.i 2)], none⟩] [1, 8, 10])
 (.seq
 (.block 4
 F_spec_l20Term_W2)
 (.seq
 (.region false [⟨some 125, .mv, [.t 7], none⟩,
 ⟨some 126, .idxa 1, [.t 125, .c (.i 0)], none⟩,
 ⟨some 127, .load 1 false, [.t 126], none⟩,
 ⟨some 15, .mv, [.t 127], none⟩] [7, 11, 125, 126, 127])
 (.ghost (.promote 15 7696)
 (.seq
 (.seq
 (.region false [⟨some 128, .mv, [.t 0], none⟩,
 ⟨some 129, .mv, [.t 2], none⟩,
 ⟨some 130, .call n_spec_l20Rd_odd 66560, [.t 128, .t 129], none⟩] [2, 128, 129])
 (.cond (.t 130) [130]
 (.seq
 (.region false [⟨some 131, .mv, [.t 0], none⟩,
 ⟨some 132, .call n_spec_l20Rd_pick 67584, [.t 131, .c (.i 3)], none⟩] [131])
 (.block 6
 (.seq
 (.region false [⟨some 137, .bin .eql, [.t 132, .c (.i 0)], none⟩,
 ⟨some 136, .mv, [.t 137], none⟩] [137])
 (.cond (.t 136) [136]
 (.seq
 (.region false [⟨some 138, .bslice 70672 0 2 (.st [.i 0, .i 0]) [], [], none⟩,
 ⟨some 6, .mv, [.t 138], none⟩] [15, 132, 138])
 .ret)
 (.seq
 (.region false [⟨some 140, .bin .eql, [.t 132, .c (.i 1)], none⟩,
 ⟨some 139, .mv, [.t 140], none⟩] [132, 140])
 (.cond (.t 139) [139]
 (.seq
 (.region false [⟨some 141, .mv, [.t 15], none⟩,
 ⟨some 142, .build [.i 0, .i 0] [(0, 1)], [.c (.i 2)], none⟩,
 ⟨some 143, .bslice 73232 1 2 (.st [.i 0, .i 0]) [0], [.t 142], none⟩,
 ⟨some 144, .app 73744 2, [.t 141, .t 143], none⟩,
 ⟨some 6, .mv, [.t 144], none⟩] [15, 141, 142, 143, 144])
 .ret)
 (.region false [⟨some 133, .mv, [.t 15], none⟩,
 ⟨some 134, .build [.i 0, .i 0] [(0, 1), (1, 1)], [.c (.i 0), .c (.i 5)], none⟩,
 ⟨some 135, .idxa 2, [.t 133, .c (.i 0)], none⟩,
 ⟨none, .store 2, [.t 135, .t 134], none⟩] [133, 134, 135])))))))
 .skip))
 (.seq
 (.region false [⟨some 145, .mv, [.t 15], none⟩,
 ⟨some 6, .mv, [.t 145], none⟩] [15, 145])
 .ret)))))))))))) }
/-- spec.l20Known -/
def F_spec_l20Known_L0 : LC :=
 (.seq
 (.seq
 (.region false [⟨some 8, .mv, [.t 6], none⟩,
 ⟨some 9, .mv, [.t 1], none⟩,
 ⟨some 10, .bin .lss, [.t 8, .t 9], none⟩] [8, 9])
 (.cond (.t 10) [10]
 .skip
 (.exit 0)))
 (.seq
 (.block 1
 (.region false [⟨some 13, .mv, [.t 5], none⟩,
 ⟨some 14, .bslice 7176 4 1 (.i 0) [0, 1, 2, 3], [.c (.i (-1)), .c (.i (-1)), .c (.i 0), .c (.i 1)], none⟩,
 ⟨some 15, .mv, [.t 0], none⟩,
 ⟨some 16, .call n_spec_l20Rd_pick 8192, [.t 15, .c (.i 4)], none⟩,
 ⟨some 17, .idxa 1, [.t 14, .t 16], none⟩,
 ⟨some 18, .load 1 false, [.t 17], none⟩,
 ⟨some 19, .bslice 9736 1 1 (.i 0) [0], [.t 18], none⟩,
 ⟨some 20, .app 10248 1, [.t 13, .t 19], none⟩,
 ⟨some 5, .mv, [.t 20], none⟩] [13, 14, 15, 16, 17, 18, 19, 20]))
 (.region false [⟨some 11, .mv, [.t 6], none⟩,
 ⟨some 12, .bin .add, [.t 11, .c (.i 1)], none⟩,
 ⟨some 6, .mv, [.t 12], none⟩] [11, 12])))
def F_spec_l20Known_W0 : LC := .loop F_spec_l20Known_L0
def F_spec_l20Known : LF :=
 { nparams := 2, results := [.t 4], body :=
 (.seq
 (.region false [⟨some 4, .newnil 2056, [], none⟩] [4])
 (.seq
 (.region false [⟨some 7, .bslice 3592 0 1 (.i 0) [], [], none⟩,
 ⟨some 5, .mv, [.t 7], none⟩] [7])
 (.seq
 (.seq
 (.region false [⟨some 6, .mv, [.c (.i 0)], none⟩] [])
 (.block 0
 F_spec_l20Known_W0))
 (.seq
 (.seq
 (.region false [⟨some 21, .mv, [.t 0], none⟩,
 ⟨some 22, .call n_spec_l20Rd_odd 11264, [.t 21, .c (.i 24)], none⟩] [1, 6, 21])
 (.cond (.t 22) [22]
 (.seq
 (.region false [⟨some 23, .mv, [.t 5], none⟩,
 ⟨some 24, .bslice 12296 1 1 (.i 0) [0], [.c (.i 0)], none⟩,
 ⟨some 25, .app 12808 1, [.t 23, .t 24], none⟩,
 ⟨some 4, .mv, [.t 25], none⟩] [5, 23, 24, 25])
 .ret)
 .skip))
 (.seq
 (.region false [⟨some 26, .mv, [.t 5], none⟩,
 ⟨some 4, .mv, [.t 26], none⟩] [5, 26])
 .ret))))) }
/-- impl.TermOk -/
def F_impl_TermOk_L0 : LC :=
 (.seq
 (.region false [⟨some 21, .bin .lss, [.t 20, .t 19], none⟩] [])
 (.seq
 (.cond (.t 21) [21]
 .skip
 (.exit 0))
 (.seq
 (.block 1
 (.seq
 (.region false [⟨some 22, .idxa 2, [.t 18, .t 20], none⟩,
 ⟨some 23, .load 2 true, [.t 22], none⟩,
 ⟨some 7, .alloc 3600 (.st [.i 0, .i 0]), [], none⟩,
 ⟨none, .store 2, [.t 7, .t 23], none⟩] [22, 23])
 (.seq
 (.region false [⟨some 24, .fld 0 1 false, [.t 7], none⟩,
 ⟨some 25, .load 1 false, [.t 24], none⟩,
 ⟨some 26, .call n_impl_partsTaken 13312, [.t 25], none⟩,
 ⟨some 8, .mv, [.t 26], none⟩] [24, 25, 26])
 (.seq
 (.seq
 (.region false [⟨some 27, .mv, [.t 0], none⟩,
 ⟨some 28, .load 2 true, [.t 7], none⟩,
 ⟨some 29, .call n_impl_markOk 14848, [.t 27, .t 28], none⟩,
 ⟨some 30, .un .not, [.t 29], none⟩,
 ⟨some 31, .mv, [.t 30], none⟩,
 ⟨some 32, .mv, [.t 5], some (31, false)⟩,
 ⟨some 33, .mv, [.t 8], some (31, false)⟩,
 ⟨some 34, .bin .lss, [.t 32, .t 33], some (31, false)⟩,
 ⟨some 35, .pick, [.t 31, .c (.b true), .t 34], none⟩] [7, 27, 28, 29, 30, 31, 32, 33, 34])
 (.cond (.t 35) [35]
 (.seq
 (.region false [⟨some 4, .mv, [.c (.b false)], none⟩] [0, 5, 8, 18, 19, 20])
 .ret)
 .skip))
 (.region false [⟨some 36, .mv, [.t 5], none⟩,
 ⟨some 37, .mv, [.t 8], none⟩,
 ⟨some 38, .bin .sub, [.c (.i 1), .t 37], none⟩,
 ⟨some 39, .bin .add, [.t 36, .t 38], none⟩,
 ⟨some 5, .mv, [.t 39], none⟩] [8, 36, 37, 38, 39])))))
 (.region false [⟨some 40, .bin .add, [.t 20, .c (.i 1)], none⟩,
 ⟨some 20, .mv, [.t 40], none⟩] [40]))))
def F_impl_TermOk_W0 : LC := .loop F_impl_TermOk_L0
def F_impl_TermOk : LF :=
 { nparams := 2, results := [.t 4], body :=
 (.seq
 (.region false [⟨some 4, .mv, [.c (.b false)], none⟩] [4])
 (.seq
 (.seq
 (.region false [⟨some 9, .mv, [.t 0], none⟩,
 ⟨some 10, .call n_impl_manyOk 5120, [.t 9], none⟩,
 ⟨some 11, .un .not, [.t 10], none⟩,
 ⟨some 12, .mv, [.t 11], none⟩,
 ⟨some 13, .mv, [.t 1], some (12, false)⟩,
 ⟨some 14, .len, [.t 13], some (12, false)⟩,
 ⟨some 15, .call n_impl_isWithin 7680, [.t 14, .c (.i 1), .c (.i 13)], some (12, false)⟩,
 ⟨some 16, .un .not, [.t 15], some (12, false)⟩,
 ⟨some 17, .pick, [.t 12, .c (.b true), .t 16], none⟩] [9, 10, 11, 12, 13, 14, 15, 16])
 (.cond (.t 17) [17]
 (.seq
 (.region false [⟨some 4, .mv, [.c (.b false)], none⟩] [0, 1])
 .ret)
 .skip))
 (.seq
 (.region false [⟨some 5, .mv, [.c (.i 0)], none⟩] [])
 (.seq
 (.seq
 (.region false [⟨some 18, .mv, [.t 1], none⟩,
 ⟨some 19, .len, [.t 18], none⟩,
 ⟨some 20, .mv, [.c (.i 0)], none⟩] [1])
 (.block 0
 F_impl_TermOk_W0))
 (.seq
 (.region false [⟨some 41, .mv, [.t 5], none⟩,
 ⟨some 42, .bin .eql, [.t 41, .c (.i 1)], none⟩,
 ⟨some 4, .mv, [.t 42], none⟩] [0, 5, 18, 19, 20, 41, 42])
 .ret))))) }
/-- impl.KnownOk -/
def F_impl_KnownOk_L0 : LC :=
 (.seq
 (.region false [⟨some 19, .bin .lss, [.t 18, .t 17], none⟩] [])
 (.seq
 (.cond (.t 19) [19]
 .skip
 (.exit 0))
 (.seq
 (.block 1
 (.seq
 (.region false [⟨some 20, .idxa 1, [.t 16, .t 18], none⟩,
 ⟨some 21, .load 1 false, [.t 20], none⟩,
 ⟨some 6, .mv, [.t 21], none⟩] [20, 21])
 (.seq
 (.region false [⟨some 22, .mv, [.t 6], none⟩,
 ⟨some 23, .bin .neq, [.t 22, .c (.i (-1))], none⟩,
 ⟨some 24, .mv, [.t 23], none⟩,
 ⟨some 25, .mv, [.t 6], some (24, true)⟩,
 ⟨some 26, .bin .neq, [.t 25, .c (.i 0)], some (24, true)⟩,
 ⟨some 27, .pick, [.t 24, .t 26, .c (.b false)], none⟩,
 ⟨some 28, .mv, [.t 27], none⟩,
 ⟨some 29, .mv, [.t 6], some (28, true)⟩,
 ⟨some 30, .bin .neq, [.t 29, .c (.i 1)], some (28, true)⟩,
 ⟨some 31, .pick, [.t 28, .t 30, .c (.b false)], none⟩] [6, 22, 23, 24, 25, 26, 27, 28, 29, 30])
 (.cond (.t 31) [31]
 (.seq
 (.region false [⟨some 4, .mv, [.c (.b false)], none⟩] [16, 17, 18])
 .ret)
 .skip))))
 (.region false [⟨some 32, .bin .add, [.t 18, .c (.i 1)], none⟩,
 ⟨some 18, .mv, [.t 32], none⟩] [32]))))
def F_impl_KnownOk_W0 : LC := .loop F_impl_KnownOk_L0
def F_impl_KnownOk : LF :=
 { nparams := 2, results := [.t 4], body :=
 (.seq
 (.region false [⟨some 4, .mv, [.c (.b false)], none⟩] [4])
 (.seq
 (.seq
 (.region false [⟨some 7, .mv, [.t 0], none⟩,
 ⟨some 8, .call n_impl_manyOk 4096, [.t 7], none⟩,
 ⟨some 9, .un .not, [.t 8], none⟩,
 ⟨some 10, .mv, [.t 9], none⟩,
 ⟨some 11, .mv, [.t 1], some (10, false)⟩,
 ⟨some 12, .len, [.t 11], some (10, false)⟩,
 ⟨some 13, .mv, [.t 0], some (10, false)⟩,
 ⟨some 14, .bin .neq, [.t 12, .t 13], some (10, false)⟩,
 ⟨some 15, .pick, [.t 10, .c (.b true), .t 14], none⟩] [0, 7, 8, 9, 10, 11, 12, 13, 14])
 (.cond (.t 15) [15]
 (.seq
 (.region false [⟨some 4, .mv, [.c (.b false)], none⟩] [1])
 .ret)
 .skip))
 (.seq
 (.seq
 (.region false [⟨some 16, .mv, [.t 1], none⟩,
 ⟨some 17, .len, [.t 16], none⟩,
 ⟨some 18, .mv, [.c (.i 0)], none⟩] [1])
 (.block 0
 F_impl_KnownOk_W0))
 (.seq
 (.region false [⟨some 4, .mv, [.c (.b true)], none⟩] [16, 17, 18])
 .ret)))) }
/-- impl.valueAmong -/
def F_impl_valueAmong : LF :=
 { nparams := 2, results := [.t 4], body :=
 (.seq
 (.region false [⟨some 4, .mv, [.c (.i 0)], none⟩] [4])
 (.seq
 (.seq
 (.region false [⟨some 5, .mv, [.t 0], none⟩,
 ⟨some 6, .mv, [.t 1], none⟩,
 ⟨some 7, .bin .and, [.t 5, .t 6], none⟩] [0, 5, 6])
 (.block 0
 (.seq
 (.region false [⟨some 9, .mv, [.t 1], none⟩,
 ⟨some 10, .bin .eql, [.t 7, .t 9], none⟩,
 ⟨some 8, .mv, [.t 10], none⟩] [1, 9, 10])
 (.cond (.t 8) [8]
 (.seq
 (.region false [⟨some 4, .mv, [.c (.i 1)], none⟩] [7])
 .ret)
 (.seq
 (.region false [⟨some 12, .bin .eql, [.t 7, .c (.w (0#32))], none⟩,
 ⟨some 11, .mv, [.t 12], none⟩] [7, 12])
 (.cond (.t 11) [11]
 (.seq
 (.region false [⟨some 4, .mv, [.c (.i 0)], none⟩] [])
 .ret)
 .skip))))))
 (.seq
 (.region false [⟨some 4, .mv, [.c (.i (-1))], none⟩] [])
 .ret))) }
/-- impl.trueStates -/
def F_impl_trueStates : LF :=
 { nparams := 1, results := [.t 2], body :=
 (.seq
 (.region false [⟨some 2, .mv, [.c (.w (0#32))], none⟩] [2])
 (.seq
 (.region false [⟨some 3, .mv, [.t 0], none⟩,
 ⟨some 4, .call n_impl_foldTerm_uint32 2048, [.t 3, .c (.fn n_impl_statesOfPart [])], none⟩,
 ⟨some 2, .mv, [.t 4], none⟩] [0, 3, 4])
 .ret)) }
/-- impl.agreeingStates -/
def F_impl_agreeingStates_L0 : LC :=
 (.seq
 (.region false [⟨some 9, .bin .lss, [.t 8, .t 7], none⟩] [])
 (.seq
 (.cond (.t 9) [9]
 .skip
 (.exit 0))
 (.seq
 (.block 1
 (.seq
 (.region false [⟨some 10, .mv, [.t 8], none⟩,
 ⟨some 11, .idxa 1, [.t 6, .t 8], none⟩,
 ⟨some 12, .load 1 false, [.t 11], none⟩,
 ⟨some 4, .mv, [.t 10], none⟩,
 ⟨some 5, .mv, [.t 12], none⟩] [10, 11, 12])
 (.seq
 (.region false [⟨some 13, .mv, [.t 5], none⟩,
 ⟨some 14, .bin .neq, [.t 13, .c (.i (-1))], none⟩] [13])
 (.cond (.t 14) [14]
 (.region false [⟨some 15, .mv, [.t 3], none⟩,
 ⟨some 16, .mv, [.t 4], none⟩,
 ⟨some 17, .mv, [.t 5], none⟩,
 ⟨some 18, .call n_impl_statesSaying 9216, [.t 16, .t 17], none⟩,
 ⟨some 19, .bin .and, [.t 15, .t 18], none⟩,
 ⟨some 3, .mv, [.t 19], none⟩] [4, 5, 15, 16, 17, 18, 19])
 .skip))))
 (.region false [⟨some 20, .bin .add, [.t 8, .c (.i 1)], none⟩,
 ⟨some 8, .mv, [.t 20], none⟩] [4, 5, 20]))))
def F_impl_agreeingStates_W0 : LC := .loop F_impl_agreeingStates_L0
def F_impl_agreeingStates : LF :=
 { nparams := 1, results := [.t 2], body :=
 (.seq
 (.region false [⟨some 2, .mv, [.c (.w (0#32))], none⟩] [2])
 (.seq
 (.region false [⟨some 3, .mv, [.c (.w (4294967295#32))], none⟩] [])
 (.seq
 (.seq
 (.region false [⟨some 6, .mv, [.t 0], none⟩,
 ⟨some 7, .len, [.t 6], none⟩,
 ⟨some 8, .mv, [.c (.i 0)], none⟩] [0])
 (.block 0
 F_impl_agreeingStates_W0))
 (.seq
 (.region false [⟨some 21, .mv, [.t 3], none⟩,
 ⟨some 2, .mv, [.t 21], none⟩] [3, 6, 7, 8, 21])
 .ret)))) }
/-- spec.l3Forced -/
def F_spec_l3Forced_L0 : LC :=
 (.seq
 (.seq
 (.region false [⟨some 11, .mv, [.t 9], none⟩,
 ⟨some 12, .mv, [.t 0], none⟩,
 ⟨some 13, .bin .shl, [.c (.i 1), .t 12], none⟩,
 ⟨some 14, .bin .lss, [.t 11, .t 13], none⟩] [11, 12, 13])
 (.cond (.t 14) [14]
 .skip
 (.exit 0)))
 (.seq
 (.block 1
 (.seq
 (.seq
 (.region false [⟨some 17, .mv, [.t 2], none⟩,
 ⟨some 18, .mv, [.t 9], none⟩,
 ⟨some 19, .call n_spec_l1Agrees 9728, [.t 17, .t 18], none⟩,
 ⟨some 20, .un .not, [.t 19], none⟩] [17, 18, 19])
 (.cond (.t 20) [20]
 (.exit 1)
 .skip))
 (.seq
 (.region false [⟨some 21, .mv, [.t 1], none⟩,
 ⟨some 22, .mv, [.t 9], none⟩,
 ⟨some 23, .bin .shr, [.t 21, .t 22], none⟩,
 ⟨some 24, .bin .rem, [.t 23, .c (.i 2)], none⟩,
 ⟨some 10, .mv, [.t 24], none⟩] [21, 22, 23, 24])
 (.seq
 (.seq
 (.region false [⟨some 25, .mv, [.t 8], none⟩,
 ⟨some 26, .un .not, [.t 25], none⟩,
 ⟨some 27, .mv, [.t 26], none⟩,
 ⟨some 28, .mv, [.t 10], some (27, true)⟩,
 ⟨some 29, .mv, [.t 7], some (27, true)⟩,
 ⟨some 30, .bin .neq, [.t 28, .t 29], some (27, true)⟩,
 ⟨some 31, .pick, [.t 27, .t 30, .c (.b false)], none⟩] [7, 8, 25, 26, 27, 28, 29, 30])
 (.cond (.t 31) [31]
 (.seq
 (.region false [⟨some 6, .mv, [.c (.i (-1))], none⟩] [0, 1, 2, 9, 10])
 .ret)
 .skip))
 (.seq
 (.region false [⟨some 32, .mv, [.t 10], none⟩,
 ⟨some 7, .mv, [.t 32], none⟩] [10, 32])
 (.region false [⟨some 8, .mv, [.c (.b false)], none⟩] []))))))
 (.region false [⟨some 15, .mv, [.t 9], none⟩,
 ⟨some 16, .bin .add, [.t 15, .c (.i 1)], none⟩,
 ⟨some 9, .mv, [.t 16], none⟩] [15, 16])))
def F_spec_l3Forced_W0 : LC := .loop F_spec_l3Forced_L0
def F_spec_l3Forced : LF :=
 { nparams := 3, results := [.t 6], body :=
 (.seq
 (.region false [⟨some 6, .mv, [.c (.i 0)], none⟩] [6])
 (.seq
 (.region false [⟨some 7, .mv, [.c (.i (-1))], none⟩] [])
 (.seq
 (.region false [⟨some 8, .mv, [.c (.b true)], none⟩] [])
 (.seq
 (.seq
 (.region false [⟨some 9, .mv, [.c (.i 0)], none⟩] [])
 (.block 0
 F_spec_l3Forced_W0))
 (.seq
 (.region false [⟨some 33, .mv, [.t 7], none⟩,
 ⟨some 6, .mv, [.t 33], none⟩] [0, 1, 2, 7, 8, 9, 33])
 .ret))))) }
/-- spec.l3Table -/
def F_spec_l3Table_L0 : LC :=
 (.seq
 (.seq
 (.region false [⟨some 7, .mv, [.t 6], none⟩,
 ⟨some 8, .mv, [.t 0], none⟩,
 ⟨some 9, .bin .shl, [.c (.i 1), .t 8], none⟩,
 ⟨some 10, .bin .lss, [.t 7, .t 9], none⟩] [7, 8, 9])
 (.cond (.t 10) [10]
 .skip
 (.exit 0)))
 (.seq
 (.block 1
 (.region false [⟨some 13, .mv, [.t 5], none⟩,
 ⟨some 14, .mv, [.t 1], none⟩,
 ⟨some 15, .mv, [.t 6], none⟩,
 ⟨some 16, .call n_spec_l3Value 8192, [.t 14, .t 15], none⟩,
 ⟨some 17, .mv, [.t 6], none⟩,
 ⟨some 18, .bin .shl, [.t 16, .t 17], none⟩,
 ⟨some 19, .bin .or, [.t 13, .t 18], none⟩,
 ⟨some 5, .mv, [.t 19], none⟩] [13, 14, 15, 16, 17, 18, 19]))
 (.region false [⟨some 11, .mv, [.t 6], none⟩,
 ⟨some 12, .bin .add, [.t 11, .c (.i 1)], none⟩,
 ⟨some 6, .mv, [.t 12], none⟩] [11, 12])))
def F_spec_l3Table_W0 : LC := .loop F_spec_l3Table_L0
def F_spec_l3Table : LF :=
 { nparams := 2, results := [.t 4], body :=
 (.seq
 (.region false [⟨some 4, .mv, [.c (.i 0)], none⟩] [4])
 (.seq
 (.region false [⟨some 5, .mv, [.c (.i 0)], none⟩] [])
 (.seq
 (.seq
 (.region false [⟨some 6, .mv, [.c (.i 0)], none⟩] [])
 (.block 0
 F_spec_l3Table_W0))
 (.seq
 (.region false [⟨some 20, .mv, [.t 5], none⟩,
 ⟨some 4, .mv, [.t 20], none⟩] [0, 1, 5, 6, 20])
 .ret)))) }
/-- impl.TestsOk -/
def F_impl_TestsOk_L0 : LC :=
 (.seq
 (.region false [⟨some 12, .bin .lss, [.t 11, .t 10], none⟩] [])
 (.seq
 (.cond (.t 12) [12]
 .skip
 (.exit 0))
 (.seq
 (.block 1
 (.seq
 (.region false [⟨some 13, .idxa 2, [.t 9, .t 11], none⟩,
 ⟨some 14, .load 2 true, [.t 13], none⟩,
 ⟨some 4, .alloc 2064 (.st [.i 0, .i 0]), [], none⟩,
 ⟨none, .store 2, [.t 4, .t 14], none⟩] [13, 14])
 (.seq
 (.region false [⟨some 15, .fld 0 1 false, [.t 4], none⟩,
 ⟨some 16, .load 1 false, [.t 15], none⟩,
 ⟨some 17, .call n_impl_isWithin 8704, [.t 16, .c (.i 1), .c (.i 9)], none⟩,
 ⟨some 18, .un .not, [.t 17], none⟩,
 ⟨some 19, .mv, [.t 18], none⟩,
 ⟨some 20, .fld 1 1 false, [.t 4], some (19, false)⟩,
 ⟨some 21, .load 1 false, [.t 20], some (19, false)⟩,
 ⟨some 22, .call n_impl_isWithin 11264, [.t 21, .c (.i 1), .c (.i 5)], some (19, false)⟩,
 ⟨some 23, .un .not, [.t 22], some (19, false)⟩,
 ⟨some 24, .pick, [.t 19, .c (.b true), .t 23], none⟩] [4, 15, 16, 17, 18, 19, 20, 21, 22, 23])
 (.cond (.t 24) [24]
 (.seq
 (.region false [⟨some 2, .mv, [.c (.b false)], none⟩] [9, 10, 11])
 .ret)
 .skip))))
 (.region false [⟨some 25, .bin .add, [.t 11, .c (.i 1)], none⟩,
 ⟨some 11, .mv, [.t 25], none⟩] [25]))))
def F_impl_TestsOk_W0 : LC := .loop F_impl_TestsOk_L0
def F_impl_TestsOk : LF :=
 { nparams := 1, results := [.t 2], body :=
 (.seq
 (.region false [⟨some 2, .mv, [.c (.b false)], none⟩] [2])
 (.seq
 (.seq
 (.region false [⟨some 5, .mv, [.t 0], none⟩,
 ⟨some 6, .len, [.t 5], none⟩,
 ⟨some 7, .call n_impl_manyOk 3584, [.t 6], none⟩,
 ⟨some 8, .un .not, [.t 7], none⟩] [5, 6, 7])
 (.cond (.t 8) [8]
 (.seq
 (.region false [⟨some 2, .mv, [.c (.b false)], none⟩] [0])
 .ret)
 .skip))
 (.seq
 (.seq
 (.region false [⟨some 9, .mv, [.t 0], none⟩,
 ⟨some 10, .len, [.t 9], none⟩,
 ⟨some 11, .mv, [.c (.i 0)], none⟩] [0])
 (.block 0
 F_impl_TestsOk_W0))
 (.seq
 (.region false [⟨some 2, .mv, [.c (.b true)], none⟩] [9, 10, 11])
 .ret)))) }
/-- impl.StateOk -/
def F_impl_StateOk : LF :=
 { nparams := 2, results := [.t 4], body :=
 (.seq
 (.region false [⟨some 4, .mv, [.c (.b false)], none⟩] [4])
 (.seq
 (.region false [⟨some 5, .mv, [.t 0], none⟩,
 ⟨some 6, .call n_impl_manyOk 3072, [.t 5], none⟩,
 ⟨some 7, .mv, [.t 6], none⟩,
 ⟨some 8, .mv, [.t 1], some (7, true)⟩,
 ⟨some 9, .mv, [.t 0], some (7, true)⟩,
 ⟨some 10, .call n_impl_statesOf 5120, [.t 9], some (7, true)⟩,
 ⟨some 11, .bin .sub, [.t 10, .c (.i 1)], some (7, true)⟩,
 ⟨some 12, .call n_impl_isWithin 6144, [.t 8, .c (.i 0), .t 11], some (7, true)⟩,
 ⟨some 13, .pick, [.t 7, .t 12, .c (.b false)], none⟩,
 ⟨some 4, .mv, [.t 13], none⟩] [0, 1, 5, 6, 7, 8, 9, 10, 11, 12, 13])
 .ret)) }
/-- impl.outcomeIn -/
def F_impl_outcomeIn : LF :=
 { nparams := 2, results := [.t 4], body :=
 (.seq
 (.region false [⟨some 4, .mv, [.c (.i 0)], none⟩] [4])
 (.seq
 (.region false [⟨some 5, .mv, [.t 0], none⟩,
 ⟨some 6, .mv, [.t 1], none⟩,
 ⟨some 7, .bin .shr, [.t 5, .t 6], none⟩,
 ⟨some 8, .bin .and, [.t 7, .c (.i 1)], none⟩,
 ⟨some 4, .mv, [.t 8], none⟩] [0, 1, 5, 6, 7, 8])
 .ret)) }
/-- impl.hasState -/
def F_impl_hasState : LF :=
 { nparams := 2, results := [.t 4], body :=
 (.seq
 (.region false [⟨some 4, .mv, [.c (.b false)], none⟩] [4])
 (.seq
 (.region false [⟨some 5, .mv, [.t 0], none⟩,
 ⟨some 6, .mv, [.t 1], none⟩,
 ⟨some 7, .bin .shr, [.t 5, .t 6], none⟩,
 ⟨some 8, .bin .and, [.t 7, .c (.w (1#32))], none⟩,
 ⟨some 9, .bin .eql, [.t 8, .c (.w (1#32))], none⟩,
 ⟨some 4, .mv, [.t 9], none⟩] [0, 1, 5, 6, 7, 8, 9])
 .ret)) }
/-- spec.l1In -/
def F_spec_l1In : LF :=
 { nparams := 3, results := [.t 6], body :=
 (.seq
 (.region false [⟨some 6, .mv, [.c (.b false)], none⟩] [6])
 (.seq
 (.region false [⟨some 7, .mv, [.t 0], none⟩,
 ⟨some 8, .mv, [.t 1], none⟩,
 ⟨some 9, .bin .geq, [.t 7, .t 8], none⟩,
 ⟨some 10, .mv, [.t 9], none⟩,
 ⟨some 11, .mv, [.t 0], some (10, true)⟩,
 ⟨some 12, .mv, [.t 2], some (10, true)⟩,
 ⟨some 13, .bin .leq, [.t 11, .t 12], some (10, true)⟩,
 ⟨some 14, .pick, [.t 10, .t 13, .c (.b false)], none⟩,
 ⟨some 6, .mv, [.t 14], none⟩] [0, 1, 2, 7, 8, 9, 10, 11, 12, 13, 14])
 .ret)) }
/-- impl.knownBy -/
def F_impl_knownBy_L0 : LC :=
 (.seq
 (.region false [⟨some 14, .bin .lss, [.t 13, .t 12], none⟩] [])
 (.seq
 (.cond (.t 14) [14]
 .skip
 (.exit 0))
 (.seq
 (.block 1
 (.seq
 (.region false [⟨some 15, .mv, [.t 13], none⟩,
 ⟨some 8, .mv, [.t 15], none⟩] [15])
 (.seq
 (.region false [⟨some 16, .mv, [.t 7], none⟩,
 ⟨some 17, .mv, [.t 8], none⟩,
 ⟨some 18, .idxa 1, [.t 16, .t 17], none⟩,
 ⟨none, .store 1, [.t 18, .c (.i (-1))], none⟩] [16, 17, 18])
 (.seq
 (.region false [⟨some 19, .mv, [.t 2], none⟩,
 ⟨some 20, .mv, [.t 8], none⟩,
 ⟨some 21, .call n_impl_hasTest 10752, [.t 19, .t 20], none⟩] [19, 20])
 (.cond (.t 21) [21]
 (.region false [⟨some 22, .mv, [.t 7], none⟩,
 ⟨some 23, .mv, [.t 8], none⟩,
 ⟨some 24, .mv, [.t 1], none⟩,
 ⟨some 25, .mv, [.t 8], none⟩,
 ⟨some 26, .call n_impl_outcomeIn 13312, [.t 24, .t 25], none⟩,
 ⟨some 27, .idxa 1, [.t 22, .t 23], none⟩,
 ⟨none, .store 1, [.t 27, .t 26], none⟩] [8, 22, 23, 24, 25, 26, 27])
 .skip)))))
 (.region false [⟨some 28, .bin .add, [.t 13, .c (.i 1)], none⟩,
 ⟨some 13, .mv, [.t 28], none⟩] [8, 28]))))
def F_impl_knownBy_W0 : LC := .loop F_impl_knownBy_L0
def F_impl_knownBy : LF :=
 { nparams := 3, results := [.t 6], body :=
 (.seq
 (.region false [⟨some 6, .newnil 3080, [], none⟩] [6])
 (.seq
 (.region false [⟨some 9, .mv, [.t 0], none⟩,
 ⟨some 10, .make 5128 1 (.i 0), [.t 9, .t 9], none⟩,
 ⟨some 7, .mv, [.t 10], none⟩] [0, 9, 10])
 (.seq
 (.seq
 (.region false [⟨some 11, .mv, [.t 7], none⟩,
 ⟨some 12, .len, [.t 11], none⟩,
 ⟨some 13, .mv, [.c (.i 0)], none⟩] [11])
 (.block 0
 F_impl_knownBy_W0))
 (.seq
 (.region false [⟨some 29, .mv, [.t 7], none⟩,
 ⟨some 6, .mv, [.t 29], none⟩] [1, 2, 7, 12, 13, 29])
 .ret)))) }
/-- spec.l20State -/
def F_spec_l20State : LF :=
 { nparams := 2, results := [.t 4, .t 5, .t 6], body :=
 (.seq
 (.region false [⟨some 4, .mv, [.c (.i 0)], none⟩,
 ⟨some 5, .newnil 2576, [], none⟩,
 ⟨some 6, .mv, [.c (.i 0)], none⟩] [4, 5, 6])
 (.seq
 (.region false [⟨some 8, .mv, [.t 0], none⟩,
 ⟨some 9, .call n_spec_l20Rd_pick 4608, [.t 8, .c (.i 5)], none⟩,
 ⟨some 10, .bin .add, [.c (.i 1), .t 9], none⟩,
 ⟨some 7, .mv, [.t 10], none⟩] [8, 9, 10])
 (.seq
 (.region true [⟨some 11, .mv, [.t 7], none⟩,
 ⟨some 12, .mv, [.t 0], none⟩,
 ⟨some 13, .mv, [.t 7], none⟩,
 ⟨some 14, .mv, [.t 1], none⟩,
 ⟨some 15, .call n_spec_l20Term 7680, [.t 12, .t 13, .t 14], none⟩,
 ⟨some 16, .mv, [.t 0], none⟩,
 ⟨some 17, .mv, [.t 7], none⟩,
 ⟨some 18, .bin .shl, [.c (.i 1), .t 17], none⟩,
 ⟨some 19, .call n_spec_l20Rd_pick 9728, [.t 16, .t 18], none⟩,
 ⟨some 20, .mv, [.t 0], none⟩,
 ⟨some 21, .call n_spec_l20Rd_pick 10752, [.t 20, .c (.i 40)], none⟩,
 ⟨some 22, .bin .quo, [.t 21, .c (.i 39)], none⟩,
 ⟨some 23, .bin .mul, [.t 22, .c (.i 32)], none⟩,
 ⟨some 24, .bin .add, [.t 19, .t 23], none⟩,
 ⟨some 4, .mv, [.t 11], none⟩,
 ⟨some 5, .mv, [.t 15], none⟩,
 ⟨some 6, .mv, [.t 24], none⟩] [1, 7, 11, 12, 13, 14, 15, 16, 17, 18, 19, 20, 21, 22, 23, 24])
 .ret))) }
/-- impl.setsWhere -/
def F_impl_setsWhere_L0 : LC :=
 (.seq
 (.region false [⟨some 10, .bin .lss, [.t 9, .t 8], none⟩] [])
 (.seq
 (.cond (.t 10) [10]
 .skip
 (.exit 0))
 (.seq
 (.block 1
 (.seq
 (.region false [⟨some 11, .mv, [.t 9], none⟩,
 ⟨some 6, .mv, [.t 11], none⟩] [11])
 (.seq
 (.region false [⟨some 12, .mv, [.t 1], none⟩,
 ⟨some 13, .mv, [.t 6], none⟩,
 ⟨some 14, .calld 7168, [.t 12, .t 13], none⟩] [12, 13])
 (.cond (.t 14) [14]
 (.region false [⟨some 15, .mv, [.t 5], none⟩,
 ⟨some 16, .mv, [.t 6], none⟩,
 ⟨some 17, .bslice 8712 1 1 (.i 0) [0], [.t 16], none⟩,
 ⟨some 18, .app 9224 1, [.t 15, .t 17], none⟩,
 ⟨some 5, .mv, [.t 18], none⟩] [6, 15, 16, 17, 18])
 .skip))))
 (.region false [⟨some 19, .bin .add, [.t 9, .c (.i 1)], none⟩,
 ⟨some 9, .mv, [.t 19], none⟩] [6, 19]))))
def F_impl_setsWhere_W0 : LC := .loop F_impl_setsWhere_L0
def F_impl_setsWhere : LF :=
 { nparams := 2, results := [.t 4], body :=
 (.seq
 (.region false [⟨some 4, .newnil 2056, [], none⟩] [4])
 (.seq
 (.region false [⟨some 5, .newnil 2568, [], none⟩] [])
 (.seq
 (.seq
 (.region false [⟨some 7, .mv, [.t 0], none⟩,
 ⟨some 8, .call n_impl_statesOf 4096, [.t 7], none⟩,
 ⟨some 9, .mv, [.c (.i 0)], none⟩] [0, 7])
 (.block 0
 F_impl_setsWhere_W0))
 (.seq
 (.region false [⟨some 20, .mv, [.t 5], none⟩,
 ⟨some 4, .mv, [.t 20], none⟩] [1, 5, 8, 9, 20])
 .ret)))) }
/-- impl.LeastProofs$1 -/
def F_impl_LeastProofs_1 : LF :=
 { nparams := 4, results := [.t 5], body :=
 (.seq
 (.region false [⟨some 5, .mv, [.c (.b false)], none⟩] [5])
 (.seq
 (.region false [⟨some 6, .load 1 false, [.t 1], none⟩,
 ⟨some 7, .load 1 false, [.t 2], none⟩,
 ⟨some 8, .load 1 false, [.t 3], none⟩,
 ⟨some 9, .mv, [.t 0], none⟩,
 ⟨some 10, .call n_impl_isLeastProof 5120, [.t 6, .t 7, .t 8, .t 9], none⟩,
 ⟨some 5, .mv, [.t 10], none⟩] [0, 1, 2, 3, 6, 7, 8, 9, 10])
 .ret)) }
/-- impl.isLeastProof -/
def F_impl_isLeastProof_L0 : LC :=
 (.seq
 (.region false [⟨some 18, .bin .lss, [.t 17, .t 16], none⟩] [])
 (.seq
 (.cond (.t 18) [18]
 .skip
 (.exit 0))
 (.seq
 (.block 1
 (.seq
 (.region false [⟨some 19, .mv, [.t 17], none⟩,
 ⟨some 9, .mv, [.t 19], none⟩] [19])
 (.seq
 (.region false [⟨some 20, .mv, [.t 3], none⟩,
 ⟨some 21, .mv, [.t 9], none⟩,
 ⟨some 22, .call n_impl_hasTest 11264, [.t 20, .t 21], none⟩,
 ⟨some 23, .mv, [.t 22], none⟩,
 ⟨some 24, .mv, [.t 0], some (23, true)⟩,
 ⟨some 25, .mv, [.t 1], some (23, true)⟩,
 ⟨some 26, .mv, [.t 2], some (23, true)⟩,
 ⟨some 27, .mv, [.t 3], some (23, true)⟩,
 ⟨some 28, .mv, [.t 9], some (23, true)⟩,
 ⟨some 29, .bin .shl, [.c (.i 1), .t 28], some (23, true)⟩,
 ⟨some 30, .bin .andNot, [.t 27, .t 29], some (23, true)⟩,
 ⟨some 31, .call n_impl_ProofOk 15872, [.t 24, .t 25, .t 26, .t 30], some (23, true)⟩,
 ⟨some 32, .pick, [.t 23, .t 31, .c (.b false)], none⟩] [9, 20, 21, 22, 23, 24, 25, 26, 27, 28, 29, 30, 31])
 (.cond (.t 32) [32]
 (.seq
 (.region false [⟨some 8, .mv, [.c (.b false)], none⟩] [0, 1, 2, 3, 16, 17])
 .ret)
 .skip))))
 (.region false [⟨some 33, .bin .add, [.t 17, .c (.i 1)], none⟩,
 ⟨some 17, .mv, [.t 33], none⟩] [33]))))
def F_impl_isLeastProof_W0 : LC := .loop F_impl_isLeastProof_L0
def F_impl_isLeastProof : LF :=
 { nparams := 4, results := [.t 8], body :=
 (.seq
 (.region false [⟨some 8, .mv, [.c (.b false)], none⟩] [8])
 (.seq
 (.seq
 (.region false [⟨some 10, .mv, [.t 0], none⟩,
 ⟨some 11, .mv, [.t 1], none⟩,
 ⟨some 12, .mv, [.t 2], none⟩,
 ⟨some 13, .mv, [.t 3], none⟩,
 ⟨some 14, .call n_impl_ProofOk 7168, [.t 10, .t 11, .t 12, .t 13], none⟩,
 ⟨some 15, .un .not, [.t 14], none⟩] [10, 11, 12, 13, 14])
 (.cond (.t 15) [15]
 (.seq
 (.region false [⟨some 8, .mv, [.c (.b false)], none⟩] [0, 1, 2, 3])
 .ret)
 .skip))
 (.seq
 (.seq
 (.region false [⟨some 16, .mv, [.t 0], none⟩,
 ⟨some 17, .mv, [.c (.i 0)], none⟩] [])
 (.block 0
 F_impl_isLeastProof_W0))
 (.seq
 (.region false [⟨some 8, .mv, [.c (.b true)], none⟩] [0, 1, 2, 3, 16, 17])
 .ret)))) }
/-- spec.l3Told -/
def F_spec_l3Told_L0 : LC :=
 (.seq
 (.seq
 (.region false [⟨some 11, .mv, [.t 8], none⟩,
 ⟨some 12, .mv, [.t 0], none⟩,
 ⟨some 13, .bin .lss, [.t 11, .t 12], none⟩] [11, 12])
 (.cond (.t 13) [13]
 .skip
 (.exit 0)))
 (.seq
 (.block 1
 (.seq
 (.region false [⟨some 9, .mv, [.c (.i (-1))], none⟩] [])
 (.seq
 (.seq
 (.region false [⟨some 16, .mv, [.t 2], none⟩,
 ⟨some 17, .mv, [.t 8], none⟩,
 ⟨some 18, .bin .shr, [.t 16, .t 17], none⟩,
 ⟨some 19, .bin .rem, [.t 18, .c (.i 2)], none⟩,
 ⟨some 20, .bin .eql, [.t 19, .c (.i 1)], none⟩] [16, 17, 18, 19])
 (.cond (.t 20) [20]
 (.region false [⟨some 21, .mv, [.t 1], none⟩,
 ⟨some 22, .mv, [.t 8], none⟩,
 ⟨some 23, .bin .shr, [.t 21, .t 22], none⟩,
 ⟨some 24, .bin .rem, [.t 23, .c (.i 2)], none⟩,
 ⟨some 9, .mv, [.t 24], none⟩] [21, 22, 23, 24])
 .skip))
 (.region false [⟨some 25, .mv, [.t 7], none⟩,
 ⟨some 26, .mv, [.t 9], none⟩,
 ⟨some 27, .bslice 13832 1 1 (.i 0) [0], [.t 26], none⟩,
 ⟨some 28, .app 14344 1, [.t 25, .t 27], none⟩,
 ⟨some 7, .mv, [.t 28], none⟩] [9, 25, 26, 27, 28]))))
 (.region false [⟨some 14, .mv, [.t 8], none⟩,
 ⟨some 15, .bin .add, [.t 14, .c (.i 1)], none⟩,
 ⟨some 8, .mv, [.t 15], none⟩] [14, 15])))
def F_spec_l3Told_W0 : LC := .loop F_spec_l3Told_L0
def F_spec_l3Told : LF :=
 { nparams := 3, results := [.t 6], body :=
 (.seq
 (.region false [⟨some 6, .newnil 3080, [], none⟩] [6])
 (.seq
 (.region false [⟨some 10, .bslice 5128 0 1 (.i 0) [], [], none⟩,
 ⟨some 7, .mv, [.t 10], none⟩] [10])
 (.seq
 (.seq
 (.region false [⟨some 8, .mv, [.c (.i 0)], none⟩] [])
 (.block 0
 F_spec_l3Told_W0))
 (.seq
 (.region false [⟨some 29, .mv, [.t 7], none⟩,
 ⟨some 6, .mv, [.t 29], none⟩] [0, 1, 2, 7, 8, 29])
 .ret)))) }
/-- impl.testsWhere -/
def F_impl_testsWhere_L0 : LC :=
 (.seq
 (.region false [⟨some 9, .bin .lss, [.t 8, .t 7], none⟩] [])
 (.seq
 (.cond (.t 9) [9]
 .skip
 (.exit 0))
 (.seq
 (.block 1
 (.seq
 (.region false [⟨some 10, .mv, [.t 8], none⟩,
 ⟨some 6, .mv, [.t 10], none⟩] [10])
 (.seq
 (.region false [⟨some 11, .mv, [.t 1], none⟩,
 ⟨some 12, .mv, [.t 6], none⟩,
 ⟨some 13, .calld 6656, [.t 11, .t 12], none⟩] [11, 12])
 (.cond (.t 13) [13]
 (.region false [⟨some 14, .mv, [.t 5], none⟩,
 ⟨some 15, .mv, [.t 6], none⟩,
 ⟨some 16, .bin .shl, [.c (.i 1), .t 15], none⟩,
 ⟨some 17, .bin .or, [.t 14, .t 16], none⟩,
 ⟨some 5, .mv, [.t 17], none⟩] [6, 14, 15, 16, 17])
 .skip))))
 (.region false [⟨some 18, .bin .add, [.t 8, .c (.i 1)], none⟩,
 ⟨some 8, .mv, [.t 18], none⟩] [6, 18]))))
def F_impl_testsWhere_W0 : LC := .loop F_impl_testsWhere_L0
def F_impl_testsWhere : LF :=
 { nparams := 2, results := [.t 4], body :=
 (.seq
 (.region false [⟨some 4, .mv, [.c (.i 0)], none⟩] [4])
 (.seq
 (.region false [⟨some 5, .mv, [.c (.i 0)], none⟩] [])
 (.seq
 (.seq
 (.region false [⟨some 7, .mv, [.t 0], none⟩,
 ⟨some 8, .mv, [.c (.i 0)], none⟩] [0])
 (.block 0
 F_impl_testsWhere_W0))
 (.seq
 (.region false [⟨some 19, .mv, [.t 5], none⟩,
 ⟨some 4, .mv, [.t 19], none⟩] [1, 5, 7, 8, 19])
 .ret)))) }
/-- impl.IdleTests$1 -/
def F_impl_IdleTests_1 : LF :=
 { gl := [0], nparams := 2, results := [.t 3], body :=
 (.seq
 (.region false [⟨some 3, .mv, [.c (.b false)], none⟩] [3])
 (.seq
 (.region true [⟨some 6, .load 1 false, [.t 1], none⟩,
 ⟨some 7, .mv, [.t 0], none⟩,
 ⟨some 8, .idxp 5 1, [.t 1048576, .t 7], none⟩,
 ⟨some 9, .load 1 false, [.t 8], none⟩,
 ⟨some 10, .bin .and, [.t 6, .t 9], none⟩,
 ⟨some 11, .load 1 false, [.t 1], none⟩,
 ⟨some 12, .mv, [.t 0], none⟩,
 ⟨some 13, .idxp 5 1, [.t 1048576, .t 12], none⟩,
 ⟨some 14, .load 1 false, [.t 13], none⟩,
 ⟨some 15, .bin .andNot, [.t 11, .t 14], none⟩,
 ⟨some 4, .mv, [.t 10], none⟩,
 ⟨some 5, .mv, [.t 15], none⟩] [1, 6, 7, 8, 9, 10, 11, 12, 13, 14, 15])
 (.seq
 (.region false [⟨some 16, .mv, [.t 4], none⟩,
 ⟨some 17, .mv, [.t 0], none⟩,
 ⟨some 18, .bin .shl, [.c (.q 1), .t 17], none⟩,
 ⟨some 19, .bin .shr, [.t 16, .t 18], none⟩,
 ⟨some 20, .mv, [.t 5], none⟩,
 ⟨some 21, .bin .eql, [.t 19, .t 20], none⟩,
 ⟨some 3, .mv, [.t 21], none⟩] [0, 4, 5, 16, 17, 18, 19, 20, 21])
 .ret))) }
/-- impl.TurnsIn$1 -/
def F_impl_TurnsIn_1 : LF :=
 { nparams := 3, results := [.t 4], body :=
 (.seq
 (.region false [⟨some 4, .mv, [.c (.b false)], none⟩] [4])
 (.seq
 (.region true [⟨some 5, .load 1 false, [.t 1], none⟩,
 ⟨some 6, .load 1 false, [.t 2], none⟩,
 ⟨some 7, .call n_impl_hasState 3584, [.t 5, .t 6], none⟩,
 ⟨some 8, .load 1 false, [.t 1], none⟩,
 ⟨some 9, .load 1 false, [.t 2], none⟩,
 ⟨some 10, .mv, [.t 0], none⟩,
 ⟨some 11, .bin .shl, [.c (.i 1), .t 10], none⟩,
 ⟨some 12, .bin .xor, [.t 9, .t 11], none⟩,
 ⟨some 13, .call n_impl_hasState 6656, [.t 8, .t 12], none⟩,
 ⟨some 14, .eqb true, [.t 7, .t 13], none⟩,
 ⟨some 4, .mv, [.t 14], none⟩] [0, 1, 2, 5, 6, 7, 8, 9, 10, 11, 12, 13, 14])
 .ret)) }
/-- laws.toMark -/
def F_laws_toMark : LF :=
 { nparams := 1, results := [.c 2 2 true], body :=
 (.seq
 (.region false [⟨some 1, .box 528, [.t 0], none⟩,
 ⟨some 2, .alloc 1040 (.st [.i 0, .i 0]), [], none⟩] [0])
 (.seq
 (.region false [⟨some 3, .alloc 1552 (.st [.i 0, .i 0]), [], none⟩] [])
 (.seq
 (.region false [⟨some 4, .fld 0 1 false, [.t 1], none⟩,
 ⟨some 5, .load 1 false, [.t 4], none⟩,
 ⟨some 6, .fld 0 1 false, [.t 3], none⟩,
 ⟨none, .store 1, [.t 6, .t 5], none⟩] [4, 5, 6])
 (.seq
 (.region false [⟨some 7, .fld 1 1 false, [.t 1], none⟩,
 ⟨some 8, .load 1 false, [.t 7], none⟩,
 ⟨some 9, .fld 1 1 false, [.t 3], none⟩,
 ⟨none, .store 1, [.t 9, .t 8], none⟩] [1, 7, 8, 9])
 (.seq
 (.region false [⟨some 10, .load 2 true, [.t 3], none⟩,
 ⟨none, .store 2, [.t 2, .t 10], none⟩] [3, 10])
 .ret))))) }
/-- laws.eqMark -/
def F_laws_eqMark : LF :=
 { nparams := 2, results := [.t 4], body :=
 (.seq
 (.region false [⟨some 2, .box 1040, [.t 0], none⟩,
 ⟨some 3, .box 1552, [.t 1], none⟩,
 ⟨some 4, .mv, [.c (.b false)], none⟩] [0, 1, 4])
 (.seq
 (.seq
 (.region false [⟨some 5, .fld 0 1 false, [.t 2], none⟩,
 ⟨some 6, .load 1 false, [.t 5], none⟩,
 ⟨some 7, .fld 0 1 false, [.t 3], none⟩,
 ⟨some 8, .load 1 false, [.t 7], none⟩,
 ⟨some 9, .bin .neq, [.t 6, .t 8], none⟩] [5, 6, 7, 8])
 (.cond (.t 9) [9]
 (.seq
 (.region false [⟨some 4, .mv, [.c (.b false)], none⟩] [2, 3])
 .ret)
 .skip))
 (.seq
 (.seq
 (.region false [⟨some 10, .fld 1 1 false, [.t 2], none⟩,
 ⟨some 11, .load 1 false, [.t 10], none⟩,
 ⟨some 12, .fld 1 1 false, [.t 3], none⟩,
 ⟨some 13, .load 1 false, [.t 12], none⟩,
 ⟨some 14, .bin .neq, [.t 11, .t 13], none⟩] [2, 3, 10, 11, 12, 13])
 (.cond (.t 14) [14]
 (.seq
 (.region false [⟨some 4, .mv, [.c (.b false)], none⟩] [])
 .ret)
 .skip))
 (.seq
 (.region false [⟨some 4, .mv, [.c (.b true)], none⟩] [])
 .ret)))) }
/-- spec.l20Rd).odd -/
def F_spec_l20Rd_odd : LF :=
 { nparams := 2, results := [.t 4], body :=
 (.seq
 (.region false [⟨some 4, .mv, [.c (.b false)], none⟩] [4])
 (.seq
 (.region false [⟨some 5, .mv, [.t 1], none⟩,
 ⟨some 6, .bin .gtr, [.t 5, .c (.i 0)], none⟩,
 ⟨some 7, .mv, [.t 6], none⟩,
 ⟨some 8, .mv, [.t 0], some (7, true)⟩,
 ⟨some 9, .mv, [.t 1], some (7, true)⟩,
 ⟨some 10, .call n_spec_l20Rd_pick 5120, [.t 8, .t 9], some (7, true)⟩,
 ⟨some 11, .mv, [.t 1], some (7, true)⟩,
 ⟨some 12, .bin .sub, [.t 11, .c (.i 1)], some (7, true)⟩,
 ⟨some 13, .bin .eql, [.t 10, .t 12], some (7, true)⟩,
 ⟨some 14, .pick, [.t 7, .t 13, .c (.b false)], none⟩,
 ⟨some 4, .mv, [.t 14], none⟩] [1, 5, 6, 7, 8, 9, 10, 11, 12, 13, 14])
 .ret)) }
/-- impl.manyOk -/
def F_impl_manyOk : LF :=
 { nparams := 1, results := [.t 2], body :=
 (.seq
 (.region false [⟨some 2, .mv, [.c (.b false)], none⟩] [2])
 (.seq
 (.region false [⟨some 3, .mv, [.t 0], none⟩,
 ⟨some 4, .call n_impl_isWithin 2048, [.t 3, .c (.i 1), .c (.i 5)], none⟩,
 ⟨some 2, .mv, [.t 4], none⟩] [0, 3, 4])
 .ret)) }
/-- impl.isWithin -/
def F_impl_isWithin : LF :=
 { nparams := 3, results := [.t 6], body :=
 (.seq
 (.region false [⟨some 6, .mv, [.c (.b false)], none⟩] [6])
 (.seq
 (.region false [⟨some 7, .mv, [.t 1], none⟩,
 ⟨some 8, .mv, [.t 0], none⟩,
 ⟨some 9, .bin .leq, [.t 7, .t 8], none⟩,
 ⟨some 10, .mv, [.t 9], none⟩,
 ⟨some 11, .mv, [.t 0], some (10, true)⟩,
 ⟨some 12, .mv, [.t 2], some (10, true)⟩,
 ⟨some 13, .bin .leq, [.t 11, .t 12], some (10, true)⟩,
 ⟨some 14, .pick, [.t 10, .t 13, .c (.b false)], none⟩,
 ⟨some 6, .mv, [.t 14], none⟩] [0, 1, 2, 7, 8, 9, 10, 11, 12, 13, 14])
 .ret)) }
/-- impl.partsTaken -/
def F_impl_partsTaken : LF :=
 { nparams := 1, results := [.t 2], body :=
 (.seq
 (.region false [⟨some 2, .mv, [.c (.i 0)], none⟩] [2])
 (.seq
 (.seq
 (.region false [⟨some 3, .mv, [.t 0], none⟩] [0])
 (.block 0
 (.seq
 (.region false [⟨some 5, .bin .eql, [.t 3, .c (.i 0)], none⟩,
 ⟨some 4, .mv, [.t 5], none⟩] [5])
 (.cond (.t 4) [4]
 (.seq
 (.region false [⟨some 2, .mv, [.c (.i 0)], none⟩] [3])
 .ret)
 (.seq
 (.region false [⟨some 7, .bin .eql, [.t 3, .c (.i 1)], none⟩,
 ⟨some 6, .mv, [.t 7], none⟩] [3, 7])
 (.cond (.t 6) [6]
 (.seq
 (.region false [⟨some 2, .mv, [.c (.i 1)], none⟩] [])
 .ret)
 .skip))))))
 (.seq
 (.region false [⟨some 2, .mv, [.c (.i 2)], none⟩] [])
 .ret))) }
/-- impl.markOk -/
def F_impl_markOk : LF :=
 { nparams := 2, results := [.t 4], body :=
 (.seq
 (.region false [⟨some 3, .box 1552, [.t 1], none⟩,
 ⟨some 4, .mv, [.c (.b false)], none⟩] [1, 4])
 (.seq
 (.seq
 (.region false [⟨some 5, .fld 0 1 false, [.t 3], none⟩,
 ⟨some 6, .load 1 false, [.t 5], none⟩,
 ⟨some 7, .bin .eql, [.t 6, .c (.i 0)], none⟩] [5, 6])
 (.cond (.t 7) [7]
 (.seq
 (.region false [⟨some 8, .fld 1 1 false, [.t 3], none⟩,
 ⟨some 9, .load 1 false, [.t 8], none⟩,
 ⟨some 10, .mv, [.t 0], none⟩,
 ⟨some 11, .bin .sub, [.t 10, .c (.i 1)], none⟩,
 ⟨some 12, .call n_impl_isWithin 6144, [.t 9, .c (.i 0), .t 11], none⟩,
 ⟨some 4, .mv, [.t 12], none⟩] [0, 3, 8, 9, 10, 11, 12])
 .ret)
 .skip))
 (.seq
 (.region false [⟨some 13, .fld 0 1 false, [.t 3], none⟩,
 ⟨some 14, .load 1 false, [.t 13], none⟩,
 ⟨some 15, .call n_impl_isWithin 7680, [.t 14, .c (.i 1), .c (.i 3)], none⟩,
 ⟨some 16, .mv, [.t 15], none⟩,
 ⟨some 17, .fld 1 1 false, [.t 3], some (16, true)⟩,
 ⟨some 18, .load 1 false, [.t 17], some (16, true)⟩,
 ⟨some 19, .bin .eql, [.t 18, .c (.i 0)], some (16, true)⟩,
 ⟨some 20, .pick, [.t 16, .t 19, .c (.b false)], none⟩,
 ⟨some 4, .mv, [.t 20], none⟩] [0, 3, 13, 14, 15, 16, 17, 18, 19, 20])
 .ret))) }
/-- impl.foldTerm[uint32] -/
def F_impl_foldTerm_uint32_L0 : LC :=
 (.seq
 (.region false [⟨some 13, .bin .lss, [.t 12, .t 11], none⟩] [])
 (.seq
 (.cond (.t 13) [13]
 .skip
 (.exit 0))
 (.seq
 (.block 1
 (.seq
 (.region false [⟨some 14, .idxa 2, [.t 10, .t 12], none⟩,
 ⟨some 15, .load 2 true, [.t 14], none⟩,
 ⟨some 7, .alloc 3600 (.st [.i 0, .i 0]), [], none⟩,
 ⟨none, .store 2, [.t 7, .t 15], none⟩] [14, 15])
 (.seq
 (.region false [⟨some 16, .mv, [.t 5], none⟩,
 ⟨some 17, .len, [.t 16], none⟩,
 ⟨some 18, .fld 0 1 false, [.t 7], none⟩,
 ⟨some 19, .load 1 false, [.t 18], none⟩,
 ⟨some 20, .call n_impl_partsTaken 10240, [.t 19], none⟩,
 ⟨some 21, .bin .sub, [.t 17, .t 20], none⟩,
 ⟨some 8, .mv, [.t 21], none⟩] [16, 17, 18, 19, 20, 21])
 (.seq
 (.region true [⟨some 22, .mv, [.t 1], none⟩,
 ⟨some 23, .load 2 true, [.t 7], none⟩,
 ⟨some 24, .mv, [.t 5], none⟩,
 ⟨some 25, .mv, [.t 8], none⟩,
 ⟨some 26, .slice true false 1, [.t 24, .t 25], none⟩,
 ⟨some 27, .calld 13824, [.t 22, .t 23, .t 26], none⟩,
 ⟨some 9, .mv, [.t 27], none⟩] [7, 22, 23, 24, 25, 26, 27])
 (.region false [⟨some 28, .mv, [.t 5], none⟩,
 ⟨some 29, .mv, [.t 8], none⟩,
 ⟨some 30, .slice false true 1, [.t 28, .t 29], none⟩,
 ⟨some 31, .mv, [.t 9], none⟩,
 ⟨some 32, .bslice 16392 1 1 (.w (0#32)) [0], [.t 31], none⟩,
 ⟨some 33, .app 16904 1, [.t 30, .t 32], none⟩,
 ⟨some 5, .mv, [.t 33], none⟩] [8, 9, 28, 29, 30, 31, 32, 33])))))
 (.region false [⟨some 34, .bin .add, [.t 12, .c (.i 1)], none⟩,
 ⟨some 12, .mv, [.t 34], none⟩] [34]))))
def F_impl_foldTerm_uint32_W0 : LC := .loop F_impl_foldTerm_uint32_L0
def F_impl_foldTerm_uint32 : LF :=
 { nparams := 2, results := [.t 4], body :=
 (.seq
 (.region false [⟨some 4, .mv, [.c (.w (0#32))], none⟩] [4])
 (.seq
 (.region false [⟨some 5, .newnil 2568, [], none⟩] [])
 (.seq
 (.seq
 (.region false [⟨some 10, .mv, [.t 0], none⟩,
 ⟨some 11, .len, [.t 10], none⟩,
 ⟨some 12, .mv, [.c (.i 0)], none⟩] [0])
 (.block 0
 F_impl_foldTerm_uint32_W0))
 (.seq
 (.region false [⟨some 35, .mv, [.t 5], none⟩,
 ⟨some 36, .idxa 1, [.t 35, .c (.i 0)], none⟩,
 ⟨some 37, .load 1 false, [.t 36], none⟩,
 ⟨some 4, .mv, [.t 37], none⟩] [1, 5, 10, 11, 12, 35, 36, 37])
 .ret)))) }
/-- impl.statesOfPart -/
def F_impl_statesOfPart : LF :=
 { gl := [0], nparams := 2, results := [.t 4], body :=
 (.seq
 (.region false [⟨some 2, .box 1040, [.t 0], none⟩,
 ⟨some 4, .mv, [.c (.w (0#32))], none⟩] [0, 4])
 (.seq
 (.seq
 (.region false [⟨some 5, .fld 0 1 false, [.t 2], none⟩,
 ⟨some 6, .load 1 false, [.t 5], none⟩] [5])
 (.block 0
 (.seq
 (.region false [⟨some 8, .bin .eql, [.t 6, .c (.i 0)], none⟩,
 ⟨some 7, .mv, [.t 8], none⟩] [8])
 (.cond (.t 7) [7]
 (.seq
 (.region false [⟨some 9, .fld 1 1 false, [.t 2], none⟩,
 ⟨some 10, .load 1 false, [.t 9], none⟩,
 ⟨some 11, .idxp 5 1, [.t 1048576, .t 10], none⟩,
 ⟨some 12, .load 1 false, [.t 11], none⟩,
 ⟨some 4, .mv, [.t 12], none⟩] [1, 2, 6, 9, 10, 11, 12])
 .ret)
 (.seq
 (.region false [⟨some 14, .bin .eql, [.t 6, .c (.i 1)], none⟩,
 ⟨some 13, .mv, [.t 14], none⟩] [2, 14])
 (.cond (.t 13) [13]
 (.seq
 (.region false [⟨some 15, .mv, [.t 1], none⟩,
 ⟨some 16, .idxa 1, [.t 15, .c (.i 0)], none⟩,
 ⟨some 17, .load 1 false, [.t 16], none⟩,
 ⟨some 18, .un .xor, [.t 17], none⟩,
 ⟨some 4, .mv, [.t 18], none⟩] [1, 6, 15, 16, 17, 18])
 .ret)
 (.seq
 (.region false [⟨some 20, .bin .eql, [.t 6, .c (.i 2)], none⟩,
 ⟨some 19, .mv, [.t 20], none⟩] [6, 20])
 (.cond (.t 19) [19]
 (.seq
 (.region true [⟨some 21, .mv, [.t 1], none⟩,
 ⟨some 22, .idxa 1, [.t 21, .c (.i 0)], none⟩,
 ⟨some 23, .load 1 false, [.t 22], none⟩,
 ⟨some 24, .mv, [.t 1], none⟩,
 ⟨some 25, .idxa 1, [.t 24, .c (.i 1)], none⟩,
 ⟨some 26, .load 1 false, [.t 25], none⟩,
 ⟨some 27, .bin .and, [.t 23, .t 26], none⟩,
 ⟨some 4, .mv, [.t 27], none⟩] [1, 21, 22, 23, 24, 25, 26, 27])
 .ret)
 .skip))))))))
 (.seq
 (.region true [⟨some 28, .mv, [.t 1], none⟩,
 ⟨some 29, .idxa 1, [.t 28, .c (.i 0)], none⟩,
 ⟨some 30, .load 1 false, [.t 29], none⟩,
 ⟨some 31, .mv, [.t 1], none⟩,
 ⟨some 32, .idxa 1, [.t 31, .c (.i 1)], none⟩,
 ⟨some 33, .load 1 false, [.t 32], none⟩,
 ⟨some 34, .bin .or, [.t 30, .t 33], none⟩,
 ⟨some 4, .mv, [.t 34], none⟩] [1, 28, 29, 30, 31, 32, 33, 34])
 .ret))) }
/-- impl.statesSaying -/
def F_impl_statesSaying : LF :=
 { gl := [0], nparams := 2, results := [.t 4], body :=
 (.seq
 (.region false [⟨some 4, .mv, [.c (.w (0#32))], none⟩] [4])
 (.seq
 (.seq
 (.region false [⟨some 5, .mv, [.t 1], none⟩,
 ⟨some 6, .bin .eql, [.t 5, .c (.i 1)], none⟩] [1, 5])
 (.cond (.t 6) [6]
 (.seq
 (.region false [⟨some 7, .mv, [.t 0], none⟩,
 ⟨some 8, .idxp 5 1, [.t 1048576, .t 7], none⟩,
 ⟨some 9, .load 1 false, [.t 8], none⟩,
 ⟨some 4, .mv, [.t 9], none⟩] [0, 7, 8, 9])
 .ret)
 .skip))
 (.seq
 (.region false [⟨some 10, .mv, [.t 0], none⟩,
 ⟨some 11, .idxp 5 1, [.t 1048576, .t 10], none⟩,
 ⟨some 12, .load 1 false, [.t 11], none⟩,
 ⟨some 13, .un .xor, [.t 12], none⟩,
 ⟨some 4, .mv, [.t 13], none⟩] [0, 10, 11, 12, 13])
 .ret))) }
/-- spec.l1Agrees -/
def F_spec_l1Agrees_L0 : LC :=
 (.seq
 (.seq
 (.region false [⟨some 6, .mv, [.t 5], none⟩,
 ⟨some 7, .mv, [.t 0], none⟩,
 ⟨some 8, .len, [.t 7], none⟩,
 ⟨some 9, .bin .lss, [.t 6, .t 8], none⟩] [6, 7, 8])
 (.cond (.t 9) [9]
 .skip
 (.exit 0)))
 (.seq
 (.block 1
 (.seq
 (.region true [⟨some 12, .mv, [.t 0], none⟩,
 ⟨some 13, .mv, [.t 5], none⟩,
 ⟨some 14, .idxa 1, [.t 12, .t 13], none⟩,
 ⟨some 15, .load 1 false, [.t 14], none⟩,
 ⟨some 16, .bin .neq, [.t 15, .c (.i (-1))], none⟩,
 ⟨some 17, .mv, [.t 16], none⟩,
 ⟨some 18, .mv, [.t 0], some (17, true)⟩,
 ⟨some 19, .mv, [.t 5], some (17, true)⟩,
 ⟨some 20, .idxa 1, [.t 18, .t 19], some (17, true)⟩,
 ⟨some 21, .load 1 false, [.t 20], some (17, true)⟩,
 ⟨some 22, .mv, [.t 1], some (17, true)⟩,
 ⟨some 23, .mv, [.t 5], some (17, true)⟩,
 ⟨some 24, .bin .shr, [.t 22, .t 23], some (17, true)⟩,
 ⟨some 25, .bin .rem, [.t 24, .c (.i 2)], some (17, true)⟩,
 ⟨some 26, .bin .neq, [.t 21, .t 25], some (17, true)⟩,
 ⟨some 27, .pick, [.t 17, .t 26, .c (.b false)], none⟩] [12, 13, 14, 15, 16, 17, 18, 19, 20, 21, 22, 23, 24, 25, 26])
 (.cond (.t 27) [27]
 (.seq
 (.region false [⟨some 4, .mv, [.c (.b false)], none⟩] [0, 1, 5])
 .ret)
 .skip)))
 (.region false [⟨some 10, .mv, [.t 5], none⟩,
 ⟨some 11, .bin .add, [.t 10, .c (.i 1)], none⟩,
 ⟨some 5, .mv, [.t 11], none⟩] [10, 11])))
def F_spec_l1Agrees_W0 : LC := .loop F_spec_l1Agrees_L0
def F_spec_l1Agrees : LF :=
 { nparams := 2, results := [.t 4], body :=
 (.seq
 (.region false [⟨some 4, .mv, [.c (.b false)], none⟩] [4])
 (.seq
 (.seq
 (.region false [⟨some 5, .mv, [.c (.i 0)], none⟩] [])
 (.block 0
 F_spec_l1Agrees_W0))
 (.seq
 (.region false [⟨some 4, .mv, [.c (.b true)], none⟩] [0, 1, 5])
 .ret))) }
/-- spec.l3Value -/
def F_spec_l3Value : LF :=
 { nparams := 2, results := [.t 4], body :=
 (.seq
 (.region false [⟨some 4, .mv, [.c (.i 0)], none⟩] [4])
 (.seq
 (.region false [⟨some 9, .mv, [.t 0], none⟩,
 ⟨some 10, .len, [.t 9], none⟩,
 ⟨some 11, .bin .sub, [.t 10, .c (.i 1)], none⟩,
 ⟨some 5, .mv, [.t 11], none⟩] [9, 10, 11])
 (.seq
 (.seq
 (.region false [⟨some 12, .mv, [.t 0], none⟩,
 ⟨some 13, .mv, [.t 5], none⟩,
 ⟨some 14, .idxa 2, [.t 12, .t 13], none⟩,
 ⟨some 15, .fld 0 1 false, [.t 14], none⟩,
 ⟨some 16, .load 1 false, [.t 15], none⟩] [12, 13, 14, 15])
 (.block 0
 (.seq
 (.region false [⟨some 18, .bin .eql, [.t 16, .c (.i 0)], none⟩,
 ⟨some 17, .mv, [.t 18], none⟩] [18])
 (.cond (.t 17) [17]
 (.seq
 (.region false [⟨some 19, .mv, [.t 1], none⟩,
 ⟨some 20, .mv, [.t 0], none⟩,
 ⟨some 21, .mv, [.t 5], none⟩,
 ⟨some 22, .idxa 2, [.t 20, .t 21], none⟩,
 ⟨some 23, .fld 1 1 false, [.t 22], none⟩,
 ⟨some 24, .load 1 false, [.t 23], none⟩,
 ⟨some 25, .bin .shr, [.t 19, .t 24], none⟩,
 ⟨some 26, .bin .rem, [.t 25, .c (.i 2)], none⟩,
 ⟨some 4, .mv, [.t 26], none⟩] [0, 1, 5, 16, 19, 20, 21, 22, 23, 24, 25, 26])
 .ret)
 (.seq
 (.region false [⟨some 28, .bin .eql, [.t 16, .c (.i 1)], none⟩,
 ⟨some 27, .mv, [.t 28], none⟩] [16, 28])
 (.cond (.t 27) [27]
 (.seq
 (.region false [⟨some 29, .mv, [.t 0], none⟩,
 ⟨some 30, .mv, [.t 5], none⟩,
 ⟨some 31, .slice false true 2, [.t 29, .t 30], none⟩,
 ⟨some 32, .mv, [.t 1], none⟩,
 ⟨some 33, .call n_spec_l3Value 16896, [.t 31, .t 32], none⟩,
 ⟨some 34, .bin .sub, [.c (.i 1), .t 33], none⟩,
 ⟨some 4, .mv, [.t 34], none⟩] [0, 1, 5, 29, 30, 31, 32, 33, 34])
 .ret)
 .skip))))))
 (.seq
 (.region false [⟨some 35, .mv, [.t 0], none⟩,
 ⟨some 36, .mv, [.t 5], none⟩,
 ⟨some 37, .bin .sub, [.t 36, .c (.i 1)], none⟩,
 ⟨some 38, .call n_spec_l2Starts 19456, [.t 35, .t 37], none⟩,
 ⟨some 6, .mv, [.t 38], none⟩] [35, 36, 37, 38])
 (.seq
 (.region false [⟨some 39, .mv, [.t 0], none⟩,
 ⟨some 40, .mv, [.t 6], none⟩,
 ⟨some 41, .slice false true 2, [.t 39, .t 40], none⟩,
 ⟨some 42, .mv, [.t 1], none⟩,
 ⟨some 43, .call n_spec_l3Value 22016, [.t 41, .t 42], none⟩,
 ⟨some 7, .mv, [.t 43], none⟩] [39, 40, 41, 42, 43])
 (.seq
 (.region false [⟨some 44, .mv, [.t 0], none⟩,
 ⟨some 45, .mv, [.t 6], none⟩,
 ⟨some 46, .mv, [.t 5], none⟩,
 ⟨some 47, .slice true true 2, [.t 44, .t 45, .t 46], none⟩,
 ⟨some 48, .mv, [.t 1], none⟩,
 ⟨some 49, .call n_spec_l3Value 25088, [.t 47, .t 48], none⟩,
 ⟨some 8, .mv, [.t 49], none⟩] [1, 6, 44, 45, 46, 47, 48, 49])
 (.seq
 (.seq
 (.region false [⟨some 50, .mv, [.t 0], none⟩,
 ⟨some 51, .mv, [.t 5], none⟩,
 ⟨some 52, .idxa 2, [.t 50, .t 51], none⟩,
 ⟨some 53, .fld 0 1 false, [.t 52], none⟩,
 ⟨some 54, .load 1 false, [.t 53], none⟩,
 ⟨some 55, .bin .eql, [.t 54, .c (.i 3)], none⟩] [0, 5, 50, 51, 52, 53, 54])
 (.cond (.t 55) [55]
 (.seq
 (.region false [⟨some 56, .mv, [.t 7], none⟩,
 ⟨some 57, .mv, [.t 8], none⟩,
 ⟨some 58, .mm true, [.t 56, .t 57], none⟩,
 ⟨some 4, .mv, [.t 58], none⟩] [7, 8, 56, 57, 58])
 .ret)
 .skip))
 (.seq
 (.region false [⟨some 59, .mv, [.t 7], none⟩,
 ⟨some 60, .mv, [.t 8], none⟩,
 ⟨some 61, .mm false, [.t 59, .t 60], none⟩,
 ⟨some 4, .mv, [.t 61], none⟩] [7, 8, 59, 60, 61])
 .ret)))))))) }
/-- impl.statesOf -/
def F_impl_statesOf : LF :=
 { nparams := 1, results := [.t 2], body :=
 (.seq
 (.region false [⟨some 2, .mv, [.c (.i 0)], none⟩] [2])
 (.seq
 (.region false [⟨some 3, .mv, [.t 0], none⟩,
 ⟨some 4, .bin .shl, [.c (.i 1), .t 3], none⟩,
 ⟨some 2, .mv, [.t 4], none⟩] [0, 3, 4])
 .ret)) }
/-- impl.hasTest -/
def F_impl_hasTest : LF :=
 { nparams := 2, results := [.t 4], body :=
 (.seq
 (.region false [⟨some 4, .mv, [.c (.b false)], none⟩] [4])
 (.seq
 (.region false [⟨some 5, .mv, [.t 0], none⟩,
 ⟨some 6, .mv, [.t 1], none⟩,
 ⟨some 7, .bin .shr, [.t 5, .t 6], none⟩,
 ⟨some 8, .bin .and, [.t 7, .c (.i 1)], none⟩,
 ⟨some 9, .bin .eql, [.t 8, .c (.i 1)], none⟩,
 ⟨some 4, .mv, [.t 9], none⟩] [0, 1, 5, 6, 7, 8, 9])
 .ret)) }
/-- spec.l2Starts -/
def F_spec_l2Starts_L0 : LC :=
 (.seq
 (.seq
 (.region false [⟨some 8, .mv, [.t 5], none⟩,
 ⟨some 9, .bin .gtr, [.t 8, .c (.i 0)], none⟩] [8])
 (.cond (.t 9) [9]
 .skip
 (.exit 0)))
 (.block 1
 (.seq
 (.seq
 (.region false [⟨some 10, .mv, [.t 0], none⟩,
 ⟨some 11, .mv, [.t 6], none⟩,
 ⟨some 12, .idxa 2, [.t 10, .t 11], none⟩,
 ⟨some 13, .fld 0 1 false, [.t 12], none⟩,
 ⟨some 14, .load 1 false, [.t 13], none⟩] [10, 11, 12, 13])
 (.block 2
 (.seq
 (.region false [⟨some 18, .bin .eql, [.t 14, .c (.i 0)], none⟩,
 ⟨some 17, .mv, [.t 18], none⟩] [18])
 (.cond (.t 17) [17]
 (.region false [⟨some 19, .mv, [.t 5], none⟩,
 ⟨some 20, .bin .sub, [.t 19, .c (.i 1)], none⟩,
 ⟨some 5, .mv, [.t 20], none⟩] [14, 19, 20])
 (.seq
 (.region false [⟨some 22, .bin .eql, [.t 14, .c (.i 1)], none⟩,
 ⟨some 21, .mv, [.t 22], none⟩] [14, 22])
 (.cond (.t 21) [21]
 .skip
 (.region false [⟨some 15, .mv, [.t 5], none⟩,
 ⟨some 16, .bin .add, [.t 15, .c (.i 1)], none⟩,
 ⟨some 5, .mv, [.t 16], none⟩] [15, 16])))))))
 (.region false [⟨some 23, .mv, [.t 6], none⟩,
 ⟨some 24, .bin .sub, [.t 23, .c (.i 1)], none⟩,
 ⟨some 6, .mv, [.t 24], none⟩] [23, 24]))))
def F_spec_l2Starts_W0 : LC := .loop F_spec_l2Starts_L0
def F_spec_l2Starts : LF :=
 { nparams := 2, results := [.t 4], body :=
 (.seq
 (.region false [⟨some 4, .mv, [.c (.i 0)], none⟩] [4])
 (.seq
 (.region false [⟨some 5, .mv, [.c (.i 1)], none⟩] [])
 (.seq
 (.region false [⟨some 7, .mv, [.t 1], none⟩,
 ⟨some 6, .mv, [.t 7], none⟩] [1, 7])
 (.seq
 (.block 0
 F_spec_l2Starts_W0)
 (.seq
 (.region false [⟨some 25, .mv, [.t 6], none⟩,
 ⟨some 26, .bin .add, [.t 25, .c (.i 1)], none⟩,
 ⟨some 4, .mv, [.t 26], none⟩] [0, 5, 6, 25, 26])
 .ret))))) }
def lf : Nat → Option LF
 | 3 => some F_laws_FnForcedBy
 | 4 => some F_laws_FnForcedProof
 | 5 => some F_laws_FnLeastProofs
 | 6 => some F_laws_FnProofOk
 | 7 => some F_laws_FnTurnsIn
 | 8 => some F_laws_FnExactForcedBy
 | 9 => some F_laws_FnExactLeastProofs
 | 10 => some F_laws_FnExactProofOk
 | 11 => some F_spec_DrawForcedBy
 | 12 => some F_impl_ForcedBy
 | 13 => some F_spec_ForcedBy
 | 14 => some F_laws_alive
 | 15 => some F_impl_AgreesOk
 | 16 => some F_impl_ValueOf
 | 17 => some F_spec_TermOk
 | 18 => some F_spec_KnownOk
 | 19 => some F_impl_ProofOk
 | 20 => some F_spec_DrawLeastProofs
 | 21 => some F_impl_LeastProofs
 | 22 => some F_laws_sameInts
 | 23 => some F_spec_LeastProofs
 | 24 => some F_spec_StateOk
 | 25 => some F_impl_IdleTests
 | 26 => some F_laws_ascend
 | 27 => some F_spec_DrawProofOk
 | 28 => some F_spec_ProofOk
 | 29 => some F_impl_DualTerm
 | 30 => some F_spec_DrawTurnsIn
 | 31 => some F_impl_TurnsIn
 | 32 => some F_spec_TurnsIn
 | 33 => some F_laws_szMarkS
 | 34 => some F_laws_toMarkS
 | 35 => some F_laws_toIntS
 | 36 => some F_laws_eqMarkS
 | 37 => some F_laws_eqIntS
 | 38 => some F_laws_markMarkS
 | 39 => some F_laws_markIntS
 | 40 => some F_laws_heldIntS
 | 41 => some F_spec_l20Open
 | 42 => some F_spec_l20Rd_pick
 | 43 => some F_spec_l20Term
 | 44 => some F_spec_l20Known
 | 45 => some F_impl_TermOk
 | 46 => some F_impl_KnownOk
 | 47 => some F_impl_valueAmong
 | 48 => some F_impl_trueStates
 | 49 => some F_impl_agreeingStates
 | 50 => some F_spec_l3Forced
 | 51 => some F_spec_l3Table
 | 52 => some F_impl_TestsOk
 | 53 => some F_impl_StateOk
 | 54 => some F_impl_outcomeIn
 | 55 => some F_impl_hasState
 | 56 => some F_spec_l1In
 | 57 => some F_impl_knownBy
 | 58 => some F_spec_l20State
 | 59 => some F_impl_setsWhere
 | 60 => some F_impl_LeastProofs_1
 | 61 => some F_impl_isLeastProof
 | 62 => some F_spec_l3Told
 | 63 => some F_impl_testsWhere
 | 64 => some F_impl_IdleTests_1
 | 65 => some F_impl_TurnsIn_1
 | 66 => some F_laws_toMark
 | 67 => some F_laws_eqMark
 | 68 => some F_spec_l20Rd_odd
 | 69 => some F_impl_manyOk
 | 70 => some F_impl_isWithin
 | 71 => some F_impl_partsTaken
 | 72 => some F_impl_markOk
 | 73 => some F_impl_foldTerm_uint32
 | 74 => some F_impl_statesOfPart
 | 75 => some F_impl_statesSaying
 | 76 => some F_spec_l1Agrees
 | 77 => some F_spec_l3Value
 | 78 => some F_impl_statesOf
 | 79 => some F_impl_hasTest
 | 80 => some F_spec_l2Starts
 | _ => none
theorem w_laws_FnForcedBy_0 (S : LS) : ex lf F_laws_FnForcedBy_W0 S = match ex lf F_laws_FnForcedBy_L0 S with | some (.normal, S1) => ex lf F_laws_FnForcedBy_W0 S1 | r => r := ex_loop lf F_laws_FnForcedBy_L0 S
theorem w_laws_FnForcedBy_1 (S : LS) : ex lf F_laws_FnForcedBy_W1 S = match ex lf F_laws_FnForcedBy_L1 S with | some (.normal, S1) => ex lf F_laws_FnForcedBy_W1 S1 | r => r := ex_loop lf F_laws_FnForcedBy_L1 S
theorem w_laws_FnForcedBy_2 (S : LS) : ex lf F_laws_FnForcedBy_W2 S = match ex lf F_laws_FnForcedBy_L2 S with | some (.normal, S1) => ex lf F_laws_FnForcedBy_W2 S1 | r => r := ex_loop lf F_laws_FnForcedBy_L2 S
theorem w_laws_FnForcedProof_0 (S : LS) : ex lf F_laws_FnForcedProof_W0 S = match ex lf F_laws_FnForcedProof_L0 S with | some (.normal, S1) => ex lf F_laws_FnForcedProof_W0 S1 | r => r := ex_loop lf F_laws_FnForcedProof_L0 S
theorem w_laws_FnForcedProof_1 (S : LS) : ex lf F_laws_FnForcedProof_W1 S = match ex lf F_laws_FnForcedProof_L1 S with | some (.normal, S1) => ex lf F_laws_FnForcedProof_W1 S1 | r => r := ex_loop lf F_laws_FnForcedProof_L1 S
theorem w_laws_FnLeastProofs_1 (S : LS) : ex lf F_laws_FnLeastProofs_W1 S = match ex lf F_laws_FnLeastProofs_L1 S with | some (.normal, S1) => ex lf F_laws_FnLeastProofs_W1 S1 | r => r := ex_loop lf F_laws_FnLeastProofs_L1 S
theorem w_laws_FnLeastProofs_2 (S : LS) : ex lf F_laws_FnLeastProofs_W2 S = match ex lf F_laws_FnLeastProofs_L2 S with | some (.normal, S1) => ex lf F_laws_FnLeastProofs_W2 S1 | r => r := ex_loop lf F_laws_FnLeastProofs_L2 S
theorem w_laws_FnLeastProofs_0 (S : LS) : ex lf F_laws_FnLeastProofs_W0 S = match ex lf F_laws_FnLeastProofs_L0 S with | some (.normal, S1) => ex lf F_laws_FnLeastProofs_W0 S1 | r => r := ex_loop lf F_laws_FnLeastProofs_L0 S
theorem w_laws_FnProofOk_0 (S : LS) : ex lf F_laws_FnProofOk_W0 S = match ex lf F_laws_FnProofOk_L0 S with | some (.normal, S1) => ex lf F_laws_FnProofOk_W0 S1 | r => r := ex_loop lf F_laws_FnProofOk_L0 S
theorem w_laws_FnTurnsIn_0 (S : LS) : ex lf F_laws_FnTurnsIn_W0 S = match ex lf F_laws_FnTurnsIn_L0 S with | some (.normal, S1) => ex lf F_laws_FnTurnsIn_W0 S1 | r => r := ex_loop lf F_laws_FnTurnsIn_L0 S
theorem w_impl_AgreesOk_0 (S : LS) : ex lf F_impl_AgreesOk_W0 S = match ex lf F_impl_AgreesOk_L0 S with | some (.normal, S1) => ex lf F_impl_AgreesOk_W0 S1 | r => r := ex_loop lf F_impl_AgreesOk_L0 S
theorem w_spec_TermOk_0 (S : LS) : ex lf F_spec_TermOk_W0 S = match ex lf F_spec_TermOk_L0 S with | some (.normal, S1) => ex lf F_spec_TermOk_W0 S1 | r => r := ex_loop lf F_spec_TermOk_L0 S
theorem w_spec_KnownOk_0 (S : LS) : ex lf F_spec_KnownOk_W0 S = match ex lf F_spec_KnownOk_L0 S with | some (.normal, S1) => ex lf F_spec_KnownOk_W0 S1 | r => r := ex_loop lf F_spec_KnownOk_L0 S
theorem w_laws_sameInts_0 (S : LS) : ex lf F_laws_sameInts_W0 S = match ex lf F_laws_sameInts_L0 S with | some (.normal, S1) => ex lf F_laws_sameInts_W0 S1 | r => r := ex_loop lf F_laws_sameInts_L0 S
theorem w_spec_LeastProofs_1 (S : LS) : ex lf F_spec_LeastProofs_W1 S = match ex lf F_spec_LeastProofs_L1 S with | some (.normal, S1) => ex lf F_spec_LeastProofs_W1 S1 | r => r := ex_loop lf F_spec_LeastProofs_L1 S
theorem w_spec_LeastProofs_0 (S : LS) : ex lf F_spec_LeastProofs_W0 S = match ex lf F_spec_LeastProofs_L0 S with | some (.normal, S1) => ex lf F_spec_LeastProofs_W0 S1 | r => r := ex_loop lf F_spec_LeastProofs_L0 S
theorem w_laws_ascend_0 (S : LS) : ex lf F_laws_ascend_W0 S = match ex lf F_laws_ascend_L0 S with | some (.normal, S1) => ex lf F_laws_ascend_W0 S1 | r => r := ex_loop lf F_laws_ascend_L0 S
theorem w_impl_DualTerm_0 (S : LS) : ex lf F_impl_DualTerm_W0 S = match ex lf F_impl_DualTerm_L0 S with | some (.normal, S1) => ex lf F_impl_DualTerm_W0 S1 | r => r := ex_loop lf F_impl_DualTerm_L0 S
theorem w_spec_TurnsIn_0 (S : LS) : ex lf F_spec_TurnsIn_W0 S = match ex lf F_spec_TurnsIn_L0 S with | some (.normal, S1) => ex lf F_spec_TurnsIn_W0 S1 | r => r := ex_loop lf F_spec_TurnsIn_L0 S
theorem w_laws_toMarkS_0 (S : LS) : ex lf F_laws_toMarkS_W0 S = match ex lf F_laws_toMarkS_L0 S with | some (.normal, S1) => ex lf F_laws_toMarkS_W0 S1 | r => r := ex_loop lf F_laws_toMarkS_L0 S
theorem w_laws_toIntS_0 (S : LS) : ex lf F_laws_toIntS_W0 S = match ex lf F_laws_toIntS_L0 S with | some (.normal, S1) => ex lf F_laws_toIntS_W0 S1 | r => r := ex_loop lf F_laws_toIntS_L0 S
theorem w_laws_eqMarkS_0 (S : LS) : ex lf F_laws_eqMarkS_W0 S = match ex lf F_laws_eqMarkS_L0 S with | some (.normal, S1) => ex lf F_laws_eqMarkS_W0 S1 | r => r := ex_loop lf F_laws_eqMarkS_L0 S
theorem w_laws_eqIntS_0 (S : LS) : ex lf F_laws_eqIntS_W0 S = match ex lf F_laws_eqIntS_L0 S with | some (.normal, S1) => ex lf F_laws_eqIntS_W0 S1 | r => r := ex_loop lf F_laws_eqIntS_L0 S
theorem w_laws_markMarkS_0 (S : LS) : ex lf F_laws_markMarkS_W0 S = match ex lf F_laws_markMarkS_L0 S with | some (.normal, S1) => ex lf F_laws_markMarkS_W0 S1 | r => r := ex_loop lf F_laws_markMarkS_L0 S
theorem w_laws_markIntS_0 (S : LS) : ex lf F_laws_markIntS_W0 S = match ex lf F_laws_markIntS_L0 S with | some (.normal, S1) => ex lf F_laws_markIntS_W0 S1 | r => r := ex_loop lf F_laws_markIntS_L0 S
theorem w_laws_heldIntS_0 (S : LS) : ex lf F_laws_heldIntS_W0 S = match ex lf F_laws_heldIntS_L0 S with | some (.normal, S1) => ex lf F_laws_heldIntS_W0 S1 | r => r := ex_loop lf F_laws_heldIntS_L0 S
theorem w_spec_l20Term_0 (S : LS) : ex lf F_spec_l20Term_W0 S = match ex lf F_spec_l20Term_L0 S with | some (.normal, S1) => ex lf F_spec_l20Term_W0 S1 | r => r := ex_loop lf F_spec_l20Term_L0 S
theorem w_spec_l20Term_1 (S : LS) : ex lf F_spec_l20Term_W1 S = match ex lf F_spec_l20Term_L1 S with | some (.normal, S1) => ex lf F_spec_l20Term_W1 S1 | r => r := ex_loop lf F_spec_l20Term_L1 S
theorem w_spec_l20Term_2 (S : LS) : ex lf F_spec_l20Term_W2 S = match ex lf F_spec_l20Term_L2 S with | some (.normal, S1) => ex lf F_spec_l20Term_W2 S1 | r => r := ex_loop lf F_spec_l20Term_L2 S
theorem w_spec_l20Known_0 (S : LS) : ex lf F_spec_l20Known_W0 S = match ex lf F_spec_l20Known_L0 S with | some (.normal, S1) => ex lf F_spec_l20Known_W0 S1 | r => r := ex_loop lf F_spec_l20Known_L0 S
theorem w_impl_TermOk_0 (S : LS) : ex lf F_impl_TermOk_W0 S = match ex lf F_impl_TermOk_L0 S with | some (.normal, S1) => ex lf F_impl_TermOk_W0 S1 | r => r := ex_loop lf F_impl_TermOk_L0 S
theorem w_impl_KnownOk_0 (S : LS) : ex lf F_impl_KnownOk_W0 S = match ex lf F_impl_KnownOk_L0 S with | some (.normal, S1) => ex lf F_impl_KnownOk_W0 S1 | r => r := ex_loop lf F_impl_KnownOk_L0 S
theorem w_impl_agreeingStates_0 (S : LS) : ex lf F_impl_agreeingStates_W0 S = match ex lf F_impl_agreeingStates_L0 S with | some (.normal, S1) => ex lf F_impl_agreeingStates_W0 S1 | r => r := ex_loop lf F_impl_agreeingStates_L0 S
theorem w_spec_l3Forced_0 (S : LS) : ex lf F_spec_l3Forced_W0 S = match ex lf F_spec_l3Forced_L0 S with | some (.normal, S1) => ex lf F_spec_l3Forced_W0 S1 | r => r := ex_loop lf F_spec_l3Forced_L0 S
theorem w_spec_l3Table_0 (S : LS) : ex lf F_spec_l3Table_W0 S = match ex lf F_spec_l3Table_L0 S with | some (.normal, S1) => ex lf F_spec_l3Table_W0 S1 | r => r := ex_loop lf F_spec_l3Table_L0 S
theorem w_impl_TestsOk_0 (S : LS) : ex lf F_impl_TestsOk_W0 S = match ex lf F_impl_TestsOk_L0 S with | some (.normal, S1) => ex lf F_impl_TestsOk_W0 S1 | r => r := ex_loop lf F_impl_TestsOk_L0 S
theorem w_impl_knownBy_0 (S : LS) : ex lf F_impl_knownBy_W0 S = match ex lf F_impl_knownBy_L0 S with | some (.normal, S1) => ex lf F_impl_knownBy_W0 S1 | r => r := ex_loop lf F_impl_knownBy_L0 S
theorem w_impl_setsWhere_0 (S : LS) : ex lf F_impl_setsWhere_W0 S = match ex lf F_impl_setsWhere_L0 S with | some (.normal, S1) => ex lf F_impl_setsWhere_W0 S1 | r => r := ex_loop lf F_impl_setsWhere_L0 S
theorem w_impl_isLeastProof_0 (S : LS) : ex lf F_impl_isLeastProof_W0 S = match ex lf F_impl_isLeastProof_L0 S with | some (.normal, S1) => ex lf F_impl_isLeastProof_W0 S1 | r => r := ex_loop lf F_impl_isLeastProof_L0 S
theorem w_spec_l3Told_0 (S : LS) : ex lf F_spec_l3Told_W0 S = match ex lf F_spec_l3Told_L0 S with | some (.normal, S1) => ex lf F_spec_l3Told_W0 S1 | r => r := ex_loop lf F_spec_l3Told_L0 S
theorem w_impl_testsWhere_0 (S : LS) : ex lf F_impl_testsWhere_W0 S = match ex lf F_impl_testsWhere_L0 S with | some (.normal, S1) => ex lf F_impl_testsWhere_W0 S1 | r => r := ex_loop lf F_impl_testsWhere_L0 S
theorem w_impl_foldTerm_uint32_0 (S : LS) : ex lf F_impl_foldTerm_uint32_W0 S = match ex lf F_impl_foldTerm_uint32_L0 S with | some (.normal, S1) => ex lf F_impl_foldTerm_uint32_W0 S1 | r => r := ex_loop lf F_impl_foldTerm_uint32_L0 S
theorem w_spec_l1Agrees_0 (S : LS) : ex lf F_spec_l1Agrees_W0 S = match ex lf F_spec_l1Agrees_L0 S with | some (.normal, S1) => ex lf F_spec_l1Agrees_W0 S1 | r => r := ex_loop lf F_spec_l1Agrees_L0 S
theorem w_spec_l2Starts_0 (S : LS) : ex lf F_spec_l2Starts_W0 S = match ex lf F_spec_l2Starts_L0 S with | some (.normal, S1) => ex lf F_spec_l2Starts_W0 S1 | r => r := ex_loop lf F_spec_l2Starts_L0 S
end Zz
