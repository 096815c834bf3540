/- The functions of the program, read as data. No conditions. -/
import Derived.Test.YtaolcmhkmkgmpaaDoorLgC
set_option linter.unusedSectionVars false
set_option linter.unusedVariables false
set_option linter.unusedSimpArgs false
namespace Zz
open Go.Lg
instance : GL := ⟨[(0, .st [.w (2863311530#32), .w (3435973836#32), .w (4042322160#32), .w (4278255360#32), .w (4294901760#32)])], [28, 29, 30], ["l4_orders.go:82"], [26, 67]⟩
theorem gEnv_0 : gEnv [0] = [(1048576, .adr (.st [.w (2863311530#32), .w (3435973836#32), .w (4042322160#32), .w (4278255360#32), .w (4294901760#32)]))] := rfl
def n_laws_FnExactAskedIn : Nat := 3
def n_laws_FnExactCostIn : Nat := 4
def n_laws_FnExactAverageIn : Nat := 5
def n_laws_FnExactBestOrder : Nat := 6
def n_laws_FnAskedIn : Nat := 7
def n_laws_FnCostIn : Nat := 8
def n_laws_FnAverageIn : Nat := 9
def n_laws_FnBestOrder : Nat := 10
def n_laws_FnIdleLast : Nat := 11
def n_laws_szMarkS : Nat := 12
def n_spec_AskedIn : Nat := 13
def n_laws_toMarkS : Nat := 14
def n_laws_toIntS : Nat := 15
def n_impl_AskedIn : Nat := 16
def n_laws_eqMarkS : Nat := 17
def n_laws_eqIntS : Nat := 18
def n_laws_szTestS : Nat := 19
def n_spec_CostIn : Nat := 20
def n_laws_toTestS : Nat := 21
def n_impl_CostIn : Nat := 22
def n_laws_eqTestS : Nat := 23
def n_spec_AverageIn : Nat := 24
def n_impl_AverageIn : Nat := 25
def n_spec_BestOrder : Nat := 26
def n_impl_BestOrder : Nat := 27
def n_laws_markTestS : Nat := 28
def n_laws_markMarkS : Nat := 29
def n_laws_markIntS : Nat := 30
def n_laws_heldIntS : Nat := 31
def n_spec_DrawAskedIn : Nat := 32
def n_laws_alive : Nat := 33
def n_impl_ProofOk : Nat := 34
def n_spec_DrawCostIn : Nat := 35
def n_impl_CostOf : Nat := 36
def n_spec_DrawAverageIn : Nat := 37
def n_impl_WeightOf : Nat := 38
def n_impl_OtherTests : Nat := 39
def n_impl_DualTerm : Nat := 40
def n_spec_DrawBestOrder : Nat := 41
def n_laws_sameInts : Nat := 42
def n_impl_SwappedOrder : Nat := 43
def n_laws_power : Nat := 44
def n_impl_IdleTests : Nat := 45
def n_spec_TermOk : Nat := 46
def n_spec_OrderOk : Nat := 47
def n_spec_StateOk : Nat := 48
def n_spec_l4Asked : Nat := 49
def n_spec_l3Table : Nat := 50
def n_laws_toMark : Nat := 51
def n_impl_TermOk : Nat := 52
def n_impl_OrderOk : Nat := 53
def n_impl_StateOk : Nat := 54
def n_impl_trueStates : Nat := 55
def n_impl_hasState : Nat := 56
def n_impl_openStates : Nat := 57
def n_laws_eqMark : Nat := 58
def n_spec_TestsOk : Nat := 59
def n_laws_toTest : Nat := 60
def n_impl_TestsOk : Nat := 61
def n_laws_eqTest : Nat := 62
def n_spec_l4Walk : Nat := 63
def n_spec_l4None : Nat := 64
def n_spec_l1Power : Nat := 65
def n_impl_statesOf : Nat := 66
def n_spec_l4Search : Nat := 67
def n_impl_bestBehind : Nat := 68
def n_impl_openWeights : Nat := 69
def n_spec_l20Open : Nat := 70
def n_spec_l20State : Nat := 71
def n_spec_l20Order : Nat := 72
def n_impl_ForcedBy : Nat := 73
def n_impl_knownBy : Nat := 74
def n_spec_l20Case : Nat := 75
def n_spec_l20Rd_pick : Nat := 76
def n_impl_outcomeIn : Nat := 77
def n_impl_isWithin : Nat := 78
def n_slices_Clone_int_int : Nat := 79
def n_impl_testsWhere : Nat := 80
def n_impl_IdleTests_1 : Nat := 81
def n_spec_l1In : Nat := 82
def n_spec_l3Forced : Nat := 83
def n_spec_l3Value : Nat := 84
def n_impl_manyOk : Nat := 85
def n_impl_partsTaken : Nat := 86
def n_impl_markOk : Nat := 87
def n_impl_hasTest : Nat := 88
def n_impl_foldTerm_uint32 : Nat := 89
def n_impl_statesOfPart : Nat := 90
def n_impl_turnedStates : Nat := 91
def n_spec_l20Term : Nat := 92
def n_spec_l20Rd_odd : Nat := 93
def n_impl_KnownOk : Nat := 94
def n_impl_agreeingStates : Nat := 95
def n_spec_l20Tests : Nat := 96
def n_spec_l1Agrees : Nat := 97
def n_spec_l2Starts : Nat := 98
/-- laws.FnExactAskedIn -/
def F_laws_FnExactAskedIn : LF :=
 { nparams := 4, results := [.t 8], body :=
 (.seq
 (.region false [⟨some 8, .mv, [.c (.b false)], none⟩] [8])
 (.seq
 (.seq
 (.region false [⟨some 14, .mv, [.t 2], none⟩,
 ⟨some 15, .len, [.t 14], none⟩,
 ⟨some 16, .bin .gtr, [.t 15, .c (.i 1048576)], none⟩] [14, 15])
 (.cond (.t 16) [16]
 (.seq
 (.region false [⟨some 8, .mv, [.c (.b true)], none⟩] [0, 1, 2, 3])
 .ret)
 .skip))
 (.seq
 (.region false [⟨some 9, .mv, [.c (.i 1048576)], none⟩] [])
 (.seq
 (.region false [⟨some 17, .mv, [.t 1], none⟩,
 ⟨some 18, .mv, [.t 9], none⟩,
 ⟨some 19, .call n_laws_szMarkS 9728, [.t 17, .t 18], none⟩,
 ⟨some 9, .mv, [.t 19], none⟩] [17, 18, 19])
 (.seq
 (.seq
 (.region false [⟨some 20, .mv, [.t 9], none⟩,
 ⟨some 21, .bin .lss, [.t 20, .c (.i 0)], none⟩] [9, 20])
 (.cond (.t 21) [21]
 (.seq
 (.region false [⟨some 8, .mv, [.c (.b true)], none⟩] [0, 1, 2, 3])
 .ret)
 .skip))
 (.seq
 (.region false [⟨some 22, .mv, [.t 0], none⟩,
 ⟨some 23, .mv, [.t 1], none⟩,
 ⟨some 24, .call n_laws_toMarkS 12288, [.t 23], none⟩,
 ⟨some 25, .mv, [.t 2], none⟩,
 ⟨some 26, .call n_laws_toIntS 13312, [.t 25], none⟩,
 ⟨some 27, .mv, [.t 3], none⟩,
 ⟨some 28, .call n_spec_AskedIn 14336, [.t 22, .t 24, .t 26, .t 27], none⟩,
 ⟨some 10, .mv, [.t 28], none⟩] [22, 23, 24, 25, 26, 27, 28])
 (.seq
 (.region false [⟨some 29, .mv, [.t 1], none⟩,
 ⟨some 30, .call n_laws_toMarkS 15360, [.t 29], none⟩,
 ⟨some 11, .mv, [.t 30], none⟩] [29, 30])
 (.seq
 (.region false [⟨some 31, .mv, [.t 2], none⟩,
 ⟨some 32, .call n_laws_toIntS 16384, [.t 31], none⟩,
 ⟨some 12, .mv, [.t 32], none⟩] [31, 32])
 (.seq
 (.region false [⟨some 33, .mv, [.t 0], none⟩,
 ⟨some 34, .mv, [.t 11], none⟩,
 ⟨some 35, .mv, [.t 12], none⟩,
 ⟨some 36, .mv, [.t 3], none⟩,
 ⟨some 37, .call n_impl_AskedIn 18944, [.t 33, .t 34, .t 35, .t 36], none⟩,
 ⟨some 13, .mv, [.t 37], none⟩] [0, 3, 33, 34, 35, 36, 37])
 (.seq
 (.seq
 (.region false [⟨some 38, .mv, [.t 13], none⟩,
 ⟨some 39, .mv, [.t 10], none⟩,
 ⟨some 40, .bin .neq, [.t 38, .t 39], none⟩] [10, 13, 38, 39])
 (.cond (.t 40) [40]
 (.seq
 (.region false [⟨some 8, .mv, [.c (.b false)], none⟩] [1, 2, 11, 12])
 .ret)
 .skip))
 (.seq
 (.seq
 (.region false [⟨some 41, .mv, [.t 11], none⟩,
 ⟨some 42, .mv, [.t 1], none⟩,
 ⟨some 43, .call n_laws_toMarkS 22016, [.t 42], none⟩,
 ⟨some 44, .call n_laws_eqMarkS 22528, [.t 41, .t 43], none⟩,
 ⟨some 45, .un .not, [.t 44], none⟩] [1, 11, 41, 42, 43, 44])
 (.cond (.t 45) [45]
 (.seq
 (.region false [⟨some 8, .mv, [.c (.b false)], none⟩] [2, 12])
 .ret)
 .skip))
 (.seq
 (.seq
 (.region false [⟨some 46, .mv, [.t 12], none⟩,
 ⟨some 47, .mv, [.t 2], none⟩,
 ⟨some 48, .call n_laws_toIntS 24576, [.t 47], none⟩,
 ⟨some 49, .call n_laws_eqIntS 25088, [.t 46, .t 48], none⟩,
 ⟨some 50, .un .not, [.t 49], none⟩] [2, 12, 46, 47, 48, 49])
 (.cond (.t 50) [50]
 (.seq
 (.region false [⟨some 8, .mv, [.c (.b false)], none⟩] [])
 .ret)
 .skip))
 (.seq
 (.region false [⟨some 8, .mv, [.c (.b true)], none⟩] [])
 .ret))))))))))))) }
/-- laws.FnExactCostIn -/
def F_laws_FnExactCostIn : LF :=
 { nparams := 4, results := [.t 8], body :=
 (.seq
 (.region false [⟨some 8, .mv, [.c (.b false)], none⟩] [8])
 (.seq
 (.seq
 (.region false [⟨some 15, .mv, [.t 2], none⟩,
 ⟨some 16, .len, [.t 15], none⟩,
 ⟨some 17, .bin .gtr, [.t 16, .c (.i 1048576)], none⟩] [15, 16])
 (.cond (.t 17) [17]
 (.seq
 (.region false [⟨some 8, .mv, [.c (.b true)], none⟩] [0, 1, 2, 3])
 .ret)
 .skip))
 (.seq
 (.region false [⟨some 9, .mv, [.c (.i 1048576)], none⟩] [])
 (.seq
 (.region false [⟨some 18, .mv, [.t 0], none⟩,
 ⟨some 19, .mv, [.t 9], none⟩,
 ⟨some 20, .call n_laws_szTestS 10240, [.t 18, .t 19], none⟩,
 ⟨some 9, .mv, [.t 20], none⟩] [18, 19, 20])
 (.seq
 (.seq
 (.region false [⟨some 21, .mv, [.t 9], none⟩,
 ⟨some 22, .bin .lss, [.t 21, .c (.i 0)], none⟩] [21])
 (.cond (.t 22) [22]
 (.seq
 (.region false [⟨some 8, .mv, [.c (.b true)], none⟩] [0, 1, 2, 3, 9])
 .ret)
 .skip))
 (.seq
 (.region false [⟨some 23, .mv, [.t 1], none⟩,
 ⟨some 24, .mv, [.t 9], none⟩,
 ⟨some 25, .call n_laws_szMarkS 12800, [.t 23, .t 24], none⟩,
 ⟨some 9, .mv, [.t 25], none⟩] [23, 24, 25])
 (.seq
 (.seq
 (.region false [⟨some 26, .mv, [.t 9], none⟩,
 ⟨some 27, .bin .lss, [.t 26, .c (.i 0)], none⟩] [9, 26])
 (.cond (.t 27) [27]
 (.seq
 (.region false [⟨some 8, .mv, [.c (.b true)], none⟩] [0, 1, 2, 3])
 .ret)
 .skip))
 (.seq
 (.region false [⟨some 28, .mv, [.t 0], none⟩,
 ⟨some 29, .call n_laws_toTestS 14848, [.t 28], none⟩,
 ⟨some 30, .mv, [.t 1], none⟩,
 ⟨some 31, .call n_laws_toMarkS 15872, [.t 30], none⟩,
 ⟨some 32, .mv, [.t 2], none⟩,
 ⟨some 33, .call n_laws_toIntS 16896, [.t 32], none⟩,
 ⟨some 34, .mv, [.t 3], none⟩,
 ⟨some 35, .call n_spec_CostIn 17920, [.t 29, .t 31, .t 33, .t 34], none⟩,
 ⟨some 10, .mv, [.t 35], none⟩] [28, 29, 30, 31, 32, 33, 34, 35])
 (.seq
 (.region false [⟨some 36, .mv, [.t 0], none⟩,
 ⟨some 37, .call n_laws_toTestS 18944, [.t 36], none⟩,
 ⟨some 11, .mv, [.t 37], none⟩] [36, 37])
 (.seq
 (.region false [⟨some 38, .mv, [.t 1], none⟩,
 ⟨some 39, .call n_laws_toMarkS 19968, [.t 38], none⟩,
 ⟨some 12, .mv, [.t 39], none⟩] [38, 39])
 (.seq
 (.region false [⟨some 40, .mv, [.t 2], none⟩,
 ⟨some 41, .call n_laws_toIntS 20992, [.t 40], none⟩,
 ⟨some 13, .mv, [.t 41], none⟩] [40, 41])
 (.seq
 (.region false [⟨some 42, .mv, [.t 11], none⟩,
 ⟨some 43, .mv, [.t 12], none⟩,
 ⟨some 44, .mv, [.t 13], none⟩,
 ⟨some 45, .mv, [.t 3], none⟩,
 ⟨some 46, .call n_impl_CostIn 23552, [.t 42, .t 43, .t 44, .t 45], none⟩,
 ⟨some 14, .mv, [.t 46], none⟩] [3, 42, 43, 44, 45, 46])
 (.seq
 (.seq
 (.region false [⟨some 47, .mv, [.t 14], none⟩,
 ⟨some 48, .mv, [.t 10], none⟩,
 ⟨some 49, .bin .neq, [.t 47, .t 48], none⟩] [10, 14, 47, 48])
 (.cond (.t 49) [49]
 (.seq
 (.region false [⟨some 8, .mv, [.c (.b false)], none⟩] [0, 1, 2, 11, 12, 13])
 .ret)
 .skip))
 (.seq
 (.seq
 (.region false [⟨some 50, .mv, [.t 11], none⟩,
 ⟨some 51, .mv, [.t 0], none⟩,
 ⟨some 52, .call n_laws_toTestS 26624, [.t 51], none⟩,
 ⟨some 53, .call n_laws_eqTestS 27136, [.t 50, .t 52], none⟩,
 ⟨some 54, .un .not, [.t 53], none⟩] [0, 11, 50, 51, 52, 53])
 (.cond (.t 54) [54]
 (.seq
 (.region false [⟨some 8, .mv, [.c (.b false)], none⟩] [1, 2, 12, 13])
 .ret)
 .skip))
 (.seq
 (.seq
 (.region false [⟨some 55, .mv, [.t 12], none⟩,
 ⟨some 56, .mv, [.t 1], none⟩,
 ⟨some 57, .call n_laws_toMarkS 29184, [.t 56], none⟩,
 ⟨some 58, .call n_laws_eqMarkS 29696, [.t 55, .t 57], none⟩,
 ⟨some 59, .un .not, [.t 58], none⟩] [1, 12, 55, 56, 57, 58])
 (.cond (.t 59) [59]
 (.seq
 (.region false [⟨some 8, .mv, [.c (.b false)], none⟩] [2, 13])
 .ret)
 .skip))
 (.seq
 (.seq
 (.region false [⟨some 60, .mv, [.t 13], none⟩,
 ⟨some 61, .mv, [.t 2], none⟩,
 ⟨some 62, .call n_laws_toIntS 31744, [.t 61], none⟩,
 ⟨some 63, .call n_laws_eqIntS 32256, [.t 60, .t 62], none⟩,
 ⟨some 64, .un .not, [.t 63], none⟩] [2, 13, 60, 61, 62, 63])
 (.cond (.t 64) [64]
 (.seq
 (.region false [⟨some 8, .mv, [.c (.b false)], none⟩] [])
 .ret)
 .skip))
 (.seq
 (.region false [⟨some 8, .mv, [.c (.b true)], none⟩] [])
 .ret))))))))))))))))) }
/-- laws.FnExactAverageIn -/
def F_laws_FnExactAverageIn : LF :=
 { nparams := 3, results := [.t 6], body :=
 (.seq
 (.region false [⟨some 6, .mv, [.c (.b false)], none⟩] [6])
 (.seq
 (.seq
 (.region false [⟨some 13, .mv, [.t 2], none⟩,
 ⟨some 14, .len, [.t 13], none⟩,
 ⟨some 15, .bin .gtr, [.t 14, .c (.i 1048576)], none⟩] [13, 14])
 (.cond (.t 15) [15]
 (.seq
 (.region false [⟨some 6, .mv, [.c (.b true)], none⟩] [0, 1, 2])
 .ret)
 .skip))
 (.seq
 (.region false [⟨some 7, .mv, [.c (.i 1048576)], none⟩] [])
 (.seq
 (.region false [⟨some 16, .mv, [.t 0], none⟩,
 ⟨some 17, .mv, [.t 7], none⟩,
 ⟨some 18, .call n_laws_szTestS 9216, [.t 16, .t 17], none⟩,
 ⟨some 7, .mv, [.t 18], none⟩] [16, 17, 18])
 (.seq
 (.seq
 (.region false [⟨some 19, .mv, [.t 7], none⟩,
 ⟨some 20, .bin .lss, [.t 19, .c (.i 0)], none⟩] [19])
 (.cond (.t 20) [20]
 (.seq
 (.region false [⟨some 6, .mv, [.c (.b true)], none⟩] [0, 1, 2, 7])
 .ret)
 .skip))
 (.seq
 (.region false [⟨some 21, .mv, [.t 1], none⟩,
 ⟨some 22, .mv, [.t 7], none⟩,
 ⟨some 23, .call n_laws_szMarkS 11776, [.t 21, .t 22], none⟩,
 ⟨some 7, .mv, [.t 23], none⟩] [21, 22, 23])
 (.seq
 (.seq
 (.region false [⟨some 24, .mv, [.t 7], none⟩,
 ⟨some 25, .bin .lss, [.t 24, .c (.i 0)], none⟩] [7, 24])
 (.cond (.t 25) [25]
 (.seq
 (.region false [⟨some 6, .mv, [.c (.b true)], none⟩] [0, 1, 2])
 .ret)
 .skip))
 (.seq
 (.region false [⟨some 26, .mv, [.t 0], none⟩,
 ⟨some 27, .call n_laws_toTestS 13824, [.t 26], none⟩,
 ⟨some 28, .mv, [.t 1], none⟩,
 ⟨some 29, .call n_laws_toMarkS 14848, [.t 28], none⟩,
 ⟨some 30, .mv, [.t 2], none⟩,
 ⟨some 31, .call n_laws_toIntS 15872, [.t 30], none⟩,
 ⟨some 32, .call n_spec_AverageIn 16384, [.t 27, .t 29, .t 31], none⟩,
 ⟨some 8, .mv, [.t 32], none⟩] [26, 27, 28, 29, 30, 31, 32])
 (.seq
 (.region false [⟨some 33, .mv, [.t 0], none⟩,
 ⟨some 34, .call n_laws_toTestS 17408, [.t 33], none⟩,
 ⟨some 9, .mv, [.t 34], none⟩] [33, 34])
 (.seq
 (.region false [⟨some 35, .mv, [.t 1], none⟩,
 ⟨some 36, .call n_laws_toMarkS 18432, [.t 35], none⟩,
 ⟨some 10, .mv, [.t 36], none⟩] [35, 36])
 (.seq
 (.region false [⟨some 37, .mv, [.t 2], none⟩,
 ⟨some 38, .call n_laws_toIntS 19456, [.t 37], none⟩,
 ⟨some 11, .mv, [.t 38], none⟩] [37, 38])
 (.seq
 (.region false [⟨some 39, .mv, [.t 9], none⟩,
 ⟨some 40, .mv, [.t 10], none⟩,
 ⟨some 41, .mv, [.t 11], none⟩,
 ⟨some 42, .call n_impl_AverageIn 21504, [.t 39, .t 40, .t 41], none⟩,
 ⟨some 12, .mv, [.t 42], none⟩] [39, 40, 41, 42])
 (.seq
 (.seq
 (.region false [⟨some 43, .mv, [.t 12], none⟩,
 ⟨some 44, .mv, [.t 8], none⟩,
 ⟨some 45, .bin .neq, [.t 43, .t 44], none⟩] [8, 12, 43, 44])
 (.cond (.t 45) [45]
 (.seq
 (.region false [⟨some 6, .mv, [.c (.b false)], none⟩] [0, 1, 2, 9, 10, 11])
 .ret)
 .skip))
 (.seq
 (.seq
 (.region false [⟨some 46, .mv, [.t 9], none⟩,
 ⟨some 47, .mv, [.t 0], none⟩,
 ⟨some 48, .call n_laws_toTestS 24576, [.t 47], none⟩,
 ⟨some 49, .call n_laws_eqTestS 25088, [.t 46, .t 48], none⟩,
 ⟨some 50, .un .not, [.t 49], none⟩] [0, 9, 46, 47, 48, 49])
 (.cond (.t 50) [50]
 (.seq
 (.region false [⟨some 6, .mv, [.c (.b false)], none⟩] [1, 2, 10, 11])
 .ret)
 .skip))
 (.seq
 (.seq
 (.region false [⟨some 51, .mv, [.t 10], none⟩,
 ⟨some 52, .mv, [.t 1], none⟩,
 ⟨some 53, .call n_laws_toMarkS 27136, [.t 52], none⟩,
 ⟨some 54, .call n_laws_eqMarkS 27648, [.t 51, .t 53], none⟩,
 ⟨some 55, .un .not, [.t 54], none⟩] [1, 10, 51, 52, 53, 54])
 (.cond (.t 55) [55]
 (.seq
 (.region false [⟨some 6, .mv, [.c (.b false)], none⟩] [2, 11])
 .ret)
 .skip))
 (.seq
 (.seq
 (.region false [⟨some 56, .mv, [.t 11], none⟩,
 ⟨some 57, .mv, [.t 2], none⟩,
 ⟨some 58, .call n_laws_toIntS 29696, [.t 57], none⟩,
 ⟨some 59, .call n_laws_eqIntS 30208, [.t 56, .t 58], none⟩,
 ⟨some 60, .un .not, [.t 59], none⟩] [2, 11, 56, 57, 58, 59])
 (.cond (.t 60) [60]
 (.seq
 (.region false [⟨some 6, .mv, [.c (.b false)], none⟩] [])
 .ret)
 .skip))
 (.seq
 (.region false [⟨some 6, .mv, [.c (.b true)], none⟩] [])
 .ret))))))))))))))))) }
/-- laws.FnExactBestOrder -/
def F_laws_FnExactBestOrder : LF :=
 { nparams := 2, results := [.t 4], body :=
 (.seq
 (.region false [⟨some 4, .mv, [.c (.b false)], none⟩] [4])
 (.seq
 (.region false [⟨some 5, .mv, [.c (.i 1048576)], none⟩] [])
 (.seq
 (.region false [⟨some 17, .mv, [.t 0], none⟩,
 ⟨some 18, .mv, [.t 5], none⟩,
 ⟨some 19, .call n_laws_szTestS 9728, [.t 17, .t 18], none⟩,
 ⟨some 5, .mv, [.t 19], none⟩] [17, 18, 19])
 (.seq
 (.seq
 (.region false [⟨some 20, .mv, [.t 5], none⟩,
 ⟨some 21, .bin .lss, [.t 20, .c (.i 0)], none⟩] [20])
 (.cond (.t 21) [21]
 (.seq
 (.region false [⟨some 4, .mv, [.c (.b true)], none⟩] [0, 1, 5])
 .ret)
 .skip))
 (.seq
 (.region false [⟨some 22, .mv, [.t 1], none⟩,
 ⟨some 23, .mv, [.t 5], none⟩,
 ⟨some 24, .call n_laws_szMarkS 12288, [.t 22, .t 23], none⟩,
 ⟨some 5, .mv, [.t 24], none⟩] [22, 23, 24])
 (.seq
 (.seq
 (.region false [⟨some 25, .mv, [.t 5], none⟩,
 ⟨some 26, .bin .lss, [.t 25, .c (.i 0)], none⟩] [5, 25])
 (.cond (.t 26) [26]
 (.seq
 (.region false [⟨some 4, .mv, [.c (.b true)], none⟩] [0, 1])
 .ret)
 .skip))
 (.seq
 (.region false [⟨some 28, .mv, [.t 0], none⟩,
 ⟨some 29, .call n_laws_toTestS 14848, [.t 28], none⟩,
 ⟨some 30, .mv, [.t 1], none⟩,
 ⟨some 31, .call n_laws_toMarkS 15872, [.t 30], none⟩,
 ⟨some 32, .callg n_spec_BestOrder 16384, [.t 29, .t 31], none⟩,
 ⟨some 27, .mv, [.t 32], none⟩,
 ⟨some 33, .ext 0, [.t 27], none⟩,
 ⟨some 34, .ext 1, [.t 27], none⟩,
 ⟨some 6, .mv, [.t 33], none⟩,
 ⟨some 7, .mv, [.t 34], none⟩] [27, 28, 29, 30, 31, 32, 33, 34])
 (.seq
 (.region false [⟨some 35, .mv, [.t 0], none⟩,
 ⟨some 36, .call n_laws_toTestS 18432, [.t 35], none⟩,
 ⟨some 8, .mv, [.t 36], none⟩] [35, 36])
 (.seq
 (.region false [⟨some 37, .mv, [.t 1], none⟩,
 ⟨some 38, .call n_laws_toMarkS 19456, [.t 37], none⟩,
 ⟨some 9, .mv, [.t 38], none⟩] [37, 38])
 (.seq
 (.region false [⟨some 40, .mv, [.t 8], none⟩,
 ⟨some 41, .mv, [.t 9], none⟩,
 ⟨some 42, .call n_impl_BestOrder 21504, [.t 40, .t 41], none⟩,
 ⟨some 39, .mv, [.t 42], none⟩,
 ⟨some 43, .ext 0, [.t 39], none⟩,
 ⟨some 44, .ext 1, [.t 39], none⟩,
 ⟨some 10, .mv, [.t 43], none⟩,
 ⟨some 11, .mv, [.t 44], none⟩] [39, 40, 41, 42, 43, 44])
 (.seq
 (.seq
 (.region false [⟨some 45, .mv, [.t 10], none⟩,
 ⟨some 46, .mv, [.t 6], none⟩,
 ⟨some 47, .call n_laws_eqIntS 24064, [.t 45, .t 46], none⟩,
 ⟨some 48, .un .not, [.t 47], none⟩,
 ⟨some 49, .mv, [.t 48], none⟩,
 ⟨some 50, .mv, [.t 11], some (49, false)⟩,
 ⟨some 51, .mv, [.t 7], some (49, false)⟩,
 ⟨some 52, .bin .neq, [.t 50, .t 51], some (49, false)⟩,
 ⟨some 53, .pick, [.t 49, .c (.b true), .t 52], none⟩] [45, 46, 47, 48, 49, 50, 51, 52])
 (.cond (.t 53) [53]
 (.seq
 (.region false [⟨some 4, .mv, [.c (.b false)], none⟩] [0, 1, 6, 7, 8, 9, 10, 11])
 .ret)
 .skip))
 (.seq
 (.seq
 (.region false [⟨some 54, .mv, [.t 8], none⟩,
 ⟨some 55, .mv, [.t 0], none⟩,
 ⟨some 56, .call n_laws_toTestS 28672, [.t 55], none⟩,
 ⟨some 57, .call n_laws_eqTestS 29184, [.t 54, .t 56], none⟩,
 ⟨some 58, .un .not, [.t 57], none⟩] [54, 55, 56, 57])
 (.cond (.t 58) [58]
 (.seq
 (.region false [⟨some 4, .mv, [.c (.b false)], none⟩] [0, 1, 6, 7, 8, 9, 10, 11])
 .ret)
 .skip))
 (.seq
 (.seq
 (.region false [⟨some 59, .mv, [.t 9], none⟩,
 ⟨some 60, .mv, [.t 1], none⟩,
 ⟨some 61, .call n_laws_toMarkS 31232, [.t 60], none⟩,
 ⟨some 62, .call n_laws_eqMarkS 31744, [.t 59, .t 61], none⟩,
 ⟨some 63, .un .not, [.t 62], none⟩] [59, 60, 61, 62])
 (.cond (.t 63) [63]
 (.seq
 (.region false [⟨some 4, .mv, [.c (.b false)], none⟩] [0, 1, 6, 7, 8, 9, 10, 11])
 .ret)
 .skip))
 (.seq
 (.region false [⟨some 12, .mv, [.c (.i 1)], none⟩] [])
 (.seq
 (.region false [⟨some 64, .mv, [.t 8], none⟩,
 ⟨some 65, .mv, [.t 12], none⟩,
 ⟨some 66, .call n_laws_markTestS 33796, [.t 64, .t 65], none⟩,
 ⟨some 12, .mv, [.t 66], none⟩] [8, 64, 65, 66])
 (.seq
 (.region false [⟨some 67, .mv, [.t 9], none⟩,
 ⟨some 68, .mv, [.t 12], none⟩,
 ⟨some 69, .call n_laws_markMarkS 35332, [.t 67, .t 68], none⟩,
 ⟨some 12, .mv, [.t 69], none⟩] [9, 67, 68, 69])
 (.seq
 (.seq
 (.region false [⟨some 70, .mv, [.t 12], none⟩,
 ⟨some 71, .bin .lss, [.t 70, .c (.i 0)], none⟩,
 ⟨some 72, .mv, [.t 71], none⟩,
 ⟨some 73, .mv, [.t 10], some (72, false)⟩,
 ⟨some 74, .mv, [.t 6], some (72, false)⟩,
 ⟨some 75, .call n_laws_eqIntS 38400, [.t 73, .t 74], some (72, false)⟩,
 ⟨some 76, .un .not, [.t 75], some (72, false)⟩,
 ⟨some 77, .pick, [.t 72, .c (.b true), .t 76], none⟩,
 ⟨some 78, .mv, [.t 77], none⟩,
 ⟨some 79, .mv, [.t 11], some (78, false)⟩,
 ⟨some 80, .mv, [.t 7], some (78, false)⟩,
 ⟨some 81, .bin .neq, [.t 79, .t 80], some (78, false)⟩,
 ⟨some 82, .pick, [.t 78, .c (.b true), .t 81], none⟩] [11, 12, 70, 71, 72, 73, 74, 75, 76, 77, 78, 79, 80, 81])
 (.cond (.t 82) [82]
 (.seq
 (.region false [⟨some 4, .mv, [.c (.b false)], none⟩] [0, 1, 6, 7, 10])
 .ret)
 .skip))
 (.seq
 (.region false [⟨some 13, .mv, [.c (.i 1)], none⟩] [])
 (.seq
 (.region false [⟨some 83, .mv, [.t 10], none⟩,
 ⟨some 84, .mv, [.t 13], none⟩,
 ⟨some 85, .call n_laws_markIntS 43524, [.t 83, .t 84], none⟩,
 ⟨some 13, .mv, [.t 85], none⟩] [83, 84, 85])
 (.seq
 (.region false [⟨some 14, .mv, [.c (.i 1)], none⟩] [])
 (.seq
 (.region false [⟨some 86, .mv, [.t 10], none⟩,
 ⟨some 87, .mv, [.t 14], none⟩,
 ⟨some 88, .call n_laws_heldIntS 45056, [.t 86, .t 87], none⟩,
 ⟨some 14, .mv, [.t 88], none⟩] [86, 87, 88])
 (.seq
 (.seq
 (.region false [⟨some 89, .mv, [.t 14], none⟩,
 ⟨some 90, .bin .lss, [.t 89, .c (.i 0)], none⟩] [89])
 (.cond (.t 90) [90]
 (.seq
 (.region false [⟨some 4, .mv, [.c (.b false)], none⟩] [0, 1, 6, 7, 10, 13, 14])
 .ret)
 .skip))
 (.seq
 (.seq
 (.region false [⟨some 91, .mv, [.t 14], none⟩,
 ⟨some 92, .mv, [.t 13], none⟩,
 ⟨some 93, .bin .neq, [.t 91, .t 92], none⟩] [14, 91, 92])
 (.cond (.t 93) [93]
 (.seq
 (.region false [⟨some 4, .mv, [.c (.b false)], none⟩] [0, 1, 6, 7, 10, 13])
 .ret)
 .skip))
 (.seq
 (.region false [⟨some 95, .mv, [.t 0], none⟩,
 ⟨some 96, .call n_laws_toTestS 49152, [.t 95], none⟩,
 ⟨some 97, .mv, [.t 1], none⟩,
 ⟨some 98, .call n_laws_toMarkS 50176, [.t 97], none⟩,
 ⟨some 99, .call n_impl_BestOrder 50688, [.t 96, .t 98], none⟩,
 ⟨some 94, .mv, [.t 99], none⟩,
 ⟨some 100, .ext 0, [.t 94], none⟩,
 ⟨some 101, .ext 1, [.t 94], none⟩,
 ⟨some 15, .mv, [.t 100], none⟩,
 ⟨some 16, .mv, [.t 101], none⟩] [0, 1, 94, 95, 96, 97, 98, 99, 100, 101])
 (.seq
 (.seq
 (.region false [⟨some 102, .mv, [.t 15], none⟩,
 ⟨some 103, .mv, [.t 6], none⟩,
 ⟨some 104, .call n_laws_eqIntS 53248, [.t 102, .t 103], none⟩,
 ⟨some 105, .un .not, [.t 104], none⟩,
 ⟨some 106, .mv, [.t 105], none⟩,
 ⟨some 107, .mv, [.t 16], some (106, false)⟩,
 ⟨some 108, .mv, [.t 7], some (106, false)⟩,
 ⟨some 109, .bin .neq, [.t 107, .t 108], some (106, false)⟩,
 ⟨some 110, .pick, [.t 106, .c (.b true), .t 109], none⟩] [6, 7, 15, 16, 102, 103, 104, 105, 106, 107, 108, 109])
 (.cond (.t 110) [110]
 (.seq
 (.region false [⟨some 4, .mv, [.c (.b false)], none⟩] [10, 13])
 .ret)
 .skip))
 (.seq
 (.region false [⟨some 14, .mv, [.c (.i 1)], none⟩] [])
 (.seq
 (.region false [⟨some 111, .mv, [.t 10], none⟩,
 ⟨some 112, .mv, [.t 14], none⟩,
 ⟨some 113, .call n_laws_heldIntS 57856, [.t 111, .t 112], none⟩,
 ⟨some 14, .mv, [.t 113], none⟩] [10, 111, 112, 113])
 (.seq
 (.seq
 (.region false [⟨some 114, .mv, [.t 14], none⟩,
 ⟨some 115, .bin .lss, [.t 114, .c (.i 0)], none⟩] [114])
 (.cond (.t 115) [115]
 (.seq
 (.region false [⟨some 4, .mv, [.c (.b false)], none⟩] [13, 14])
 .ret)
 .skip))
 (.seq
 (.seq
 (.region false [⟨some 116, .mv, [.t 14], none⟩,
 ⟨some 117, .mv, [.t 13], none⟩,
 ⟨some 118, .bin .neq, [.t 116, .t 117], none⟩] [13, 14, 116, 117])
 (.cond (.t 118) [118]
 (.seq
 (.region false [⟨some 4, .mv, [.c (.b false)], none⟩] [])
 .ret)
 .skip))
 (.seq
 (.region false [⟨some 4, .mv, [.c (.b true)], none⟩] [])
 .ret)))))))))))))))))))))))))))))) }
/-- laws.FnAskedIn -/
def F_laws_FnAskedIn_L0 : LC :=
 (.seq
 (.seq
 (.region false [⟨some 40, .mv, [.t 10], none⟩,
 ⟨some 41, .mv, [.t 7], none⟩,
 ⟨some 42, .bin .lss, [.t 40, .t 41], none⟩,
 ⟨some 43, .mv, [.t 42], none⟩,
 ⟨some 44, .mv, [.t 10], some (43, true)⟩,
 ⟨some 45, .mv, [.t 5], some (43, true)⟩,
 ⟨some 46, .len, [.t 45], some (43, true)⟩,
 ⟨some 47, .bin .lss, [.t 44, .t 46], some (43, true)⟩,
 ⟨some 48, .pick, [.t 43, .t 47, .c (.b false)], none⟩] [40, 41, 42, 43, 44, 45, 46, 47])
 (.cond (.t 48) [48]
 .skip
 (.exit 0)))
 (.seq
 (.block 1
 (.seq
 (.region false [⟨some 51, .mv, [.t 8], none⟩,
 ⟨some 9, .mv, [.t 51], none⟩] [51])
 (.region false [⟨some 52, .mv, [.t 8], none⟩,
 ⟨some 53, .mv, [.t 5], none⟩,
 ⟨some 54, .mv, [.t 10], none⟩,
 ⟨some 55, .idxa 1, [.t 53, .t 54], none⟩,
 ⟨some 56, .load 1 false, [.t 55], none⟩,
 ⟨some 57, .bin .shl, [.c (.i 1), .t 56], none⟩,
 ⟨some 58, .bin .or, [.t 52, .t 57], none⟩,
 ⟨some 8, .mv, [.t 58], none⟩] [52, 53, 54, 55, 56, 57, 58])))
 (.region false [⟨some 49, .mv, [.t 10], none⟩,
 ⟨some 50, .bin .add, [.t 49, .c (.i 1)], none⟩,
 ⟨some 10, .mv, [.t 50], none⟩] [49, 50])))
def F_laws_FnAskedIn_W0 : LC := .loop F_laws_FnAskedIn_L0
def F_laws_FnAskedIn : LF :=
 { nparams := 1, results := [.t 2], body :=
 (.seq
 (.region false [⟨some 2, .mv, [.c (.b false)], none⟩] [2])
 (.seq
 (.seq
 (.region false [⟨some 11, .mv, [.t 0], none⟩,
 ⟨some 12, .len, [.t 11], none⟩,
 ⟨some 13, .bin .gtr, [.t 12, .c (.i 1048576)], none⟩] [11, 12])
 (.cond (.t 13) [13]
 (.seq
 (.region false [⟨some 2, .mv, [.c (.b true)], none⟩] [0])
 .ret)
 .skip))
 (.seq
 (.region false [⟨some 15, .mv, [.t 0], none⟩,
 ⟨some 16, .call n_spec_DrawAskedIn 8192, [.t 15], none⟩,
 ⟨some 14, .mv, [.t 16], none⟩,
 ⟨some 17, .ext 0, [.t 14], none⟩,
 ⟨some 18, .ext 1, [.t 14], none⟩,
 ⟨some 19, .ext 2, [.t 14], none⟩,
 ⟨some 20, .ext 3, [.t 14], none⟩,
 ⟨some 3, .mv, [.t 17], none⟩,
 ⟨some 4, .mv, [.t 18], none⟩,
 ⟨some 5, .mv, [.t 19], none⟩,
 ⟨some 6, .mv, [.t 20], none⟩] [0, 14, 15, 16, 17, 18, 19, 20])
 (.seq
 (.region false [⟨some 21, .mv, [.t 3], none⟩,
 ⟨some 22, .mv, [.t 4], none⟩,
 ⟨some 23, .mv, [.t 5], none⟩,
 ⟨some 24, .mv, [.t 6], none⟩,
 ⟨some 25, .call n_impl_AskedIn 12800, [.t 21, .t 22, .t 23, .t 24], none⟩,
 ⟨some 7, .mv, [.t 25], none⟩] [21, 22, 23, 24, 25])
 (.seq
 (.seq
 (.region false [⟨some 26, .mv, [.t 7], none⟩,
 ⟨some 27, .mv, [.t 3], none⟩,
 ⟨some 28, .mv, [.t 4], none⟩,
 ⟨some 29, .mv, [.t 5], none⟩,
 ⟨some 30, .mv, [.t 6], none⟩,
 ⟨some 31, .call n_spec_AskedIn 15872, [.t 27, .t 28, .t 29, .t 30], none⟩,
 ⟨some 32, .bin .neq, [.t 26, .t 31], none⟩] [26, 27, 28, 29, 30, 31])
 (.cond (.t 32) [32]
 (.seq
 (.region false [⟨some 2, .mv, [.c (.b false)], none⟩] [3, 4, 5, 6, 7])
 .ret)
 .skip))
 (.seq
 (.seq
 (.region false [⟨some 33, .mv, [.t 7], none⟩,
 ⟨some 34, .bin .lss, [.t 33, .c (.i 0)], none⟩] [33])
 (.cond (.t 34) [34]
 (.seq
 (.region false [⟨some 35, .mv, [.t 7], none⟩,
 ⟨some 36, .bin .eql, [.t 35, .c (.i (-1))], none⟩,
 ⟨some 37, .mv, [.t 36], none⟩,
 ⟨some 38, .call n_laws_alive 19456, [], some (37, true)⟩,
 ⟨some 39, .pick, [.t 37, .t 38, .c (.b false)], none⟩,
 ⟨some 2, .mv, [.t 39], none⟩] [3, 4, 5, 6, 7, 35, 36, 37, 38, 39])
 .ret)
 .skip))
 (.seq
 (.region false [⟨some 8, .mv, [.c (.i 0)], none⟩] [])
 (.seq
 (.region false [⟨some 9, .mv, [.c (.i 0)], none⟩] [])
 (.seq
 (.seq
 (.region false [⟨some 10, .mv, [.c (.i 0)], none⟩] [])
 (.block 0
 F_laws_FnAskedIn_W0))
 (.seq
 (.region false [⟨some 59, .mv, [.t 7], none⟩,
 ⟨some 60, .mv, [.t 3], none⟩,
 ⟨some 61, .bin .leq, [.t 59, .t 60], none⟩,
 ⟨some 62, .mv, [.t 61], none⟩,
 ⟨some 63, .mv, [.t 3], some (62, true)⟩,
 ⟨some 64, .mv, [.t 4], some (62, true)⟩,
 ⟨some 65, .mv, [.t 6], some (62, true)⟩,
 ⟨some 66, .mv, [.t 8], some (62, true)⟩,
 ⟨some 67, .call n_impl_ProofOk 34304, [.t 63, .t 64, .t 65, .t 66], some (62, true)⟩,
 ⟨some 68, .pick, [.t 62, .t 67, .c (.b false)], none⟩,
 ⟨some 69, .mv, [.t 68], none⟩,
 ⟨some 70, .mv, [.t 7], some (69, true)⟩,
 ⟨some 71, .bin .eql, [.t 70, .c (.i 0)], some (69, true)⟩,
 ⟨some 72, .mv, [.t 71], some (69, true)⟩,
 ⟨some 73, .mv, [.t 3], some (72, false)⟩,
 ⟨some 74, .mv, [.t 4], some (72, false)⟩,
 ⟨some 75, .mv, [.t 6], some (72, false)⟩,
 ⟨some 76, .mv, [.t 9], some (72, false)⟩,
 ⟨some 77, .call n_impl_ProofOk 39424, [.t 73, .t 74, .t 75, .t 76], some (72, false)⟩,
 ⟨some 78, .un .not, [.t 77], some (72, false)⟩,
 ⟨some 79, .pick, [.t 72, .c (.b true), .t 78], some (69, true)⟩,
 ⟨some 80, .pick, [.t 69, .t 79, .c (.b false)], none⟩,
 ⟨some 2, .mv, [.t 80], none⟩] [3, 4, 5, 6, 7, 8, 9, 10, 59, 60, 61, 62, 63, 64, 65, 66, 67, 68, 69, 70, 71, 72, 73, 74, 75, 76, 77, 78, 79, 80])
 .ret)))))))))) }
/-- laws.FnCostIn -/
def F_laws_FnCostIn : LF :=
 { nparams := 1, results := [.t 2], body :=
 (.seq
 (.region false [⟨some 2, .mv, [.c (.b false)], none⟩] [2])
 (.seq
 (.seq
 (.region false [⟨some 8, .mv, [.t 0], none⟩,
 ⟨some 9, .len, [.t 8], none⟩,
 ⟨some 10, .bin .gtr, [.t 9, .c (.i 1048576)], none⟩] [8, 9])
 (.cond (.t 10) [10]
 (.seq
 (.region false [⟨some 2, .mv, [.c (.b true)], none⟩] [0])
 .ret)
 .skip))
 (.seq
 (.region false [⟨some 12, .mv, [.t 0], none⟩,
 ⟨some 13, .call n_spec_DrawCostIn 6656, [.t 12], none⟩,
 ⟨some 11, .mv, [.t 13], none⟩,
 ⟨some 14, .ext 0, [.t 11], none⟩,
 ⟨some 15, .ext 1, [.t 11], none⟩,
 ⟨some 16, .ext 2, [.t 11], none⟩,
 ⟨some 17, .ext 3, [.t 11], none⟩,
 ⟨some 3, .mv, [.t 14], none⟩,
 ⟨some 4, .mv, [.t 15], none⟩,
 ⟨some 5, .mv, [.t 16], none⟩,
 ⟨some 6, .mv, [.t 17], none⟩] [0, 11, 12, 13, 14, 15, 16, 17])
 (.seq
 (.region false [⟨some 18, .mv, [.t 3], none⟩,
 ⟨some 19, .mv, [.t 4], none⟩,
 ⟨some 20, .mv, [.t 5], none⟩,
 ⟨some 21, .mv, [.t 6], none⟩,
 ⟨some 22, .call n_impl_CostIn 11264, [.t 18, .t 19, .t 20, .t 21], none⟩,
 ⟨some 7, .mv, [.t 22], none⟩] [18, 19, 20, 21, 22])
 (.seq
 (.seq
 (.region false [⟨some 23, .mv, [.t 7], none⟩,
 ⟨some 24, .mv, [.t 3], none⟩,
 ⟨some 25, .mv, [.t 4], none⟩,
 ⟨some 26, .mv, [.t 5], none⟩,
 ⟨some 27, .mv, [.t 6], none⟩,
 ⟨some 28, .call n_spec_CostIn 14336, [.t 24, .t 25, .t 26, .t 27], none⟩,
 ⟨some 29, .bin .neq, [.t 23, .t 28], none⟩] [23, 24, 25, 26, 27, 28])
 (.cond (.t 29) [29]
 (.seq
 (.region false [⟨some 2, .mv, [.c (.b false)], none⟩] [3, 4, 5, 6, 7])
 .ret)
 .skip))
 (.seq
 (.seq
 (.region false [⟨some 30, .mv, [.t 7], none⟩,
 ⟨some 31, .bin .lss, [.t 30, .c (.i 0)], none⟩] [30])
 (.cond (.t 31) [31]
 (.seq
 (.region false [⟨some 32, .mv, [.t 7], none⟩,
 ⟨some 33, .bin .eql, [.t 32, .c (.i (-1))], none⟩,
 ⟨some 34, .mv, [.t 33], none⟩,
 ⟨some 35, .call n_laws_alive 17920, [], some (34, true)⟩,
 ⟨some 36, .pick, [.t 34, .t 35, .c (.b false)], none⟩,
 ⟨some 2, .mv, [.t 36], none⟩] [3, 4, 5, 6, 7, 32, 33, 34, 35, 36])
 .ret)
 .skip))
 (.seq
 (.region false [⟨some 37, .mv, [.t 7], none⟩,
 ⟨some 38, .mv, [.t 3], none⟩,
 ⟨some 39, .call n_impl_CostOf 19968, [.t 38], none⟩,
 ⟨some 40, .bin .leq, [.t 37, .t 39], none⟩,
 ⟨some 41, .mv, [.t 40], none⟩,
 ⟨some 42, .mv, [.t 7], some (41, true)⟩,
 ⟨some 43, .bin .eql, [.t 42, .c (.i 0)], some (41, true)⟩,
 ⟨some 44, .mv, [.t 3], some (41, true)⟩,
 ⟨some 45, .len, [.t 44], some (41, true)⟩,
 ⟨some 46, .mv, [.t 4], some (41, true)⟩,
 ⟨some 47, .mv, [.t 5], some (41, true)⟩,
 ⟨some 48, .mv, [.t 6], some (41, true)⟩,
 ⟨some 49, .call n_impl_AskedIn 25088, [.t 45, .t 46, .t 47, .t 48], some (41, true)⟩,
 ⟨some 50, .bin .eql, [.t 49, .c (.i 0)], some (41, true)⟩,
 ⟨some 51, .eqb false, [.t 43, .t 50], some (41, true)⟩,
 ⟨some 52, .pick, [.t 41, .t 51, .c (.b false)], none⟩,
 ⟨some 2, .mv, [.t 52], none⟩] [3, 4, 5, 6, 7, 37, 38, 39, 40, 41, 42, 43, 44, 45, 46, 47, 48, 49, 50, 51, 52])
 .ret))))))) }
/-- laws.FnAverageIn -/
def F_laws_FnAverageIn_L0 : LC :=
 (.seq
 (.seq
 (.region false [⟨some 35, .mv, [.t 8], none⟩,
 ⟨some 36, .mv, [.t 3], none⟩,
 ⟨some 37, .len, [.t 36], none⟩,
 ⟨some 38, .bin .shl, [.c (.i 1), .t 37], none⟩,
 ⟨some 39, .bin .lss, [.t 35, .t 38], none⟩] [35, 36, 37, 38])
 (.cond (.t 39) [39]
 .skip
 (.exit 0)))
 (.seq
 (.block 1
 (.region false [⟨some 42, .mv, [.t 7], none⟩,
 ⟨some 43, .mv, [.t 3], none⟩,
 ⟨some 44, .mv, [.t 8], none⟩,
 ⟨some 45, .call n_impl_WeightOf 23040, [.t 43, .t 44], none⟩,
 ⟨some 46, .mv, [.t 3], none⟩,
 ⟨some 47, .mv, [.t 4], none⟩,
 ⟨some 48, .mv, [.t 5], none⟩,
 ⟨some 49, .mv, [.t 8], none⟩,
 ⟨some 50, .call n_impl_CostIn 25600, [.t 46, .t 47, .t 48, .t 49], none⟩,
 ⟨some 51, .bin .mul, [.t 45, .t 50], none⟩,
 ⟨some 52, .bin .add, [.t 42, .t 51], none⟩,
 ⟨some 7, .mv, [.t 52], none⟩] [42, 43, 44, 45, 46, 47, 48, 49, 50, 51, 52]))
 (.region false [⟨some 40, .mv, [.t 8], none⟩,
 ⟨some 41, .bin .add, [.t 40, .c (.i 1)], none⟩,
 ⟨some 8, .mv, [.t 41], none⟩] [40, 41])))
def F_laws_FnAverageIn_W0 : LC := .loop F_laws_FnAverageIn_L0
def F_laws_FnAverageIn : LF :=
 { nparams := 1, results := [.t 2], body :=
 (.seq
 (.region false [⟨some 2, .mv, [.c (.b false)], none⟩] [2])
 (.seq
 (.seq
 (.region false [⟨some 9, .mv, [.t 0], none⟩,
 ⟨some 10, .len, [.t 9], none⟩,
 ⟨some 11, .bin .gtr, [.t 10, .c (.i 1048576)], none⟩] [9, 10])
 (.cond (.t 11) [11]
 (.seq
 (.region false [⟨some 2, .mv, [.c (.b true)], none⟩] [0])
 .ret)
 .skip))
 (.seq
 (.region false [⟨some 13, .mv, [.t 0], none⟩,
 ⟨some 14, .call n_spec_DrawAverageIn 7168, [.t 13], none⟩,
 ⟨some 12, .mv, [.t 14], none⟩,
 ⟨some 15, .ext 0, [.t 12], none⟩,
 ⟨some 16, .ext 1, [.t 12], none⟩,
 ⟨some 17, .ext 2, [.t 12], none⟩,
 ⟨some 3, .mv, [.t 15], none⟩,
 ⟨some 4, .mv, [.t 16], none⟩,
 ⟨some 5, .mv, [.t 17], none⟩] [0, 12, 13, 14, 15, 16, 17])
 (.seq
 (.region false [⟨some 18, .mv, [.t 3], none⟩,
 ⟨some 19, .mv, [.t 4], none⟩,
 ⟨some 20, .mv, [.t 5], none⟩,
 ⟨some 21, .call n_impl_AverageIn 10752, [.t 18, .t 19, .t 20], none⟩,
 ⟨some 6, .mv, [.t 21], none⟩] [18, 19, 20, 21])
 (.seq
 (.seq
 (.region false [⟨some 22, .mv, [.t 6], none⟩,
 ⟨some 23, .mv, [.t 3], none⟩,
 ⟨some 24, .mv, [.t 4], none⟩,
 ⟨some 25, .mv, [.t 5], none⟩,
 ⟨some 26, .call n_spec_AverageIn 13312, [.t 23, .t 24, .t 25], none⟩,
 ⟨some 27, .bin .neq, [.t 22, .t 26], none⟩] [22, 23, 24, 25, 26])
 (.cond (.t 27) [27]
 (.seq
 (.region false [⟨some 2, .mv, [.c (.b false)], none⟩] [3, 4, 5, 6])
 .ret)
 .skip))
 (.seq
 (.seq
 (.region false [⟨some 28, .mv, [.t 6], none⟩,
 ⟨some 29, .bin .lss, [.t 28, .c (.i 0)], none⟩] [28])
 (.cond (.t 29) [29]
 (.seq
 (.region false [⟨some 30, .mv, [.t 6], none⟩,
 ⟨some 31, .bin .eql, [.t 30, .c (.i (-1))], none⟩,
 ⟨some 32, .mv, [.t 31], none⟩,
 ⟨some 33, .call n_laws_alive 16896, [], some (32, true)⟩,
 ⟨some 34, .pick, [.t 32, .t 33, .c (.b false)], none⟩,
 ⟨some 2, .mv, [.t 34], none⟩] [3, 4, 5, 6, 30, 31, 32, 33, 34])
 .ret)
 .skip))
 (.seq
 (.region false [⟨some 7, .mv, [.c (.i 0)], none⟩] [])
 (.seq
 (.seq
 (.region false [⟨some 8, .mv, [.c (.i 0)], none⟩] [])
 (.block 0
 F_laws_FnAverageIn_W0))
 (.seq
 (.region false [⟨some 53, .mv, [.t 7], none⟩,
 ⟨some 54, .mv, [.t 6], none⟩,
 ⟨some 55, .bin .eql, [.t 53, .t 54], none⟩,
 ⟨some 56, .mv, [.t 55], none⟩,
 ⟨some 57, .mv, [.t 3], some (56, true)⟩,
 ⟨some 58, .call n_impl_OtherTests 29696, [.t 57], some (56, true)⟩,
 ⟨some 59, .mv, [.t 3], some (56, true)⟩,
 ⟨some 60, .len, [.t 59], some (56, true)⟩,
 ⟨some 61, .mv, [.t 4], some (56, true)⟩,
 ⟨some 62, .call n_impl_DualTerm 31744, [.t 60, .t 61], some (56, true)⟩,
 ⟨some 63, .mv, [.t 5], some (56, true)⟩,
 ⟨some 64, .call n_impl_AverageIn 32768, [.t 58, .t 62, .t 63], some (56, true)⟩,
 ⟨some 65, .mv, [.t 6], some (56, true)⟩,
 ⟨some 66, .bin .eql, [.t 64, .t 65], some (56, true)⟩,
 ⟨some 67, .pick, [.t 56, .t 66, .c (.b false)], none⟩,
 ⟨some 2, .mv, [.t 67], none⟩] [3, 4, 5, 6, 7, 8, 53, 54, 55, 56, 57, 58, 59, 60, 61, 62, 63, 64, 65, 66, 67])
 .ret))))))))) }
/-- laws.FnBestOrder -/
def F_laws_FnBestOrder_L0 : LC :=
 (.ghost (.rename 11 32776)
 (.seq
 (.seq
 (.region false [⟨some 65, .mv, [.t 12], none⟩,
 ⟨some 66, .mv, [.t 5], none⟩,
 ⟨some 67, .len, [.t 66], none⟩,
 ⟨some 68, .bin .lss, [.t 65, .t 67], none⟩] [65, 66, 67])
 (.cond (.t 68) [68]
 .skip
 (.exit 0)))
 (.seq
 (.block 1
 (.seq
 (.region false [⟨some 13, .mv, [.c (.i 0)], none⟩] [])
 (.seq
 (.seq
 (.region false [⟨some 71, .mv, [.t 1], none⟩,
 ⟨some 72, .len, [.t 71], none⟩,
 ⟨some 73, .bin .gtr, [.t 72, .c (.i 0)], none⟩] [71, 72])
 (.cond (.t 73) [73]
 (.region false [⟨some 74, .mv, [.t 1], none⟩,
 ⟨some 75, .mv, [.t 12], none⟩,
 ⟨some 76, .mv, [.t 1], none⟩,
 ⟨some 77, .len, [.t 76], none⟩,
 ⟨some 78, .bin .rem, [.t 75, .t 77], none⟩,
 ⟨some 79, .idxa 1, [.t 74, .t 78], none⟩,
 ⟨some 80, .load 1 false, [.t 79], none⟩,
 ⟨some 81, .conv .b2i 41472, [.t 80], none⟩,
 ⟨some 82, .mv, [.t 11], none⟩,
 ⟨some 83, .len, [.t 82], none⟩,
 ⟨some 84, .bin .add, [.t 83, .c (.i 1)], none⟩,
 ⟨some 85, .bin .rem, [.t 81, .t 84], none⟩,
 ⟨some 13, .mv, [.t 85], none⟩] [74, 75, 76, 77, 78, 79, 80, 81, 82, 83, 84, 85])
 .skip))
 (.seq
 (.region false [⟨some 86, .bslice 44040 0 1 (.i 0) [], [], none⟩,
 ⟨some 87, .mv, [.t 11], none⟩,
 ⟨some 88, .mv, [.t 13], none⟩,
 ⟨some 89, .slice false true 1, [.t 87, .t 88], none⟩,
 ⟨some 90, .app 46088 1, [.t 86, .t 89], none⟩,
 ⟨some 14, .mv, [.t 90], none⟩] [86, 87, 88, 89, 90])
 (.seq
 (.region false [⟨some 91, .mv, [.t 14], none⟩,
 ⟨some 92, .mv, [.t 12], none⟩,
 ⟨some 93, .bslice 47624 1 1 (.i 0) [0], [.t 92], none⟩,
 ⟨some 94, .app 48136 1, [.t 91, .t 93], none⟩,
 ⟨some 14, .mv, [.t 94], none⟩] [91, 92, 93, 94])
 (.region false [⟨some 95, .mv, [.t 14], none⟩,
 ⟨some 96, .mv, [.t 11], none⟩,
 ⟨some 97, .mv, [.t 13], none⟩,
 ⟨some 98, .slice true false 1, [.t 96, .t 97], none⟩,
 ⟨some 99, .app 50696 1, [.t 95, .t 98], none⟩,
 ⟨some 11, .mv, [.t 99], none⟩] [13, 14, 95, 96, 97, 98, 99]))))))
 (.region false [⟨some 69, .mv, [.t 12], none⟩,
 ⟨some 70, .bin .add, [.t 69, .c (.i 1)], none⟩,
 ⟨some 12, .mv, [.t 70], none⟩] [69, 70]))))
def F_laws_FnBestOrder_W0 : LC := .loop F_laws_FnBestOrder_L0
def F_laws_FnBestOrder_L1 : LC :=
 (.seq
 (.seq
 (.region false [⟨some 100, .mv, [.t 15], none⟩,
 ⟨some 101, .bin .add, [.t 100, .c (.i 1)], none⟩,
 ⟨some 102, .mv, [.t 5], none⟩,
 ⟨some 103, .len, [.t 102], none⟩,
 ⟨some 104, .bin .lss, [.t 101, .t 103], none⟩] [100, 101, 102, 103])
 (.cond (.t 104) [104]
 .skip
 (.exit 2)))
 (.seq
 (.block 3
 (.seq
 (.region false [⟨some 108, .mv, [.t 5], none⟩,
 ⟨some 109, .len, [.t 108], none⟩,
 ⟨some 110, .mv, [.t 7], none⟩,
 ⟨some 111, .mv, [.t 15], none⟩,
 ⟨some 112, .call n_impl_SwappedOrder 57344, [.t 109, .t 110, .t 111], none⟩,
 ⟨some 107, .mv, [.t 112], none⟩,
 ⟨some 113, .ext 0, [.t 107], none⟩,
 ⟨some 114, .ext 1, [.t 107], none⟩,
 ⟨some 16, .mv, [.t 113], none⟩,
 ⟨some 17, .mv, [.t 114], none⟩] [107, 108, 109, 110, 111, 112, 113, 114])
 (.seq
 (.region false [⟨some 115, .mv, [.t 17], none⟩,
 ⟨some 116, .un .not, [.t 115], none⟩,
 ⟨some 117, .mv, [.t 116], none⟩,
 ⟨some 118, .mv, [.t 5], some (117, false)⟩,
 ⟨some 119, .mv, [.t 6], some (117, false)⟩,
 ⟨some 120, .mv, [.t 16], some (117, false)⟩,
 ⟨some 121, .call n_impl_AverageIn 61952, [.t 118, .t 119, .t 120], some (117, false)⟩,
 ⟨some 122, .mv, [.t 8], some (117, false)⟩,
 ⟨some 123, .bin .lss, [.t 121, .t 122], some (117, false)⟩,
 ⟨some 124, .pick, [.t 117, .c (.b true), .t 123], none⟩] [16, 17, 115, 116, 117, 118, 119, 120, 121, 122, 123])
 (.cond (.t 124) [124]
 (.seq
 (.region false [⟨some 4, .mv, [.c (.b false)], none⟩] [5, 6, 7, 8, 11, 15])
 .ret)
 .skip))))
 (.region false [⟨some 105, .mv, [.t 15], none⟩,
 ⟨some 106, .bin .add, [.t 105, .c (.i 1)], none⟩,
 ⟨some 15, .mv, [.t 106], none⟩] [105, 106])))
def F_laws_FnBestOrder_W1 : LC := .loop F_laws_FnBestOrder_L1
def F_laws_FnBestOrder : LF :=
 { nparams := 2, results := [.t 4], body :=
 (.seq
 (.region false [⟨some 4, .mv, [.c (.b false)], none⟩] [4])
 (.seq
 (.seq
 (.region false [⟨some 18, .mv, [.t 0], none⟩,
 ⟨some 19, .len, [.t 18], none⟩,
 ⟨some 20, .bin .gtr, [.t 19, .c (.i 1048576)], none⟩,
 ⟨some 21, .mv, [.t 20], none⟩,
 ⟨some 22, .mv, [.t 1], some (21, false)⟩,
 ⟨some 23, .len, [.t 22], some (21, false)⟩,
 ⟨some 24, .bin .gtr, [.t 23, .c (.i 1048576)], some (21, false)⟩,
 ⟨some 25, .pick, [.t 21, .c (.b true), .t 24], none⟩] [18, 19, 20, 21, 22, 23, 24])
 (.cond (.t 25) [25]
 (.seq
 (.region false [⟨some 4, .mv, [.c (.b true)], none⟩] [0, 1])
 .ret)
 .skip))
 (.seq
 (.region false [⟨some 27, .mv, [.t 0], none⟩,
 ⟨some 28, .call n_spec_DrawBestOrder 14336, [.t 27], none⟩,
 ⟨some 26, .mv, [.t 28], none⟩,
 ⟨some 29, .ext 0, [.t 26], none⟩,
 ⟨some 30, .ext 1, [.t 26], none⟩,
 ⟨some 5, .mv, [.t 29], none⟩,
 ⟨some 6, .mv, [.t 30], none⟩] [0, 26, 27, 28, 29, 30])
 (.ghost (.freeze 5)
(.ghost (.freeze 6)
 (.seq
 (.region false [⟨some 32, .mv, [.t 5], none⟩,
 ⟨some 33, .mv, [.t 6], none⟩,
 ⟨some 34, .call n_impl_BestOrder 17408, [.t 32, .t 33], none⟩,
 ⟨some 31, .mv, [.t 34], none⟩,
 ⟨some 35, .ext 0, [.t 31], none⟩,
 ⟨some 36, .ext 1, [.t 31], none⟩,
 ⟨some 7, .mv, [.t 35], none⟩,
 ⟨some 8, .mv, [.t 36], none⟩] [31, 32, 33, 34, 35, 36])
 (.seq
 (.region false [⟨some 38, .mv, [.t 5], none⟩,
 ⟨some 39, .mv, [.t 6], none⟩,
 ⟨some 40, .callg n_spec_BestOrder 20480, [.t 38, .t 39], none⟩,
 ⟨some 37, .mv, [.t 40], none⟩,
 ⟨some 41, .ext 0, [.t 37], none⟩,
 ⟨some 42, .ext 1, [.t 37], none⟩,
 ⟨some 9, .mv, [.t 41], none⟩,
 ⟨some 10, .mv, [.t 42], none⟩] [37, 38, 39, 40, 41, 42])
 (.seq
 (.seq
 (.region false [⟨some 43, .mv, [.t 7], none⟩,
 ⟨some 44, .mv, [.t 9], none⟩,
 ⟨some 45, .call n_laws_sameInts 23040, [.t 43, .t 44], none⟩,
 ⟨some 46, .un .not, [.t 45], none⟩,
 ⟨some 47, .mv, [.t 46], none⟩,
 ⟨some 48, .mv, [.t 8], some (47, false)⟩,
 ⟨some 49, .mv, [.t 10], some (47, false)⟩,
 ⟨some 50, .bin .neq, [.t 48, .t 49], some (47, false)⟩,
 ⟨some 51, .pick, [.t 47, .c (.b true), .t 50], none⟩] [9, 10, 43, 44, 45, 46, 47, 48, 49, 50])
 (.cond (.t 51) [51]
 (.seq
 (.region false [⟨some 4, .mv, [.c (.b false)], none⟩] [1, 5, 6, 7, 8])
 .ret)
 .skip))
 (.seq
 (.seq
 (.region false [⟨some 52, .mv, [.t 8], none⟩,
 ⟨some 53, .bin .lss, [.t 52, .c (.i 0)], none⟩] [52])
 (.cond (.t 53) [53]
 (.seq
 (.region false [⟨some 54, .mv, [.t 8], none⟩,
 ⟨some 55, .bin .eql, [.t 54, .c (.i (-1))], none⟩,
 ⟨some 56, .mv, [.t 55], none⟩,
 ⟨some 57, .mv, [.t 7], some (56, true)⟩,
 ⟨some 58, .len, [.t 57], some (56, true)⟩,
 ⟨some 59, .bin .eql, [.t 58, .c (.i 0)], some (56, true)⟩,
 ⟨some 60, .pick, [.t 56, .t 59, .c (.b false)], none⟩,
 ⟨some 61, .mv, [.t 60], none⟩,
 ⟨some 62, .call n_laws_alive 31744, [], some (61, true)⟩,
 ⟨some 63, .pick, [.t 61, .t 62, .c (.b false)], none⟩,
 ⟨some 4, .mv, [.t 63], none⟩] [1, 5, 6, 7, 8, 54, 55, 56, 57, 58, 59, 60, 61, 62, 63])
 .ret)
 .skip))
 (.seq
 (.region false [⟨some 64, .bslice 32776 0 1 (.i 0) [], [], none⟩,
 ⟨some 11, .mv, [.t 64], none⟩] [64])
 (.seq
 (.seq
 (.region false [⟨some 12, .mv, [.c (.i 0)], none⟩] [])
 (.block 0
 F_laws_FnBestOrder_W0))
 (.seq
 (.seq
 (.region false [⟨some 15, .mv, [.c (.i 0)], none⟩] [1, 12])
 (.block 2
 F_laws_FnBestOrder_W1))
 (.seq
 (.region false [⟨some 125, .mv, [.t 5], none⟩,
 ⟨some 126, .mv, [.t 6], none⟩,
 ⟨some 127, .mv, [.t 7], none⟩,
 ⟨some 128, .call n_impl_AverageIn 65536, [.t 125, .t 126, .t 127], none⟩,
 ⟨some 129, .mv, [.t 8], none⟩,
 ⟨some 130, .bin .eql, [.t 128, .t 129], none⟩,
 ⟨some 131, .mv, [.t 130], none⟩,
 ⟨some 132, .mv, [.t 5], some (131, true)⟩,
 ⟨some 133, .mv, [.t 6], some (131, true)⟩,
 ⟨some 134, .mv, [.t 11], some (131, true)⟩,
 ⟨some 135, .call n_impl_AverageIn 69120, [.t 132, .t 133, .t 134], some (131, true)⟩,
 ⟨some 136, .mv, [.t 8], some (131, true)⟩,
 ⟨some 137, .bin .geq, [.t 135, .t 136], some (131, true)⟩,
 ⟨some 138, .pick, [.t 131, .t 137, .c (.b false)], none⟩,
 ⟨some 139, .mv, [.t 138], none⟩,
 ⟨some 140, .mv, [.t 8], some (139, true)⟩,
 ⟨some 141, .mv, [.t 5], some (139, true)⟩,
 ⟨some 142, .len, [.t 141], some (139, true)⟩,
 ⟨some 143, .call n_laws_power 73216, [.t 142], some (139, true)⟩,
 ⟨some 144, .mv, [.t 5], some (139, true)⟩,
 ⟨some 145, .call n_impl_CostOf 74240, [.t 144], some (139, true)⟩,
 ⟨some 146, .bin .mul, [.t 143, .t 145], some (139, true)⟩,
 ⟨some 147, .bin .leq, [.t 140, .t 146], some (139, true)⟩,
 ⟨some 148, .pick, [.t 139, .t 147, .c (.b false)], none⟩,
 ⟨some 4, .mv, [.t 148], none⟩] [5, 6, 7, 8, 11, 15, 125, 126, 127, 128, 129, 130, 131, 132, 133, 134, 135, 136, 137, 138, 139, 140, 141, 142, 143, 144, 145, 146, 147, 148])
 .ret))))))))))))) }
/-- laws.FnIdleLast -/
def F_laws_FnIdleLast_L0 : LC :=
 (.seq
 (.seq
 (.region false [⟨some 47, .mv, [.t 10], none⟩,
 ⟨some 48, .mv, [.t 5], none⟩,
 ⟨some 49, .len, [.t 48], none⟩,
 ⟨some 50, .bin .lss, [.t 47, .t 49], none⟩] [47, 48, 49])
 (.cond (.t 50) [50]
 .skip
 (.exit 0)))
 (.seq
 (.block 1
 (.seq
 (.seq
 (.region false [⟨some 53, .mv, [.t 9], none⟩,
 ⟨some 54, .bin .lss, [.t 53, .c (.i 0)], none⟩,
 ⟨some 55, .mv, [.t 54], none⟩,
 ⟨some 56, .mv, [.t 7], some (55, true)⟩,
 ⟨some 57, .mv, [.t 5], some (55, true)⟩,
 ⟨some 58, .mv, [.t 10], some (55, true)⟩,
 ⟨some 59, .idxa 1, [.t 57, .t 58], some (55, true)⟩,
 ⟨some 60, .load 1 false, [.t 59], some (55, true)⟩,
 ⟨some 61, .bin .shr, [.t 56, .t 60], some (55, true)⟩,
 ⟨some 62, .bin .rem, [.t 61, .c (.i 2)], some (55, true)⟩,
 ⟨some 63, .bin .eql, [.t 62, .c (.i 1)], some (55, true)⟩,
 ⟨some 64, .pick, [.t 55, .t 63, .c (.b false)], none⟩] [53, 54, 55, 56, 57, 58, 59, 60, 61, 62, 63])
 (.cond (.t 64) [64]
 (.seq
 (.region false [⟨some 65, .mv, [.t 5], none⟩,
 ⟨some 66, .mv, [.t 10], none⟩,
 ⟨some 67, .idxa 1, [.t 65, .t 66], none⟩,
 ⟨some 68, .load 1 false, [.t 67], none⟩,
 ⟨some 9, .mv, [.t 68], none⟩] [65, 66, 67, 68])
 (.exit 1))
 .skip))
 (.region false [⟨some 69, .mv, [.t 8], none⟩,
 ⟨some 70, .mv, [.t 5], none⟩,
 ⟨some 71, .mv, [.t 10], none⟩,
 ⟨some 72, .idxa 1, [.t 70, .t 71], none⟩,
 ⟨some 73, .load 1 false, [.t 72], none⟩,
 ⟨some 74, .bslice 37896 1 1 (.i 0) [0], [.t 73], none⟩,
 ⟨some 75, .app 38408 1, [.t 69, .t 74], none⟩,
 ⟨some 8, .mv, [.t 75], none⟩] [69, 70, 71, 72, 73, 74, 75])))
 (.region false [⟨some 51, .mv, [.t 10], none⟩,
 ⟨some 52, .bin .add, [.t 51, .c (.i 1)], none⟩,
 ⟨some 10, .mv, [.t 52], none⟩] [51, 52])))
def F_laws_FnIdleLast_W0 : LC := .loop F_laws_FnIdleLast_L0
def F_laws_FnIdleLast : LF :=
 { nparams := 1, results := [.t 2], body :=
 (.seq
 (.region false [⟨some 2, .mv, [.c (.b false)], none⟩] [2])
 (.seq
 (.seq
 (.region false [⟨some 11, .mv, [.t 0], none⟩,
 ⟨some 12, .len, [.t 11], none⟩,
 ⟨some 13, .bin .gtr, [.t 12, .c (.i 1048576)], none⟩] [11, 12])
 (.cond (.t 13) [13]
 (.seq
 (.region false [⟨some 2, .mv, [.c (.b true)], none⟩] [0])
 .ret)
 .skip))
 (.seq
 (.region false [⟨some 15, .mv, [.t 0], none⟩,
 ⟨some 16, .call n_spec_DrawAverageIn 8192, [.t 15], none⟩,
 ⟨some 14, .mv, [.t 16], none⟩,
 ⟨some 17, .ext 0, [.t 14], none⟩,
 ⟨some 18, .ext 1, [.t 14], none⟩,
 ⟨some 19, .ext 2, [.t 14], none⟩,
 ⟨some 3, .mv, [.t 17], none⟩,
 ⟨some 4, .mv, [.t 18], none⟩,
 ⟨some 5, .mv, [.t 19], none⟩] [0, 14, 15, 16, 17, 18, 19])
 (.seq
 (.region false [⟨some 20, .mv, [.t 3], none⟩,
 ⟨some 21, .mv, [.t 4], none⟩,
 ⟨some 22, .mv, [.t 5], none⟩,
 ⟨some 23, .call n_impl_AverageIn 11776, [.t 20, .t 21, .t 22], none⟩,
 ⟨some 6, .mv, [.t 23], none⟩] [20, 21, 22, 23])
 (.seq
 (.seq
 (.region false [⟨some 24, .mv, [.t 6], none⟩,
 ⟨some 25, .bin .lss, [.t 24, .c (.i 0)], none⟩,
 ⟨some 26, .mv, [.t 25], none⟩,
 ⟨some 27, .mv, [.t 3], some (26, false)⟩,
 ⟨some 28, .mv, [.t 4], some (26, false)⟩,
 ⟨some 29, .mv, [.t 5], some (26, false)⟩,
 ⟨some 30, .call n_spec_AverageIn 15360, [.t 27, .t 28, .t 29], some (26, false)⟩,
 ⟨some 31, .bin .lss, [.t 30, .c (.i 0)], some (26, false)⟩,
 ⟨some 32, .pick, [.t 26, .c (.b true), .t 31], none⟩] [24, 25, 26, 27, 28, 29, 30, 31])
 (.cond (.t 32) [32]
 (.seq
 (.region false [⟨some 33, .mv, [.t 6], none⟩,
 ⟨some 34, .mv, [.t 3], none⟩,
 ⟨some 35, .mv, [.t 4], none⟩,
 ⟨some 36, .mv, [.t 5], none⟩,
 ⟨some 37, .call n_spec_AverageIn 18944, [.t 34, .t 35, .t 36], none⟩,
 ⟨some 38, .bin .eql, [.t 33, .t 37], none⟩,
 ⟨some 39, .mv, [.t 38], none⟩,
 ⟨some 40, .call n_laws_alive 20480, [], some (39, true)⟩,
 ⟨some 41, .pick, [.t 39, .t 40, .c (.b false)], none⟩,
 ⟨some 2, .mv, [.t 41], none⟩] [3, 4, 5, 6, 33, 34, 35, 36, 37, 38, 39, 40, 41])
 .ret)
 .skip))
 (.seq
 (.region false [⟨some 42, .mv, [.t 3], none⟩,
 ⟨some 43, .len, [.t 42], none⟩,
 ⟨some 44, .mv, [.t 4], none⟩,
 ⟨some 45, .call n_impl_IdleTests 23040, [.t 43, .t 44], none⟩,
 ⟨some 7, .mv, [.t 45], none⟩] [42, 43, 44, 45])
 (.seq
 (.region false [⟨some 46, .bslice 23560 0 1 (.i 0) [], [], none⟩,
 ⟨some 8, .mv, [.t 46], none⟩] [46])
 (.seq
 (.region false [⟨some 9, .mv, [.c (.i (-1))], none⟩] [])
 (.seq
 (.seq
 (.region false [⟨some 10, .mv, [.c (.i 0)], none⟩] [])
 (.block 0
 F_laws_FnIdleLast_W0))
 (.seq
 (.seq
 (.region false [⟨some 76, .mv, [.t 9], none⟩,
 ⟨some 77, .bin .geq, [.t 76, .c (.i 0)], none⟩] [5, 7, 10, 76])
 (.cond (.t 77) [77]
 (.region false [⟨some 78, .mv, [.t 8], none⟩,
 ⟨some 79, .mv, [.t 9], none⟩,
 ⟨some 80, .bslice 40968 1 1 (.i 0) [0], [.t 79], none⟩,
 ⟨some 81, .app 41480 1, [.t 78, .t 80], none⟩,
 ⟨some 8, .mv, [.t 81], none⟩] [9, 78, 79, 80, 81])
 .skip))
 (.seq
 (.region false [⟨some 82, .call n_laws_alive 41984, [], none⟩,
 ⟨some 83, .mv, [.t 82], none⟩,
 ⟨some 84, .mv, [.t 3], some (83, true)⟩,
 ⟨some 85, .mv, [.t 4], some (83, true)⟩,
 ⟨some 86, .mv, [.t 8], some (83, true)⟩,
 ⟨some 87, .call n_impl_AverageIn 44544, [.t 84, .t 85, .t 86], some (83, true)⟩,
 ⟨some 88, .mv, [.t 6], some (83, true)⟩,
 ⟨some 89, .bin .leq, [.t 87, .t 88], some (83, true)⟩,
 ⟨some 90, .mv, [.t 89], some (83, true)⟩,
 ⟨some 91, .mv, [.t 3], some (90, true)⟩,
 ⟨some 92, .mv, [.t 4], some (90, true)⟩,
 ⟨some 93, .mv, [.t 8], some (90, true)⟩,
 ⟨some 94, .call n_impl_AverageIn 48128, [.t 91, .t 92, .t 93], some (90, true)⟩,
 ⟨some 95, .bin .geq, [.t 94, .c (.i 0)], some (90, true)⟩,
 ⟨some 96, .pick, [.t 90, .t 95, .c (.b false)], some (83, true)⟩,
 ⟨some 97, .pick, [.t 83, .t 96, .c (.b false)], none⟩,
 ⟨some 2, .mv, [.t 97], none⟩] [3, 4, 6, 8, 9, 82, 83, 84, 85, 86, 87, 88, 89, 90, 91, 92, 93, 94, 95, 96, 97])
 .ret))))))))))) }
/-- laws.szMarkS -/
def F_laws_szMarkS : LF :=
 { nparams := 2, results := [.t 4], body :=
 (.seq
 (.region false [⟨some 4, .mv, [.c (.i 0)], none⟩] [4])
 (.seq
 (.region false [⟨some 5, .mv, [.t 1], none⟩,
 ⟨some 6, .mv, [.t 0], none⟩,
 ⟨some 7, .len, [.t 6], none⟩,
 ⟨some 8, .bin .sub, [.t 5, .t 7], none⟩,
 ⟨some 1, .mv, [.t 8], none⟩] [0, 5, 6, 7, 8])
 (.seq
 (.seq
 (.region false [⟨some 9, .mv, [.t 1], none⟩,
 ⟨some 10, .bin .lss, [.t 9, .c (.i 0)], none⟩] [9])
 (.cond (.t 10) [10]
 (.seq
 (.region false [⟨some 4, .mv, [.c (.i (-1))], none⟩] [1])
 .ret)
 .skip))
 (.seq
 (.region false [⟨some 11, .mv, [.t 1], none⟩,
 ⟨some 4, .mv, [.t 11], none⟩] [1, 11])
 .ret)))) }
/-- spec.AskedIn -/
def F_spec_AskedIn : LF :=
 { nparams := 4, results := [.t 8], body :=
 (.seq
 (.region false [⟨some 8, .mv, [.c (.i 0)], none⟩] [8])
 (.seq
 (.seq
 (.region false [⟨some 9, .mv, [.t 0], none⟩,
 ⟨some 10, .mv, [.t 1], none⟩,
 ⟨some 11, .call n_spec_TermOk 5632, [.t 9, .t 10], none⟩,
 ⟨some 12, .un .not, [.t 11], none⟩,
 ⟨some 13, .mv, [.t 12], none⟩,
 ⟨some 14, .mv, [.t 0], some (13, false)⟩,
 ⟨some 15, .mv, [.t 2], some (13, false)⟩,
 ⟨some 16, .call n_spec_OrderOk 8192, [.t 14, .t 15], some (13, false)⟩,
 ⟨some 17, .un .not, [.t 16], some (13, false)⟩,
 ⟨some 18, .pick, [.t 13, .c (.b true), .t 17], none⟩,
 ⟨some 19, .mv, [.t 18], none⟩,
 ⟨some 20, .mv, [.t 0], some (19, false)⟩,
 ⟨some 21, .mv, [.t 3], some (19, false)⟩,
 ⟨some 22, .call n_spec_StateOk 11264, [.t 20, .t 21], some (19, false)⟩,
 ⟨some 23, .un .not, [.t 22], some (19, false)⟩,
 ⟨some 24, .pick, [.t 19, .c (.b true), .t 23], none⟩] [9, 10, 11, 12, 13, 14, 15, 16, 17, 18, 19, 20, 21, 22, 23])
 (.cond (.t 24) [24]
 (.seq
 (.region false [⟨some 8, .mv, [.c (.i (-1))], none⟩] [0, 1, 2, 3])
 .ret)
 .skip))
 (.seq
 (.region false [⟨some 25, .mv, [.t 0], none⟩,
 ⟨some 26, .mv, [.t 0], none⟩,
 ⟨some 27, .mv, [.t 1], none⟩,
 ⟨some 28, .call n_spec_l3Table 14336, [.t 26, .t 27], none⟩,
 ⟨some 29, .mv, [.t 2], none⟩,
 ⟨some 30, .mv, [.t 3], none⟩,
 ⟨some 31, .call n_spec_l4Asked 15872, [.t 25, .t 28, .t 29, .t 30], none⟩,
 ⟨some 8, .mv, [.t 31], none⟩] [0, 1, 2, 3, 25, 26, 27, 28, 29, 30, 31])
 .ret))) }
/-- laws.toMarkS -/
def F_laws_toMarkS_L0 : LC :=
 (.seq
 (.seq
 (.region false [⟨some 8, .mv, [.t 4], none⟩,
 ⟨some 9, .mv, [.t 0], none⟩,
 ⟨some 10, .len, [.t 9], none⟩,
 ⟨some 11, .bin .lss, [.t 8, .t 10], none⟩] [8, 9, 10])
 (.cond (.t 11) [11]
 .skip
 (.exit 0)))
 (.seq
 (.block 1
 (.region false [⟨some 14, .mv, [.t 3], none⟩,
 ⟨some 15, .mv, [.t 4], none⟩,
 ⟨some 16, .mv, [.t 0], none⟩,
 ⟨some 17, .mv, [.t 4], none⟩,
 ⟨some 18, .idxa 2, [.t 16, .t 17], none⟩,
 ⟨some 19, .load 2 true, [.t 18], none⟩,
 ⟨some 20, .call n_laws_toMark 10240, [.t 19], none⟩,
 ⟨some 21, .idxa 2, [.t 14, .t 15], none⟩,
 ⟨none, .store 2, [.t 21, .t 20], none⟩] [14, 15, 16, 17, 18, 19, 20, 21]))
 (.region false [⟨some 12, .mv, [.t 4], none⟩,
 ⟨some 13, .bin .add, [.t 12, .c (.i 1)], none⟩,
 ⟨some 4, .mv, [.t 13], none⟩] [12, 13])))
def F_laws_toMarkS_W0 : LC := .loop F_laws_toMarkS_L0
def F_laws_toMarkS : LF :=
 { nparams := 1, results := [.t 2], body :=
 (.seq
 (.region false [⟨some 2, .newnil 1040, [], none⟩] [2])
 (.seq
 (.region false [⟨some 5, .mv, [.t 0], none⟩,
 ⟨some 6, .len, [.t 5], none⟩,
 ⟨some 7, .make 3600 2 (.st [.i 0, .i 0]), [.t 6, .t 6], none⟩,
 ⟨some 3, .mv, [.t 7], none⟩] [5, 6, 7])
 (.seq
 (.seq
 (.region false [⟨some 4, .mv, [.c (.i 0)], none⟩] [])
 (.block 0
 F_laws_toMarkS_W0))
 (.seq
 (.region false [⟨some 22, .mv, [.t 3], none⟩,
 ⟨some 2, .mv, [.t 22], none⟩] [0, 3, 4, 22])
 .ret)))) }
/-- laws.toIntS -/
def F_laws_toIntS_L0 : LC :=
 (.seq
 (.seq
 (.region false [⟨some 8, .mv, [.t 4], none⟩,
 ⟨some 9, .mv, [.t 0], none⟩,
 ⟨some 10, .len, [.t 9], none⟩,
 ⟨some 11, .bin .lss, [.t 8, .t 10], none⟩] [8, 9, 10])
 (.cond (.t 11) [11]
 .skip
 (.exit 0)))
 (.seq
 (.block 1
 (.region false [⟨some 14, .mv, [.t 3], none⟩,
 ⟨some 15, .mv, [.t 4], none⟩,
 ⟨some 16, .mv, [.t 0], none⟩,
 ⟨some 17, .mv, [.t 4], none⟩,
 ⟨some 18, .idxa 1, [.t 16, .t 17], none⟩,
 ⟨some 19, .load 1 false, [.t 18], none⟩,
 ⟨some 20, .idxa 1, [.t 14, .t 15], none⟩,
 ⟨none, .store 1, [.t 20, .t 19], none⟩] [14, 15, 16, 17, 18, 19, 20]))
 (.region false [⟨some 12, .mv, [.t 4], none⟩,
 ⟨some 13, .bin .add, [.t 12, .c (.i 1)], none⟩,
 ⟨some 4, .mv, [.t 13], none⟩] [12, 13])))
def F_laws_toIntS_W0 : LC := .loop F_laws_toIntS_L0
def F_laws_toIntS : LF :=
 { nparams := 1, results := [.t 2], body :=
 (.seq
 (.region false [⟨some 2, .newnil 1032, [], none⟩] [2])
 (.seq
 (.region false [⟨some 5, .mv, [.t 0], none⟩,
 ⟨some 6, .len, [.t 5], none⟩,
 ⟨some 7, .make 3592 1 (.i 0), [.t 6, .t 6], none⟩,
 ⟨some 3, .mv, [.t 7], none⟩] [5, 6, 7])
 (.seq
 (.seq
 (.region false [⟨some 4, .mv, [.c (.i 0)], none⟩] [])
 (.block 0
 F_laws_toIntS_W0))
 (.seq
 (.region false [⟨some 21, .mv, [.t 3], none⟩,
 ⟨some 2, .mv, [.t 21], none⟩] [0, 3, 4, 21])
 .ret)))) }
/-- impl.AskedIn -/
def F_impl_AskedIn_L0 : LC :=
 (.seq
 (.region false [⟨some 34, .bin .lss, [.t 33, .t 32], none⟩] [])
 (.seq
 (.cond (.t 34) [34]
 .skip
 (.exit 0))
 (.seq
 (.block 1
 (.seq
 (.region false [⟨some 35, .mv, [.t 33], none⟩,
 ⟨some 36, .idxa 1, [.t 31, .t 33], none⟩,
 ⟨some 37, .load 1 false, [.t 36], none⟩,
 ⟨some 11, .mv, [.t 35], none⟩,
 ⟨some 12, .mv, [.t 37], none⟩] [35, 36, 37])
 (.seq
 (.seq
 (.region false [⟨some 38, .mv, [.t 0], none⟩,
 ⟨some 39, .mv, [.t 9], none⟩,
 ⟨some 40, .mv, [.t 10], none⟩,
 ⟨some 41, .call n_impl_openStates 20992, [.t 38, .t 39, .t 40], none⟩,
 ⟨some 42, .mv, [.t 3], none⟩,
 ⟨some 43, .call n_impl_hasState 22016, [.t 41, .t 42], none⟩,
 ⟨some 44, .un .not, [.t 43], none⟩] [38, 39, 40, 41, 42, 43])
 (.cond (.t 44) [44]
 (.seq
 (.region false [⟨some 45, .mv, [.t 11], none⟩,
 ⟨some 8, .mv, [.t 45], none⟩] [0, 3, 9, 10, 11, 12, 31, 32, 33, 45])
 .ret)
 .skip))
 (.region false [⟨some 46, .mv, [.t 10], none⟩,
 ⟨some 47, .mv, [.t 12], none⟩,
 ⟨some 48, .bin .shl, [.c (.i 1), .t 47], none⟩,
 ⟨some 49, .bin .or, [.t 46, .t 48], none⟩,
 ⟨some 10, .mv, [.t 49], none⟩] [11, 12, 46, 47, 48, 49]))))
 (.region false [⟨some 50, .bin .add, [.t 33, .c (.i 1)], none⟩,
 ⟨some 33, .mv, [.t 50], none⟩] [50]))))
def F_impl_AskedIn_W0 : LC := .loop F_impl_AskedIn_L0
def F_impl_AskedIn : LF :=
 { nparams := 4, results := [.t 8], body :=
 (.seq
 (.region false [⟨some 8, .mv, [.c (.i 0)], none⟩] [8])
 (.seq
 (.seq
 (.region false [⟨some 13, .mv, [.t 0], none⟩,
 ⟨some 14, .mv, [.t 1], none⟩,
 ⟨some 15, .call n_impl_TermOk 7680, [.t 13, .t 14], none⟩,
 ⟨some 16, .un .not, [.t 15], none⟩,
 ⟨some 17, .mv, [.t 16], none⟩,
 ⟨some 18, .mv, [.t 0], some (17, false)⟩,
 ⟨some 19, .mv, [.t 2], some (17, false)⟩,
 ⟨some 20, .call n_impl_OrderOk 10240, [.t 18, .t 19], some (17, false)⟩,
 ⟨some 21, .un .not, [.t 20], some (17, false)⟩,
 ⟨some 22, .pick, [.t 17, .c (.b true), .t 21], none⟩,
 ⟨some 23, .mv, [.t 22], none⟩,
 ⟨some 24, .mv, [.t 0], some (23, false)⟩,
 ⟨some 25, .mv, [.t 3], some (23, false)⟩,
 ⟨some 26, .call n_impl_StateOk 13312, [.t 24, .t 25], some (23, false)⟩,
 ⟨some 27, .un .not, [.t 26], some (23, false)⟩,
 ⟨some 28, .pick, [.t 23, .c (.b true), .t 27], none⟩] [13, 14, 15, 16, 17, 18, 19, 20, 21, 22, 23, 24, 25, 26, 27])
 (.cond (.t 28) [28]
 (.seq
 (.region false [⟨some 8, .mv, [.c (.i (-1))], none⟩] [0, 1, 2, 3])
 .ret)
 .skip))
 (.seq
 (.region false [⟨some 29, .mv, [.t 1], none⟩,
 ⟨some 30, .call n_impl_trueStates 15360, [.t 29], none⟩,
 ⟨some 9, .mv, [.t 30], none⟩] [1, 29, 30])
 (.seq
 (.region false [⟨some 10, .mv, [.c (.i 0)], none⟩] [])
 (.seq
 (.seq
 (.region false [⟨some 31, .mv, [.t 2], none⟩,
 ⟨some 32, .len, [.t 31], none⟩,
 ⟨some 33, .mv, [.c (.i 0)], none⟩] [2])
 (.block 0
 F_impl_AskedIn_W0))
 (.seq
 (.region false [⟨some 51, .mv, [.t 0], none⟩,
 ⟨some 8, .mv, [.t 51], none⟩] [0, 3, 9, 10, 31, 32, 33, 51])
 .ret)))))) }
/-- laws.eqMarkS -/
def F_laws_eqMarkS_L0 : LC :=
 (.seq
 (.seq
 (.region false [⟨some 11, .mv, [.t 5], none⟩,
 ⟨some 12, .mv, [.t 0], none⟩,
 ⟨some 13, .len, [.t 12], none⟩,
 ⟨some 14, .bin .lss, [.t 11, .t 13], none⟩] [11, 12, 13])
 (.cond (.t 14) [14]
 .skip
 (.exit 0)))
 (.seq
 (.block 1
 (.seq
 (.region true [⟨some 17, .mv, [.t 0], none⟩,
 ⟨some 18, .mv, [.t 5], none⟩,
 ⟨some 19, .idxa 2, [.t 17, .t 18], none⟩,
 ⟨some 20, .load 2 true, [.t 19], none⟩,
 ⟨some 21, .mv, [.t 1], none⟩,
 ⟨some 22, .mv, [.t 5], none⟩,
 ⟨some 23, .idxa 2, [.t 21, .t 22], none⟩,
 ⟨some 24, .load 2 true, [.t 23], none⟩,
 ⟨some 25, .call n_laws_eqMark 12800, [.t 20, .t 24], none⟩,
 ⟨some 26, .un .not, [.t 25], none⟩] [17, 18, 19, 20, 21, 22, 23, 24, 25])
 (.cond (.t 26) [26]
 (.seq
 (.region false [⟨some 4, .mv, [.c (.b false)], none⟩] [0, 1, 5])
 .ret)
 .skip)))
 (.region false [⟨some 15, .mv, [.t 5], none⟩,
 ⟨some 16, .bin .add, [.t 15, .c (.i 1)], none⟩,
 ⟨some 5, .mv, [.t 16], none⟩] [15, 16])))
def F_laws_eqMarkS_W0 : LC := .loop F_laws_eqMarkS_L0
def F_laws_eqMarkS : LF :=
 { nparams := 2, results := [.t 4], body :=
 (.seq
 (.region false [⟨some 4, .mv, [.c (.b false)], none⟩] [4])
 (.seq
 (.seq
 (.region false [⟨some 6, .mv, [.t 0], none⟩,
 ⟨some 7, .len, [.t 6], none⟩,
 ⟨some 8, .mv, [.t 1], none⟩,
 ⟨some 9, .len, [.t 8], none⟩,
 ⟨some 10, .bin .neq, [.t 7, .t 9], none⟩] [6, 7, 8, 9])
 (.cond (.t 10) [10]
 (.seq
 (.region false [⟨some 4, .mv, [.c (.b false)], none⟩] [0, 1])
 .ret)
 .skip))
 (.seq
 (.seq
 (.region false [⟨some 5, .mv, [.c (.i 0)], none⟩] [])
 (.block 0
 F_laws_eqMarkS_W0))
 (.seq
 (.region false [⟨some 4, .mv, [.c (.b true)], none⟩] [0, 1, 5])
 .ret)))) }
/-- laws.eqIntS -/
def F_laws_eqIntS_L0 : LC :=
 (.seq
 (.seq
 (.region false [⟨some 11, .mv, [.t 5], none⟩,
 ⟨some 12, .mv, [.t 0], none⟩,
 ⟨some 13, .len, [.t 12], none⟩,
 ⟨some 14, .bin .lss, [.t 11, .t 13], none⟩] [11, 12, 13])
 (.cond (.t 14) [14]
 .skip
 (.exit 0)))
 (.seq
 (.block 1
 (.seq
 (.region true [⟨some 17, .mv, [.t 0], none⟩,
 ⟨some 18, .mv, [.t 5], none⟩,
 ⟨some 19, .idxa 1, [.t 17, .t 18], none⟩,
 ⟨some 20, .load 1 false, [.t 19], none⟩,
 ⟨some 21, .mv, [.t 1], none⟩,
 ⟨some 22, .mv, [.t 5], none⟩,
 ⟨some 23, .idxa 1, [.t 21, .t 22], none⟩,
 ⟨some 24, .load 1 false, [.t 23], none⟩,
 ⟨some 25, .bin .neq, [.t 20, .t 24], none⟩] [17, 18, 19, 20, 21, 22, 23, 24])
 (.cond (.t 25) [25]
 (.seq
 (.region false [⟨some 4, .mv, [.c (.b false)], none⟩] [0, 1, 5])
 .ret)
 .skip)))
 (.region false [⟨some 15, .mv, [.t 5], none⟩,
 ⟨some 16, .bin .add, [.t 15, .c (.i 1)], none⟩,
 ⟨some 5, .mv, [.t 16], none⟩] [15, 16])))
def F_laws_eqIntS_W0 : LC := .loop F_laws_eqIntS_L0
def F_laws_eqIntS : LF :=
 { nparams := 2, results := [.t 4], body :=
 (.seq
 (.region false [⟨some 4, .mv, [.c (.b false)], none⟩] [4])
 (.seq
 (.seq
 (.region false [⟨some 6, .mv, [.t 0], none⟩,
 ⟨some 7, .len, [.t 6], none⟩,
 ⟨some 8, .mv, [.t 1], none⟩,
 ⟨some 9, .len, [.t 8], none⟩,
 ⟨some 10, .bin .neq, [.t 7, .t 9], none⟩] [6, 7, 8, 9])
 (.cond (.t 10) [10]
 (.seq
 (.region false [⟨some 4, .mv, [.c (.b false)], none⟩] [0, 1])
 .ret)
 .skip))
 (.seq
 (.seq
 (.region false [⟨some 5, .mv, [.c (.i 0)], none⟩] [])
 (.block 0
 F_laws_eqIntS_W0))
 (.seq
 (.region false [⟨some 4, .mv, [.c (.b true)], none⟩] [0, 1, 5])
 .ret)))) }
/-- laws.szTestS -/
def F_laws_szTestS : LF :=
 { nparams := 2, results := [.t 4], body :=
 (.seq
 (.region false [⟨some 4, .mv, [.c (.i 0)], none⟩] [4])
 (.seq
 (.region false [⟨some 5, .mv, [.t 1], none⟩,
 ⟨some 6, .mv, [.t 0], none⟩,
 ⟨some 7, .len, [.t 6], none⟩,
 ⟨some 8, .bin .sub, [.t 5, .t 7], none⟩,
 ⟨some 1, .mv, [.t 8], none⟩] [0, 5, 6, 7, 8])
 (.seq
 (.seq
 (.region false [⟨some 9, .mv, [.t 1], none⟩,
 ⟨some 10, .bin .lss, [.t 9, .c (.i 0)], none⟩] [9])
 (.cond (.t 10) [10]
 (.seq
 (.region false [⟨some 4, .mv, [.c (.i (-1))], none⟩] [1])
 .ret)
 .skip))
 (.seq
 (.region false [⟨some 11, .mv, [.t 1], none⟩,
 ⟨some 4, .mv, [.t 11], none⟩] [1, 11])
 .ret)))) }
/-- spec.CostIn -/
def F_spec_CostIn_L0 : LC :=
 (.seq
 (.seq
 (.region false [⟨some 25, .mv, [.t 11], none⟩,
 ⟨some 26, .mv, [.t 9], none⟩,
 ⟨some 27, .bin .lss, [.t 25, .t 26], none⟩] [25, 26])
 (.cond (.t 27) [27]
 .skip
 (.exit 0)))
 (.seq
 (.block 1
 (.region false [⟨some 30, .mv, [.t 10], none⟩,
 ⟨some 31, .mv, [.t 0], none⟩,
 ⟨some 32, .mv, [.t 2], none⟩,
 ⟨some 33, .mv, [.t 11], none⟩,
 ⟨some 34, .idxa 1, [.t 32, .t 33], none⟩,
 ⟨some 35, .load 1 false, [.t 34], none⟩,
 ⟨some 36, .idxa 2, [.t 31, .t 35], none⟩,
 ⟨some 37, .fld 0 1 false, [.t 36], none⟩,
 ⟨some 38, .load 1 false, [.t 37], none⟩,
 ⟨some 39, .bin .add, [.t 30, .t 38], none⟩,
 ⟨some 10, .mv, [.t 39], none⟩] [30, 31, 32, 33, 34, 35, 36, 37, 38, 39]))
 (.region false [⟨some 28, .mv, [.t 11], none⟩,
 ⟨some 29, .bin .add, [.t 28, .c (.i 1)], none⟩,
 ⟨some 11, .mv, [.t 29], none⟩] [28, 29])))
def F_spec_CostIn_W0 : LC := .loop F_spec_CostIn_L0
def F_spec_CostIn : LF :=
 { nparams := 4, results := [.t 8], body :=
 (.seq
 (.region false [⟨some 8, .mv, [.c (.i 0)], none⟩] [8])
 (.seq
 (.region false [⟨some 12, .mv, [.t 0], none⟩,
 ⟨some 13, .len, [.t 12], none⟩,
 ⟨some 14, .mv, [.t 1], none⟩,
 ⟨some 15, .mv, [.t 2], none⟩,
 ⟨some 16, .mv, [.t 3], none⟩,
 ⟨some 17, .call n_spec_AskedIn 8704, [.t 13, .t 14, .t 15, .t 16], none⟩,
 ⟨some 9, .mv, [.t 17], none⟩] [1, 3, 12, 13, 14, 15, 16, 17])
 (.seq
 (.seq
 (.region false [⟨some 18, .mv, [.t 0], none⟩,
 ⟨some 19, .call n_spec_TestsOk 9728, [.t 18], none⟩,
 ⟨some 20, .un .not, [.t 19], none⟩,
 ⟨some 21, .mv, [.t 20], none⟩,
 ⟨some 22, .mv, [.t 9], some (21, false)⟩,
 ⟨some 23, .bin .lss, [.t 22, .c (.i 0)], some (21, false)⟩,
 ⟨some 24, .pick, [.t 21, .c (.b true), .t 23], none⟩] [18, 19, 20, 21, 22, 23])
 (.cond (.t 24) [24]
 (.seq
 (.region false [⟨some 8, .mv, [.c (.i (-1))], none⟩] [0, 2, 9])
 .ret)
 .skip))
 (.seq
 (.region false [⟨some 10, .mv, [.c (.i 0)], none⟩] [])
 (.seq
 (.seq
 (.region false [⟨some 11, .mv, [.c (.i 0)], none⟩] [])
 (.block 0
 F_spec_CostIn_W0))
 (.seq
 (.region false [⟨some 40, .mv, [.t 10], none⟩,
 ⟨some 8, .mv, [.t 40], none⟩] [0, 2, 9, 10, 11, 40])
 .ret)))))) }
/-- laws.toTestS -/
def F_laws_toTestS_L0 : LC :=
 (.seq
 (.seq
 (.region false [⟨some 8, .mv, [.t 4], none⟩,
 ⟨some 9, .mv, [.t 0], none⟩,
 ⟨some 10, .len, [.t 9], none⟩,
 ⟨some 11, .bin .lss, [.t 8, .t 10], none⟩] [8, 9, 10])
 (.cond (.t 11) [11]
 .skip
 (.exit 0)))
 (.seq
 (.block 1
 (.region false [⟨some 14, .mv, [.t 3], none⟩,
 ⟨some 15, .mv, [.t 4], none⟩,
 ⟨some 16, .mv, [.t 0], none⟩,
 ⟨some 17, .mv, [.t 4], none⟩,
 ⟨some 18, .idxa 2, [.t 16, .t 17], none⟩,
 ⟨some 19, .load 2 true, [.t 18], none⟩,
 ⟨some 20, .call n_laws_toTest 10240, [.t 19], none⟩,
 ⟨some 21, .idxa 2, [.t 14, .t 15], none⟩,
 ⟨none, .store 2, [.t 21, .t 20], none⟩] [14, 15, 16, 17, 18, 19, 20, 21]))
 (.region false [⟨some 12, .mv, [.t 4], none⟩,
 ⟨some 13, .bin .add, [.t 12, .c (.i 1)], none⟩,
 ⟨some 4, .mv, [.t 13], none⟩] [12, 13])))
def F_laws_toTestS_W0 : LC := .loop F_laws_toTestS_L0
def F_laws_toTestS : LF :=
 { nparams := 1, results := [.t 2], body :=
 (.seq
 (.region false [⟨some 2, .newnil 1040, [], none⟩] [2])
 (.seq
 (.region false [⟨some 5, .mv, [.t 0], none⟩,
 ⟨some 6, .len, [.t 5], none⟩,
 ⟨some 7, .make 3600 2 (.st [.i 0, .i 0]), [.t 6, .t 6], none⟩,
 ⟨some 3, .mv, [.t 7], none⟩] [5, 6, 7])
 (.seq
 (.seq
 (.region false [⟨some 4, .mv, [.c (.i 0)], none⟩] [])
 (.block 0
 F_laws_toTestS_W0))
 (.seq
 (.region false [⟨some 22, .mv, [.t 3], none⟩,
 ⟨some 2, .mv, [.t 22], none⟩] [0, 3, 4, 22])
 .ret)))) }
/-- impl.CostIn -/
def F_impl_CostIn_L0 : LC :=
 (.seq
 (.region false [⟨some 31, .bin .lss, [.t 30, .t 29], none⟩] [])
 (.seq
 (.cond (.t 31) [31]
 .skip
 (.exit 0))
 (.seq
 (.block 1
 (.seq
 (.region false [⟨some 32, .idxa 1, [.t 28, .t 30], none⟩,
 ⟨some 33, .load 1 false, [.t 32], none⟩,
 ⟨some 12, .mv, [.t 33], none⟩] [32, 33])
 (.region false [⟨some 34, .mv, [.t 10], none⟩,
 ⟨some 35, .mv, [.t 0], none⟩,
 ⟨some 36, .mv, [.t 12], none⟩,
 ⟨some 37, .idxa 2, [.t 35, .t 36], none⟩,
 ⟨some 38, .fld 0 1 false, [.t 37], none⟩,
 ⟨some 39, .load 1 false, [.t 38], none⟩,
 ⟨some 40, .bin .add, [.t 34, .t 39], none⟩,
 ⟨some 10, .mv, [.t 40], none⟩] [12, 34, 35, 36, 37, 38, 39, 40])))
 (.region false [⟨some 41, .bin .add, [.t 30, .c (.i 1)], none⟩,
 ⟨some 30, .mv, [.t 41], none⟩] [41]))))
def F_impl_CostIn_W0 : LC := .loop F_impl_CostIn_L0
def F_impl_CostIn : LF :=
 { nparams := 4, results := [.t 8], body :=
 (.seq
 (.region false [⟨some 8, .mv, [.c (.i 0)], none⟩] [8])
 (.seq
 (.region false [⟨some 13, .mv, [.t 0], none⟩,
 ⟨some 14, .len, [.t 13], none⟩,
 ⟨some 15, .mv, [.t 1], none⟩,
 ⟨some 16, .mv, [.t 2], none⟩,
 ⟨some 17, .mv, [.t 3], none⟩,
 ⟨some 18, .call n_impl_AskedIn 9216, [.t 14, .t 15, .t 16, .t 17], none⟩,
 ⟨some 9, .mv, [.t 18], none⟩] [1, 3, 13, 14, 15, 16, 17, 18])
 (.seq
 (.seq
 (.region false [⟨some 19, .mv, [.t 0], none⟩,
 ⟨some 20, .call n_impl_TestsOk 10240, [.t 19], none⟩,
 ⟨some 21, .un .not, [.t 20], none⟩,
 ⟨some 22, .mv, [.t 21], none⟩,
 ⟨some 23, .mv, [.t 9], some (22, false)⟩,
 ⟨some 24, .bin .eql, [.t 23, .c (.i (-1))], some (22, false)⟩,
 ⟨some 25, .pick, [.t 22, .c (.b true), .t 24], none⟩] [19, 20, 21, 22, 23, 24])
 (.cond (.t 25) [25]
 (.seq
 (.region false [⟨some 8, .mv, [.c (.i (-1))], none⟩] [0, 2, 9])
 .ret)
 .skip))
 (.seq
 (.region false [⟨some 10, .mv, [.c (.i 0)], none⟩] [])
 (.seq
 (.seq
 (.region false [⟨some 26, .mv, [.t 2], none⟩,
 ⟨some 27, .mv, [.t 9], none⟩,
 ⟨some 28, .slice false true 1, [.t 26, .t 27], none⟩,
 ⟨some 29, .len, [.t 28], none⟩,
 ⟨some 30, .mv, [.c (.i 0)], none⟩] [2, 9, 26, 27])
 (.block 0
 F_impl_CostIn_W0))
 (.seq
 (.region false [⟨some 42, .mv, [.t 10], none⟩,
 ⟨some 8, .mv, [.t 42], none⟩] [0, 10, 28, 29, 30, 42])
 .ret)))))) }
/-- laws.eqTestS -/
def F_laws_eqTestS_L0 : LC :=
 (.seq
 (.seq
 (.region false [⟨some 11, .mv, [.t 5], none⟩,
 ⟨some 12, .mv, [.t 0], none⟩,
 ⟨some 13, .len, [.t 12], none⟩,
 ⟨some 14, .bin .lss, [.t 11, .t 13], none⟩] [11, 12, 13])
 (.cond (.t 14) [14]
 .skip
 (.exit 0)))
 (.seq
 (.block 1
 (.seq
 (.region true [⟨some 17, .mv, [.t 0], none⟩,
 ⟨some 18, .mv, [.t 5], none⟩,
 ⟨some 19, .idxa 2, [.t 17, .t 18], none⟩,
 ⟨some 20, .load 2 true, [.t 19], none⟩,
 ⟨some 21, .mv, [.t 1], none⟩,
 ⟨some 22, .mv, [.t 5], none⟩,
 ⟨some 23, .idxa 2, [.t 21, .t 22], none⟩,
 ⟨some 24, .load 2 true, [.t 23], none⟩,
 ⟨some 25, .call n_laws_eqTest 12800, [.t 20, .t 24], none⟩,
 ⟨some 26, .un .not, [.t 25], none⟩] [17, 18, 19, 20, 21, 22, 23, 24, 25])
 (.cond (.t 26) [26]
 (.seq
 (.region false [⟨some 4, .mv, [.c (.b false)], none⟩] [0, 1, 5])
 .ret)
 .skip)))
 (.region false [⟨some 15, .mv, [.t 5], none⟩,
 ⟨some 16, .bin .add, [.t 15, .c (.i 1)], none⟩,
 ⟨some 5, .mv, [.t 16], none⟩] [15, 16])))
def F_laws_eqTestS_W0 : LC := .loop F_laws_eqTestS_L0
def F_laws_eqTestS : LF :=
 { nparams := 2, results := [.t 4], body :=
 (.seq
 (.region false [⟨some 4, .mv, [.c (.b false)], none⟩] [4])
 (.seq
 (.seq
 (.region false [⟨some 6, .mv, [.t 0], none⟩,
 ⟨some 7, .len, [.t 6], none⟩,
 ⟨some 8, .mv, [.t 1], none⟩,
 ⟨some 9, .len, [.t 8], none⟩,
 ⟨some 10, .bin .neq, [.t 7, .t 9], none⟩] [6, 7, 8, 9])
 (.cond (.t 10) [10]
 (.seq
 (.region false [⟨some 4, .mv, [.c (.b false)], none⟩] [0, 1])
 .ret)
 .skip))
 (.seq
 (.seq
 (.region false [⟨some 5, .mv, [.c (.i 0)], none⟩] [])
 (.block 0
 F_laws_eqTestS_W0))
 (.seq
 (.region false [⟨some 4, .mv, [.c (.b true)], none⟩] [0, 1, 5])
 .ret)))) }
/-- spec.AverageIn -/
def F_spec_AverageIn : LF :=
 { nparams := 3, results := [.t 6], body :=
 (.seq
 (.region false [⟨some 6, .mv, [.c (.i 0)], none⟩] [6])
 (.seq
 (.seq
 (.region false [⟨some 7, .mv, [.t 0], none⟩,
 ⟨some 8, .call n_spec_TestsOk 4096, [.t 7], none⟩,
 ⟨some 9, .un .not, [.t 8], none⟩,
 ⟨some 10, .mv, [.t 9], none⟩,
 ⟨some 11, .mv, [.t 0], some (10, false)⟩,
 ⟨some 12, .len, [.t 11], some (10, false)⟩,
 ⟨some 13, .mv, [.t 1], some (10, false)⟩,
 ⟨some 14, .call n_spec_TermOk 7168, [.t 12, .t 13], some (10, false)⟩,
 ⟨some 15, .un .not, [.t 14], some (10, false)⟩,
 ⟨some 16, .pick, [.t 10, .c (.b true), .t 15], none⟩,
 ⟨some 17, .mv, [.t 16], none⟩,
 ⟨some 18, .mv, [.t 0], some (17, false)⟩,
 ⟨some 19, .len, [.t 18], some (17, false)⟩,
 ⟨some 20, .mv, [.t 2], some (17, false)⟩,
 ⟨some 21, .call n_spec_OrderOk 10752, [.t 19, .t 20], some (17, false)⟩,
 ⟨some 22, .un .not, [.t 21], some (17, false)⟩,
 ⟨some 23, .pick, [.t 17, .c (.b true), .t 22], none⟩] [7, 8, 9, 10, 11, 12, 13, 14, 15, 16, 17, 18, 19, 20, 21, 22])
 (.cond (.t 23) [23]
 (.seq
 (.region false [⟨some 6, .mv, [.c (.i (-1))], none⟩] [0, 1, 2])
 .ret)
 .skip))
 (.seq
 (.region false [⟨some 24, .mv, [.t 0], none⟩,
 ⟨some 25, .mv, [.t 0], none⟩,
 ⟨some 26, .len, [.t 25], none⟩,
 ⟨some 27, .mv, [.t 1], none⟩,
 ⟨some 28, .call n_spec_l3Table 14336, [.t 26, .t 27], none⟩,
 ⟨some 29, .mv, [.t 2], none⟩,
 ⟨some 30, .mv, [.t 0], none⟩,
 ⟨some 31, .len, [.t 30], none⟩,
 ⟨some 32, .call n_spec_l4None 16384, [.t 31], none⟩,
 ⟨some 33, .mv, [.t 0], none⟩,
 ⟨some 34, .len, [.t 33], none⟩,
 ⟨some 35, .call n_spec_l1Power 17920, [.t 34], none⟩,
 ⟨some 36, .call n_spec_l4Walk 18432, [.t 24, .t 28, .t 29, .c (.i 0), .t 32, .t 35], none⟩,
 ⟨some 6, .mv, [.t 36], none⟩] [0, 1, 2, 24, 25, 26, 27, 28, 29, 30, 31, 32, 33, 34, 35, 36])
 .ret))) }
/-- impl.AverageIn -/
def F_impl_AverageIn_L0 : LC :=
 (.seq
 (.region false [⟨some 30, .bin .lss, [.t 29, .t 28], none⟩] [])
 (.seq
 (.cond (.t 30) [30]
 .skip
 (.exit 0))
 (.seq
 (.block 1
 (.seq
 (.region false [⟨some 31, .mv, [.t 29], none⟩,
 ⟨some 9, .mv, [.t 31], none⟩] [31])
 (.region false [⟨some 32, .mv, [.t 8], none⟩,
 ⟨some 33, .mv, [.t 0], none⟩,
 ⟨some 34, .mv, [.t 9], none⟩,
 ⟨some 35, .call n_impl_WeightOf 17920, [.t 33, .t 34], none⟩,
 ⟨some 36, .mv, [.t 0], none⟩,
 ⟨some 37, .mv, [.t 1], none⟩,
 ⟨some 38, .mv, [.t 2], none⟩,
 ⟨some 39, .mv, [.t 9], none⟩,
 ⟨some 40, .call n_impl_CostIn 20480, [.t 36, .t 37, .t 38, .t 39], none⟩,
 ⟨some 41, .bin .mul, [.t 35, .t 40], none⟩,
 ⟨some 42, .bin .add, [.t 32, .t 41], none⟩,
 ⟨some 8, .mv, [.t 42], none⟩] [9, 32, 33, 34, 35, 36, 37, 38, 39, 40, 41, 42])))
 (.region false [⟨some 43, .bin .add, [.t 29, .c (.i 1)], none⟩,
 ⟨some 29, .mv, [.t 43], none⟩] [43]))))
def F_impl_AverageIn_W0 : LC := .loop F_impl_AverageIn_L0
def F_impl_AverageIn : LF :=
 { nparams := 3, results := [.t 6], body :=
 (.seq
 (.region false [⟨some 6, .mv, [.c (.i 0)], none⟩] [6])
 (.seq
 (.region false [⟨some 10, .mv, [.t 0], none⟩,
 ⟨some 11, .len, [.t 10], none⟩,
 ⟨some 7, .mv, [.t 11], none⟩] [10, 11])
 (.seq
 (.seq
 (.region false [⟨some 12, .mv, [.t 0], none⟩,
 ⟨some 13, .call n_impl_TestsOk 6656, [.t 12], none⟩,
 ⟨some 14, .un .not, [.t 13], none⟩,
 ⟨some 15, .mv, [.t 14], none⟩,
 ⟨some 16, .mv, [.t 7], some (15, false)⟩,
 ⟨some 17, .mv, [.t 1], some (15, false)⟩,
 ⟨some 18, .call n_impl_TermOk 9216, [.t 16, .t 17], some (15, false)⟩,
 ⟨some 19, .un .not, [.t 18], some (15, false)⟩,
 ⟨some 20, .pick, [.t 15, .c (.b true), .t 19], none⟩,
 ⟨some 21, .mv, [.t 20], none⟩,
 ⟨some 22, .mv, [.t 7], some (21, false)⟩,
 ⟨some 23, .mv, [.t 2], some (21, false)⟩,
 ⟨some 24, .call n_impl_OrderOk 12288, [.t 22, .t 23], some (21, false)⟩,
 ⟨some 25, .un .not, [.t 24], some (21, false)⟩,
 ⟨some 26, .pick, [.t 21, .c (.b true), .t 25], none⟩] [12, 13, 14, 15, 16, 17, 18, 19, 20, 21, 22, 23, 24, 25])
 (.cond (.t 26) [26]
 (.seq
 (.region false [⟨some 6, .mv, [.c (.i (-1))], none⟩] [0, 1, 2, 7])
 .ret)
 .skip))
 (.seq
 (.region false [⟨some 8, .mv, [.c (.i 0)], none⟩] [])
 (.seq
 (.seq
 (.region false [⟨some 27, .mv, [.t 7], none⟩,
 ⟨some 28, .call n_impl_statesOf 14336, [.t 27], none⟩,
 ⟨some 29, .mv, [.c (.i 0)], none⟩] [7, 27])
 (.block 0
 F_impl_AverageIn_W0))
 (.seq
 (.region false [⟨some 44, .mv, [.t 8], none⟩,
 ⟨some 6, .mv, [.t 44], none⟩] [0, 1, 2, 8, 28, 29, 44])
 .ret)))))) }
/-- spec.BestOrder -/
def F_spec_BestOrder : LF :=
 { nparams := 2, results := [.t 4, .t 5], body :=
 (.seq
 (.region false [⟨some 4, .newnil 2056, [], none⟩,
 ⟨some 5, .mv, [.c (.i 0)], none⟩] [4, 5])
 (.seq
 (.seq
 (.region false [⟨some 6, .mv, [.t 0], none⟩,
 ⟨some 7, .call n_spec_TestsOk 3584, [.t 6], none⟩,
 ⟨some 8, .un .not, [.t 7], none⟩,
 ⟨some 9, .mv, [.t 8], none⟩,
 ⟨some 10, .mv, [.t 0], some (9, false)⟩,
 ⟨some 11, .len, [.t 10], some (9, false)⟩,
 ⟨some 12, .mv, [.t 1], some (9, false)⟩,
 ⟨some 13, .call n_spec_TermOk 6656, [.t 11, .t 12], some (9, false)⟩,
 ⟨some 14, .un .not, [.t 13], some (9, false)⟩,
 ⟨some 15, .pick, [.t 9, .c (.b true), .t 14], none⟩] [6, 7, 8, 9, 10, 11, 12, 13, 14])
 (.cond (.t 15) [15]
 (.seq
 (.region false [⟨some 16, .bslice 8200 0 1 (.i 0) [], [], none⟩,
 ⟨some 4, .mv, [.t 16], none⟩,
 ⟨some 5, .mv, [.c (.i (-1))], none⟩] [0, 1, 16])
 .ret)
 .skip))
 (.seq
 (.region false [⟨some 17, .mv, [.t 0], none⟩,
 ⟨some 18, .mv, [.t 0], none⟩,
 ⟨some 19, .len, [.t 18], none⟩,
 ⟨some 20, .mv, [.t 1], none⟩,
 ⟨some 21, .call n_spec_l3Table 10752, [.t 19, .t 20], none⟩,
 ⟨some 22, .bslice 11272 0 1 (.i 0) [], [], none⟩,
 ⟨some 23, .bslice 11784 0 1 (.i 0) [], [], none⟩,
 ⟨some 24, .callg n_spec_l4Search 12288, [.t 17, .t 21, .t 22, .t 23, .c (.i (-1))], none⟩,
 ⟨some 25, .ext 0, [.t 24], none⟩,
 ⟨some 26, .ext 1, [.t 24], none⟩,
 ⟨some 4, .mv, [.t 25], none⟩,
 ⟨some 5, .mv, [.t 26], none⟩] [0, 1, 17, 18, 19, 20, 21, 22, 23, 24, 25, 26])
 .ret))) }
/-- impl.BestOrder -/
def F_impl_BestOrder : LF :=
 { nparams := 2, results := [.t 4, .t 5], body :=
 (.seq
 (.region false [⟨some 4, .newnil 2056, [], none⟩,
 ⟨some 5, .mv, [.c (.i 0)], none⟩] [4, 5])
 (.seq
 (.seq
 (.region false [⟨some 6, .mv, [.t 0], none⟩,
 ⟨some 7, .call n_impl_TestsOk 3584, [.t 6], none⟩,
 ⟨some 8, .un .not, [.t 7], none⟩,
 ⟨some 9, .mv, [.t 8], none⟩,
 ⟨some 10, .mv, [.t 0], some (9, false)⟩,
 ⟨some 11, .len, [.t 10], some (9, false)⟩,
 ⟨some 12, .mv, [.t 1], some (9, false)⟩,
 ⟨some 13, .call n_impl_TermOk 6656, [.t 11, .t 12], some (9, false)⟩,
 ⟨some 14, .un .not, [.t 13], some (9, false)⟩,
 ⟨some 15, .pick, [.t 9, .c (.b true), .t 14], none⟩] [6, 7, 8, 9, 10, 11, 12, 13, 14])
 (.cond (.t 15) [15]
 (.seq
 (.region false [⟨some 4, .newnil 2056, [], none⟩,
 ⟨some 5, .mv, [.c (.i (-1))], none⟩] [0, 1])
 .ret)
 .skip))
 (.seq
 (.region false [⟨some 16, .mv, [.t 0], none⟩,
 ⟨some 17, .mv, [.t 0], none⟩,
 ⟨some 18, .mv, [.t 1], none⟩,
 ⟨some 19, .call n_impl_trueStates 9728, [.t 18], none⟩,
 ⟨some 20, .call n_impl_openWeights 10240, [.t 17, .t 19], none⟩,
 ⟨some 21, .call n_impl_bestBehind 10752, [.t 16, .t 20, .c (.i 0)], none⟩,
 ⟨some 22, .ext 0, [.t 21], none⟩,
 ⟨some 23, .ext 1, [.t 21], none⟩,
 ⟨some 4, .mv, [.t 22], none⟩,
 ⟨some 5, .mv, [.t 23], none⟩] [0, 1, 16, 17, 18, 19, 20, 21, 22, 23])
 .ret))) }
/-- laws.markTestS -/
def F_laws_markTestS_L0 : LC :=
 (.seq
 (.seq
 (.region false [⟨some 6, .mv, [.t 5], none⟩,
 ⟨some 7, .mv, [.t 0], none⟩,
 ⟨some 8, .len, [.t 7], none⟩,
 ⟨some 9, .bin .lss, [.t 6, .t 8], none⟩] [6, 7, 8])
 (.cond (.t 9) [9]
 .skip
 (.exit 0)))
 (.seq
 (.block 1
 (.seq
 (.region false [⟨some 12, .mv, [.t 0], none⟩,
 ⟨some 13, .mv, [.t 5], none⟩,
 ⟨some 14, .mv, [.t 1], none⟩,
 ⟨some 15, .idxa 2, [.t 12, .t 13], none⟩,
 ⟨some 16, .fld 0 1 false, [.t 15], none⟩,
 ⟨none, .store 1, [.t 16, .t 14], none⟩] [12, 13, 14, 15, 16])
 (.seq
 (.region false [⟨some 17, .mv, [.t 1], none⟩,
 ⟨some 18, .bin .add, [.t 17, .c (.i 1)], none⟩,
 ⟨some 1, .mv, [.t 18], none⟩] [17, 18])
 (.seq
 (.region false [⟨some 19, .mv, [.t 0], none⟩,
 ⟨some 20, .mv, [.t 5], none⟩,
 ⟨some 21, .mv, [.t 1], none⟩,
 ⟨some 22, .idxa 2, [.t 19, .t 20], none⟩,
 ⟨some 23, .fld 1 1 false, [.t 22], none⟩,
 ⟨none, .store 1, [.t 23, .t 21], none⟩] [19, 20, 21, 22, 23])
 (.region false [⟨some 24, .mv, [.t 1], none⟩,
 ⟨some 25, .bin .add, [.t 24, .c (.i 1)], none⟩,
 ⟨some 1, .mv, [.t 25], none⟩] [24, 25])))))
 (.region false [⟨some 10, .mv, [.t 5], none⟩,
 ⟨some 11, .bin .add, [.t 10, .c (.i 1)], none⟩,
 ⟨some 5, .mv, [.t 11], none⟩] [10, 11])))
def F_laws_markTestS_W0 : LC := .loop F_laws_markTestS_L0
def F_laws_markTestS : LF :=
 { nparams := 2, results := [.t 4], body :=
 (.seq
 (.region false [⟨some 4, .mv, [.c (.i 0)], none⟩] [4])
 (.seq
 (.seq
 (.region false [⟨some 5, .mv, [.c (.i 0)], none⟩] [])
 (.block 0
 F_laws_markTestS_W0))
 (.seq
 (.region false [⟨some 26, .mv, [.t 1], none⟩,
 ⟨some 4, .mv, [.t 26], none⟩] [1, 5, 26])
 .ret))) }
/-- laws.markMarkS -/
def F_laws_markMarkS_L0 : LC :=
 (.seq
 (.seq
 (.region false [⟨some 6, .mv, [.t 5], none⟩,
 ⟨some 7, .mv, [.t 0], none⟩,
 ⟨some 8, .len, [.t 7], none⟩,
 ⟨some 9, .bin .lss, [.t 6, .t 8], none⟩] [6, 7, 8])
 (.cond (.t 9) [9]
 .skip
 (.exit 0)))
 (.seq
 (.block 1
 (.seq
 (.region false [⟨some 12, .mv, [.t 0], none⟩,
 ⟨some 13, .mv, [.t 5], none⟩,
 ⟨some 14, .mv, [.t 1], none⟩,
 ⟨some 15, .idxa 2, [.t 12, .t 13], none⟩,
 ⟨some 16, .fld 0 1 false, [.t 15], none⟩,
 ⟨none, .store 1, [.t 16, .t 14], none⟩] [12, 13, 14, 15, 16])
 (.seq
 (.region false [⟨some 17, .mv, [.t 1], none⟩,
 ⟨some 18, .bin .add, [.t 17, .c (.i 1)], none⟩,
 ⟨some 1, .mv, [.t 18], none⟩] [17, 18])
 (.seq
 (.region false [⟨some 19, .mv, [.t 0], none⟩,
 ⟨some 20, .mv, [.t 5], none⟩,
 ⟨some 21, .mv, [.t 1], none⟩,
 ⟨some 22, .idxa 2, [.t 19, .t 20], none⟩,
 ⟨some 23, .fld 1 1 false, [.t 22], none⟩,
 ⟨none, .store 1, [.t 23, .t 21], none⟩] [19, 20, 21, 22, 23])
 (.region false [⟨some 24, .mv, [.t 1], none⟩,
 ⟨some 25, .bin .add, [.t 24, .c (.i 1)], none⟩,
 ⟨some 1, .mv, [.t 25], none⟩] [24, 25])))))
 (.region false [⟨some 10, .mv, [.t 5], none⟩,
 ⟨some 11, .bin .add, [.t 10, .c (.i 1)], none⟩,
 ⟨some 5, .mv, [.t 11], none⟩] [10, 11])))
def F_laws_markMarkS_W0 : LC := .loop F_laws_markMarkS_L0
def F_laws_markMarkS : LF :=
 { nparams := 2, results := [.t 4], body :=
 (.seq
 (.region false [⟨some 4, .mv, [.c (.i 0)], none⟩] [4])
 (.seq
 (.seq
 (.region false [⟨some 5, .mv, [.c (.i 0)], none⟩] [])
 (.block 0
 F_laws_markMarkS_W0))
 (.seq
 (.region false [⟨some 26, .mv, [.t 1], none⟩,
 ⟨some 4, .mv, [.t 26], none⟩] [1, 5, 26])
 .ret))) }
/-- laws.markIntS -/
def F_laws_markIntS_L0 : LC :=
 (.seq
 (.seq
 (.region false [⟨some 6, .mv, [.t 5], none⟩,
 ⟨some 7, .mv, [.t 0], none⟩,
 ⟨some 8, .len, [.t 7], none⟩,
 ⟨some 9, .bin .lss, [.t 6, .t 8], none⟩] [6, 7, 8])
 (.cond (.t 9) [9]
 .skip
 (.exit 0)))
 (.seq
 (.block 1
 (.seq
 (.region false [⟨some 12, .mv, [.t 0], none⟩,
 ⟨some 13, .mv, [.t 5], none⟩,
 ⟨some 14, .mv, [.t 1], none⟩,
 ⟨some 15, .idxa 1, [.t 12, .t 13], none⟩,
 ⟨none, .store 1, [.t 15, .t 14], none⟩] [12, 13, 14, 15])
 (.region false [⟨some 16, .mv, [.t 1], none⟩,
 ⟨some 17, .bin .add, [.t 16, .c (.i 1)], none⟩,
 ⟨some 1, .mv, [.t 17], none⟩] [16, 17])))
 (.region false [⟨some 10, .mv, [.t 5], none⟩,
 ⟨some 11, .bin .add, [.t 10, .c (.i 1)], none⟩,
 ⟨some 5, .mv, [.t 11], none⟩] [10, 11])))
def F_laws_markIntS_W0 : LC := .loop F_laws_markIntS_L0
def F_laws_markIntS : LF :=
 { nparams := 2, results := [.t 4], body :=
 (.seq
 (.region false [⟨some 4, .mv, [.c (.i 0)], none⟩] [4])
 (.seq
 (.seq
 (.region false [⟨some 5, .mv, [.c (.i 0)], none⟩] [])
 (.block 0
 F_laws_markIntS_W0))
 (.seq
 (.region false [⟨some 18, .mv, [.t 1], none⟩,
 ⟨some 4, .mv, [.t 18], none⟩] [1, 5, 18])
 .ret))) }
/-- laws.heldIntS -/
def F_laws_heldIntS_L0 : LC :=
 (.seq
 (.seq
 (.region false [⟨some 6, .mv, [.t 5], none⟩,
 ⟨some 7, .mv, [.t 0], none⟩,
 ⟨some 8, .len, [.t 7], none⟩,
 ⟨some 9, .bin .lss, [.t 6, .t 8], none⟩] [6, 7, 8])
 (.cond (.t 9) [9]
 .skip
 (.exit 0)))
 (.seq
 (.block 1
 (.seq
 (.seq
 (.region false [⟨some 12, .mv, [.t 0], none⟩,
 ⟨some 13, .mv, [.t 5], none⟩,
 ⟨some 14, .idxa 1, [.t 12, .t 13], none⟩,
 ⟨some 15, .load 1 false, [.t 14], none⟩,
 ⟨some 16, .mv, [.t 1], none⟩,
 ⟨some 17, .bin .neq, [.t 15, .t 16], none⟩] [12, 13, 14, 15, 16])
 (.cond (.t 17) [17]
 (.seq
 (.region false [⟨some 4, .mv, [.c (.i (-1))], none⟩] [0, 1, 5])
 .ret)
 .skip))
 (.region false [⟨some 18, .mv, [.t 1], none⟩,
 ⟨some 19, .bin .add, [.t 18, .c (.i 1)], none⟩,
 ⟨some 1, .mv, [.t 19], none⟩] [18, 19])))
 (.region false [⟨some 10, .mv, [.t 5], none⟩,
 ⟨some 11, .bin .add, [.t 10, .c (.i 1)], none⟩,
 ⟨some 5, .mv, [.t 11], none⟩] [10, 11])))
def F_laws_heldIntS_W0 : LC := .loop F_laws_heldIntS_L0
def F_laws_heldIntS : LF :=
 { nparams := 2, results := [.t 4], body :=
 (.seq
 (.region false [⟨some 4, .mv, [.c (.i 0)], none⟩] [4])
 (.seq
 (.seq
 (.region false [⟨some 5, .mv, [.c (.i 0)], none⟩] [])
 (.block 0
 F_laws_heldIntS_W0))
 (.seq
 (.region false [⟨some 20, .mv, [.t 1], none⟩,
 ⟨some 4, .mv, [.t 20], none⟩] [0, 1, 5, 20])
 .ret))) }
/-- spec.DrawAskedIn -/
def F_spec_DrawAskedIn : LF :=
 { nparams := 1, results := [.t 2, .t 3, .t 4, .t 5], body :=
 (.seq
 (.region false [⟨some 2, .mv, [.c (.i 0)], none⟩,
 ⟨some 3, .newnil 1552, [], none⟩,
 ⟨some 4, .newnil 2056, [], none⟩,
 ⟨some 5, .mv, [.c (.i 0)], none⟩] [2, 3, 4, 5])
 (.seq
 (.region false [⟨some 10, .mv, [.t 0], none⟩,
 ⟨some 11, .call n_spec_l20Open 5632, [.t 10], none⟩,
 ⟨some 6, .mv, [.t 11], none⟩] [0, 10, 11])
 (.seq
 (.region false [⟨some 13, .mv, [.t 6], none⟩,
 ⟨some 14, .call n_spec_l20State 7168, [.t 13, .c (.i 14)], none⟩,
 ⟨some 12, .mv, [.t 14], none⟩,
 ⟨some 15, .ext 0, [.t 12], none⟩,
 ⟨some 16, .ext 1, [.t 12], none⟩,
 ⟨some 17, .ext 2, [.t 12], none⟩,
 ⟨some 7, .mv, [.t 15], none⟩,
 ⟨some 8, .mv, [.t 16], none⟩,
 ⟨some 9, .mv, [.t 17], none⟩] [12, 13, 14, 15, 16, 17])
 (.seq
 (.region false [⟨some 18, .mv, [.t 7], none⟩,
 ⟨some 19, .mv, [.t 8], none⟩,
 ⟨some 20, .mv, [.t 6], none⟩,
 ⟨some 21, .mv, [.t 7], none⟩,
 ⟨some 22, .call n_spec_l20Order 11264, [.t 20, .t 21, .c (.i 14)], none⟩,
 ⟨some 23, .mv, [.t 9], none⟩,
 ⟨some 2, .mv, [.t 18], none⟩,
 ⟨some 3, .mv, [.t 19], none⟩,
 ⟨some 4, .mv, [.t 22], none⟩,
 ⟨some 5, .mv, [.t 23], none⟩] [6, 7, 8, 9, 18, 19, 20, 21, 22, 23])
 .ret)))) }
/-- laws.alive -/
def F_laws_alive : LF :=
 { nparams := 0, results := [.t 0], body :=
 (.seq
 (.region false [⟨some 0, .mv, [.c (.b false)], none⟩] [0])
 (.seq
 (.region false [⟨some 1, .build [.i 0, .i 0] [(0, 1), (1, 1)], [.c (.i 1), .c (.i 1)], none⟩,
 ⟨some 2, .bslice 1040 1 2 (.st [.i 0, .i 0]) [0], [.t 1], none⟩,
 ⟨some 3, .call n_impl_TestsOk 1536, [.t 2], none⟩,
 ⟨some 4, .mv, [.t 3], none⟩,
 ⟨some 5, .build [.i 0, .i 0] [], [], some (4, true)⟩,
 ⟨some 6, .bslice 3088 1 2 (.st [.i 0, .i 0]) [0], [.t 5], some (4, true)⟩,
 ⟨some 7, .call n_impl_TestsOk 3584, [.t 6], some (4, true)⟩,
 ⟨some 8, .un .not, [.t 7], some (4, true)⟩,
 ⟨some 9, .pick, [.t 4, .t 8, .c (.b false)], none⟩,
 ⟨some 0, .mv, [.t 9], none⟩] [1, 2, 3, 4, 5, 6, 7, 8, 9])
 .ret)) }
/-- impl.ProofOk -/
def F_impl_ProofOk : LF :=
 { nparams := 4, results := [.t 8], body :=
 (.seq
 (.region false [⟨some 8, .mv, [.c (.b false)], none⟩] [8])
 (.seq
 (.seq
 (.region false [⟨some 11, .mv, [.t 0], none⟩,
 ⟨some 12, .mv, [.t 1], none⟩,
 ⟨some 13, .call n_impl_TermOk 6656, [.t 11, .t 12], none⟩,
 ⟨some 14, .un .not, [.t 13], none⟩,
 ⟨some 15, .mv, [.t 14], none⟩,
 ⟨some 16, .mv, [.t 0], some (15, false)⟩,
 ⟨some 17, .mv, [.t 2], some (15, false)⟩,
 ⟨some 18, .call n_impl_StateOk 9216, [.t 16, .t 17], some (15, false)⟩,
 ⟨some 19, .un .not, [.t 18], some (15, false)⟩,
 ⟨some 20, .pick, [.t 15, .c (.b true), .t 19], none⟩,
 ⟨some 21, .mv, [.t 20], none⟩,
 ⟨some 22, .mv, [.t 0], some (21, false)⟩,
 ⟨some 23, .mv, [.t 3], some (21, false)⟩,
 ⟨some 24, .call n_impl_StateOk 12288, [.t 22, .t 23], some (21, false)⟩,
 ⟨some 25, .un .not, [.t 24], some (21, false)⟩,
 ⟨some 26, .pick, [.t 21, .c (.b true), .t 25], none⟩] [11, 12, 13, 14, 15, 16, 17, 18, 19, 20, 21, 22, 23, 24, 25])
 (.cond (.t 26) [26]
 (.seq
 (.region false [⟨some 8, .mv, [.c (.b false)], none⟩] [0, 1, 2, 3])
 .ret)
 .skip))
 (.seq
 (.region false [⟨some 28, .mv, [.t 0], none⟩,
 ⟨some 29, .mv, [.t 1], none⟩,
 ⟨some 30, .mv, [.t 0], none⟩,
 ⟨some 31, .mv, [.t 2], none⟩,
 ⟨some 32, .mv, [.t 3], none⟩,
 ⟨some 33, .call n_impl_knownBy 16896, [.t 30, .t 31, .t 32], none⟩,
 ⟨some 34, .call n_impl_ForcedBy 17408, [.t 28, .t 29, .t 33], none⟩,
 ⟨some 27, .mv, [.t 34], none⟩,
 ⟨some 35, .ext 0, [.t 27], none⟩,
 ⟨some 36, .ext 1, [.t 27], none⟩,
 ⟨some 9, .mv, [.t 35], none⟩,
 ⟨some 10, .mv, [.t 36], none⟩] [0, 1, 2, 3, 10, 27, 28, 29, 30, 31, 32, 33, 34, 35, 36])
 (.seq
 (.region false [⟨some 37, .mv, [.t 9], none⟩,
 ⟨some 38, .bin .neq, [.t 37, .c (.i (-1))], none⟩,
 ⟨some 8, .mv, [.t 38], none⟩] [9, 37, 38])
 .ret)))) }
/-- spec.DrawCostIn -/
def F_spec_DrawCostIn : LF :=
 { nparams := 1, results := [.t 2, .t 3, .t 4, .t 5], body :=
 (.seq
 (.region false [⟨some 2, .newnil 1040, [], none⟩,
 ⟨some 3, .newnil 1552, [], none⟩,
 ⟨some 4, .newnil 2056, [], none⟩,
 ⟨some 5, .mv, [.c (.i 0)], none⟩] [2, 3, 4, 5])
 (.seq
 (.region false [⟨some 9, .mv, [.t 0], none⟩,
 ⟨some 10, .call n_spec_l20Open 5120, [.t 9], none⟩,
 ⟨some 6, .mv, [.t 10], none⟩] [0, 9, 10])
 (.seq
 (.region false [⟨some 12, .mv, [.t 6], none⟩,
 ⟨some 13, .call n_spec_l20Case 6656, [.t 12, .c (.i 14)], none⟩,
 ⟨some 11, .mv, [.t 13], none⟩,
 ⟨some 14, .ext 0, [.t 11], none⟩,
 ⟨some 15, .ext 1, [.t 11], none⟩,
 ⟨some 7, .mv, [.t 14], none⟩,
 ⟨some 8, .mv, [.t 15], none⟩] [11, 12, 13, 14, 15])
 (.seq
 (.region true [⟨some 16, .mv, [.t 7], none⟩,
 ⟨some 17, .mv, [.t 8], none⟩,
 ⟨some 18, .mv, [.t 6], none⟩,
 ⟨some 19, .mv, [.t 7], none⟩,
 ⟨some 20, .len, [.t 19], none⟩,
 ⟨some 21, .call n_spec_l20Order 10752, [.t 18, .t 20, .c (.i 14)], none⟩,
 ⟨some 22, .mv, [.t 6], none⟩,
 ⟨some 23, .mv, [.t 7], none⟩,
 ⟨some 24, .len, [.t 23], none⟩,
 ⟨some 25, .bin .shl, [.c (.i 1), .t 24], none⟩,
 ⟨some 26, .call n_spec_l20Rd_pick 13312, [.t 22, .t 25], none⟩,
 ⟨some 27, .mv, [.t 6], none⟩,
 ⟨some 28, .call n_spec_l20Rd_pick 14336, [.t 27, .c (.i 40)], none⟩,
 ⟨some 29, .bin .quo, [.t 28, .c (.i 39)], none⟩,
 ⟨some 30, .bin .mul, [.t 29, .c (.i 32)], none⟩,
 ⟨some 31, .bin .add, [.t 26, .t 30], none⟩,
 ⟨some 2, .mv, [.t 16], none⟩,
 ⟨some 3, .mv, [.t 17], none⟩,
 ⟨some 4, .mv, [.t 21], none⟩,
 ⟨some 5, .mv, [.t 31], none⟩] [6, 7, 8, 16, 17, 18, 19, 20, 21, 22, 23, 24, 25, 26, 27, 28, 29, 30, 31])
 .ret)))) }
/-- impl.CostOf -/
def F_impl_CostOf_L0 : LC :=
 (.seq
 (.region false [⟨some 12, .bin .lss, [.t 11, .t 10], none⟩] [])
 (.seq
 (.cond (.t 12) [12]
 .skip
 (.exit 0))
 (.seq
 (.block 1
 (.seq
 (.region false [⟨some 13, .idxa 2, [.t 9, .t 11], none⟩,
 ⟨some 14, .load 2 true, [.t 13], none⟩,
 ⟨some 5, .alloc 2576 (.st [.i 0, .i 0]), [], none⟩,
 ⟨none, .store 2, [.t 5, .t 14], none⟩] [13, 14])
 (.region false [⟨some 15, .mv, [.t 3], none⟩,
 ⟨some 16, .fld 0 1 false, [.t 5], none⟩,
 ⟨some 17, .load 1 false, [.t 16], none⟩,
 ⟨some 18, .bin .add, [.t 15, .t 17], none⟩,
 ⟨some 3, .mv, [.t 18], none⟩] [5, 15, 16, 17, 18])))
 (.region false [⟨some 19, .bin .add, [.t 11, .c (.i 1)], none⟩,
 ⟨some 11, .mv, [.t 19], none⟩] [19]))))
def F_impl_CostOf_W0 : LC := .loop F_impl_CostOf_L0
def F_impl_CostOf : LF :=
 { nparams := 1, results := [.t 2], body :=
 (.seq
 (.region false [⟨some 2, .mv, [.c (.i 0)], none⟩] [2])
 (.seq
 (.seq
 (.region false [⟨some 6, .mv, [.t 0], none⟩,
 ⟨some 7, .call n_impl_TestsOk 3584, [.t 6], none⟩,
 ⟨some 8, .un .not, [.t 7], none⟩] [6, 7])
 (.cond (.t 8) [8]
 (.seq
 (.region false [⟨some 2, .mv, [.c (.i (-1))], none⟩] [0])
 .ret)
 .skip))
 (.seq
 (.region false [⟨some 3, .mv, [.c (.i 0)], none⟩] [])
 (.seq
 (.seq
 (.region false [⟨some 9, .mv, [.t 0], none⟩,
 ⟨some 10, .len, [.t 9], none⟩,
 ⟨some 11, .mv, [.c (.i 0)], none⟩] [0])
 (.block 0
 F_impl_CostOf_W0))
 (.seq
 (.region false [⟨some 20, .mv, [.t 3], none⟩,
 ⟨some 2, .mv, [.t 20], none⟩] [3, 9, 10, 11, 20])
 .ret))))) }
/-- spec.DrawAverageIn -/
def F_spec_DrawAverageIn : LF :=
 { nparams := 1, results := [.t 2, .t 3, .t 4], body :=
 (.seq
 (.region false [⟨some 2, .newnil 1040, [], none⟩,
 ⟨some 3, .newnil 1552, [], none⟩,
 ⟨some 4, .newnil 2056, [], none⟩] [2, 3, 4])
 (.seq
 (.region false [⟨some 8, .mv, [.t 0], none⟩,
 ⟨some 9, .call n_spec_l20Open 4608, [.t 8], none⟩,
 ⟨some 5, .mv, [.t 9], none⟩] [0, 8, 9])
 (.seq
 (.region false [⟨some 11, .mv, [.t 5], none⟩,
 ⟨some 12, .call n_spec_l20Case 6144, [.t 11, .c (.i 14)], none⟩,
 ⟨some 10, .mv, [.t 12], none⟩,
 ⟨some 13, .ext 0, [.t 10], none⟩,
 ⟨some 14, .ext 1, [.t 10], none⟩,
 ⟨some 6, .mv, [.t 13], none⟩,
 ⟨some 7, .mv, [.t 14], none⟩] [10, 11, 12, 13, 14])
 (.seq
 (.region false [⟨some 15, .mv, [.t 6], none⟩,
 ⟨some 16, .mv, [.t 7], none⟩,
 ⟨some 17, .mv, [.t 5], none⟩,
 ⟨some 18, .mv, [.t 6], none⟩,
 ⟨some 19, .len, [.t 18], none⟩,
 ⟨some 20, .call n_spec_l20Order 10240, [.t 17, .t 19, .c (.i 14)], none⟩,
 ⟨some 2, .mv, [.t 15], none⟩,
 ⟨some 3, .mv, [.t 16], none⟩,
 ⟨some 4, .mv, [.t 20], none⟩] [5, 6, 7, 15, 16, 17, 18, 19, 20])
 .ret)))) }
/-- impl.WeightOf -/
def F_impl_WeightOf_L0 : LC :=
 (.seq
 (.region false [⟨some 21, .bin .lss, [.t 20, .t 19], none⟩] [])
 (.seq
 (.cond (.t 21) [21]
 .skip
 (.exit 0))
 (.seq
 (.block 1
 (.seq
 (.region false [⟨some 22, .mv, [.t 20], none⟩,
 ⟨some 23, .idxa 2, [.t 18, .t 20], none⟩,
 ⟨some 24, .load 2 true, [.t 23], none⟩,
 ⟨some 7, .alloc 3600 (.st [.i 0, .i 0]), [], none⟩,
 ⟨some 6, .mv, [.t 22], none⟩,
 ⟨none, .store 2, [.t 7, .t 24], none⟩] [22, 23, 24])
 (.seq
 (.region false [⟨some 25, .mv, [.t 1], none⟩,
 ⟨some 26, .mv, [.t 6], none⟩,
 ⟨some 27, .call n_impl_outcomeIn 13824, [.t 25, .t 26], none⟩,
 ⟨some 28, .bin .eql, [.t 27, .c (.i 1)], none⟩] [6, 25, 26, 27])
 (.cond (.t 28) [28]
 (.region false [⟨some 29, .mv, [.t 5], none⟩,
 ⟨some 30, .fld 1 1 false, [.t 7], none⟩,
 ⟨some 31, .load 1 false, [.t 30], none⟩,
 ⟨some 32, .bin .mul, [.t 29, .t 31], none⟩,
 ⟨some 5, .mv, [.t 32], none⟩] [7, 29, 30, 31, 32])
 (.region false [⟨some 33, .mv, [.t 5], none⟩,
 ⟨some 34, .fld 1 1 false, [.t 7], none⟩,
 ⟨some 35, .load 1 false, [.t 34], none⟩,
 ⟨some 36, .bin .sub, [.c (.i 6), .t 35], none⟩,
 ⟨some 37, .bin .mul, [.t 33, .t 36], none⟩,
 ⟨some 5, .mv, [.t 37], none⟩] [7, 33, 34, 35, 36, 37])))))
 (.region false [⟨some 38, .bin .add, [.t 20, .c (.i 1)], none⟩,
 ⟨some 20, .mv, [.t 38], none⟩] [38]))))
def F_impl_WeightOf_W0 : LC := .loop F_impl_WeightOf_L0
def F_impl_WeightOf : LF :=
 { nparams := 2, results := [.t 4], body :=
 (.seq
 (.region false [⟨some 4, .mv, [.c (.i 0)], none⟩] [4])
 (.seq
 (.seq
 (.region false [⟨some 8, .mv, [.t 0], none⟩,
 ⟨some 9, .call n_impl_TestsOk 4608, [.t 8], none⟩,
 ⟨some 10, .un .not, [.t 9], none⟩,
 ⟨some 11, .mv, [.t 10], none⟩,
 ⟨some 12, .mv, [.t 0], some (11, false)⟩,
 ⟨some 13, .len, [.t 12], some (11, false)⟩,
 ⟨some 14, .mv, [.t 1], some (11, false)⟩,
 ⟨some 15, .call n_impl_StateOk 7680, [.t 13, .t 14], some (11, false)⟩,
 ⟨some 16, .un .not, [.t 15], some (11, false)⟩,
 ⟨some 17, .pick, [.t 11, .c (.b true), .t 16], none⟩] [8, 9, 10, 11, 12, 13, 14, 15, 16])
 (.cond (.t 17) [17]
 (.seq
 (.region false [⟨some 4, .mv, [.c (.i (-1))], none⟩] [0, 1])
 .ret)
 .skip))
 (.seq
 (.region false [⟨some 5, .mv, [.c (.i 1)], none⟩] [])
 (.seq
 (.seq
 (.region false [⟨some 18, .mv, [.t 0], none⟩,
 ⟨some 19, .len, [.t 18], none⟩,
 ⟨some 20, .mv, [.c (.i 0)], none⟩] [0])
 (.block 0
 F_impl_WeightOf_W0))
 (.seq
 (.region false [⟨some 39, .mv, [.t 5], none⟩,
 ⟨some 4, .mv, [.t 39], none⟩] [1, 5, 18, 19, 20, 39])
 .ret))))) }
/-- impl.OtherTests -/
def F_impl_OtherTests_L0 : LC :=
 (.seq
 (.region false [⟨some 15, .bin .lss, [.t 14, .t 13], none⟩] [])
 (.seq
 (.cond (.t 15) [15]
 .skip
 (.exit 0))
 (.seq
 (.block 1
 (.seq
 (.region false [⟨some 16, .mv, [.t 14], none⟩,
 ⟨some 17, .idxa 2, [.t 12, .t 14], none⟩,
 ⟨some 18, .load 2 true, [.t 17], none⟩,
 ⟨some 5, .alloc 2576 (.st [.i 0, .i 0]), [], none⟩,
 ⟨some 4, .mv, [.t 16], none⟩,
 ⟨none, .store 2, [.t 5, .t 18], none⟩] [16, 17, 18])
 (.region false [⟨some 19, .mv, [.t 3], none⟩,
 ⟨some 20, .mv, [.t 4], none⟩,
 ⟨some 21, .fld 0 1 false, [.t 5], none⟩,
 ⟨some 22, .load 1 false, [.t 21], none⟩,
 ⟨some 23, .fld 1 1 false, [.t 5], none⟩,
 ⟨some 24, .load 1 false, [.t 23], none⟩,
 ⟨some 25, .bin .sub, [.c (.i 6), .t 24], none⟩,
 ⟨some 26, .build [.i 0, .i 0] [(0, 1), (1, 1)], [.t 22, .t 25], none⟩,
 ⟨some 27, .idxa 2, [.t 19, .t 20], none⟩,
 ⟨none, .store 2, [.t 27, .t 26], none⟩] [4, 5, 19, 20, 21, 22, 23, 24, 25, 26, 27])))
 (.region false [⟨some 28, .bin .add, [.t 14, .c (.i 1)], none⟩,
 ⟨some 14, .mv, [.t 28], none⟩] [28]))))
def F_impl_OtherTests_W0 : LC := .loop F_impl_OtherTests_L0
def F_impl_OtherTests : LF :=
 { nparams := 1, results := [.t 2], body :=
 (.seq
 (.region false [⟨some 2, .newnil 1040, [], none⟩] [2])
 (.seq
 (.seq
 (.region false [⟨some 6, .mv, [.t 0], none⟩,
 ⟨some 7, .call n_impl_TestsOk 3584, [.t 6], none⟩,
 ⟨some 8, .un .not, [.t 7], none⟩] [6, 7])
 (.cond (.t 8) [8]
 (.seq
 (.region false [⟨some 2, .newnil 1040, [], none⟩] [0])
 .ret)
 .skip))
 (.seq
 (.region false [⟨some 9, .mv, [.t 0], none⟩,
 ⟨some 10, .len, [.t 9], none⟩,
 ⟨some 11, .make 5648 2 (.st [.i 0, .i 0]), [.t 10, .t 10], none⟩,
 ⟨some 3, .mv, [.t 11], none⟩] [9, 10, 11])
 (.seq
 (.seq
 (.region false [⟨some 12, .mv, [.t 0], none⟩,
 ⟨some 13, .len, [.t 12], none⟩,
 ⟨some 14, .mv, [.c (.i 0)], none⟩] [0])
 (.block 0
 F_impl_OtherTests_W0))
 (.seq
 (.region false [⟨some 29, .mv, [.t 3], none⟩,
 ⟨some 2, .mv, [.t 29], none⟩] [3, 12, 13, 14, 29])
 .ret))))) }
/-- impl.DualTerm -/
def F_impl_DualTerm_L0 : LC :=
 (.seq
 (.region false [⟨some 18, .bin .lss, [.t 17, .t 16], none⟩] [])
 (.seq
 (.cond (.t 18) [18]
 .skip
 (.exit 0))
 (.seq
 (.block 1
 (.seq
 (.region false [⟨some 19, .mv, [.t 17], none⟩,
 ⟨some 20, .idxa 2, [.t 15, .t 17], none⟩,
 ⟨some 21, .load 2 true, [.t 20], none⟩,
 ⟨some 7, .alloc 3600 (.st [.i 0, .i 0]), [], none⟩,
 ⟨some 6, .mv, [.t 19], none⟩,
 ⟨none, .store 2, [.t 7, .t 21], none⟩] [19, 20, 21])
 (.seq
 (.region false [⟨some 22, .fld 0 1 false, [.t 7], none⟩,
 ⟨some 23, .load 1 false, [.t 22], none⟩] [22])
 (.block 2
 (.seq
 (.region false [⟨some 29, .bin .eql, [.t 23, .c (.i 2)], none⟩,
 ⟨some 28, .mv, [.t 29], none⟩] [29])
 (.cond (.t 28) [28]
 (.region false [⟨some 30, .mv, [.t 5], none⟩,
 ⟨some 31, .mv, [.t 6], none⟩,
 ⟨some 32, .build [.i 0, .i 0] [(0, 1)], [.c (.i 3)], none⟩,
 ⟨some 33, .idxa 2, [.t 30, .t 31], none⟩,
 ⟨none, .store 2, [.t 33, .t 32], none⟩] [6, 7, 23, 30, 31, 32, 33])
 (.seq
 (.region false [⟨some 35, .bin .eql, [.t 23, .c (.i 3)], none⟩,
 ⟨some 34, .mv, [.t 35], none⟩] [23, 35])
 (.cond (.t 34) [34]
 (.region false [⟨some 36, .mv, [.t 5], none⟩,
 ⟨some 37, .mv, [.t 6], none⟩,
 ⟨some 38, .build [.i 0, .i 0] [(0, 1)], [.c (.i 2)], none⟩,
 ⟨some 39, .idxa 2, [.t 36, .t 37], none⟩,
 ⟨none, .store 2, [.t 39, .t 38], none⟩] [6, 7, 36, 37, 38, 39])
 (.region false [⟨some 24, .mv, [.t 5], none⟩,
 ⟨some 25, .mv, [.t 6], none⟩,
 ⟨some 26, .load 2 true, [.t 7], none⟩,
 ⟨some 27, .idxa 2, [.t 24, .t 25], none⟩,
 ⟨none, .store 2, [.t 27, .t 26], none⟩] [6, 7, 24, 25, 26, 27])))))))))
 (.region false [⟨some 40, .bin .add, [.t 17, .c (.i 1)], none⟩,
 ⟨some 17, .mv, [.t 40], none⟩] [40]))))
def F_impl_DualTerm_W0 : LC := .loop F_impl_DualTerm_L0
def F_impl_DualTerm : LF :=
 { nparams := 2, results := [.t 4], body :=
 (.seq
 (.region false [⟨some 4, .newnil 2064, [], none⟩] [4])
 (.seq
 (.seq
 (.region false [⟨some 8, .mv, [.t 0], none⟩,
 ⟨some 9, .mv, [.t 1], none⟩,
 ⟨some 10, .call n_impl_TermOk 5120, [.t 8, .t 9], none⟩,
 ⟨some 11, .un .not, [.t 10], none⟩] [0, 8, 9, 10])
 (.cond (.t 11) [11]
 (.seq
 (.region false [⟨some 4, .newnil 2064, [], none⟩] [1])
 .ret)
 .skip))
 (.seq
 (.region false [⟨some 12, .mv, [.t 1], none⟩,
 ⟨some 13, .len, [.t 12], none⟩,
 ⟨some 14, .make 7184 2 (.st [.i 0, .i 0]), [.t 13, .t 13], none⟩,
 ⟨some 5, .mv, [.t 14], none⟩] [12, 13, 14])
 (.seq
 (.seq
 (.region false [⟨some 15, .mv, [.t 1], none⟩,
 ⟨some 16, .len, [.t 15], none⟩,
 ⟨some 17, .mv, [.c (.i 0)], none⟩] [1])
 (.block 0
 F_impl_DualTerm_W0))
 (.seq
 (.region false [⟨some 41, .mv, [.t 5], none⟩,
 ⟨some 4, .mv, [.t 41], none⟩] [5, 15, 16, 17, 41])
 .ret))))) }
/-- spec.DrawBestOrder -/
def F_spec_DrawBestOrder : LF :=
 { nparams := 1, results := [.t 2, .t 3], body :=
 (.seq
 (.region false [⟨some 2, .newnil 1040, [], none⟩,
 ⟨some 3, .newnil 1552, [], none⟩] [2, 3])
 (.seq
 (.region false [⟨some 4, .mv, [.t 0], none⟩,
 ⟨some 5, .call n_spec_l20Open 2560, [.t 4], none⟩,
 ⟨some 6, .call n_spec_l20Case 3072, [.t 5, .c (.i 12)], none⟩,
 ⟨some 7, .ext 0, [.t 6], none⟩,
 ⟨some 8, .ext 1, [.t 6], none⟩,
 ⟨some 2, .mv, [.t 7], none⟩,
 ⟨some 3, .mv, [.t 8], none⟩] [0, 4, 5, 6, 7, 8])
 .ret)) }
/-- laws.sameInts -/
def F_laws_sameInts_L0 : LC :=
 (.seq
 (.seq
 (.region false [⟨some 11, .mv, [.t 5], none⟩,
 ⟨some 12, .mv, [.t 0], none⟩,
 ⟨some 13, .len, [.t 12], none⟩,
 ⟨some 14, .bin .lss, [.t 11, .t 13], none⟩] [11, 12, 13])
 (.cond (.t 14) [14]
 .skip
 (.exit 0)))
 (.seq
 (.block 1
 (.seq
 (.region true [⟨some 17, .mv, [.t 0], none⟩,
 ⟨some 18, .mv, [.t 5], none⟩,
 ⟨some 19, .idxa 1, [.t 17, .t 18], none⟩,
 ⟨some 20, .load 1 false, [.t 19], none⟩,
 ⟨some 21, .mv, [.t 1], none⟩,
 ⟨some 22, .mv, [.t 5], none⟩,
 ⟨some 23, .idxa 1, [.t 21, .t 22], none⟩,
 ⟨some 24, .load 1 false, [.t 23], none⟩,
 ⟨some 25, .bin .neq, [.t 20, .t 24], none⟩] [17, 18, 19, 20, 21, 22, 23, 24])
 (.cond (.t 25) [25]
 (.seq
 (.region false [⟨some 4, .mv, [.c (.b false)], none⟩] [0, 1, 5])
 .ret)
 .skip)))
 (.region false [⟨some 15, .mv, [.t 5], none⟩,
 ⟨some 16, .bin .add, [.t 15, .c (.i 1)], none⟩,
 ⟨some 5, .mv, [.t 16], none⟩] [15, 16])))
def F_laws_sameInts_W0 : LC := .loop F_laws_sameInts_L0
def F_laws_sameInts : LF :=
 { nparams := 2, results := [.t 4], body :=
 (.seq
 (.region false [⟨some 4, .mv, [.c (.b false)], none⟩] [4])
 (.seq
 (.seq
 (.region false [⟨some 6, .mv, [.t 0], none⟩,
 ⟨some 7, .len, [.t 6], none⟩,
 ⟨some 8, .mv, [.t 1], none⟩,
 ⟨some 9, .len, [.t 8], none⟩,
 ⟨some 10, .bin .neq, [.t 7, .t 9], none⟩] [6, 7, 8, 9])
 (.cond (.t 10) [10]
 (.seq
 (.region false [⟨some 4, .mv, [.c (.b false)], none⟩] [0, 1])
 .ret)
 .skip))
 (.seq
 (.seq
 (.region false [⟨some 5, .mv, [.c (.i 0)], none⟩] [])
 (.block 0
 F_laws_sameInts_W0))
 (.seq
 (.region false [⟨some 4, .mv, [.c (.b true)], none⟩] [0, 1, 5])
 .ret)))) }
/-- impl.SwappedOrder -/
def F_impl_SwappedOrder : LF :=
 { nparams := 3, results := [.t 6, .t 7], body :=
 (.seq
 (.region false [⟨some 6, .newnil 3080, [], none⟩,
 ⟨some 7, .mv, [.c (.b false)], none⟩] [6, 7])
 (.seq
 (.seq
 (.region false [⟨some 9, .mv, [.t 0], none⟩,
 ⟨some 10, .mv, [.t 1], none⟩,
 ⟨some 11, .call n_impl_OrderOk 5632, [.t 9, .t 10], none⟩,
 ⟨some 12, .un .not, [.t 11], none⟩,
 ⟨some 13, .mv, [.t 12], none⟩,
 ⟨some 14, .mv, [.t 2], some (13, false)⟩,
 ⟨some 15, .mv, [.t 0], some (13, false)⟩,
 ⟨some 16, .bin .sub, [.t 15, .c (.i 2)], some (13, false)⟩,
 ⟨some 17, .call n_impl_isWithin 8704, [.t 14, .c (.i 0), .t 16], some (13, false)⟩,
 ⟨some 18, .un .not, [.t 17], some (13, false)⟩,
 ⟨some 19, .pick, [.t 13, .c (.b true), .t 18], none⟩] [0, 9, 10, 11, 12, 13, 14, 15, 16, 17, 18])
 (.cond (.t 19) [19]
 (.seq
 (.region false [⟨some 6, .newnil 3080, [], none⟩,
 ⟨some 7, .mv, [.c (.b false)], none⟩] [1, 2])
 .ret)
 .skip))
 (.seq
 (.region false [⟨some 20, .mv, [.t 1], none⟩,
 ⟨some 21, .call n_slices_Clone_int_int 10752, [.t 20], none⟩,
 ⟨some 8, .mv, [.t 21], none⟩] [1, 20, 21])
 (.seq
 (.region true [⟨some 22, .mv, [.t 8], none⟩,
 ⟨some 23, .mv, [.t 2], none⟩,
 ⟨some 24, .mv, [.t 8], none⟩,
 ⟨some 25, .mv, [.t 2], none⟩,
 ⟨some 26, .bin .add, [.t 25, .c (.i 1)], none⟩,
 ⟨some 27, .mv, [.t 8], none⟩,
 ⟨some 28, .mv, [.t 2], none⟩,
 ⟨some 29, .bin .add, [.t 28, .c (.i 1)], none⟩,
 ⟨some 30, .idxa 1, [.t 27, .t 29], none⟩,
 ⟨some 31, .load 1 false, [.t 30], none⟩,
 ⟨some 32, .mv, [.t 8], none⟩,
 ⟨some 33, .mv, [.t 2], none⟩,
 ⟨some 34, .idxa 1, [.t 32, .t 33], none⟩,
 ⟨some 35, .load 1 false, [.t 34], none⟩,
 ⟨some 36, .idxa 1, [.t 22, .t 23], none⟩,
 ⟨none, .store 1, [.t 36, .t 31], none⟩,
 ⟨some 37, .idxa 1, [.t 24, .t 26], none⟩,
 ⟨none, .store 1, [.t 37, .t 35], none⟩] [2, 22, 23, 24, 25, 26, 27, 28, 29, 30, 31, 32, 33, 34, 35, 36, 37])
 (.seq
 (.region false [⟨some 38, .mv, [.t 8], none⟩,
 ⟨some 6, .mv, [.t 38], none⟩,
 ⟨some 7, .mv, [.c (.b true)], none⟩] [8, 38])
 .ret))))) }
/-- laws.power -/
def F_laws_power_L0 : LC :=
 (.seq
 (.seq
 (.region false [⟨some 5, .mv, [.t 4], none⟩,
 ⟨some 6, .mv, [.t 0], none⟩,
 ⟨some 7, .bin .lss, [.t 5, .t 6], none⟩] [5, 6])
 (.cond (.t 7) [7]
 .skip
 (.exit 0)))
 (.seq
 (.block 1
 (.region false [⟨some 10, .mv, [.t 3], none⟩,
 ⟨some 11, .bin .mul, [.t 10, .c (.i 6)], none⟩,
 ⟨some 3, .mv, [.t 11], none⟩] [10, 11]))
 (.region false [⟨some 8, .mv, [.t 4], none⟩,
 ⟨some 9, .bin .add, [.t 8, .c (.i 1)], none⟩,
 ⟨some 4, .mv, [.t 9], none⟩] [8, 9])))
def F_laws_power_W0 : LC := .loop F_laws_power_L0
def F_laws_power : LF :=
 { nparams := 1, results := [.t 2], body :=
 (.seq
 (.region false [⟨some 2, .mv, [.c (.i 0)], none⟩] [2])
 (.seq
 (.region false [⟨some 3, .mv, [.c (.i 1)], none⟩] [])
 (.seq
 (.seq
 (.region false [⟨some 4, .mv, [.c (.i 0)], none⟩] [])
 (.block 0
 F_laws_power_W0))
 (.seq
 (.region false [⟨some 12, .mv, [.t 3], none⟩,
 ⟨some 2, .mv, [.t 12], none⟩] [0, 3, 4, 12])
 .ret)))) }
/-- impl.IdleTests -/
def F_impl_IdleTests : LF :=
 { nparams := 2, results := [.t 4], body :=
 (.seq
 (.region false [⟨some 4, .mv, [.c (.i 0)], none⟩] [4])
 (.seq
 (.seq
 (.region false [⟨some 6, .mv, [.t 0], none⟩,
 ⟨some 7, .mv, [.t 1], none⟩,
 ⟨some 8, .call n_impl_TermOk 4096, [.t 6, .t 7], none⟩,
 ⟨some 9, .un .not, [.t 8], none⟩] [6, 7, 8])
 (.cond (.t 9) [9]
 (.seq
 (.region false [⟨some 4, .mv, [.c (.i (-1))], none⟩] [0, 1])
 .ret)
 .skip))
 (.seq
 (.region false [⟨some 10, .mv, [.t 1], none⟩,
 ⟨some 11, .call n_impl_trueStates 5632, [.t 10], none⟩,
 ⟨some 5, .alloc 2568 (.w (0#32)), [], none⟩,
 ⟨none, .store 1, [.t 5, .t 11], none⟩] [1, 10, 11])
 (.seq
 (.region false [⟨some 12, .mv, [.t 0], none⟩,
 ⟨some 13, .mkfn n_impl_IdleTests_1, [.t 5], none⟩,
 ⟨some 14, .call n_impl_testsWhere 7168, [.t 12, .t 13], none⟩,
 ⟨some 4, .mv, [.t 14], none⟩] [0, 5, 12, 13, 14])
 .ret)))) }
/-- spec.TermOk -/
def F_spec_TermOk_L0 : LC :=
 (.seq
 (.seq
 (.region false [⟨some 7, .mv, [.t 6], none⟩,
 ⟨some 8, .mv, [.t 1], none⟩,
 ⟨some 9, .len, [.t 8], none⟩,
 ⟨some 10, .bin .lss, [.t 7, .t 9], none⟩] [7, 8, 9])
 (.cond (.t 10) [10]
 .skip
 (.exit 0)))
 (.seq
 (.block 1
 (.block 2
 (.seq
 (.region false [⟨some 14, .mv, [.t 1], none⟩,
 ⟨some 15, .mv, [.t 6], none⟩,
 ⟨some 16, .idxa 2, [.t 14, .t 15], none⟩,
 ⟨some 17, .fld 0 1 false, [.t 16], none⟩,
 ⟨some 18, .load 1 false, [.t 17], none⟩,
 ⟨some 19, .bin .eql, [.t 18, .c (.i 0)], none⟩,
 ⟨some 20, .mv, [.t 19], none⟩,
 ⟨some 21, .mv, [.t 1], some (20, true)⟩,
 ⟨some 22, .mv, [.t 6], some (20, true)⟩,
 ⟨some 23, .idxa 2, [.t 21, .t 22], some (20, true)⟩,
 ⟨some 24, .fld 1 1 false, [.t 23], some (20, true)⟩,
 ⟨some 25, .load 1 false, [.t 24], some (20, true)⟩,
 ⟨some 26, .bin .geq, [.t 25, .c (.i 0)], some (20, true)⟩,
 ⟨some 27, .pick, [.t 20, .t 26, .c (.b false)], none⟩,
 ⟨some 28, .mv, [.t 27], none⟩,
 ⟨some 29, .mv, [.t 1], some (28, true)⟩,
 ⟨some 30, .mv, [.t 6], some (28, true)⟩,
 ⟨some 31, .idxa 2, [.t 29, .t 30], some (28, true)⟩,
 ⟨some 32, .fld 1 1 false, [.t 31], some (28, true)⟩,
 ⟨some 33, .load 1 false, [.t 32], some (28, true)⟩,
 ⟨some 34, .mv, [.t 0], some (28, true)⟩,
 ⟨some 35, .bin .lss, [.t 33, .t 34], some (28, true)⟩,
 ⟨some 36, .pick, [.t 28, .t 35, .c (.b false)], none⟩,
 ⟨some 13, .mv, [.t 36], none⟩] [14, 15, 16, 17, 18, 19, 20, 21, 22, 23, 24, 25, 26, 27, 28, 29, 30, 31, 32, 33, 34, 35, 36])
 (.cond (.t 13) [13]
 (.region false [⟨some 37, .mv, [.t 5], none⟩,
 ⟨some 38, .bin .add, [.t 37, .c (.i 1)], none⟩,
 ⟨some 5, .mv, [.t 38], none⟩] [37, 38])
 (.seq
 (.region false [⟨some 40, .mv, [.t 1], none⟩,
 ⟨some 41, .mv, [.t 6], none⟩,
 ⟨some 42, .idxa 2, [.t 40, .t 41], none⟩,
 ⟨some 43, .load 2 true, [.t 42], none⟩,
 ⟨some 44, .build [.i 0, .i 0] [(0, 1)], [.c (.i 1)], none⟩,
 ⟨some 45, .eqs false 2, [.t 43, .t 44], none⟩,
 ⟨some 46, .mv, [.t 45], none⟩,
 ⟨some 47, .mv, [.t 5], some (46, true)⟩,
 ⟨some 48, .bin .geq, [.t 47, .c (.i 1)], some (46, true)⟩,
 ⟨some 49, .pick, [.t 46, .t 48, .c (.b false)], none⟩,
 ⟨some 39, .mv, [.t 49], none⟩] [40, 41, 42, 43, 44, 45, 46, 47, 48, 49])
 (.cond (.t 39) [39]
 .skip
 (.seq
 (.region false [⟨some 51, .mv, [.t 1], none⟩,
 ⟨some 52, .mv, [.t 6], none⟩,
 ⟨some 53, .idxa 2, [.t 51, .t 52], none⟩,
 ⟨some 54, .load 2 true, [.t 53], none⟩,
 ⟨some 55, .build [.i 0, .i 0] [(0, 1)], [.c (.i 2)], none⟩,
 ⟨some 56, .eqs false 2, [.t 54, .t 55], none⟩,
 ⟨some 57, .mv, [.t 56], none⟩,
 ⟨some 58, .mv, [.t 1], some (57, false)⟩,
 ⟨some 59, .mv, [.t 6], some (57, false)⟩,
 ⟨some 60, .idxa 2, [.t 58, .t 59], some (57, false)⟩,
 ⟨some 61, .load 2 true, [.t 60], some (57, false)⟩,
 ⟨some 62, .build [.i 0, .i 0] [(0, 1)], [.c (.i 3)], some (57, false)⟩,
 ⟨some 63, .eqs false 2, [.t 61, .t 62], some (57, false)⟩,
 ⟨some 64, .pick, [.t 57, .c (.b true), .t 63], none⟩,
 ⟨some 65, .mv, [.t 64], none⟩,
 ⟨some 66, .mv, [.t 5], some (65, true)⟩,
 ⟨some 67, .bin .geq, [.t 66, .c (.i 2)], some (65, true)⟩,
 ⟨some 68, .pick, [.t 65, .t 67, .c (.b false)], none⟩,
 ⟨some 50, .mv, [.t 68], none⟩] [51, 52, 53, 54, 55, 56, 57, 58, 59, 60, 61, 62, 63, 64, 65, 66, 67, 68])
 (.cond (.t 50) [50]
 (.region false [⟨some 69, .mv, [.t 5], none⟩,
 ⟨some 70, .bin .sub, [.t 69, .c (.i 1)], none⟩,
 ⟨some 5, .mv, [.t 70], none⟩] [69, 70])
 (.seq
 (.region false [⟨some 4, .mv, [.c (.b false)], none⟩] [0, 1, 5, 6])
 .ret)))))))))
 (.region false [⟨some 11, .mv, [.t 6], none⟩,
 ⟨some 12, .bin .add, [.t 11, .c (.i 1)], none⟩,
 ⟨some 6, .mv, [.t 12], none⟩] [11, 12])))
def F_spec_TermOk_W0 : LC := .loop F_spec_TermOk_L0
def F_spec_TermOk : LF :=
 { nparams := 2, results := [.t 4], body :=
 (.seq
 (.region false [⟨some 4, .mv, [.c (.b false)], none⟩] [4])
 (.seq
 (.region false [⟨some 5, .mv, [.c (.i 0)], none⟩] [])
 (.seq
 (.seq
 (.region false [⟨some 6, .mv, [.c (.i 0)], none⟩] [])
 (.block 0
 F_spec_TermOk_W0))
 (.seq
 (.region false [⟨some 71, .mv, [.t 0], none⟩,
 ⟨some 72, .call n_spec_l1In 36864, [.t 71, .c (.i 1), .c (.i 5)], none⟩,
 ⟨some 73, .mv, [.t 72], none⟩,
 ⟨some 74, .mv, [.t 5], some (73, true)⟩,
 ⟨some 75, .bin .eql, [.t 74, .c (.i 1)], some (73, true)⟩,
 ⟨some 76, .pick, [.t 73, .t 75, .c (.b false)], none⟩,
 ⟨some 77, .mv, [.t 76], none⟩,
 ⟨some 78, .mv, [.t 1], some (77, true)⟩,
 ⟨some 79, .len, [.t 78], some (77, true)⟩,
 ⟨some 80, .bin .leq, [.t 79, .c (.i 13)], some (77, true)⟩,
 ⟨some 81, .pick, [.t 77, .t 80, .c (.b false)], none⟩,
 ⟨some 4, .mv, [.t 81], none⟩] [0, 1, 5, 6, 71, 72, 73, 74, 75, 76, 77, 78, 79, 80, 81])
 .ret)))) }
/-- spec.OrderOk -/
def F_spec_OrderOk_L0 : LC :=
 (.seq
 (.seq
 (.region false [⟨some 7, .mv, [.t 6], none⟩,
 ⟨some 8, .mv, [.t 1], none⟩,
 ⟨some 9, .len, [.t 8], none⟩,
 ⟨some 10, .bin .lss, [.t 7, .t 9], none⟩] [7, 8, 9])
 (.cond (.t 10) [10]
 .skip
 (.exit 0)))
 (.seq
 (.block 1
 (.seq
 (.seq
 (.region false [⟨some 13, .mv, [.t 1], none⟩,
 ⟨some 14, .mv, [.t 6], none⟩,
 ⟨some 15, .idxa 1, [.t 13, .t 14], none⟩,
 ⟨some 16, .load 1 false, [.t 15], none⟩,
 ⟨some 17, .bin .lss, [.t 16, .c (.i 0)], none⟩,
 ⟨some 18, .mv, [.t 17], none⟩,
 ⟨some 19, .mv, [.t 1], some (18, false)⟩,
 ⟨some 20, .mv, [.t 6], some (18, false)⟩,
 ⟨some 21, .idxa 1, [.t 19, .t 20], some (18, false)⟩,
 ⟨some 22, .load 1 false, [.t 21], some (18, false)⟩,
 ⟨some 23, .mv, [.t 0], some (18, false)⟩,
 ⟨some 24, .bin .geq, [.t 22, .t 23], some (18, false)⟩,
 ⟨some 25, .pick, [.t 18, .c (.b true), .t 24], none⟩,
 ⟨some 26, .mv, [.t 25], none⟩,
 ⟨some 27, .mv, [.t 1], some (26, false)⟩,
 ⟨some 28, .mv, [.t 6], some (26, false)⟩,
 ⟨some 29, .idxa 1, [.t 27, .t 28], some (26, false)⟩,
 ⟨some 30, .load 1 false, [.t 29], some (26, false)⟩,
 ⟨some 31, .bin .geq, [.t 30, .c (.i 5)], some (26, false)⟩,
 ⟨some 32, .pick, [.t 26, .c (.b true), .t 31], none⟩,
 ⟨some 33, .mv, [.t 32], none⟩,
 ⟨some 34, .mv, [.t 5], some (33, false)⟩,
 ⟨some 35, .mv, [.t 1], some (33, false)⟩,
 ⟨some 36, .mv, [.t 6], some (33, false)⟩,
 ⟨some 37, .idxa 1, [.t 35, .t 36], some (33, false)⟩,
 ⟨some 38, .load 1 false, [.t 37], some (33, false)⟩,
 ⟨some 39, .bin .shr, [.t 34, .t 38], some (33, false)⟩,
 ⟨some 40, .bin .rem, [.t 39, .c (.i 2)], some (33, false)⟩,
 ⟨some 41, .bin .eql, [.t 40, .c (.i 1)], some (33, false)⟩,
 ⟨some 42, .pick, [.t 33, .c (.b true), .t 41], none⟩] [13, 14, 15, 16, 17, 18, 19, 20, 21, 22, 23, 24, 25, 26, 27, 28, 29, 30, 31, 32, 33, 34, 35, 36, 37, 38, 39, 40, 41])
 (.cond (.t 42) [42]
 (.seq
 (.region false [⟨some 4, .mv, [.c (.b false)], none⟩] [0, 1, 5, 6])
 .ret)
 .skip))
 (.region false [⟨some 43, .mv, [.t 5], none⟩,
 ⟨some 44, .mv, [.t 1], none⟩,
 ⟨some 45, .mv, [.t 6], none⟩,
 ⟨some 46, .idxa 1, [.t 44, .t 45], none⟩,
 ⟨some 47, .load 1 false, [.t 46], none⟩,
 ⟨some 48, .bin .shl, [.c (.i 1), .t 47], none⟩,
 ⟨some 49, .bin .or, [.t 43, .t 48], none⟩,
 ⟨some 5, .mv, [.t 49], none⟩] [43, 44, 45, 46, 47, 48, 49])))
 (.region false [⟨some 11, .mv, [.t 6], none⟩,
 ⟨some 12, .bin .add, [.t 11, .c (.i 1)], none⟩,
 ⟨some 6, .mv, [.t 12], none⟩] [11, 12])))
def F_spec_OrderOk_W0 : LC := .loop F_spec_OrderOk_L0
def F_spec_OrderOk : LF :=
 { nparams := 2, results := [.t 4], body :=
 (.seq
 (.region false [⟨some 4, .mv, [.c (.b false)], none⟩] [4])
 (.seq
 (.region false [⟨some 5, .mv, [.c (.i 0)], none⟩] [])
 (.seq
 (.seq
 (.region false [⟨some 6, .mv, [.c (.i 0)], none⟩] [])
 (.block 0
 F_spec_OrderOk_W0))
 (.seq
 (.region false [⟨some 50, .mv, [.t 0], none⟩,
 ⟨some 51, .call n_spec_l1In 26112, [.t 50, .c (.i 1), .c (.i 5)], none⟩,
 ⟨some 52, .mv, [.t 51], none⟩,
 ⟨some 53, .mv, [.t 1], some (52, true)⟩,
 ⟨some 54, .len, [.t 53], some (52, true)⟩,
 ⟨some 55, .mv, [.t 0], some (52, true)⟩,
 ⟨some 56, .bin .eql, [.t 54, .t 55], some (52, true)⟩,
 ⟨some 57, .pick, [.t 52, .t 56, .c (.b false)], none⟩,
 ⟨some 4, .mv, [.t 57], none⟩] [0, 1, 5, 6, 50, 51, 52, 53, 54, 55, 56, 57])
 .ret)))) }
/-- spec.StateOk -/
def F_spec_StateOk : LF :=
 { nparams := 2, results := [.t 4], body :=
 (.seq
 (.region false [⟨some 4, .mv, [.c (.b false)], none⟩] [4])
 (.seq
 (.region false [⟨some 5, .mv, [.t 0], none⟩,
 ⟨some 6, .call n_spec_l1In 3072, [.t 5, .c (.i 1), .c (.i 5)], none⟩,
 ⟨some 7, .mv, [.t 6], none⟩,
 ⟨some 8, .mv, [.t 1], some (7, true)⟩,
 ⟨some 9, .mv, [.t 0], some (7, true)⟩,
 ⟨some 10, .bin .shl, [.c (.i 1), .t 9], some (7, true)⟩,
 ⟨some 11, .bin .sub, [.t 10, .c (.i 1)], some (7, true)⟩,
 ⟨some 12, .call n_spec_l1In 6144, [.t 8, .c (.i 0), .t 11], some (7, true)⟩,
 ⟨some 13, .pick, [.t 7, .t 12, .c (.b false)], none⟩,
 ⟨some 4, .mv, [.t 13], none⟩] [0, 1, 5, 6, 7, 8, 9, 10, 11, 12, 13])
 .ret)) }
/-- spec.l4Asked -/
def F_spec_l4Asked_L0 : LC :=
 (.seq
 (.seq
 (.region false [⟨some 13, .mv, [.t 10], none⟩,
 ⟨some 14, .mv, [.t 2], none⟩,
 ⟨some 15, .len, [.t 14], none⟩,
 ⟨some 16, .bin .lss, [.t 13, .t 15], none⟩] [13, 14, 15])
 (.cond (.t 16) [16]
 .skip
 (.exit 0)))
 (.seq
 (.block 1
 (.seq
 (.seq
 (.region false [⟨some 19, .mv, [.t 0], none⟩,
 ⟨some 20, .mv, [.t 1], none⟩,
 ⟨some 21, .mv, [.t 9], none⟩,
 ⟨some 22, .call n_spec_l3Forced 11264, [.t 19, .t 20, .t 21], none⟩,
 ⟨some 23, .bin .neq, [.t 22, .c (.i (-1))], none⟩] [19, 20, 21, 22])
 (.cond (.t 23) [23]
 (.seq
 (.region false [⟨some 24, .mv, [.t 10], none⟩,
 ⟨some 8, .mv, [.t 24], none⟩] [0, 1, 2, 3, 9, 10, 24])
 .ret)
 .skip))
 (.region true [⟨some 25, .mv, [.t 9], none⟩,
 ⟨some 26, .mv, [.t 2], none⟩,
 ⟨some 27, .mv, [.t 10], none⟩,
 ⟨some 28, .idxa 1, [.t 26, .t 27], none⟩,
 ⟨some 29, .load 1 false, [.t 28], none⟩,
 ⟨some 30, .mv, [.t 3], none⟩,
 ⟨some 31, .mv, [.t 2], none⟩,
 ⟨some 32, .mv, [.t 10], none⟩,
 ⟨some 33, .idxa 1, [.t 31, .t 32], none⟩,
 ⟨some 34, .load 1 false, [.t 33], none⟩,
 ⟨some 35, .bin .shr, [.t 30, .t 34], none⟩,
 ⟨some 36, .bin .rem, [.t 35, .c (.i 2)], none⟩,
 ⟨some 37, .idxa 1, [.t 25, .t 29], none⟩,
 ⟨none, .store 1, [.t 37, .t 36], none⟩] [25, 26, 27, 28, 29, 30, 31, 32, 33, 34, 35, 36, 37])))
 (.region false [⟨some 17, .mv, [.t 10], none⟩,
 ⟨some 18, .bin .add, [.t 17, .c (.i 1)], none⟩,
 ⟨some 10, .mv, [.t 18], none⟩] [17, 18])))
def F_spec_l4Asked_W0 : LC := .loop F_spec_l4Asked_L0
def F_spec_l4Asked : LF :=
 { nparams := 4, results := [.t 8], body :=
 (.seq
 (.region false [⟨some 8, .mv, [.c (.i 0)], none⟩] [8])
 (.seq
 (.region false [⟨some 11, .mv, [.t 0], none⟩,
 ⟨some 12, .call n_spec_l4None 6144, [.t 11], none⟩,
 ⟨some 9, .mv, [.t 12], none⟩] [11, 12])
 (.seq
 (.seq
 (.region false [⟨some 10, .mv, [.c (.i 0)], none⟩] [])
 (.block 0
 F_spec_l4Asked_W0))
 (.seq
 (.region false [⟨some 38, .mv, [.t 2], none⟩,
 ⟨some 39, .len, [.t 38], none⟩,
 ⟨some 8, .mv, [.t 39], none⟩] [0, 1, 2, 3, 9, 10, 38, 39])
 .ret)))) }
/-- spec.l3Table -/
def F_spec_l3Table_L0 : LC :=
 (.seq
 (.seq
 (.region false [⟨some 7, .mv, [.t 6], none⟩,
 ⟨some 8, .mv, [.t 0], none⟩,
 ⟨some 9, .bin .shl, [.c (.i 1), .t 8], none⟩,
 ⟨some 10, .bin .lss, [.t 7, .t 9], none⟩] [7, 8, 9])
 (.cond (.t 10) [10]
 .skip
 (.exit 0)))
 (.seq
 (.block 1
 (.region false [⟨some 13, .mv, [.t 5], none⟩,
 ⟨some 14, .mv, [.t 1], none⟩,
 ⟨some 15, .mv, [.t 6], none⟩,
 ⟨some 16, .call n_spec_l3Value 8192, [.t 14, .t 15], none⟩,
 ⟨some 17, .mv, [.t 6], none⟩,
 ⟨some 18, .bin .shl, [.t 16, .t 17], none⟩,
 ⟨some 19, .bin .or, [.t 13, .t 18], none⟩,
 ⟨some 5, .mv, [.t 19], none⟩] [13, 14, 15, 16, 17, 18, 19]))
 (.region false [⟨some 11, .mv, [.t 6], none⟩,
 ⟨some 12, .bin .add, [.t 11, .c (.i 1)], none⟩,
 ⟨some 6, .mv, [.t 12], none⟩] [11, 12])))
def F_spec_l3Table_W0 : LC := .loop F_spec_l3Table_L0
def F_spec_l3Table : LF :=
 { nparams := 2, results := [.t 4], body :=
 (.seq
 (.region false [⟨some 4, .mv, [.c (.i 0)], none⟩] [4])
 (.seq
 (.region false [⟨some 5, .mv, [.c (.i 0)], none⟩] [])
 (.seq
 (.seq
 (.region false [⟨some 6, .mv, [.c (.i 0)], none⟩] [])
 (.block 0
 F_spec_l3Table_W0))
 (.seq
 (.region false [⟨some 20, .mv, [.t 5], none⟩,
 ⟨some 4, .mv, [.t 20], none⟩] [0, 1, 5, 6, 20])
 .ret)))) }
/-- laws.toMark -/
def F_laws_toMark : LF :=
 { nparams := 1, results := [.c 2 2 true], body :=
 (.seq
 (.region false [⟨some 1, .box 528, [.t 0], none⟩,
 ⟨some 2, .alloc 1040 (.st [.i 0, .i 0]), [], none⟩] [0])
 (.seq
 (.region false [⟨some 3, .alloc 1552 (.st [.i 0, .i 0]), [], none⟩] [])
 (.seq
 (.region false [⟨some 4, .fld 0 1 false, [.t 1], none⟩,
 ⟨some 5, .load 1 false, [.t 4], none⟩,
 ⟨some 6, .fld 0 1 false, [.t 3], none⟩,
 ⟨none, .store 1, [.t 6, .t 5], none⟩] [4, 5, 6])
 (.seq
 (.region false [⟨some 7, .fld 1 1 false, [.t 1], none⟩,
 ⟨some 8, .load 1 false, [.t 7], none⟩,
 ⟨some 9, .fld 1 1 false, [.t 3], none⟩,
 ⟨none, .store 1, [.t 9, .t 8], none⟩] [1, 7, 8, 9])
 (.seq
 (.region false [⟨some 10, .load 2 true, [.t 3], none⟩,
 ⟨none, .store 2, [.t 2, .t 10], none⟩] [3, 10])
 .ret))))) }
/-- impl.TermOk -/
def F_impl_TermOk_L0 : LC :=
 (.seq
 (.region false [⟨some 21, .bin .lss, [.t 20, .t 19], none⟩] [])
 (.seq
 (.cond (.t 21) [21]
 .skip
 (.exit 0))
 (.seq
 (.block 1
 (.seq
 (.region false [⟨some 22, .idxa 2, [.t 18, .t 20], none⟩,
 ⟨some 23, .load 2 true, [.t 22], none⟩,
 ⟨some 7, .alloc 3600 (.st [.i 0, .i 0]), [], none⟩,
 ⟨none, .store 2, [.t 7, .t 23], none⟩] [22, 23])
 (.seq
 (.region false [⟨some 24, .fld 0 1 false, [.t 7], none⟩,
 ⟨some 25, .load 1 false, [.t 24], none⟩,
 ⟨some 26, .call n_impl_partsTaken 13312, [.t 25], none⟩,
 ⟨some 8, .mv, [.t 26], none⟩] [24, 25, 26])
 (.seq
 (.seq
 (.region false [⟨some 27, .mv, [.t 0], none⟩,
 ⟨some 28, .load 2 true, [.t 7], none⟩,
 ⟨some 29, .call n_impl_markOk 14848, [.t 27, .t 28], none⟩,
 ⟨some 30, .un .not, [.t 29], none⟩,
 ⟨some 31, .mv, [.t 30], none⟩,
 ⟨some 32, .mv, [.t 5], some (31, false)⟩,
 ⟨some 33, .mv, [.t 8], some (31, false)⟩,
 ⟨some 34, .bin .lss, [.t 32, .t 33], some (31, false)⟩,
 ⟨some 35, .pick, [.t 31, .c (.b true), .t 34], none⟩] [7, 27, 28, 29, 30, 31, 32, 33, 34])
 (.cond (.t 35) [35]
 (.seq
 (.region false [⟨some 4, .mv, [.c (.b false)], none⟩] [0, 5, 8, 18, 19, 20])
 .ret)
 .skip))
 (.region false [⟨some 36, .mv, [.t 5], none⟩,
 ⟨some 37, .mv, [.t 8], none⟩,
 ⟨some 38, .bin .sub, [.c (.i 1), .t 37], none⟩,
 ⟨some 39, .bin .add, [.t 36, .t 38], none⟩,
 ⟨some 5, .mv, [.t 39], none⟩] [8, 36, 37, 38, 39])))))
 (.region false [⟨some 40, .bin .add, [.t 20, .c (.i 1)], none⟩,
 ⟨some 20, .mv, [.t 40], none⟩] [40]))))
def F_impl_TermOk_W0 : LC := .loop F_impl_TermOk_L0
def F_impl_TermOk : LF :=
 { nparams := 2, results := [.t 4], body :=
 (.seq
 (.region false [⟨some 4, .mv, [.c (.b false)], none⟩] [4])
 (.seq
 (.seq
 (.region false [⟨some 9, .mv, [.t 0], none⟩,
 ⟨some 10, .call n_impl_manyOk 5120, [.t 9], none⟩,
 ⟨some 11, .un .not, [.t 10], none⟩,
 ⟨some 12, .mv, [.t 11], none⟩,
 ⟨some 13, .mv, [.t 1], some (12, false)⟩,
 ⟨some 14, .len, [.t 13], some (12, false)⟩,
 ⟨some 15, .call n_impl_isWithin 7680, [.t 14, .c (.i 1), .c (.i 13)], some (12, false)⟩,
 ⟨some 16, .un .not, [.t 15], some (12, false)⟩,
 ⟨some 17, .pick, [.t 12, .c (.b true), .t 16], none⟩] [9, 10, 11, 12, 13, 14, 15, 16])
 (.cond (.t 17) [17]
 (.seq
 (.region false [⟨some 4, .mv, [.c (.b false)], none⟩] [0, 1])
 .ret)
 .skip))
 (.seq
 (.region false [⟨some 5, .mv, [.c (.i 0)], none⟩] [])
 (.seq
 (.seq
 (.region false [⟨some 18, .mv, [.t 1], none⟩,
 ⟨some 19, .len, [.t 18], none⟩,
 ⟨some 20, .mv, [.c (.i 0)], none⟩] [1])
 (.block 0
 F_impl_TermOk_W0))
 (.seq
 (.region false [⟨some 41, .mv, [.t 5], none⟩,
 ⟨some 42, .bin .eql, [.t 41, .c (.i 1)], none⟩,
 ⟨some 4, .mv, [.t 42], none⟩] [0, 5, 18, 19, 20, 41, 42])
 .ret))))) }
/-- impl.OrderOk -/
def F_impl_OrderOk_L0 : LC :=
 (.seq
 (.region false [⟨some 20, .bin .lss, [.t 19, .t 18], none⟩] [])
 (.seq
 (.cond (.t 20) [20]
 .skip
 (.exit 0))
 (.seq
 (.block 1
 (.seq
 (.region false [⟨some 21, .idxa 1, [.t 17, .t 19], none⟩,
 ⟨some 22, .load 1 false, [.t 21], none⟩,
 ⟨some 7, .mv, [.t 22], none⟩] [21, 22])
 (.seq
 (.seq
 (.region false [⟨some 23, .mv, [.t 7], none⟩,
 ⟨some 24, .mv, [.t 0], none⟩,
 ⟨some 25, .bin .sub, [.t 24, .c (.i 1)], none⟩,
 ⟨some 26, .call n_impl_isWithin 13312, [.t 23, .c (.i 0), .t 25], none⟩,
 ⟨some 27, .un .not, [.t 26], none⟩,
 ⟨some 28, .mv, [.t 27], none⟩,
 ⟨some 29, .mv, [.t 5], some (28, false)⟩,
 ⟨some 30, .mv, [.t 7], some (28, false)⟩,
 ⟨some 31, .call n_impl_hasTest 15872, [.t 29, .t 30], some (28, false)⟩,
 ⟨some 32, .pick, [.t 28, .c (.b true), .t 31], none⟩] [23, 24, 25, 26, 27, 28, 29, 30, 31])
 (.cond (.t 32) [32]
 (.seq
 (.region false [⟨some 4, .mv, [.c (.b false)], none⟩] [0, 5, 7, 17, 18, 19])
 .ret)
 .skip))
 (.region false [⟨some 33, .mv, [.t 5], none⟩,
 ⟨some 34, .mv, [.t 7], none⟩,
 ⟨some 35, .bin .shl, [.c (.i 1), .t 34], none⟩,
 ⟨some 36, .bin .or, [.t 33, .t 35], none⟩,
 ⟨some 5, .mv, [.t 36], none⟩] [7, 33, 34, 35, 36]))))
 (.region false [⟨some 37, .bin .add, [.t 19, .c (.i 1)], none⟩,
 ⟨some 19, .mv, [.t 37], none⟩] [37]))))
def F_impl_OrderOk_W0 : LC := .loop F_impl_OrderOk_L0
def F_impl_OrderOk : LF :=
 { nparams := 2, results := [.t 4], body :=
 (.seq
 (.region false [⟨some 4, .mv, [.c (.b false)], none⟩] [4])
 (.seq
 (.seq
 (.region false [⟨some 8, .mv, [.t 0], none⟩,
 ⟨some 9, .call n_impl_manyOk 4608, [.t 8], none⟩,
 ⟨some 10, .un .not, [.t 9], none⟩,
 ⟨some 11, .mv, [.t 10], none⟩,
 ⟨some 12, .mv, [.t 1], some (11, false)⟩,
 ⟨some 13, .len, [.t 12], some (11, false)⟩,
 ⟨some 14, .mv, [.t 0], some (11, false)⟩,
 ⟨some 15, .bin .neq, [.t 13, .t 14], some (11, false)⟩,
 ⟨some 16, .pick, [.t 11, .c (.b true), .t 15], none⟩] [8, 9, 10, 11, 12, 13, 14, 15])
 (.cond (.t 16) [16]
 (.seq
 (.region false [⟨some 4, .mv, [.c (.b false)], none⟩] [0, 1])
 .ret)
 .skip))
 (.seq
 (.region false [⟨some 5, .mv, [.c (.i 0)], none⟩] [])
 (.seq
 (.seq
 (.region false [⟨some 17, .mv, [.t 1], none⟩,
 ⟨some 18, .len, [.t 17], none⟩,
 ⟨some 19, .mv, [.c (.i 0)], none⟩] [1])
 (.block 0
 F_impl_OrderOk_W0))
 (.seq
 (.region false [⟨some 4, .mv, [.c (.b true)], none⟩] [0, 5, 17, 18, 19])
 .ret))))) }
/-- impl.StateOk -/
def F_impl_StateOk : LF :=
 { nparams := 2, results := [.t 4], body :=
 (.seq
 (.region false [⟨some 4, .mv, [.c (.b false)], none⟩] [4])
 (.seq
 (.region false [⟨some 5, .mv, [.t 0], none⟩,
 ⟨some 6, .call n_impl_manyOk 3072, [.t 5], none⟩,
 ⟨some 7, .mv, [.t 6], none⟩,
 ⟨some 8, .mv, [.t 1], some (7, true)⟩,
 ⟨some 9, .mv, [.t 0], some (7, true)⟩,
 ⟨some 10, .call n_impl_statesOf 5120, [.t 9], some (7, true)⟩,
 ⟨some 11, .bin .sub, [.t 10, .c (.i 1)], some (7, true)⟩,
 ⟨some 12, .call n_impl_isWithin 6144, [.t 8, .c (.i 0), .t 11], some (7, true)⟩,
 ⟨some 13, .pick, [.t 7, .t 12, .c (.b false)], none⟩,
 ⟨some 4, .mv, [.t 13], none⟩] [0, 1, 5, 6, 7, 8, 9, 10, 11, 12, 13])
 .ret)) }
/-- impl.trueStates -/
def F_impl_trueStates : LF :=
 { nparams := 1, results := [.t 2], body :=
 (.seq
 (.region false [⟨some 2, .mv, [.c (.w (0#32))], none⟩] [2])
 (.seq
 (.region false [⟨some 3, .mv, [.t 0], none⟩,
 ⟨some 4, .call n_impl_foldTerm_uint32 2048, [.t 3, .c (.fn n_impl_statesOfPart [])], none⟩,
 ⟨some 2, .mv, [.t 4], none⟩] [0, 3, 4])
 .ret)) }
/-- impl.hasState -/
def F_impl_hasState : LF :=
 { nparams := 2, results := [.t 4], body :=
 (.seq
 (.region false [⟨some 4, .mv, [.c (.b false)], none⟩] [4])
 (.seq
 (.region false [⟨some 5, .mv, [.t 0], none⟩,
 ⟨some 6, .mv, [.t 1], none⟩,
 ⟨some 7, .bin .shr, [.t 5, .t 6], none⟩,
 ⟨some 8, .bin .and, [.t 7, .c (.w (1#32))], none⟩,
 ⟨some 9, .bin .eql, [.t 8, .c (.w (1#32))], none⟩,
 ⟨some 4, .mv, [.t 9], none⟩] [0, 1, 5, 6, 7, 8, 9])
 .ret)) }
/-- impl.openStates -/
def F_impl_openStates_L0 : LC :=
 (.seq
 (.region false [⟨some 15, .bin .lss, [.t 14, .t 13], none⟩] [])
 (.seq
 (.cond (.t 15) [15]
 .skip
 (.exit 0))
 (.seq
 (.block 1
 (.seq
 (.region false [⟨some 16, .mv, [.t 14], none⟩,
 ⟨some 9, .mv, [.t 16], none⟩] [16])
 (.seq
 (.region false [⟨some 17, .mv, [.t 2], none⟩,
 ⟨some 18, .mv, [.t 9], none⟩,
 ⟨some 19, .call n_impl_hasTest 9728, [.t 17, .t 18], none⟩,
 ⟨some 20, .un .not, [.t 19], none⟩] [17, 18, 19])
 (.cond (.t 20) [20]
 (.seq
 (.region false [⟨some 21, .mv, [.t 7], none⟩,
 ⟨some 22, .mv, [.t 7], none⟩,
 ⟨some 23, .mv, [.t 9], none⟩,
 ⟨some 24, .call n_impl_turnedStates 12288, [.t 22, .t 23], none⟩,
 ⟨some 25, .bin .or, [.t 21, .t 24], none⟩,
 ⟨some 7, .mv, [.t 25], none⟩] [21, 22, 23, 24, 25])
 (.region false [⟨some 26, .mv, [.t 8], none⟩,
 ⟨some 27, .mv, [.t 8], none⟩,
 ⟨some 28, .mv, [.t 9], none⟩,
 ⟨some 29, .call n_impl_turnedStates 14848, [.t 27, .t 28], none⟩,
 ⟨some 30, .bin .or, [.t 26, .t 29], none⟩,
 ⟨some 8, .mv, [.t 30], none⟩] [9, 26, 27, 28, 29, 30]))
 .skip))))
 (.region false [⟨some 31, .bin .add, [.t 14, .c (.i 1)], none⟩,
 ⟨some 14, .mv, [.t 31], none⟩] [9, 31]))))
def F_impl_openStates_W0 : LC := .loop F_impl_openStates_L0
def F_impl_openStates : LF :=
 { nparams := 3, results := [.t 6], body :=
 (.seq
 (.region false [⟨some 6, .mv, [.c (.w (0#32))], none⟩] [6])
 (.seq
 (.region false [⟨some 10, .mv, [.t 1], none⟩,
 ⟨some 11, .mv, [.t 1], none⟩,
 ⟨some 12, .un .xor, [.t 11], none⟩,
 ⟨some 7, .mv, [.t 10], none⟩,
 ⟨some 8, .mv, [.t 12], none⟩] [1, 10, 11, 12])
 (.seq
 (.seq
 (.region false [⟨some 13, .mv, [.t 0], none⟩,
 ⟨some 14, .mv, [.c (.i 0)], none⟩] [0])
 (.block 0
 F_impl_openStates_W0))
 (.seq
 (.region false [⟨some 32, .mv, [.t 7], none⟩,
 ⟨some 33, .mv, [.t 8], none⟩,
 ⟨some 34, .bin .and, [.t 32, .t 33], none⟩,
 ⟨some 6, .mv, [.t 34], none⟩] [2, 7, 8, 13, 14, 32, 33, 34])
 .ret)))) }
/-- laws.eqMark -/
def F_laws_eqMark : LF :=
 { nparams := 2, results := [.t 4], body :=
 (.seq
 (.region false [⟨some 2, .box 1040, [.t 0], none⟩,
 ⟨some 3, .box 1552, [.t 1], none⟩,
 ⟨some 4, .mv, [.c (.b false)], none⟩] [0, 1, 4])
 (.seq
 (.seq
 (.region false [⟨some 5, .fld 0 1 false, [.t 2], none⟩,
 ⟨some 6, .load 1 false, [.t 5], none⟩,
 ⟨some 7, .fld 0 1 false, [.t 3], none⟩,
 ⟨some 8, .load 1 false, [.t 7], none⟩,
 ⟨some 9, .bin .neq, [.t 6, .t 8], none⟩] [5, 6, 7, 8])
 (.cond (.t 9) [9]
 (.seq
 (.region false [⟨some 4, .mv, [.c (.b false)], none⟩] [2, 3])
 .ret)
 .skip))
 (.seq
 (.seq
 (.region false [⟨some 10, .fld 1 1 false, [.t 2], none⟩,
 ⟨some 11, .load 1 false, [.t 10], none⟩,
 ⟨some 12, .fld 1 1 false, [.t 3], none⟩,
 ⟨some 13, .load 1 false, [.t 12], none⟩,
 ⟨some 14, .bin .neq, [.t 11, .t 13], none⟩] [2, 3, 10, 11, 12, 13])
 (.cond (.t 14) [14]
 (.seq
 (.region false [⟨some 4, .mv, [.c (.b false)], none⟩] [])
 .ret)
 .skip))
 (.seq
 (.region false [⟨some 4, .mv, [.c (.b true)], none⟩] [])
 .ret)))) }
/-- spec.TestsOk -/
def F_spec_TestsOk_L0 : LC :=
 (.seq
 (.seq
 (.region false [⟨some 4, .mv, [.t 3], none⟩,
 ⟨some 5, .mv, [.t 0], none⟩,
 ⟨some 6, .len, [.t 5], none⟩,
 ⟨some 7, .bin .lss, [.t 4, .t 6], none⟩] [4, 5, 6])
 (.cond (.t 7) [7]
 .skip
 (.exit 0)))
 (.seq
 (.block 1
 (.seq
 (.region false [⟨some 10, .mv, [.t 0], none⟩,
 ⟨some 11, .mv, [.t 3], none⟩,
 ⟨some 12, .idxa 2, [.t 10, .t 11], none⟩,
 ⟨some 13, .fld 0 1 false, [.t 12], none⟩,
 ⟨some 14, .load 1 false, [.t 13], none⟩,
 ⟨some 15, .call n_spec_l1In 7680, [.t 14, .c (.i 1), .c (.i 9)], none⟩,
 ⟨some 16, .un .not, [.t 15], none⟩,
 ⟨some 17, .mv, [.t 16], none⟩,
 ⟨some 18, .mv, [.t 0], some (17, false)⟩,
 ⟨some 19, .mv, [.t 3], some (17, false)⟩,
 ⟨some 20, .idxa 2, [.t 18, .t 19], some (17, false)⟩,
 ⟨some 21, .fld 1 1 false, [.t 20], some (17, false)⟩,
 ⟨some 22, .load 1 false, [.t 21], some (17, false)⟩,
 ⟨some 23, .call n_spec_l1In 11776, [.t 22, .c (.i 1), .c (.i 5)], some (17, false)⟩,
 ⟨some 24, .un .not, [.t 23], some (17, false)⟩,
 ⟨some 25, .pick, [.t 17, .c (.b true), .t 24], none⟩] [10, 11, 12, 13, 14, 15, 16, 17, 18, 19, 20, 21, 22, 23, 24])
 (.cond (.t 25) [25]
 (.seq
 (.region false [⟨some 2, .mv, [.c (.b false)], none⟩] [0, 3])
 .ret)
 .skip)))
 (.region false [⟨some 8, .mv, [.t 3], none⟩,
 ⟨some 9, .bin .add, [.t 8, .c (.i 1)], none⟩,
 ⟨some 3, .mv, [.t 9], none⟩] [8, 9])))
def F_spec_TestsOk_W0 : LC := .loop F_spec_TestsOk_L0
def F_spec_TestsOk : LF :=
 { nparams := 1, results := [.t 2], body :=
 (.seq
 (.region false [⟨some 2, .mv, [.c (.b false)], none⟩] [2])
 (.seq
 (.seq
 (.region false [⟨some 3, .mv, [.c (.i 0)], none⟩] [])
 (.block 0
 F_spec_TestsOk_W0))
 (.seq
 (.region false [⟨some 26, .mv, [.t 0], none⟩,
 ⟨some 27, .len, [.t 26], none⟩,
 ⟨some 28, .call n_spec_l1In 14336, [.t 27, .c (.i 1), .c (.i 5)], none⟩,
 ⟨some 2, .mv, [.t 28], none⟩] [0, 3, 26, 27, 28])
 .ret))) }
/-- laws.toTest -/
def F_laws_toTest : LF :=
 { nparams := 1, results := [.c 2 2 true], body :=
 (.seq
 (.region false [⟨some 1, .box 528, [.t 0], none⟩,
 ⟨some 2, .alloc 1040 (.st [.i 0, .i 0]), [], none⟩] [0])
 (.seq
 (.region false [⟨some 3, .alloc 1552 (.st [.i 0, .i 0]), [], none⟩] [])
 (.seq
 (.region false [⟨some 4, .fld 0 1 false, [.t 1], none⟩,
 ⟨some 5, .load 1 false, [.t 4], none⟩,
 ⟨some 6, .fld 0 1 false, [.t 3], none⟩,
 ⟨none, .store 1, [.t 6, .t 5], none⟩] [4, 5, 6])
 (.seq
 (.region false [⟨some 7, .fld 1 1 false, [.t 1], none⟩,
 ⟨some 8, .load 1 false, [.t 7], none⟩,
 ⟨some 9, .fld 1 1 false, [.t 3], none⟩,
 ⟨none, .store 1, [.t 9, .t 8], none⟩] [1, 7, 8, 9])
 (.seq
 (.region false [⟨some 10, .load 2 true, [.t 3], none⟩,
 ⟨none, .store 2, [.t 2, .t 10], none⟩] [3, 10])
 .ret))))) }
/-- impl.TestsOk -/
def F_impl_TestsOk_L0 : LC :=
 (.seq
 (.region false [⟨some 12, .bin .lss, [.t 11, .t 10], none⟩] [])
 (.seq
 (.cond (.t 12) [12]
 .skip
 (.exit 0))
 (.seq
 (.block 1
 (.seq
 (.region false [⟨some 13, .idxa 2, [.t 9, .t 11], none⟩,
 ⟨some 14, .load 2 true, [.t 13], none⟩,
 ⟨some 4, .alloc 2064 (.st [.i 0, .i 0]), [], none⟩,
 ⟨none, .store 2, [.t 4, .t 14], none⟩] [13, 14])
 (.seq
 (.region false [⟨some 15, .fld 0 1 false, [.t 4], none⟩,
 ⟨some 16, .load 1 false, [.t 15], none⟩,
 ⟨some 17, .call n_impl_isWithin 8704, [.t 16, .c (.i 1), .c (.i 9)], none⟩,
 ⟨some 18, .un .not, [.t 17], none⟩,
 ⟨some 19, .mv, [.t 18], none⟩,
 ⟨some 20, .fld 1 1 false, [.t 4], some (19, false)⟩,
 ⟨some 21, .load 1 false, [.t 20], some (19, false)⟩,
 ⟨some 22, .call n_impl_isWithin 11264, [.t 21, .c (.i 1), .c (.i 5)], some (19, false)⟩,
 ⟨some 23, .un .not, [.t 22], some (19, false)⟩,
 ⟨some 24, .pick, [.t 19, .c (.b true), .t 23], none⟩] [4, 15, 16, 17, 18, 19, 20, 21, 22, 23])
 (.cond (.t 24) [24]
 (.seq
 (.region false [⟨some 2, .mv, [.c (.b false)], none⟩] [9, 10, 11])
 .ret)
 .skip))))
 (.region false [⟨some 25, .bin .add, [.t 11, .c (.i 1)], none⟩,
 ⟨some 11, .mv, [.t 25], none⟩] [25]))))
def F_impl_TestsOk_W0 : LC := .loop F_impl_TestsOk_L0
def F_impl_TestsOk : LF :=
 { nparams := 1, results := [.t 2], body :=
 (.seq
 (.region false [⟨some 2, .mv, [.c (.b false)], none⟩] [2])
 (.seq
 (.seq
 (.region false [⟨some 5, .mv, [.t 0], none⟩,
 ⟨some 6, .len, [.t 5], none⟩,
 ⟨some 7, .call n_impl_manyOk 3584, [.t 6], none⟩,
 ⟨some 8, .un .not, [.t 7], none⟩] [5, 6, 7])
 (.cond (.t 8) [8]
 (.seq
 (.region false [⟨some 2, .mv, [.c (.b false)], none⟩] [0])
 .ret)
 .skip))
 (.seq
 (.seq
 (.region false [⟨some 9, .mv, [.t 0], none⟩,
 ⟨some 10, .len, [.t 9], none⟩,
 ⟨some 11, .mv, [.c (.i 0)], none⟩] [0])
 (.block 0
 F_impl_TestsOk_W0))
 (.seq
 (.region false [⟨some 2, .mv, [.c (.b true)], none⟩] [9, 10, 11])
 .ret)))) }
/-- laws.eqTest -/
def F_laws_eqTest : LF :=
 { nparams := 2, results := [.t 4], body :=
 (.seq
 (.region false [⟨some 2, .box 1040, [.t 0], none⟩,
 ⟨some 3, .box 1552, [.t 1], none⟩,
 ⟨some 4, .mv, [.c (.b false)], none⟩] [0, 1, 4])
 (.seq
 (.seq
 (.region false [⟨some 5, .fld 0 1 false, [.t 2], none⟩,
 ⟨some 6, .load 1 false, [.t 5], none⟩,
 ⟨some 7, .fld 0 1 false, [.t 3], none⟩,
 ⟨some 8, .load 1 false, [.t 7], none⟩,
 ⟨some 9, .bin .neq, [.t 6, .t 8], none⟩] [5, 6, 7, 8])
 (.cond (.t 9) [9]
 (.seq
 (.region false [⟨some 4, .mv, [.c (.b false)], none⟩] [2, 3])
 .ret)
 .skip))
 (.seq
 (.seq
 (.region false [⟨some 10, .fld 1 1 false, [.t 2], none⟩,
 ⟨some 11, .load 1 false, [.t 10], none⟩,
 ⟨some 12, .fld 1 1 false, [.t 3], none⟩,
 ⟨some 13, .load 1 false, [.t 12], none⟩,
 ⟨some 14, .bin .neq, [.t 11, .t 13], none⟩] [2, 3, 10, 11, 12, 13])
 (.cond (.t 14) [14]
 (.seq
 (.region false [⟨some 4, .mv, [.c (.b false)], none⟩] [])
 .ret)
 .skip))
 (.seq
 (.region false [⟨some 4, .mv, [.c (.b true)], none⟩] [])
 .ret)))) }
/-- spec.l4Walk -/
def F_spec_l4Walk_L0 : LC :=
 (.seq
 (.seq
 (.region false [⟨some 35, .mv, [.t 15], none⟩,
 ⟨some 36, .bin .lss, [.t 35, .c (.i 2)], none⟩] [35])
 (.cond (.t 36) [36]
 .skip
 (.exit 0)))
 (.seq
 (.block 1
 (.seq
 (.region false [⟨some 39, .bslice 19976 0 1 (.i 0) [], [], none⟩,
 ⟨some 40, .mv, [.t 4], none⟩,
 ⟨some 41, .app 21000 1, [.t 39, .t 40], none⟩,
 ⟨some 16, .mv, [.t 41], none⟩] [39, 40, 41])
 (.seq
 (.region false [⟨some 42, .mv, [.t 16], none⟩,
 ⟨some 43, .mv, [.t 13], none⟩,
 ⟨some 44, .mv, [.t 15], none⟩,
 ⟨some 45, .idxa 1, [.t 42, .t 43], none⟩,
 ⟨none, .store 1, [.t 45, .t 44], none⟩] [42, 43, 44, 45])
 (.seq
 (.region false [⟨some 46, .mv, [.t 0], none⟩,
 ⟨some 47, .mv, [.t 13], none⟩,
 ⟨some 48, .idxa 2, [.t 46, .t 47], none⟩,
 ⟨some 49, .fld 1 1 false, [.t 48], none⟩,
 ⟨some 50, .load 1 false, [.t 49], none⟩,
 ⟨some 17, .mv, [.t 50], none⟩] [46, 47, 48, 49, 50])
 (.seq
 (.seq
 (.region false [⟨some 51, .mv, [.t 15], none⟩,
 ⟨some 52, .bin .eql, [.t 51, .c (.i 0)], none⟩] [51])
 (.cond (.t 52) [52]
 (.region false [⟨some 53, .mv, [.t 17], none⟩,
 ⟨some 54, .bin .sub, [.c (.i 6), .t 53], none⟩,
 ⟨some 17, .mv, [.t 54], none⟩] [53, 54])
 .skip))
 (.region false [⟨some 55, .mv, [.t 14], none⟩,
 ⟨some 56, .mv, [.t 0], none⟩,
 ⟨some 57, .mv, [.t 1], none⟩,
 ⟨some 58, .mv, [.t 2], none⟩,
 ⟨some 59, .mv, [.t 3], none⟩,
 ⟨some 60, .bin .add, [.t 59, .c (.i 1)], none⟩,
 ⟨some 61, .mv, [.t 16], none⟩,
 ⟨some 62, .mv, [.t 5], none⟩,
 ⟨some 63, .bin .quo, [.t 62, .c (.i 6)], none⟩,
 ⟨some 64, .mv, [.t 17], none⟩,
 ⟨some 65, .bin .mul, [.t 63, .t 64], none⟩,
 ⟨some 66, .call n_spec_l4Walk 33792, [.t 56, .t 57, .t 58, .t 60, .t 61, .t 65], none⟩,
 ⟨some 67, .bin .add, [.t 55, .t 66], none⟩,
 ⟨some 14, .mv, [.t 67], none⟩] [16, 17, 55, 56, 57, 58, 59, 60, 61, 62, 63, 64, 65, 66, 67]))))))
 (.region false [⟨some 37, .mv, [.t 15], none⟩,
 ⟨some 38, .bin .add, [.t 37, .c (.i 1)], none⟩,
 ⟨some 15, .mv, [.t 38], none⟩] [37, 38])))
def F_spec_l4Walk_W0 : LC := .loop F_spec_l4Walk_L0
def F_spec_l4Walk : LF :=
 { nparams := 6, results := [.t 12], body :=
 (.seq
 (.region false [⟨some 12, .mv, [.c (.i 0)], none⟩] [12])
 (.seq
 (.seq
 (.region false [⟨some 18, .mv, [.t 0], none⟩,
 ⟨some 19, .len, [.t 18], none⟩,
 ⟨some 20, .mv, [.t 1], none⟩,
 ⟨some 21, .mv, [.t 4], none⟩,
 ⟨some 22, .call n_spec_l3Forced 11264, [.t 19, .t 20, .t 21], none⟩,
 ⟨some 23, .bin .neq, [.t 22, .c (.i (-1))], none⟩] [18, 19, 20, 21, 22])
 (.cond (.t 23) [23]
 (.seq
 (.region false [⟨some 12, .mv, [.c (.i 0)], none⟩] [0, 1, 2, 3, 4, 5])
 .ret)
 .skip))
 (.seq
 (.region false [⟨some 24, .mv, [.t 2], none⟩,
 ⟨some 25, .mv, [.t 3], none⟩,
 ⟨some 26, .idxa 1, [.t 24, .t 25], none⟩,
 ⟨some 27, .load 1 false, [.t 26], none⟩,
 ⟨some 13, .mv, [.t 27], none⟩] [24, 25, 26, 27])
 (.seq
 (.region false [⟨some 28, .mv, [.t 5], none⟩,
 ⟨some 29, .mv, [.t 0], none⟩,
 ⟨some 30, .mv, [.t 13], none⟩,
 ⟨some 31, .idxa 2, [.t 29, .t 30], none⟩,
 ⟨some 32, .fld 0 1 false, [.t 31], none⟩,
 ⟨some 33, .load 1 false, [.t 32], none⟩,
 ⟨some 34, .bin .mul, [.t 28, .t 33], none⟩,
 ⟨some 14, .mv, [.t 34], none⟩] [28, 29, 30, 31, 32, 33, 34])
 (.seq
 (.seq
 (.region false [⟨some 15, .mv, [.c (.i 0)], none⟩] [])
 (.block 0
 F_spec_l4Walk_W0))
 (.seq
 (.region false [⟨some 68, .mv, [.t 14], none⟩,
 ⟨some 12, .mv, [.t 68], none⟩] [0, 1, 2, 3, 4, 5, 13, 14, 15, 68])
 .ret)))))) }
/-- spec.l4None -/
def F_spec_l4None_L0 : LC :=
 (.seq
 (.seq
 (.region false [⟨some 6, .mv, [.t 4], none⟩,
 ⟨some 7, .mv, [.t 0], none⟩,
 ⟨some 8, .bin .lss, [.t 6, .t 7], none⟩] [6, 7])
 (.cond (.t 8) [8]
 .skip
 (.exit 0)))
 (.seq
 (.block 1
 (.region false [⟨some 11, .mv, [.t 3], none⟩,
 ⟨some 12, .bslice 6152 1 1 (.i 0) [0], [.c (.i (-1))], none⟩,
 ⟨some 13, .app 6664 1, [.t 11, .t 12], none⟩,
 ⟨some 3, .mv, [.t 13], none⟩] [11, 12, 13]))
 (.region false [⟨some 9, .mv, [.t 4], none⟩,
 ⟨some 10, .bin .add, [.t 9, .c (.i 1)], none⟩,
 ⟨some 4, .mv, [.t 10], none⟩] [9, 10])))
def F_spec_l4None_W0 : LC := .loop F_spec_l4None_L0
def F_spec_l4None : LF :=
 { nparams := 1, results := [.t 2], body :=
 (.seq
 (.region false [⟨some 2, .newnil 1032, [], none⟩] [2])
 (.seq
 (.region false [⟨some 5, .bslice 2568 0 1 (.i 0) [], [], none⟩,
 ⟨some 3, .mv, [.t 5], none⟩] [5])
 (.seq
 (.seq
 (.region false [⟨some 4, .mv, [.c (.i 0)], none⟩] [])
 (.block 0
 F_spec_l4None_W0))
 (.seq
 (.region false [⟨some 14, .mv, [.t 3], none⟩,
 ⟨some 2, .mv, [.t 14], none⟩] [0, 3, 4, 14])
 .ret)))) }
/-- spec.l1Power -/
def F_spec_l1Power_L0 : LC :=
 (.seq
 (.seq
 (.region false [⟨some 5, .mv, [.t 4], none⟩,
 ⟨some 6, .mv, [.t 0], none⟩,
 ⟨some 7, .bin .lss, [.t 5, .t 6], none⟩] [5, 6])
 (.cond (.t 7) [7]
 .skip
 (.exit 0)))
 (.seq
 (.block 1
 (.region false [⟨some 10, .mv, [.t 3], none⟩,
 ⟨some 11, .bin .mul, [.t 10, .c (.i 6)], none⟩,
 ⟨some 3, .mv, [.t 11], none⟩] [10, 11]))
 (.region false [⟨some 8, .mv, [.t 4], none⟩,
 ⟨some 9, .bin .add, [.t 8, .c (.i 1)], none⟩,
 ⟨some 4, .mv, [.t 9], none⟩] [8, 9])))
def F_spec_l1Power_W0 : LC := .loop F_spec_l1Power_L0
def F_spec_l1Power : LF :=
 { nparams := 1, results := [.t 2], body :=
 (.seq
 (.region false [⟨some 2, .mv, [.c (.i 0)], none⟩] [2])
 (.seq
 (.region false [⟨some 3, .mv, [.c (.i 1)], none⟩] [])
 (.seq
 (.seq
 (.region false [⟨some 4, .mv, [.c (.i 0)], none⟩] [])
 (.block 0
 F_spec_l1Power_W0))
 (.seq
 (.region false [⟨some 12, .mv, [.t 3], none⟩,
 ⟨some 2, .mv, [.t 12], none⟩] [0, 3, 4, 12])
 .ret)))) }
/-- impl.statesOf -/
def F_impl_statesOf : LF :=
 { nparams := 1, results := [.t 2], body :=
 (.seq
 (.region false [⟨some 2, .mv, [.c (.i 0)], none⟩] [2])
 (.seq
 (.region false [⟨some 3, .mv, [.t 0], none⟩,
 ⟨some 4, .bin .shl, [.c (.i 1), .t 3], none⟩,
 ⟨some 2, .mv, [.t 4], none⟩] [0, 3, 4])
 .ret)) }
/-- spec.l4Search -/
def F_spec_l4Search_L1 : LC :=
 (.seq
 (.seq
 (.region false [⟨some 48, .mv, [.t 15], none⟩,
 ⟨some 49, .mv, [.t 2], none⟩,
 ⟨some 50, .len, [.t 49], none⟩,
 ⟨some 51, .bin .lss, [.t 48, .t 50], none⟩] [48, 49, 50])
 (.cond (.t 51) [51]
 .skip
 (.exit 2)))
 (.seq
 (.block 3
 (.region false [⟨some 54, .mv, [.t 14], none⟩,
 ⟨some 55, .mv, [.t 54], none⟩,
 ⟨some 56, .mv, [.t 2], some (55, false)⟩,
 ⟨some 57, .mv, [.t 15], some (55, false)⟩,
 ⟨some 58, .idxa 1, [.t 56, .t 57], some (55, false)⟩,
 ⟨some 59, .load 1 false, [.t 58], some (55, false)⟩,
 ⟨some 60, .mv, [.t 13], some (55, false)⟩,
 ⟨some 61, .bin .eql, [.t 59, .t 60], some (55, false)⟩,
 ⟨some 62, .pick, [.t 55, .c (.b true), .t 61], none⟩,
 ⟨some 14, .mv, [.t 62], none⟩] [54, 55, 56, 57, 58, 59, 60, 61, 62]))
 (.region false [⟨some 52, .mv, [.t 15], none⟩,
 ⟨some 53, .bin .add, [.t 52, .c (.i 1)], none⟩,
 ⟨some 15, .mv, [.t 53], none⟩] [52, 53])))
def F_spec_l4Search_W1 : LC := .loop F_spec_l4Search_L1
def F_spec_l4Search_L0 : LC :=
 (.seq
 (.seq
 (.region false [⟨some 42, .mv, [.t 13], none⟩,
 ⟨some 43, .mv, [.t 0], none⟩,
 ⟨some 44, .len, [.t 43], none⟩,
 ⟨some 45, .bin .lss, [.t 42, .t 44], none⟩] [42, 43, 44])
 (.cond (.t 45) [45]
 .skip
 (.exit 0)))
 (.seq
 (.block 1
 (.seq
 (.region false [⟨some 14, .mv, [.c (.b false)], none⟩] [])
 (.seq
 (.seq
 (.region false [⟨some 15, .mv, [.c (.i 0)], none⟩] [])
 (.block 2
 F_spec_l4Search_W1))
 (.seq
 (.region false [⟨some 63, .mv, [.t 14], none⟩,
 ⟨some 64, .un .not, [.t 63], none⟩] [14, 15, 63])
 (.cond (.t 64) [64]
 (.region false [⟨some 66, .mv, [.t 0], none⟩,
 ⟨some 67, .mv, [.t 1], none⟩,
 ⟨some 68, .bslice 34824 0 1 (.i 0) [], [], none⟩,
 ⟨some 69, .mv, [.t 2], none⟩,
 ⟨some 70, .app 35848 1, [.t 68, .t 69], none⟩,
 ⟨some 71, .mv, [.t 13], none⟩,
 ⟨some 72, .bslice 36872 1 1 (.i 0) [0], [.t 71], none⟩,
 ⟨some 73, .app 37384 1, [.t 70, .t 72], none⟩,
 ⟨some 74, .mv, [.t 3], none⟩,
 ⟨some 75, .mv, [.t 4], none⟩,
 ⟨some 76, .callg n_spec_l4Search 38912, [.t 66, .t 67, .t 73, .t 74, .t 75], none⟩,
 ⟨some 65, .mv, [.t 76], none⟩,
 ⟨some 77, .ext 0, [.t 65], none⟩,
 ⟨some 78, .ext 1, [.t 65], none⟩,
 ⟨some 3, .mv, [.t 77], none⟩,
 ⟨some 4, .mv, [.t 78], none⟩] [65, 66, 67, 68, 69, 70, 71, 72, 73, 74, 75, 76, 77, 78])
 .skip)))))
 (.region false [⟨some 46, .mv, [.t 13], none⟩,
 ⟨some 47, .bin .add, [.t 46, .c (.i 1)], none⟩,
 ⟨some 13, .mv, [.t 47], none⟩] [46, 47])))
def F_spec_l4Search_W0 : LC := .loop F_spec_l4Search_L0
def F_spec_l4Search : LF :=
 { nparams := 5, results := [.t 10, .t 11], body :=
 (.seq
 (.region false [⟨some 10, .newnil 5128, [], none⟩,
 ⟨some 11, .mv, [.c (.i 0)], none⟩] [10, 11])
 (.seq
 (.seq
 (.region false [⟨some 16, .mv, [.t 2], none⟩,
 ⟨some 17, .len, [.t 16], none⟩,
 ⟨some 18, .mv, [.t 0], none⟩,
 ⟨some 19, .len, [.t 18], none⟩,
 ⟨some 20, .bin .eql, [.t 17, .t 19], none⟩] [16, 17, 18, 19])
 (.cond (.t 20) [20]
 (.seq
 (.region false [⟨some 21, .mv, [.t 0], none⟩,
 ⟨some 22, .mv, [.t 1], none⟩,
 ⟨some 23, .mv, [.t 2], none⟩,
 ⟨some 24, .mv, [.t 0], none⟩,
 ⟨some 25, .len, [.t 24], none⟩,
 ⟨some 26, .call n_spec_l4None 13312, [.t 25], none⟩,
 ⟨some 27, .mv, [.t 0], none⟩,
 ⟨some 28, .len, [.t 27], none⟩,
 ⟨some 29, .call n_spec_l1Power 14848, [.t 28], none⟩,
 ⟨some 30, .call n_spec_l4Walk 15360, [.t 21, .t 22, .t 23, .c (.i 0), .t 26, .t 29], none⟩,
 ⟨some 12, .mv, [.t 30], none⟩] [0, 1, 21, 22, 23, 24, 25, 26, 27, 28, 29, 30])
 (.seq
 (.seq
 (.region false [⟨some 31, .mv, [.t 4], none⟩,
 ⟨some 32, .bin .lss, [.t 31, .c (.i 0)], none⟩,
 ⟨some 33, .mv, [.t 32], none⟩,
 ⟨some 34, .mv, [.t 12], some (33, false)⟩,
 ⟨some 35, .mv, [.t 4], some (33, false)⟩,
 ⟨some 36, .bin .lss, [.t 34, .t 35], some (33, false)⟩,
 ⟨some 37, .pick, [.t 33, .c (.b true), .t 36], none⟩] [31, 32, 33, 34, 35, 36])
 (.cond (.t 37) [37]
 (.seq
 (.region false [⟨some 38, .mv, [.t 2], none⟩,
 ⟨some 39, .mv, [.t 12], none⟩,
 ⟨some 10, .mv, [.t 38], none⟩,
 ⟨some 11, .mv, [.t 39], none⟩] [2, 3, 4, 12, 38, 39])
 .ret)
 .skip))
 (.seq
 (.region false [⟨some 40, .mv, [.t 3], none⟩,
 ⟨some 41, .mv, [.t 4], none⟩,
 ⟨some 10, .mv, [.t 40], none⟩,
 ⟨some 11, .mv, [.t 41], none⟩] [2, 3, 4, 12, 40, 41])
 .ret)))
 .skip))
 (.seq
 (.seq
 (.region false [⟨some 13, .mv, [.c (.i 0)], none⟩] [])
 (.block 0
 F_spec_l4Search_W0))
 (.seq
 (.region false [⟨some 79, .mv, [.t 3], none⟩,
 ⟨some 80, .mv, [.t 4], none⟩,
 ⟨some 10, .mv, [.t 79], none⟩,
 ⟨some 11, .mv, [.t 80], none⟩] [0, 1, 2, 3, 4, 13, 79, 80])
 .ret)))) }
/-- impl.bestBehind -/
def F_impl_bestBehind_L0 : LC :=
 (.ghost (.rename 8 4104)
 (.seq
 (.region false [⟨some 17, .bin .lss, [.t 16, .t 15], none⟩] [])
 (.seq
 (.cond (.t 17) [17]
 .skip
 (.exit 0))
 (.seq
 (.block 1
 (.seq
 (.region false [⟨some 18, .mv, [.t 16], none⟩,
 ⟨some 19, .idxa 2, [.t 14, .t 16], none⟩,
 ⟨some 20, .load 2 true, [.t 19], none⟩,
 ⟨some 11, .alloc 5648 (.st [.i 0, .i 0]), [], none⟩,
 ⟨some 10, .mv, [.t 18], none⟩,
 ⟨none, .store 2, [.t 11, .t 20], none⟩] [18, 19, 20])
 (.seq
 (.seq
 (.region false [⟨some 21, .mv, [.t 2], none⟩,
 ⟨some 22, .mv, [.t 10], none⟩,
 ⟨some 23, .call n_impl_hasTest 11776, [.t 21, .t 22], none⟩] [21, 22])
 (.cond (.t 23) [23]
 (.exit 1)
 .skip))
 (.seq
 (.region false [⟨some 25, .mv, [.t 0], none⟩,
 ⟨some 26, .mv, [.t 1], none⟩,
 ⟨some 27, .mv, [.t 2], none⟩,
 ⟨some 28, .mv, [.t 10], none⟩,
 ⟨some 29, .bin .shl, [.c (.i 1), .t 28], none⟩,
 ⟨some 30, .bin .or, [.t 27, .t 29], none⟩,
 ⟨some 31, .call n_impl_bestBehind 15872, [.t 25, .t 26, .t 30], none⟩,
 ⟨some 24, .mv, [.t 31], none⟩,
 ⟨some 32, .ext 0, [.t 24], none⟩,
 ⟨some 33, .ext 1, [.t 24], none⟩,
 ⟨some 12, .mv, [.t 32], none⟩,
 ⟨some 13, .mv, [.t 33], none⟩] [24, 25, 26, 27, 28, 29, 30, 31, 32, 33])
 (.seq
 (.region true [⟨some 34, .mv, [.t 13], none⟩,
 ⟨some 35, .fld 0 1 false, [.t 11], none⟩,
 ⟨some 36, .load 1 false, [.t 35], none⟩,
 ⟨some 37, .mv, [.t 1], none⟩,
 ⟨some 38, .mv, [.t 2], none⟩,
 ⟨some 39, .idxa 1, [.t 37, .t 38], none⟩,
 ⟨some 40, .load 1 false, [.t 39], none⟩,
 ⟨some 41, .bin .mul, [.t 36, .t 40], none⟩,
 ⟨some 42, .bin .add, [.t 34, .t 41], none⟩,
 ⟨some 13, .mv, [.t 42], none⟩] [11, 34, 35, 36, 37, 38, 39, 40, 41, 42])
 (.seq
 (.region false [⟨some 43, .mv, [.t 8], none⟩,
 ⟨some 44, .eqn false, [.t 43], none⟩,
 ⟨some 45, .mv, [.t 44], none⟩,
 ⟨some 46, .mv, [.t 13], some (45, false)⟩,
 ⟨some 47, .mv, [.t 9], some (45, false)⟩,
 ⟨some 48, .bin .lss, [.t 46, .t 47], some (45, false)⟩,
 ⟨some 49, .pick, [.t 45, .c (.b true), .t 48], none⟩] [43, 44, 45, 46, 47, 48])
 (.cond (.t 49) [49]
 (.region false [⟨some 50, .mv, [.t 10], none⟩,
 ⟨some 51, .bslice 26120 1 1 (.i 0) [0], [.t 50], none⟩,
 ⟨some 52, .mv, [.t 12], none⟩,
 ⟨some 53, .app 27144 1, [.t 51, .t 52], none⟩,
 ⟨some 54, .mv, [.t 13], none⟩,
 ⟨some 8, .mv, [.t 53], none⟩,
 ⟨some 9, .mv, [.t 54], none⟩] [10, 12, 13, 50, 51, 52, 53, 54])
 .skip)))))))
 (.region false [⟨some 55, .bin .add, [.t 16, .c (.i 1)], none⟩,
 ⟨some 16, .mv, [.t 55], none⟩] [10, 11, 12, 13, 55])))))
def F_impl_bestBehind_W0 : LC := .loop F_impl_bestBehind_L0
def F_impl_bestBehind : LF :=
 { nparams := 3, results := [.t 6, .t 7], body :=
 (.seq
 (.region false [⟨some 6, .newnil 3080, [], none⟩,
 ⟨some 7, .mv, [.c (.i 0)], none⟩] [6, 7])
 (.seq
 (.region false [⟨some 8, .mv, [.c (.nil)], none⟩] [])
 (.seq
 (.region false [⟨some 9, .mv, [.c (.i 0)], none⟩] [])
 (.seq
 (.seq
 (.region false [⟨some 14, .mv, [.t 0], none⟩,
 ⟨some 15, .len, [.t 14], none⟩,
 ⟨some 16, .mv, [.c (.i 0)], none⟩] [])
 (.block 0
 F_impl_bestBehind_W0))
 (.seq
 (.region false [⟨some 56, .mv, [.t 8], none⟩,
 ⟨some 57, .mv, [.t 9], none⟩,
 ⟨some 6, .mv, [.t 56], none⟩,
 ⟨some 7, .mv, [.t 57], none⟩] [0, 1, 2, 8, 9, 14, 15, 16, 56, 57])
 .ret))))) }
/-- impl.openWeights -/
def F_impl_openWeights_L1 : LC :=
 (.seq
 (.region false [⟨some 27, .bin .lss, [.t 26, .t 25], none⟩] [])
 (.seq
 (.cond (.t 27) [27]
 .skip
 (.exit 2))
 (.seq
 (.block 3
 (.seq
 (.region false [⟨some 28, .mv, [.t 26], none⟩,
 ⟨some 9, .mv, [.t 28], none⟩] [28])
 (.seq
 (.region false [⟨some 29, .mv, [.t 8], none⟩,
 ⟨some 30, .mv, [.t 9], none⟩,
 ⟨some 31, .call n_impl_hasState 15872, [.t 29, .t 30], none⟩] [29, 30])
 (.cond (.t 31) [31]
 (.region true [⟨some 32, .mv, [.t 6], none⟩,
 ⟨some 33, .mv, [.t 7], none⟩,
 ⟨some 34, .idxa 1, [.t 32, .t 33], none⟩,
 ⟨some 35, .load 1 false, [.t 34], none⟩,
 ⟨some 36, .mv, [.t 0], none⟩,
 ⟨some 37, .mv, [.t 9], none⟩,
 ⟨some 38, .call n_impl_WeightOf 19456, [.t 36, .t 37], none⟩,
 ⟨some 39, .bin .add, [.t 35, .t 38], none⟩,
 ⟨some 40, .idxa 1, [.t 32, .t 33], none⟩,
 ⟨none, .store 1, [.t 40, .t 39], none⟩] [9, 32, 33, 34, 35, 36, 37, 38, 39, 40])
 .skip))))
 (.region false [⟨some 41, .bin .add, [.t 26, .c (.i 1)], none⟩,
 ⟨some 26, .mv, [.t 41], none⟩] [9, 41]))))
def F_impl_openWeights_W1 : LC := .loop F_impl_openWeights_L1
def F_impl_openWeights_L0 : LC :=
 (.seq
 (.region false [⟨some 18, .bin .lss, [.t 17, .t 16], none⟩] [])
 (.seq
 (.cond (.t 18) [18]
 .skip
 (.exit 0))
 (.seq
 (.block 1
 (.seq
 (.region false [⟨some 19, .mv, [.t 17], none⟩,
 ⟨some 7, .mv, [.t 19], none⟩] [19])
 (.seq
 (.region false [⟨some 20, .mv, [.t 5], none⟩,
 ⟨some 21, .mv, [.t 1], none⟩,
 ⟨some 22, .mv, [.t 7], none⟩,
 ⟨some 23, .call n_impl_openStates 11776, [.t 20, .t 21, .t 22], none⟩,
 ⟨some 8, .mv, [.t 23], none⟩] [20, 21, 22, 23])
 (.seq
 (.region false [⟨some 24, .mv, [.t 5], none⟩,
 ⟨some 25, .call n_impl_statesOf 12800, [.t 24], none⟩,
 ⟨some 26, .mv, [.c (.i 0)], none⟩] [24])
 (.block 2
 F_impl_openWeights_W1)))))
 (.region false [⟨some 42, .bin .add, [.t 17, .c (.i 1)], none⟩,
 ⟨some 17, .mv, [.t 42], none⟩] [7, 8, 25, 26, 42]))))
def F_impl_openWeights_W0 : LC := .loop F_impl_openWeights_L0
def F_impl_openWeights : LF :=
 { nparams := 2, results := [.t 4], body :=
 (.seq
 (.region false [⟨some 4, .newnil 2056, [], none⟩] [4])
 (.seq
 (.region false [⟨some 10, .mv, [.t 0], none⟩,
 ⟨some 11, .len, [.t 10], none⟩,
 ⟨some 5, .mv, [.t 11], none⟩] [10, 11])
 (.seq
 (.region false [⟨some 12, .mv, [.t 5], none⟩,
 ⟨some 13, .call n_impl_statesOf 6656, [.t 12], none⟩,
 ⟨some 14, .make 7176 1 (.i 0), [.t 13, .t 13], none⟩,
 ⟨some 6, .mv, [.t 14], none⟩] [12, 13, 14])
 (.seq
 (.seq
 (.region false [⟨some 15, .mv, [.t 6], none⟩,
 ⟨some 16, .len, [.t 15], none⟩,
 ⟨some 17, .mv, [.c (.i 0)], none⟩] [15])
 (.block 0
 F_impl_openWeights_W0))
 (.seq
 (.region false [⟨some 43, .mv, [.t 6], none⟩,
 ⟨some 4, .mv, [.t 43], none⟩] [0, 1, 5, 6, 16, 17, 43])
 .ret))))) }
/-- spec.l20Open -/
def F_spec_l20Open : LF :=
 { nparams := 1, results := [.t 2], body :=
 (.seq
 (.region false [⟨some 2, .mv, [.c (.np)], none⟩] [2])
 (.seq
 (.seq
 (.region false [⟨some 3, .mv, [.t 0], none⟩,
 ⟨some 4, .len, [.t 3], none⟩,
 ⟨some 5, .bin .gtr, [.t 4, .c (.i 2000)], none⟩] [3, 4])
 (.cond (.t 5) [5]
 (.region false [⟨some 6, .mv, [.t 0], none⟩,
 ⟨some 7, .slice false true 1, [.t 6, .c (.i 2000)], none⟩,
 ⟨some 0, .mv, [.t 7], none⟩] [6, 7])
 .skip))
 (.seq
 (.region false [⟨some 8, .mv, [.t 0], none⟩,
 ⟨some 9, .build [.sl 1 [], .i 0] [(0, 1)], [.t 8], none⟩,
 ⟨some 10, .box 5136, [.t 9], none⟩,
 ⟨some 2, .mv, [.t 10], none⟩] [0, 8, 9, 10])
 .ret))) }
/-- spec.l20State -/
def F_spec_l20State : LF :=
 { nparams := 2, results := [.t 4, .t 5, .t 6], body :=
 (.seq
 (.region false [⟨some 4, .mv, [.c (.i 0)], none⟩,
 ⟨some 5, .newnil 2576, [], none⟩,
 ⟨some 6, .mv, [.c (.i 0)], none⟩] [4, 5, 6])
 (.seq
 (.region false [⟨some 8, .mv, [.t 0], none⟩,
 ⟨some 9, .call n_spec_l20Rd_pick 4608, [.t 8, .c (.i 5)], none⟩,
 ⟨some 10, .bin .add, [.c (.i 1), .t 9], none⟩,
 ⟨some 7, .mv, [.t 10], none⟩] [8, 9, 10])
 (.seq
 (.region true [⟨some 11, .mv, [.t 7], none⟩,
 ⟨some 12, .mv, [.t 0], none⟩,
 ⟨some 13, .mv, [.t 7], none⟩,
 ⟨some 14, .mv, [.t 1], none⟩,
 ⟨some 15, .call n_spec_l20Term 7680, [.t 12, .t 13, .t 14], none⟩,
 ⟨some 16, .mv, [.t 0], none⟩,
 ⟨some 17, .mv, [.t 7], none⟩,
 ⟨some 18, .bin .shl, [.c (.i 1), .t 17], none⟩,
 ⟨some 19, .call n_spec_l20Rd_pick 9728, [.t 16, .t 18], none⟩,
 ⟨some 20, .mv, [.t 0], none⟩,
 ⟨some 21, .call n_spec_l20Rd_pick 10752, [.t 20, .c (.i 40)], none⟩,
 ⟨some 22, .bin .quo, [.t 21, .c (.i 39)], none⟩,
 ⟨some 23, .bin .mul, [.t 22, .c (.i 32)], none⟩,
 ⟨some 24, .bin .add, [.t 19, .t 23], none⟩,
 ⟨some 4, .mv, [.t 11], none⟩,
 ⟨some 5, .mv, [.t 15], none⟩,
 ⟨some 6, .mv, [.t 24], none⟩] [1, 7, 11, 12, 13, 14, 15, 16, 17, 18, 19, 20, 21, 22, 23, 24])
 .ret))) }
/-- spec.l20Order -/
def F_spec_l20Order_L0 : LC :=
 (.ghost (.rename 7 5640)
 (.seq
 (.seq
 (.region false [⟨some 12, .mv, [.t 8], none⟩,
 ⟨some 13, .mv, [.t 1], none⟩,
 ⟨some 14, .bin .lss, [.t 12, .t 13], none⟩] [12, 13])
 (.cond (.t 14) [14]
 .skip
 (.exit 0)))
 (.seq
 (.block 1
 (.seq
 (.region false [⟨some 17, .mv, [.t 0], none⟩,
 ⟨some 18, .mv, [.t 7], none⟩,
 ⟨some 19, .len, [.t 18], none⟩,
 ⟨some 20, .bin .add, [.t 19, .c (.i 1)], none⟩,
 ⟨some 21, .call n_spec_l20Rd_pick 10752, [.t 17, .t 20], none⟩,
 ⟨some 9, .mv, [.t 21], none⟩] [17, 18, 19, 20, 21])
 (.seq
 (.region false [⟨some 22, .bslice 11272 0 1 (.i 0) [], [], none⟩,
 ⟨some 23, .mv, [.t 7], none⟩,
 ⟨some 24, .mv, [.t 9], none⟩,
 ⟨some 25, .slice false true 1, [.t 23, .t 24], none⟩,
 ⟨some 26, .app 13320 1, [.t 22, .t 25], none⟩,
 ⟨some 10, .mv, [.t 26], none⟩] [22, 23, 24, 25, 26])
 (.seq
 (.region false [⟨some 27, .mv, [.t 10], none⟩,
 ⟨some 28, .mv, [.t 8], none⟩,
 ⟨some 29, .bslice 14856 1 1 (.i 0) [0], [.t 28], none⟩,
 ⟨some 30, .app 15368 1, [.t 27, .t 29], none⟩,
 ⟨some 10, .mv, [.t 30], none⟩] [27, 28, 29, 30])
 (.region false [⟨some 31, .mv, [.t 10], none⟩,
 ⟨some 32, .mv, [.t 7], none⟩,
 ⟨some 33, .mv, [.t 9], none⟩,
 ⟨some 34, .slice true false 1, [.t 32, .t 33], none⟩,
 ⟨some 35, .app 17928 1, [.t 31, .t 34], none⟩,
 ⟨some 7, .mv, [.t 35], none⟩] [9, 10, 31, 32, 33, 34, 35])))))
 (.region false [⟨some 15, .mv, [.t 8], none⟩,
 ⟨some 16, .bin .add, [.t 15, .c (.i 1)], none⟩,
 ⟨some 8, .mv, [.t 16], none⟩] [15, 16]))))
def F_spec_l20Order_W0 : LC := .loop F_spec_l20Order_L0
def F_spec_l20Order : LF :=
 { nparams := 3, results := [.t 6], body :=
 (.seq
 (.region false [⟨some 6, .newnil 3080, [], none⟩] [6])
 (.seq
 (.region false [⟨some 11, .bslice 5640 0 1 (.i 0) [], [], none⟩,
 ⟨some 7, .mv, [.t 11], none⟩] [11])
 (.seq
 (.seq
 (.region false [⟨some 8, .mv, [.c (.i 0)], none⟩] [])
 (.block 0
 F_spec_l20Order_W0))
 (.seq
 (.seq
 (.region false [⟨some 36, .mv, [.t 0], none⟩,
 ⟨some 37, .mv, [.t 2], none⟩,
 ⟨some 38, .call n_spec_l20Rd_odd 19456, [.t 36, .t 37], none⟩] [1, 2, 8, 36, 37])
 (.cond (.t 38) [38]
 (.seq
 (.region false [⟨some 39, .mv, [.t 0], none⟩,
 ⟨some 40, .call n_spec_l20Rd_pick 20480, [.t 39, .c (.i 2)], none⟩] [39])
 (.block 2
 (.seq
 (.region false [⟨some 52, .bin .eql, [.t 40, .c (.i 0)], none⟩,
 ⟨some 51, .mv, [.t 52], none⟩] [40, 52])
 (.cond (.t 51) [51]
 (.seq
 (.region false [⟨some 53, .mv, [.t 7], none⟩,
 ⟨some 54, .bslice 27656 1 1 (.i 0) [0], [.c (.i 0)], none⟩,
 ⟨some 55, .app 28168 1, [.t 53, .t 54], none⟩,
 ⟨some 6, .mv, [.t 55], none⟩] [7, 53, 54, 55])
 .ret)
 (.seq
 (.region false [⟨some 41, .mv, [.t 7], none⟩,
 ⟨some 42, .len, [.t 41], none⟩,
 ⟨some 43, .bin .gtr, [.t 42, .c (.i 0)], none⟩] [41, 42])
 (.cond (.t 43) [43]
 (.region false [⟨some 44, .mv, [.t 7], none⟩,
 ⟨some 45, .bslice 23048 2 1 (.i 0) [0, 1], [.c (.i 5), .c (.i (-1))], none⟩,
 ⟨some 46, .mv, [.t 0], none⟩,
 ⟨some 47, .call n_spec_l20Rd_pick 24064, [.t 46, .c (.i 2)], none⟩,
 ⟨some 48, .idxa 1, [.t 45, .t 47], none⟩,
 ⟨some 49, .load 1 false, [.t 48], none⟩,
 ⟨some 50, .idxa 1, [.t 44, .c (.i 0)], none⟩,
 ⟨none, .store 1, [.t 50, .t 49], none⟩] [44, 45, 46, 47, 48, 49, 50])
 .skip))))))
 .skip))
 (.seq
 (.region false [⟨some 56, .mv, [.t 7], none⟩,
 ⟨some 6, .mv, [.t 56], none⟩] [7, 56])
 .ret))))) }
/-- impl.ForcedBy -/
def F_impl_ForcedBy : LF :=
 { nparams := 3, results := [.t 6, .t 7], body :=
 (.seq
 (.region false [⟨some 6, .mv, [.c (.i 0)], none⟩,
 ⟨some 7, .mv, [.c (.b false)], none⟩] [6, 7])
 (.seq
 (.seq
 (.region false [⟨some 9, .mv, [.t 0], none⟩,
 ⟨some 10, .mv, [.t 1], none⟩,
 ⟨some 11, .call n_impl_TermOk 5632, [.t 9, .t 10], none⟩,
 ⟨some 12, .un .not, [.t 11], none⟩,
 ⟨some 13, .mv, [.t 12], none⟩,
 ⟨some 14, .mv, [.t 0], some (13, false)⟩,
 ⟨some 15, .mv, [.t 2], some (13, false)⟩,
 ⟨some 16, .call n_impl_KnownOk 8192, [.t 14, .t 15], some (13, false)⟩,
 ⟨some 17, .un .not, [.t 16], some (13, false)⟩,
 ⟨some 18, .pick, [.t 13, .c (.b true), .t 17], none⟩] [0, 9, 10, 11, 12, 13, 14, 15, 16, 17])
 (.cond (.t 18) [18]
 (.seq
 (.region false [⟨some 6, .mv, [.c (.i (-1))], none⟩,
 ⟨some 7, .mv, [.c (.b false)], none⟩] [1, 2])
 .ret)
 .skip))
 (.seq
 (.region false [⟨some 19, .mv, [.t 2], none⟩,
 ⟨some 20, .call n_impl_agreeingStates 10240, [.t 19], none⟩,
 ⟨some 8, .mv, [.t 20], none⟩] [2, 19, 20])
 (.seq
 (.seq
 (.region false [⟨some 21, .mv, [.t 1], none⟩,
 ⟨some 22, .call n_impl_trueStates 11264, [.t 21], none⟩,
 ⟨some 23, .mv, [.t 8], none⟩,
 ⟨some 24, .bin .and, [.t 22, .t 23], none⟩] [1, 21, 22, 23])
 (.block 0
 (.seq
 (.region false [⟨some 26, .mv, [.t 8], none⟩,
 ⟨some 27, .bin .eql, [.t 24, .t 26], none⟩,
 ⟨some 25, .mv, [.t 27], none⟩] [8, 26, 27])
 (.cond (.t 25) [25]
 (.seq
 (.region false [⟨some 6, .mv, [.c (.i 1)], none⟩,
 ⟨some 7, .mv, [.c (.b true)], none⟩] [24])
 .ret)
 (.seq
 (.region false [⟨some 29, .bin .eql, [.t 24, .c (.w (0#32))], none⟩,
 ⟨some 28, .mv, [.t 29], none⟩] [24, 29])
 (.cond (.t 28) [28]
 (.seq
 (.region false [⟨some 6, .mv, [.c (.i 0)], none⟩,
 ⟨some 7, .mv, [.c (.b true)], none⟩] [])
 .ret)
 .skip))))))
 (.seq
 (.region false [⟨some 6, .mv, [.c (.i (-1))], none⟩,
 ⟨some 7, .mv, [.c (.b true)], none⟩] [])
 .ret))))) }
/-- impl.knownBy -/
def F_impl_knownBy_L0 : LC :=
 (.seq
 (.region false [⟨some 14, .bin .lss, [.t 13, .t 12], none⟩] [])
 (.seq
 (.cond (.t 14) [14]
 .skip
 (.exit 0))
 (.seq
 (.block 1
 (.seq
 (.region false [⟨some 15, .mv, [.t 13], none⟩,
 ⟨some 8, .mv, [.t 15], none⟩] [15])
 (.seq
 (.region false [⟨some 16, .mv, [.t 7], none⟩,
 ⟨some 17, .mv, [.t 8], none⟩,
 ⟨some 18, .idxa 1, [.t 16, .t 17], none⟩,
 ⟨none, .store 1, [.t 18, .c (.i (-1))], none⟩] [16, 17, 18])
 (.seq
 (.region false [⟨some 19, .mv, [.t 2], none⟩,
 ⟨some 20, .mv, [.t 8], none⟩,
 ⟨some 21, .call n_impl_hasTest 10752, [.t 19, .t 20], none⟩] [19, 20])
 (.cond (.t 21) [21]
 (.region false [⟨some 22, .mv, [.t 7], none⟩,
 ⟨some 23, .mv, [.t 8], none⟩,
 ⟨some 24, .mv, [.t 1], none⟩,
 ⟨some 25, .mv, [.t 8], none⟩,
 ⟨some 26, .call n_impl_outcomeIn 13312, [.t 24, .t 25], none⟩,
 ⟨some 27, .idxa 1, [.t 22, .t 23], none⟩,
 ⟨none, .store 1, [.t 27, .t 26], none⟩] [8, 22, 23, 24, 25, 26, 27])
 .skip)))))
 (.region false [⟨some 28, .bin .add, [.t 13, .c (.i 1)], none⟩,
 ⟨some 13, .mv, [.t 28], none⟩] [8, 28]))))
def F_impl_knownBy_W0 : LC := .loop F_impl_knownBy_L0
def F_impl_knownBy : LF :=
 { nparams := 3, results := [.t 6], body :=
 (.seq
 (.region false [⟨some 6, .newnil 3080, [], none⟩] [6])
 (.seq
 (.region false [⟨some 9, .mv, [.t 0], none⟩,
 ⟨some 10, .make 5128 1 (.i 0), [.t 9, .t 9], none⟩,
 ⟨some 7, .mv, [.t 10], none⟩] [0, 9, 10])
 (.seq
 (.seq
 (.region false [⟨some 11, .mv, [.t 7], none⟩,
 ⟨some 12, .len, [.t 11], none⟩,
 ⟨some 13, .mv, [.c (.i 0)], none⟩] [11])
 (.block 0
 F_impl_knownBy_W0))
 (.seq
 (.region false [⟨some 29, .mv, [.t 7], none⟩,
 ⟨some 6, .mv, [.t 29], none⟩] [1, 2, 7, 12, 13, 29])
 .ret)))) }
/-- spec.l20Case -/
def F_spec_l20Case : LF :=
 { nparams := 2, results := [.t 4, .t 5], body :=
 (.seq
 (.region false [⟨some 4, .newnil 2064, [], none⟩,
 ⟨some 5, .newnil 2576, [], none⟩] [4, 5])
 (.seq
 (.region false [⟨some 7, .mv, [.t 0], none⟩,
 ⟨some 8, .mv, [.t 1], none⟩,
 ⟨some 9, .bin .mul, [.t 8, .c (.i 2)], none⟩,
 ⟨some 10, .call n_spec_l20Tests 5120, [.t 7, .t 9], none⟩,
 ⟨some 6, .mv, [.t 10], none⟩] [7, 8, 9, 10])
 (.seq
 (.region false [⟨some 11, .mv, [.t 6], none⟩,
 ⟨some 12, .mv, [.t 0], none⟩,
 ⟨some 13, .mv, [.t 6], none⟩,
 ⟨some 14, .len, [.t 13], none⟩,
 ⟨some 15, .mv, [.t 1], none⟩,
 ⟨some 16, .call n_spec_l20Term 8192, [.t 12, .t 14, .t 15], none⟩,
 ⟨some 4, .mv, [.t 11], none⟩,
 ⟨some 5, .mv, [.t 16], none⟩] [1, 6, 11, 12, 13, 14, 15, 16])
 .ret))) }
/-- spec.l20Rd).pick -/
def F_spec_l20Rd_pick : LF :=
 { nparams := 2, results := [.t 4], body :=
 (.seq
 (.region false [⟨some 4, .mv, [.c (.i 0)], none⟩] [4])
 (.seq
 (.region false [⟨some 7, .mv, [.t 0], none⟩,
 ⟨some 8, .mv, [.t 0], none⟩,
 ⟨some 9, .chk, [.t 8], none⟩,
 ⟨some 10, .fld 1 1 false, [.t 9], none⟩,
 ⟨some 11, .load 1 false, [.t 10], none⟩,
 ⟨some 12, .bin .add, [.t 11, .c (.i 1)], none⟩,
 ⟨some 13, .chk, [.t 7], none⟩,
 ⟨some 14, .fld 1 1 false, [.t 13], none⟩,
 ⟨none, .store 1, [.t 14, .t 12], none⟩] [7, 8, 9, 10, 11, 12, 13, 14])
 (.seq
 (.seq
 (.region false [⟨some 15, .mv, [.t 1], none⟩,
 ⟨some 16, .bin .lss, [.t 15, .c (.i 1)], none⟩,
 ⟨some 17, .mv, [.t 16], none⟩,
 ⟨some 18, .mv, [.t 0], some (17, false)⟩,
 ⟨some 19, .chk, [.t 18], some (17, false)⟩,
 ⟨some 20, .fld 0 1 false, [.t 19], some (17, false)⟩,
 ⟨some 21, .load 1 false, [.t 20], some (17, false)⟩,
 ⟨some 22, .len, [.t 21], some (17, false)⟩,
 ⟨some 23, .bin .eql, [.t 22, .c (.i 0)], some (17, false)⟩,
 ⟨some 24, .pick, [.t 17, .c (.b true), .t 23], none⟩] [15, 16, 17, 18, 19, 20, 21, 22, 23])
 (.cond (.t 24) [24]
 (.seq
 (.region false [⟨some 4, .mv, [.c (.i 0)], none⟩] [1])
 .ret)
 .skip))
 (.seq
 (.region false [⟨some 25, .mv, [.t 0], none⟩,
 ⟨some 26, .chk, [.t 25], none⟩,
 ⟨some 27, .fld 1 1 false, [.t 26], none⟩,
 ⟨some 28, .load 1 false, [.t 27], none⟩,
 ⟨some 29, .bin .sub, [.t 28, .c (.i 1)], none⟩,
 ⟨some 5, .mv, [.t 29], none⟩] [25, 26, 27, 28, 29])
 (.seq
 (.seq
 (.region false [⟨some 30, .mv, [.t 5], none⟩,
 ⟨some 31, .mv, [.t 0], none⟩,
 ⟨some 32, .chk, [.t 31], none⟩,
 ⟨some 33, .fld 0 1 false, [.t 32], none⟩,
 ⟨some 34, .load 1 false, [.t 33], none⟩,
 ⟨some 35, .len, [.t 34], none⟩,
 ⟨some 36, .bin .lss, [.t 30, .t 35], none⟩] [30, 31, 32, 33, 34, 35])
 (.cond (.t 36) [36]
 (.seq
 (.region false [⟨some 37, .mv, [.t 0], none⟩,
 ⟨some 38, .chk, [.t 37], none⟩,
 ⟨some 39, .fld 0 1 false, [.t 38], none⟩,
 ⟨some 40, .load 1 false, [.t 39], none⟩,
 ⟨some 41, .mv, [.t 5], none⟩,
 ⟨some 42, .idxa 1, [.t 40, .t 41], none⟩,
 ⟨some 43, .load 1 false, [.t 42], none⟩,
 ⟨some 44, .conv .b2i 22528, [.t 43], none⟩,
 ⟨some 45, .mv, [.t 1], none⟩,
 ⟨some 46, .bin .rem, [.t 44, .t 45], none⟩,
 ⟨some 4, .mv, [.t 46], none⟩] [1, 5, 37, 38, 39, 40, 41, 42, 43, 44, 45, 46])
 .ret)
 .skip))
 (.seq
 (.region true [⟨some 47, .mv, [.t 0], none⟩,
 ⟨some 48, .chk, [.t 47], none⟩,
 ⟨some 49, .fld 0 1 false, [.t 48], none⟩,
 ⟨some 50, .load 1 false, [.t 49], none⟩,
 ⟨some 51, .mv, [.t 5], none⟩,
 ⟨some 52, .mv, [.t 0], none⟩,
 ⟨some 53, .chk, [.t 52], none⟩,
 ⟨some 54, .fld 0 1 false, [.t 53], none⟩,
 ⟨some 55, .load 1 false, [.t 54], none⟩,
 ⟨some 56, .len, [.t 55], none⟩,
 ⟨some 57, .bin .rem, [.t 51, .t 56], none⟩,
 ⟨some 58, .idxa 1, [.t 50, .t 57], none⟩,
 ⟨some 59, .load 1 false, [.t 58], none⟩,
 ⟨some 60, .conv .b2i 30720, [.t 59], none⟩,
 ⟨some 61, .bin .mul, [.t 60, .c (.i 131)], none⟩,
 ⟨some 62, .mv, [.t 0], none⟩,
 ⟨some 63, .chk, [.t 62], none⟩,
 ⟨some 64, .fld 0 1 false, [.t 63], none⟩,
 ⟨some 65, .load 1 false, [.t 64], none⟩,
 ⟨some 66, .mv, [.t 5], none⟩,
 ⟨some 67, .bin .mul, [.t 66, .c (.i 7)], none⟩,
 ⟨some 68, .bin .add, [.t 67, .c (.i 3)], none⟩,
 ⟨some 69, .mv, [.t 0], none⟩,
 ⟨some 70, .chk, [.t 69], none⟩,
 ⟨some 71, .fld 0 1 false, [.t 70], none⟩,
 ⟨some 72, .load 1 false, [.t 71], none⟩,
 ⟨some 73, .len, [.t 72], none⟩,
 ⟨some 74, .bin .rem, [.t 68, .t 73], none⟩,
 ⟨some 75, .idxa 1, [.t 65, .t 74], none⟩,
 ⟨some 76, .load 1 false, [.t 75], none⟩,
 ⟨some 77, .conv .b2i 39424, [.t 76], none⟩,
 ⟨some 78, .bin .mul, [.t 77, .c (.i 1117)], none⟩,
 ⟨some 79, .bin .add, [.t 61, .t 78], none⟩,
 ⟨some 80, .mv, [.t 5], none⟩,
 ⟨some 81, .bin .mul, [.t 80, .c (.i 29)], none⟩,
 ⟨some 82, .bin .add, [.t 79, .t 81], none⟩,
 ⟨some 83, .mv, [.t 5], none⟩,
 ⟨some 84, .mv, [.t 0], none⟩,
 ⟨some 85, .chk, [.t 84], none⟩,
 ⟨some 86, .fld 0 1 false, [.t 85], none⟩,
 ⟨some 87, .load 1 false, [.t 86], none⟩,
 ⟨some 88, .len, [.t 87], none⟩,
 ⟨some 89, .bin .quo, [.t 83, .t 88], none⟩,
 ⟨some 90, .bin .mul, [.t 89, .c (.i 53)], none⟩,
 ⟨some 91, .bin .add, [.t 82, .t 90], none⟩,
 ⟨some 6, .mv, [.t 91], none⟩] [5, 47, 48, 49, 50, 51, 52, 53, 54, 55, 56, 57, 58, 59, 60, 61, 62, 63, 64, 65, 66, 67, 68, 69, 70, 71, 72, 73, 74, 75, 76, 77, 78, 79, 80, 81, 82, 83, 84, 85, 86, 87, 88, 89, 90, 91])
 (.seq
 (.region false [⟨some 92, .mv, [.t 6], none⟩,
 ⟨some 93, .mv, [.t 6], none⟩,
 ⟨some 94, .bin .quo, [.t 93, .c (.i 64)], none⟩,
 ⟨some 95, .bin .xor, [.t 92, .t 94], none⟩,
 ⟨some 6, .mv, [.t 95], none⟩] [92, 93, 94, 95])
 (.seq
 (.region false [⟨some 96, .mv, [.t 6], none⟩,
 ⟨some 97, .mv, [.t 1], none⟩,
 ⟨some 98, .bin .rem, [.t 96, .t 97], none⟩,
 ⟨some 4, .mv, [.t 98], none⟩] [1, 6, 96, 97, 98])
 .ret)))))))) }
/-- impl.outcomeIn -/
def F_impl_outcomeIn : LF :=
 { nparams := 2, results := [.t 4], body :=
 (.seq
 (.region false [⟨some 4, .mv, [.c (.i 0)], none⟩] [4])
 (.seq
 (.region false [⟨some 5, .mv, [.t 0], none⟩,
 ⟨some 6, .mv, [.t 1], none⟩,
 ⟨some 7, .bin .shr, [.t 5, .t 6], none⟩,
 ⟨some 8, .bin .and, [.t 7, .c (.i 1)], none⟩,
 ⟨some 4, .mv, [.t 8], none⟩] [0, 1, 5, 6, 7, 8])
 .ret)) }
/-- impl.isWithin -/
def F_impl_isWithin : LF :=
 { nparams := 3, results := [.t 6], body :=
 (.seq
 (.region false [⟨some 6, .mv, [.c (.b false)], none⟩] [6])
 (.seq
 (.region false [⟨some 7, .mv, [.t 1], none⟩,
 ⟨some 8, .mv, [.t 0], none⟩,
 ⟨some 9, .bin .leq, [.t 7, .t 8], none⟩,
 ⟨some 10, .mv, [.t 9], none⟩,
 ⟨some 11, .mv, [.t 0], some (10, true)⟩,
 ⟨some 12, .mv, [.t 2], some (10, true)⟩,
 ⟨some 13, .bin .leq, [.t 11, .t 12], some (10, true)⟩,
 ⟨some 14, .pick, [.t 10, .t 13, .c (.b false)], none⟩,
 ⟨some 6, .mv, [.t 14], none⟩] [0, 1, 2, 7, 8, 9, 10, 11, 12, 13, 14])
 .ret)) }
/-- slices.Clone[[]int,int] -/
def F_slices_Clone_int_int : LF :=
 { nparams := 1, results := [.t 2], body :=
 (.seq
 (.region false [⟨some 2, .newnil 1032, [], none⟩] [2])
 (.seq
 (.seq
 (.region false [⟨some 3, .mv, [.t 0], none⟩,
 ⟨some 4, .eqn false, [.t 3], none⟩] [3])
 (.cond (.t 4) [4]
 (.seq
 (.region false [⟨some 2, .newnil 1032, [], none⟩] [0])
 .ret)
 .skip))
 (.seq
 (.region false [⟨some 5, .bslice 2568 0 1 (.i 0) [], [], none⟩,
 ⟨some 6, .mv, [.t 0], none⟩,
 ⟨some 7, .app 3592 1, [.t 5, .t 6], none⟩,
 ⟨some 2, .mv, [.t 7], none⟩] [0, 5, 6, 7])
 .ret))) }
/-- impl.testsWhere -/
def F_impl_testsWhere_L0 : LC :=
 (.seq
 (.region false [⟨some 9, .bin .lss, [.t 8, .t 7], none⟩] [])
 (.seq
 (.cond (.t 9) [9]
 .skip
 (.exit 0))
 (.seq
 (.block 1
 (.seq
 (.region false [⟨some 10, .mv, [.t 8], none⟩,
 ⟨some 6, .mv, [.t 10], none⟩] [10])
 (.seq
 (.region false [⟨some 11, .mv, [.t 1], none⟩,
 ⟨some 12, .mv, [.t 6], none⟩,
 ⟨some 13, .calld 6656, [.t 11, .t 12], none⟩] [11, 12])
 (.cond (.t 13) [13]
 (.region false [⟨some 14, .mv, [.t 5], none⟩,
 ⟨some 15, .mv, [.t 6], none⟩,
 ⟨some 16, .bin .shl, [.c (.i 1), .t 15], none⟩,
 ⟨some 17, .bin .or, [.t 14, .t 16], none⟩,
 ⟨some 5, .mv, [.t 17], none⟩] [6, 14, 15, 16, 17])
 .skip))))
 (.region false [⟨some 18, .bin .add, [.t 8, .c (.i 1)], none⟩,
 ⟨some 8, .mv, [.t 18], none⟩] [6, 18]))))
def F_impl_testsWhere_W0 : LC := .loop F_impl_testsWhere_L0
def F_impl_testsWhere : LF :=
 { nparams := 2, results := [.t 4], body :=
 (.seq
 (.region false [⟨some 4, .mv, [.c (.i 0)], none⟩] [4])
 (.seq
 (.region false [⟨some 5, .mv, [.c (.i 0)], none⟩] [])
 (.seq
 (.seq
 (.region false [⟨some 7, .mv, [.t 0], none⟩,
 ⟨some 8, .mv, [.c (.i 0)], none⟩] [0])
 (.block 0
 F_impl_testsWhere_W0))
 (.seq
 (.region false [⟨some 19, .mv, [.t 5], none⟩,
 ⟨some 4, .mv, [.t 19], none⟩] [1, 5, 7, 8, 19])
 .ret)))) }
/-- impl.IdleTests$1 -/
def F_impl_IdleTests_1 : LF :=
 { gl := [0], nparams := 2, results := [.t 3], body :=
 (.seq
 (.region false [⟨some 3, .mv, [.c (.b false)], none⟩] [3])
 (.seq
 (.region true [⟨some 6, .load 1 false, [.t 1], none⟩,
 ⟨some 7, .mv, [.t 0], none⟩,
 ⟨some 8, .idxp 5 1, [.t 1048576, .t 7], none⟩,
 ⟨some 9, .load 1 false, [.t 8], none⟩,
 ⟨some 10, .bin .and, [.t 6, .t 9], none⟩,
 ⟨some 11, .load 1 false, [.t 1], none⟩,
 ⟨some 12, .mv, [.t 0], none⟩,
 ⟨some 13, .idxp 5 1, [.t 1048576, .t 12], none⟩,
 ⟨some 14, .load 1 false, [.t 13], none⟩,
 ⟨some 15, .bin .andNot, [.t 11, .t 14], none⟩,
 ⟨some 4, .mv, [.t 10], none⟩,
 ⟨some 5, .mv, [.t 15], none⟩] [1, 6, 7, 8, 9, 10, 11, 12, 13, 14, 15])
 (.seq
 (.region false [⟨some 16, .mv, [.t 4], none⟩,
 ⟨some 17, .mv, [.t 0], none⟩,
 ⟨some 18, .bin .shl, [.c (.q 1), .t 17], none⟩,
 ⟨some 19, .bin .shr, [.t 16, .t 18], none⟩,
 ⟨some 20, .mv, [.t 5], none⟩,
 ⟨some 21, .bin .eql, [.t 19, .t 20], none⟩,
 ⟨some 3, .mv, [.t 21], none⟩] [0, 4, 5, 16, 17, 18, 19, 20, 21])
 .ret))) }
/-- spec.l1In -/
def F_spec_l1In : LF :=
 { nparams := 3, results := [.t 6], body :=
 (.seq
 (.region false [⟨some 6, .mv, [.c (.b false)], none⟩] [6])
 (.seq
 (.region false [⟨some 7, .mv, [.t 0], none⟩,
 ⟨some 8, .mv, [.t 1], none⟩,
 ⟨some 9, .bin .geq, [.t 7, .t 8], none⟩,
 ⟨some 10, .mv, [.t 9], none⟩,
 ⟨some 11, .mv, [.t 0], some (10, true)⟩,
 ⟨some 12, .mv, [.t 2], some (10, true)⟩,
 ⟨some 13, .bin .leq, [.t 11, .t 12], some (10, true)⟩,
 ⟨some 14, .pick, [.t 10, .t 13, .c (.b false)], none⟩,
 ⟨some 6, .mv, [.t 14], none⟩] [0, 1, 2, 7, 8, 9, 10, 11, 12, 13, 14])
 .ret)) }
/-- spec.l3Forced -/
def F_spec_l3Forced_L0 : LC :=
 (.seq
 (.seq
 (.region false [⟨some 11, .mv, [.t 9], none⟩,
 ⟨some 12, .mv, [.t 0], none⟩,
 ⟨some 13, .bin .shl, [.c (.i 1), .t 12], none⟩,
 ⟨some 14, .bin .lss, [.t 11, .t 13], none⟩] [11, 12, 13])
 (.cond (.t 14) [14]
 .skip
 (.exit 0)))
 (.seq
 (.block 1
 (.seq
 (.seq
 (.region false [⟨some 17, .mv, [.t 2], none⟩,
 ⟨some 18, .mv, [.t 9], none⟩,
 ⟨some 19, .call n_spec_l1Agrees 9728, [.t 17, .t 18], none⟩,
 ⟨some 20, .un .not, [.t 19], none⟩] [17, 18, 19])
 (.cond (.t 20) [20]
 (.exit 1)
 .skip))
 (.seq
 (.region false [⟨some 21, .mv, [.t 1], none⟩,
 ⟨some 22, .mv, [.t 9], none⟩,
 ⟨some 23, .bin .shr, [.t 21, .t 22], none⟩,
 ⟨some 24, .bin .rem, [.t 23, .c (.i 2)], none⟩,
 ⟨some 10, .mv, [.t 24], none⟩] [21, 22, 23, 24])
 (.seq
 (.seq
 (.region false [⟨some 25, .mv, [.t 8], none⟩,
 ⟨some 26, .un .not, [.t 25], none⟩,
 ⟨some 27, .mv, [.t 26], none⟩,
 ⟨some 28, .mv, [.t 10], some (27, true)⟩,
 ⟨some 29, .mv, [.t 7], some (27, true)⟩,
 ⟨some 30, .bin .neq, [.t 28, .t 29], some (27, true)⟩,
 ⟨some 31, .pick, [.t 27, .t 30, .c (.b false)], none⟩] [7, 8, 25, 26, 27, 28, 29, 30])
 (.cond (.t 31) [31]
 (.seq
 (.region false [⟨some 6, .mv, [.c (.i (-1))], none⟩] [0, 1, 2, 9, 10])
 .ret)
 .skip))
 (.seq
 (.region false [⟨some 32, .mv, [.t 10], none⟩,
 ⟨some 7, .mv, [.t 32], none⟩] [10, 32])
 (.region false [⟨some 8, .mv, [.c (.b false)], none⟩] []))))))
 (.region false [⟨some 15, .mv, [.t 9], none⟩,
 ⟨some 16, .bin .add, [.t 15, .c (.i 1)], none⟩,
 ⟨some 9, .mv, [.t 16], none⟩] [15, 16])))
def F_spec_l3Forced_W0 : LC := .loop F_spec_l3Forced_L0
def F_spec_l3Forced : LF :=
 { nparams := 3, results := [.t 6], body :=
 (.seq
 (.region false [⟨some 6, .mv, [.c (.i 0)], none⟩] [6])
 (.seq
 (.region false [⟨some 7, .mv, [.c (.i (-1))], none⟩] [])
 (.seq
 (.region false [⟨some 8, .mv, [.c (.b true)], none⟩] [])
 (.seq
 (.seq
 (.region false [⟨some 9, .mv, [.c (.i 0)], none⟩] [])
 (.block 0
 F_spec_l3Forced_W0))
 (.seq
 (.region false [⟨some 33, .mv, [.t 7], none⟩,
 ⟨some 6, .mv, [.t 33], none⟩] [0, 1, 2, 7, 8, 9, 33])
 .ret))))) }
/-- spec.l3Value -/
def F_spec_l3Value : LF :=
 { nparams := 2, results := [.t 4], body :=
 (.seq
 (.region false [⟨some 4, .mv, [.c (.i 0)], none⟩] [4])
 (.seq
 (.region false [⟨some 9, .mv, [.t 0], none⟩,
 ⟨some 10, .len, [.t 9], none⟩,
 ⟨some 11, .bin .sub, [.t 10, .c (.i 1)], none⟩,
 ⟨some 5, .mv, [.t 11], none⟩] [9, 10, 11])
 (.seq
 (.seq
 (.region false [⟨some 12, .mv, [.t 0], none⟩,
 ⟨some 13, .mv, [.t 5], none⟩,
 ⟨some 14, .idxa 2, [.t 12, .t 13], none⟩,
 ⟨some 15, .fld 0 1 false, [.t 14], none⟩,
 ⟨some 16, .load 1 false, [.t 15], none⟩] [12, 13, 14, 15])
 (.block 0
 (.seq
 (.region false [⟨some 18, .bin .eql, [.t 16, .c (.i 0)], none⟩,
 ⟨some 17, .mv, [.t 18], none⟩] [18])
 (.cond (.t 17) [17]
 (.seq
 (.region false [⟨some 19, .mv, [.t 1], none⟩,
 ⟨some 20, .mv, [.t 0], none⟩,
 ⟨some 21, .mv, [.t 5], none⟩,
 ⟨some 22, .idxa 2, [.t 20, .t 21], none⟩,
 ⟨some 23, .fld 1 1 false, [.t 22], none⟩,
 ⟨some 24, .load 1 false, [.t 23], none⟩,
 ⟨some 25, .bin .shr, [.t 19, .t 24], none⟩,
 ⟨some 26, .bin .rem, [.t 25, .c (.i 2)], none⟩,
 ⟨some 4, .mv, [.t 26], none⟩] [0, 1, 5, 16, 19, 20, 21, 22, 23, 24, 25, 26])
 .ret)
 (.seq
 (.region false [⟨some 28, .bin .eql, [.t 16, .c (.i 1)], none⟩,
 ⟨some 27, .mv, [.t 28], none⟩] [16, 28])
 (.cond (.t 27) [27]
 (.seq
 (.region false [⟨some 29, .mv, [.t 0], none⟩,
 ⟨some 30, .mv, [.t 5], none⟩,
 ⟨some 31, .slice false true 2, [.t 29, .t 30], none⟩,
 ⟨some 32, .mv, [.t 1], none⟩,
 ⟨some 33, .call n_spec_l3Value 16896, [.t 31, .t 32], none⟩,
 ⟨some 34, .bin .sub, [.c (.i 1), .t 33], none⟩,
 ⟨some 4, .mv, [.t 34], none⟩] [0, 1, 5, 29, 30, 31, 32, 33, 34])
 .ret)
 .skip))))))
 (.seq
 (.region false [⟨some 35, .mv, [.t 0], none⟩,
 ⟨some 36, .mv, [.t 5], none⟩,
 ⟨some 37, .bin .sub, [.t 36, .c (.i 1)], none⟩,
 ⟨some 38, .call n_spec_l2Starts 19456, [.t 35, .t 37], none⟩,
 ⟨some 6, .mv, [.t 38], none⟩] [35, 36, 37, 38])
 (.seq
 (.region false [⟨some 39, .mv, [.t 0], none⟩,
 ⟨some 40, .mv, [.t 6], none⟩,
 ⟨some 41, .slice false true 2, [.t 39, .t 40], none⟩,
 ⟨some 42, .mv, [.t 1], none⟩,
 ⟨some 43, .call n_spec_l3Value 22016, [.t 41, .t 42], none⟩,
 ⟨some 7, .mv, [.t 43], none⟩] [39, 40, 41, 42, 43])
 (.seq
 (.region false [⟨some 44, .mv, [.t 0], none⟩,
 ⟨some 45, .mv, [.t 6], none⟩,
 ⟨some 46, .mv, [.t 5], none⟩,
 ⟨some 47, .slice true true 2, [.t 44, .t 45, .t 46], none⟩,
 ⟨some 48, .mv, [.t 1], none⟩,
 ⟨some 49, .call n_spec_l3Value 25088, [.t 47, .t 48], none⟩,
 ⟨some 8, .mv, [.t 49], none⟩] [1, 6, 44, 45, 46, 47, 48, 49])
 (.seq
 (.seq
 (.region false [⟨some 50, .mv, [.t 0], none⟩,
 ⟨some 51, .mv, [.t 5], none⟩,
 ⟨some 52, .idxa 2, [.t 50, .t 51], none⟩,
 ⟨some 53, .fld 0 1 false, [.t 52], none⟩,
 ⟨some 54, .load 1 false, [.t 53], none⟩,
 ⟨some 55, .bin .eql, [.t 54, .c (.i 3)], none⟩] [0, 5, 50, 51, 52, 53, 54])
 (.cond (.t 55) [55]
 (.seq
 (.region false [⟨some 56, .mv, [.t 7], none⟩,
 ⟨some 57, .mv, [.t 8], none⟩,
 ⟨some 58, .mm true, [.t 56, .t 57], none⟩,
 ⟨some 4, .mv, [.t 58], none⟩] [7, 8, 56, 57, 58])
 .ret)
 .skip))
 (.seq
 (.region false [⟨some 59, .mv, [.t 7], none⟩,
 ⟨some 60, .mv, [.t 8], none⟩,
 ⟨some 61, .mm false, [.t 59, .t 60], none⟩,
 ⟨some 4, .mv, [.t 61], none⟩] [7, 8, 59, 60, 61])
 .ret)))))))) }
/-- impl.manyOk -/
def F_impl_manyOk : LF :=
 { nparams := 1, results := [.t 2], body :=
 (.seq
 (.region false [⟨some 2, .mv, [.c (.b false)], none⟩] [2])
 (.seq
 (.region false [⟨some 3, .mv, [.t 0], none⟩,
 ⟨some 4, .call n_impl_isWithin 2048, [.t 3, .c (.i 1), .c (.i 5)], none⟩,
 ⟨some 2, .mv, [.t 4], none⟩] [0, 3, 4])
 .ret)) }
/-- impl.partsTaken -/
def F_impl_partsTaken : LF :=
 { nparams := 1, results := [.t 2], body :=
 (.seq
 (.region false [⟨some 2, .mv, [.c (.i 0)], none⟩] [2])
 (.seq
 (.seq
 (.region false [⟨some 3, .mv, [.t 0], none⟩] [0])
 (.block 0
 (.seq
 (.region false [⟨some 5, .bin .eql, [.t 3, .c (.i 0)], none⟩,
 ⟨some 4, .mv, [.t 5], none⟩] [5])
 (.cond (.t 4) [4]
 (.seq
 (.region false [⟨some 2, .mv, [.c (.i 0)], none⟩] [3])
 .ret)
 (.seq
 (.region false [⟨some 7, .bin .eql, [.t 3, .c (.i 1)], none⟩,
 ⟨some 6, .mv, [.t 7], none⟩] [3, 7])
 (.cond (.t 6) [6]
 (.seq
 (.region false [⟨some 2, .mv, [.c (.i 1)], none⟩] [])
 .ret)
 .skip))))))
 (.seq
 (.region false [⟨some 2, .mv, [.c (.i 2)], none⟩] [])
 .ret))) }
/-- impl.markOk -/
def F_impl_markOk : LF :=
 { nparams := 2, results := [.t 4], body :=
 (.seq
 (.region false [⟨some 3, .box 1552, [.t 1], none⟩,
 ⟨some 4, .mv, [.c (.b false)], none⟩] [1, 4])
 (.seq
 (.seq
 (.region false [⟨some 5, .fld 0 1 false, [.t 3], none⟩,
 ⟨some 6, .load 1 false, [.t 5], none⟩,
 ⟨some 7, .bin .eql, [.t 6, .c (.i 0)], none⟩] [5, 6])
 (.cond (.t 7) [7]
 (.seq
 (.region false [⟨some 8, .fld 1 1 false, [.t 3], none⟩,
 ⟨some 9, .load 1 false, [.t 8], none⟩,
 ⟨some 10, .mv, [.t 0], none⟩,
 ⟨some 11, .bin .sub, [.t 10, .c (.i 1)], none⟩,
 ⟨some 12, .call n_impl_isWithin 6144, [.t 9, .c (.i 0), .t 11], none⟩,
 ⟨some 4, .mv, [.t 12], none⟩] [0, 3, 8, 9, 10, 11, 12])
 .ret)
 .skip))
 (.seq
 (.region false [⟨some 13, .fld 0 1 false, [.t 3], none⟩,
 ⟨some 14, .load 1 false, [.t 13], none⟩,
 ⟨some 15, .call n_impl_isWithin 7680, [.t 14, .c (.i 1), .c (.i 3)], none⟩,
 ⟨some 16, .mv, [.t 15], none⟩,
 ⟨some 17, .fld 1 1 false, [.t 3], some (16, true)⟩,
 ⟨some 18, .load 1 false, [.t 17], some (16, true)⟩,
 ⟨some 19, .bin .eql, [.t 18, .c (.i 0)], some (16, true)⟩,
 ⟨some 20, .pick, [.t 16, .t 19, .c (.b false)], none⟩,
 ⟨some 4, .mv, [.t 20], none⟩] [0, 3, 13, 14, 15, 16, 17, 18, 19, 20])
 .ret))) }
/-- impl.hasTest -/
def F_impl_hasTest : LF :=
 { nparams := 2, results := [.t 4], body :=
 (.seq
 (.region false [⟨some 4, .mv, [.c (.b false)], none⟩] [4])
 (.seq
 (.region false [⟨some 5, .mv, [.t 0], none⟩,
 ⟨some 6, .mv, [.t 1], none⟩,
 ⟨some 7, .bin .shr, [.t 5, .t 6], none⟩,
 ⟨some 8, .bin .and, [.t 7, .c (.i 1)], none⟩,
 ⟨some 9, .bin .eql, [.t 8, .c (.i 1)], none⟩,
 ⟨some 4, .mv, [.t 9], none⟩] [0, 1, 5, 6, 7, 8, 9])
 .ret)) }
/-- impl.foldTerm[uint32] -/
def F_impl_foldTerm_uint32_L0 : LC :=
 (.seq
 (.region false [⟨some 13, .bin .lss, [.t 12, .t 11], none⟩] [])
 (.seq
 (.cond (.t 13) [13]
 .skip
 (.exit 0))
 (.seq
 (.block 1
 (.seq
 (.region false [⟨some 14, .idxa 2, [.t 10, .t 12], none⟩,
 ⟨some 15, .load 2 true, [.t 14], none⟩,
 ⟨some 7, .alloc 3600 (.st [.i 0, .i 0]), [], none⟩,
 ⟨none, .store 2, [.t 7, .t 15], none⟩] [14, 15])
 (.seq
 (.region false [⟨some 16, .mv, [.t 5], none⟩,
 ⟨some 17, .len, [.t 16], none⟩,
 ⟨some 18, .fld 0 1 false, [.t 7], none⟩,
 ⟨some 19, .load 1 false, [.t 18], none⟩,
 ⟨some 20, .call n_impl_partsTaken 10240, [.t 19], none⟩,
 ⟨some 21, .bin .sub, [.t 17, .t 20], none⟩,
 ⟨some 8, .mv, [.t 21], none⟩] [16, 17, 18, 19, 20, 21])
 (.seq
 (.region true [⟨some 22, .mv, [.t 1], none⟩,
 ⟨some 23, .load 2 true, [.t 7], none⟩,
 ⟨some 24, .mv, [.t 5], none⟩,
 ⟨some 25, .mv, [.t 8], none⟩,
 ⟨some 26, .slice true false 1, [.t 24, .t 25], none⟩,
 ⟨some 27, .calld 13824, [.t 22, .t 23, .t 26], none⟩,
 ⟨some 9, .mv, [.t 27], none⟩] [7, 22, 23, 24, 25, 26, 27])
 (.region false [⟨some 28, .mv, [.t 5], none⟩,
 ⟨some 29, .mv, [.t 8], none⟩,
 ⟨some 30, .slice false true 1, [.t 28, .t 29], none⟩,
 ⟨some 31, .mv, [.t 9], none⟩,
 ⟨some 32, .bslice 16392 1 1 (.w (0#32)) [0], [.t 31], none⟩,
 ⟨some 33, .app 16904 1, [.t 30, .t 32], none⟩,
 ⟨some 5, .mv, [.t 33], none⟩] [8, 9, 28, 29, 30, 31, 32, 33])))))
 (.region false [⟨some 34, .bin .add, [.t 12, .c (.i 1)], none⟩,
 ⟨some 12, .mv, [.t 34], none⟩] [34]))))
def F_impl_foldTerm_uint32_W0 : LC := .loop F_impl_foldTerm_uint32_L0
def F_impl_foldTerm_uint32 : LF :=
 { nparams := 2, results := [.t 4], body :=
 (.seq
 (.region false [⟨some 4, .mv, [.c (.w (0#32))], none⟩] [4])
 (.seq
 (.region false [⟨some 5, .newnil 2568, [], none⟩] [])
 (.seq
 (.seq
 (.region false [⟨some 10, .mv, [.t 0], none⟩,
 ⟨some 11, .len, [.t 10], none⟩,
 ⟨some 12, .mv, [.c (.i 0)], none⟩] [0])
 (.block 0
 F_impl_foldTerm_uint32_W0))
 (.seq
 (.region false [⟨some 35, .mv, [.t 5], none⟩,
 ⟨some 36, .idxa 1, [.t 35, .c (.i 0)], none⟩,
 ⟨some 37, .load 1 false, [.t 36], none⟩,
 ⟨some 4, .mv, [.t 37], none⟩] [1, 5, 10, 11, 12, 35, 36, 37])
 .ret)))) }
/-- impl.statesOfPart -/
def F_impl_statesOfPart : LF :=
 { gl := [0], nparams := 2, results := [.t 4], body :=
 (.seq
 (.region false [⟨some 2, .box 1040, [.t 0], none⟩,
 ⟨some 4, .mv, [.c (.w (0#32))], none⟩] [0, 4])
 (.seq
 (.seq
 (.region false [⟨some 5, .fld 0 1 false, [.t 2], none⟩,
 ⟨some 6, .load 1 false, [.t 5], none⟩] [5])
 (.block 0
 (.seq
 (.region false [⟨some 8, .bin .eql, [.t 6, .c (.i 0)], none⟩,
 ⟨some 7, .mv, [.t 8], none⟩] [8])
 (.cond (.t 7) [7]
 (.seq
 (.region false [⟨some 9, .fld 1 1 false, [.t 2], none⟩,
 ⟨some 10, .load 1 false, [.t 9], none⟩,
 ⟨some 11, .idxp 5 1, [.t 1048576, .t 10], none⟩,
 ⟨some 12, .load 1 false, [.t 11], none⟩,
 ⟨some 4, .mv, [.t 12], none⟩] [1, 2, 6, 9, 10, 11, 12])
 .ret)
 (.seq
 (.region false [⟨some 14, .bin .eql, [.t 6, .c (.i 1)], none⟩,
 ⟨some 13, .mv, [.t 14], none⟩] [2, 14])
 (.cond (.t 13) [13]
 (.seq
 (.region false [⟨some 15, .mv, [.t 1], none⟩,
 ⟨some 16, .idxa 1, [.t 15, .c (.i 0)], none⟩,
 ⟨some 17, .load 1 false, [.t 16], none⟩,
 ⟨some 18, .un .xor, [.t 17], none⟩,
 ⟨some 4, .mv, [.t 18], none⟩] [1, 6, 15, 16, 17, 18])
 .ret)
 (.seq
 (.region false [⟨some 20, .bin .eql, [.t 6, .c (.i 2)], none⟩,
 ⟨some 19, .mv, [.t 20], none⟩] [6, 20])
 (.cond (.t 19) [19]
 (.seq
 (.region true [⟨some 21, .mv, [.t 1], none⟩,
 ⟨some 22, .idxa 1, [.t 21, .c (.i 0)], none⟩,
 ⟨some 23, .load 1 false, [.t 22], none⟩,
 ⟨some 24, .mv, [.t 1], none⟩,
 ⟨some 25, .idxa 1, [.t 24, .c (.i 1)], none⟩,
 ⟨some 26, .load 1 false, [.t 25], none⟩,
 ⟨some 27, .bin .and, [.t 23, .t 26], none⟩,
 ⟨some 4, .mv, [.t 27], none⟩] [1, 21, 22, 23, 24, 25, 26, 27])
 .ret)
 .skip))))))))
 (.seq
 (.region true [⟨some 28, .mv, [.t 1], none⟩,
 ⟨some 29, .idxa 1, [.t 28, .c (.i 0)], none⟩,
 ⟨some 30, .load 1 false, [.t 29], none⟩,
 ⟨some 31, .mv, [.t 1], none⟩,
 ⟨some 32, .idxa 1, [.t 31, .c (.i 1)], none⟩,
 ⟨some 33, .load 1 false, [.t 32], none⟩,
 ⟨some 34, .bin .or, [.t 30, .t 33], none⟩,
 ⟨some 4, .mv, [.t 34], none⟩] [1, 28, 29, 30, 31, 32, 33, 34])
 .ret))) }
/-- impl.turnedStates -/
def F_impl_turnedStates : LF :=
 { gl := [0], nparams := 2, results := [.t 4], body :=
 (.seq
 (.region false [⟨some 4, .mv, [.c (.w (0#32))], none⟩] [4])
 (.seq
 (.region true [⟨some 7, .mv, [.t 0], none⟩,
 ⟨some 8, .mv, [.t 1], none⟩,
 ⟨some 9, .idxp 5 1, [.t 1048576, .t 8], none⟩,
 ⟨some 10, .load 1 false, [.t 9], none⟩,
 ⟨some 11, .bin .and, [.t 7, .t 10], none⟩,
 ⟨some 12, .mv, [.t 0], none⟩,
 ⟨some 13, .mv, [.t 1], none⟩,
 ⟨some 14, .idxp 5 1, [.t 1048576, .t 13], none⟩,
 ⟨some 15, .load 1 false, [.t 14], none⟩,
 ⟨some 16, .bin .andNot, [.t 12, .t 15], none⟩,
 ⟨some 5, .mv, [.t 11], none⟩,
 ⟨some 6, .mv, [.t 16], none⟩] [0, 7, 8, 9, 10, 11, 12, 13, 14, 15, 16])
 (.seq
 (.region true [⟨some 17, .mv, [.t 5], none⟩,
 ⟨some 18, .mv, [.t 1], none⟩,
 ⟨some 19, .bin .shl, [.c (.q 1), .t 18], none⟩,
 ⟨some 20, .bin .shr, [.t 17, .t 19], none⟩,
 ⟨some 21, .mv, [.t 6], none⟩,
 ⟨some 22, .mv, [.t 1], none⟩,
 ⟨some 23, .bin .shl, [.c (.q 1), .t 22], none⟩,
 ⟨some 24, .bin .shl, [.t 21, .t 23], none⟩,
 ⟨some 25, .bin .or, [.t 20, .t 24], none⟩,
 ⟨some 4, .mv, [.t 25], none⟩] [1, 5, 6, 17, 18, 19, 20, 21, 22, 23, 24, 25])
 .ret))) }
/-- spec.l20Term -/
def F_spec_l20Term_L0 : LC :=
 (.seq
 (.seq
 (.region false [⟨some 23, .mv, [.t 9], none⟩,
 ⟨some 24, .mv, [.t 1], none⟩,
 ⟨some 25, .bin .lss, [.t 23, .t 24], none⟩,
 ⟨some 26, .mv, [.t 25], none⟩,
 ⟨some 27, .mv, [.t 8], some (26, true)⟩,
 ⟨some 28, .pick, [.t 26, .t 27, .c (.b false)], none⟩] [23, 24, 25, 26, 27])
 (.cond (.t 28) [28]
 .skip
 (.exit 0)))
 (.seq
 (.block 1
 (.seq
 (.region false [⟨some 31, .mv, [.t 0], none⟩,
 ⟨some 32, .call n_spec_l20Rd_pick 16384, [.t 31, .c (.i 4)], none⟩,
 ⟨some 33, .bin .gtr, [.t 32, .c (.i 0)], none⟩,
 ⟨some 34, .mv, [.t 33], none⟩,
 ⟨some 35, .mv, [.t 9], some (34, false)⟩,
 ⟨some 36, .bin .eql, [.t 35, .c (.i 0)], some (34, false)⟩,
 ⟨some 37, .pick, [.t 34, .c (.b true), .t 36], none⟩] [31, 32, 33, 34, 35, 36])
 (.cond (.t 37) [37]
 (.region false [⟨some 38, .mv, [.t 7], none⟩,
 ⟨some 39, .mv, [.t 9], none⟩,
 ⟨some 40, .build [.i 0, .i 0] [(0, 1), (1, 1)], [.c (.i 0), .t 39], none⟩,
 ⟨some 41, .bslice 21008 1 2 (.st [.i 0, .i 0]) [0], [.t 40], none⟩,
 ⟨some 42, .bslice 21512 1 1 (.sl 1 []) [0], [.t 41], none⟩,
 ⟨some 43, .app 22024 1, [.t 38, .t 42], none⟩,
 ⟨some 7, .mv, [.t 43], none⟩] [38, 39, 40, 41, 42, 43])
 .skip)))
 (.region false [⟨some 29, .mv, [.t 9], none⟩,
 ⟨some 30, .bin .add, [.t 29, .c (.i 1)], none⟩,
 ⟨some 9, .mv, [.t 30], none⟩] [29, 30])))
def F_spec_l20Term_W0 : LC := .loop F_spec_l20Term_L0
def F_spec_l20Term_L1 : LC :=
 (.seq
 (.seq
 (.region false [⟨some 47, .mv, [.t 10], none⟩,
 ⟨some 48, .bin .gtr, [.t 47, .c (.i 0)], none⟩,
 ⟨some 49, .mv, [.t 48], none⟩,
 ⟨some 50, .mv, [.t 8], some (49, true)⟩,
 ⟨some 51, .un .not, [.t 50], some (49, true)⟩,
 ⟨some 52, .pick, [.t 49, .t 51, .c (.b false)], none⟩] [47, 48, 49, 50, 51])
 (.cond (.t 52) [52]
 .skip
 (.exit 2)))
 (.seq
 (.block 3
 (.region false [⟨some 55, .mv, [.t 7], none⟩,
 ⟨some 56, .mv, [.t 0], none⟩,
 ⟨some 57, .mv, [.t 1], none⟩,
 ⟨some 58, .call n_spec_l20Rd_pick 29696, [.t 56, .t 57], none⟩,
 ⟨some 59, .build [.i 0, .i 0] [(0, 1), (1, 1)], [.c (.i 0), .t 58], none⟩,
 ⟨some 60, .bslice 30736 1 2 (.st [.i 0, .i 0]) [0], [.t 59], none⟩,
 ⟨some 61, .bslice 31240 1 1 (.sl 1 []) [0], [.t 60], none⟩,
 ⟨some 62, .app 31752 1, [.t 55, .t 61], none⟩,
 ⟨some 7, .mv, [.t 62], none⟩] [55, 56, 57, 58, 59, 60, 61, 62]))
 (.region false [⟨some 53, .mv, [.t 10], none⟩,
 ⟨some 54, .bin .sub, [.t 53, .c (.i 1)], none⟩,
 ⟨some 10, .mv, [.t 54], none⟩] [53, 54])))
def F_spec_l20Term_W1 : LC := .loop F_spec_l20Term_L1
def F_spec_l20Term_L2 : LC :=
 (.ghost (.rename 7 9736)
 (.seq
 (.seq
 (.region false [⟨some 63, .mv, [.t 7], none⟩,
 ⟨some 64, .len, [.t 63], none⟩,
 ⟨some 65, .bin .gtr, [.t 64, .c (.i 1)], none⟩] [63, 64])
 (.cond (.t 65) [65]
 .skip
 (.exit 4)))
 (.block 5
 (.seq
 (.region false [⟨some 66, .mv, [.t 0], none⟩,
 ⟨some 67, .mv, [.t 7], none⟩,
 ⟨some 68, .len, [.t 67], none⟩,
 ⟨some 69, .bin .sub, [.t 68, .c (.i 1)], none⟩,
 ⟨some 70, .call n_spec_l20Rd_pick 35840, [.t 66, .t 69], none⟩,
 ⟨some 12, .mv, [.t 70], none⟩] [66, 67, 68, 69, 70])
 (.seq
 (.seq
 (.region false [⟨some 71, .mv, [.t 11], none⟩,
 ⟨some 72, .bin .gtr, [.t 71, .c (.i 0)], none⟩,
 ⟨some 73, .mv, [.t 72], none⟩,
 ⟨some 74, .mv, [.t 0], some (73, true)⟩,
 ⟨some 75, .call n_spec_l20Rd_pick 38400, [.t 74, .c (.i 4)], some (73, true)⟩,
 ⟨some 76, .bin .eql, [.t 75, .c (.i 0)], some (73, true)⟩,
 ⟨some 77, .pick, [.t 73, .t 76, .c (.b false)], none⟩] [71, 72, 73, 74, 75, 76])
 (.cond (.t 77) [77]
 (.seq
 (.region false [⟨some 78, .mv, [.t 11], none⟩,
 ⟨some 79, .bin .sub, [.t 78, .c (.i 1)], none⟩,
 ⟨some 11, .mv, [.t 79], none⟩] [78, 79])
 (.seq
 (.region false [⟨some 80, .mv, [.t 7], none⟩,
 ⟨some 81, .mv, [.t 12], none⟩,
 ⟨some 82, .bslice 42000 0 2 (.st [.i 0, .i 0]) [], [], none⟩,
 ⟨some 83, .mv, [.t 7], none⟩,
 ⟨some 84, .mv, [.t 12], none⟩,
 ⟨some 85, .idxa 1, [.t 83, .t 84], none⟩,
 ⟨some 86, .load 1 false, [.t 85], none⟩,
 ⟨some 87, .app 44560 2, [.t 82, .t 86], none⟩,
 ⟨some 88, .build [.i 0, .i 0] [(0, 1)], [.c (.i 1)], none⟩,
 ⟨some 89, .bslice 45584 1 2 (.st [.i 0, .i 0]) [0], [.t 88], none⟩,
 ⟨some 90, .app 46096 2, [.t 87, .t 89], none⟩,
 ⟨some 91, .idxa 1, [.t 80, .t 81], none⟩,
 ⟨none, .store 1, [.t 91, .t 90], none⟩] [12, 80, 81, 82, 83, 84, 85, 86, 87, 88, 89, 90, 91])
 (.exit 5)))
 .skip))
 (.seq
 (.region true [⟨some 92, .bslice 47120 0 2 (.st [.i 0, .i 0]) [], [], none⟩,
 ⟨some 93, .mv, [.t 7], none⟩,
 ⟨some 94, .mv, [.t 12], none⟩,
 ⟨some 95, .idxa 1, [.t 93, .t 94], none⟩,
 ⟨some 96, .load 1 false, [.t 95], none⟩,
 ⟨some 97, .app 49680 2, [.t 92, .t 96], none⟩,
 ⟨some 98, .mv, [.t 7], none⟩,
 ⟨some 99, .mv, [.t 12], none⟩,
 ⟨some 100, .bin .add, [.t 99, .c (.i 1)], none⟩,
 ⟨some 101, .idxa 1, [.t 98, .t 100], none⟩,
 ⟨some 102, .load 1 false, [.t 101], none⟩,
 ⟨some 103, .app 52752 2, [.t 97, .t 102], none⟩,
 ⟨some 104, .mv, [.t 0], none⟩,
 ⟨some 105, .call n_spec_l20Rd_pick 53760, [.t 104, .c (.i 2)], none⟩,
 ⟨some 106, .bin .add, [.c (.i 2), .t 105], none⟩,
 ⟨some 107, .build [.i 0, .i 0] [(0, 1)], [.t 106], none⟩,
 ⟨some 108, .bslice 55312 1 2 (.st [.i 0, .i 0]) [0], [.t 107], none⟩,
 ⟨some 109, .app 55824 2, [.t 103, .t 108], none⟩,
 ⟨some 13, .mv, [.t 109], none⟩] [92, 93, 94, 95, 96, 97, 98, 99, 100, 101, 102, 103, 104, 105, 106, 107, 108, 109])
 (.seq
 (.region false [⟨some 110, .bslice 56328 0 1 (.sl 1 []) [], [], none⟩,
 ⟨some 111, .mv, [.t 7], none⟩,
 ⟨some 112, .mv, [.t 12], none⟩,
 ⟨some 113, .slice false true 1, [.t 111, .t 112], none⟩,
 ⟨some 114, .app 58376 1, [.t 110, .t 113], none⟩,
 ⟨some 14, .mv, [.t 114], none⟩] [110, 111, 112, 113, 114])
 (.seq
 (.region false [⟨some 115, .mv, [.t 14], none⟩,
 ⟨some 116, .mv, [.t 13], none⟩,
 ⟨some 117, .bslice 59912 1 1 (.sl 1 []) [0], [.t 116], none⟩,
 ⟨some 118, .app 60424 1, [.t 115, .t 117], none⟩,
 ⟨some 14, .mv, [.t 118], none⟩] [13, 115, 116, 117, 118])
 (.region false [⟨some 119, .mv, [.t 14], none⟩,
 ⟨some 120, .mv, [.t 7], none⟩,
 ⟨some 121, .mv, [.t 12], none⟩,
 ⟨some 122, .bin .add, [.t 121, .c (.i 2)], none⟩,
 ⟨some 123, .slice true false 1, [.t 120, .t 122], none⟩,
 ⟨some 124, .app 63496 1, [.t 119, .t 123], none⟩,
 ⟨some 7, .mv, [.t 124], none⟩] [12, 14, 119, 120, 121, 122, 123, 124])))))))))
def F_spec_l20Term_W2 : LC := .loop F_spec_l20Term_L2
def F_spec_l20Term : LF :=
 { nparams := 3, results := [.t 6], body :=
 (.seq
 (.region false [⟨some 6, .newnil 3088, [], none⟩] [6])
 (.seq
 (.region false [⟨some 16, .mv, [.t 1], none⟩,
 ⟨some 17, .mm true, [.t 16, .c (.i 1)], none⟩,
 ⟨some 18, .mm false, [.t 17, .c (.i 5)], none⟩,
 ⟨some 1, .mv, [.t 18], none⟩] [16, 17, 18])
 (.seq
 (.region false [⟨some 19, .bslice 9736 0 1 (.sl 1 []) [], [], none⟩,
 ⟨some 7, .mv, [.t 19], none⟩] [19])
 (.seq
 (.region false [⟨some 20, .mv, [.t 0], none⟩,
 ⟨some 21, .call n_spec_l20Rd_pick 10752, [.t 20, .c (.i 2)], none⟩,
 ⟨some 22, .bin .eql, [.t 21, .c (.i 0)], none⟩,
 ⟨some 8, .mv, [.t 22], none⟩] [20, 21, 22])
 (.seq
 (.seq
 (.region false [⟨some 9, .mv, [.c (.i 0)], none⟩] [])
 (.block 0
 F_spec_l20Term_W0))
 (.seq
 (.seq
 (.region false [⟨some 44, .mv, [.t 0], none⟩,
 ⟨some 45, .call n_spec_l20Rd_pick 23040, [.t 44, .c (.i 5)], none⟩,
 ⟨some 46, .bin .add, [.c (.i 1), .t 45], none⟩,
 ⟨some 10, .mv, [.t 46], none⟩] [9, 44, 45, 46])
 (.block 2
 F_spec_l20Term_W1))
 (.seq
 (.region false [⟨some 11, .mv, [.c (.i 2)], none⟩] [1, 8, 10])
 (.seq
 (.block 4
 F_spec_l20Term_W2)
 (.seq
 (.region false [⟨some 125, .mv, [.t 7], none⟩,
 ⟨some 126, .idxa 1, [.t 125, .c (.i 0)], none⟩,
 ⟨some 127, .load 1 false, [.t 126], none⟩,
 ⟨some 15, .mv, [.t 127], none⟩] [7, 11, 125, 126, 127])
 (.ghost (.promote 15 7696)
 (.seq
 (.seq
 (.region false [⟨some 128, .mv, [.t 0], none⟩,
 ⟨some 129, .mv, [.t 2], none⟩,
 ⟨some 130, .call n_spec_l20Rd_odd 66560, [.t 128, .t 129], none⟩] [2, 128, 129])
 (.cond (.t 130) [130]
 (.seq
 (.region false [⟨some 131, .mv, [.t 0], none⟩,
 ⟨some 132, .call n_spec_l20Rd_pick 67584, [.t 131, .c (.i 3)], none⟩] [131])
 (.block 6
 (.seq
 (.region false [⟨some 137, .bin .eql, [.t 132, .c (.i 0)], none⟩,
 ⟨some 136, .mv, [.t 137], none⟩] [137])
 (.cond (.t 136) [136]
 (.seq
 (.region false [⟨some 138, .bslice 70672 0 2 (.st [.i 0, .i 0]) [], [], none⟩,
 ⟨some 6, .mv, [.t 138], none⟩] [15, 132, 138])
 .ret)
 (.seq
 (.region false [⟨some 140, .bin .eql, [.t 132, .c (.i 1)], none⟩,
 ⟨some 139, .mv, [.t 140], none⟩] [132, 140])
 (.cond (.t 139) [139]
 (.seq
 (.region false [⟨some 141, .mv, [.t 15], none⟩,
 ⟨some 142, .build [.i 0, .i 0] [(0, 1)], [.c (.i 2)], none⟩,
 ⟨some 143, .bslice 73232 1 2 (.st [.i 0, .i 0]) [0], [.t 142], none⟩,
 ⟨some 144, .app 73744 2, [.t 141, .t 143], none⟩,
 ⟨some 6, .mv, [.t 144], none⟩] [15, 141, 142, 143, 144])
 .ret)
 (.region false [⟨some 133, .mv, [.t 15], none⟩,
 ⟨some 134, .build [.i 0, .i 0] [(0, 1), (1, 1)], [.c (.i 0), .c (.i 5)], none⟩,
 ⟨some 135, .idxa 2, [.t 133, .c (.i 0)], none⟩,
 ⟨none, .store 2, [.t 135, .t 134], none⟩] [133, 134, 135])))))))
 .skip))
 (.seq
 (.region false [⟨some 145, .mv, [.t 15], none⟩,
 ⟨some 6, .mv, [.t 145], none⟩] [15, 145])
 .ret)))))))))))) }
/-- spec.l20Rd).odd -/
def F_spec_l20Rd_odd : LF :=
 { nparams := 2, results := [.t 4], body :=
 (.seq
 (.region false [⟨some 4, .mv, [.c (.b false)], none⟩] [4])
 (.seq
 (.region false [⟨some 5, .mv, [.t 1], none⟩,
 ⟨some 6, .bin .gtr, [.t 5, .c (.i 0)], none⟩,
 ⟨some 7, .mv, [.t 6], none⟩,
 ⟨some 8, .mv, [.t 0], some (7, true)⟩,
 ⟨some 9, .mv, [.t 1], some (7, true)⟩,
 ⟨some 10, .call n_spec_l20Rd_pick 5120, [.t 8, .t 9], some (7, true)⟩,
 ⟨some 11, .mv, [.t 1], some (7, true)⟩,
 ⟨some 12, .bin .sub, [.t 11, .c (.i 1)], some (7, true)⟩,
 ⟨some 13, .bin .eql, [.t 10, .t 12], some (7, true)⟩,
 ⟨some 14, .pick, [.t 7, .t 13, .c (.b false)], none⟩,
 ⟨some 4, .mv, [.t 14], none⟩] [1, 5, 6, 7, 8, 9, 10, 11, 12, 13, 14])
 .ret)) }
/-- impl.KnownOk -/
def F_impl_KnownOk_L0 : LC :=
 (.seq
 (.region false [⟨some 19, .bin .lss, [.t 18, .t 17], none⟩] [])
 (.seq
 (.cond (.t 19) [19]
 .skip
 (.exit 0))
 (.seq
 (.block 1
 (.seq
 (.region false [⟨some 20, .idxa 1, [.t 16, .t 18], none⟩,
 ⟨some 21, .load 1 false, [.t 20], none⟩,
 ⟨some 6, .mv, [.t 21], none⟩] [20, 21])
 (.seq
 (.region false [⟨some 22, .mv, [.t 6], none⟩,
 ⟨some 23, .bin .neq, [.t 22, .c (.i (-1))], none⟩,
 ⟨some 24, .mv, [.t 23], none⟩,
 ⟨some 25, .mv, [.t 6], some (24, true)⟩,
 ⟨some 26, .bin .neq, [.t 25, .c (.i 0)], some (24, true)⟩,
 ⟨some 27, .pick, [.t 24, .t 26, .c (.b false)], none⟩,
 ⟨some 28, .mv, [.t 27], none⟩,
 ⟨some 29, .mv, [.t 6], some (28, true)⟩,
 ⟨some 30, .bin .neq, [.t 29, .c (.i 1)], some (28, true)⟩,
 ⟨some 31, .pick, [.t 28, .t 30, .c (.b false)], none⟩] [6, 22, 23, 24, 25, 26, 27, 28, 29, 30])
 (.cond (.t 31) [31]
 (.seq
 (.region false [⟨some 4, .mv, [.c (.b false)], none⟩] [16, 17, 18])
 .ret)
 .skip))))
 (.region false [⟨some 32, .bin .add, [.t 18, .c (.i 1)], none⟩,
 ⟨some 18, .mv, [.t 32], none⟩] [32]))))
def F_impl_KnownOk_W0 : LC := .loop F_impl_KnownOk_L0
def F_impl_KnownOk : LF :=
 { nparams := 2, results := [.t 4], body :=
 (.seq
 (.region false [⟨some 4, .mv, [.c (.b false)], none⟩] [4])
 (.seq
 (.seq
 (.region false [⟨some 7, .mv, [.t 0], none⟩,
 ⟨some 8, .call n_impl_manyOk 4096, [.t 7], none⟩,
 ⟨some 9, .un .not, [.t 8], none⟩,
 ⟨some 10, .mv, [.t 9], none⟩,
 ⟨some 11, .mv, [.t 1], some (10, false)⟩,
 ⟨some 12, .len, [.t 11], some (10, false)⟩,
 ⟨some 13, .mv, [.t 0], some (10, false)⟩,
 ⟨some 14, .bin .neq, [.t 12, .t 13], some (10, false)⟩,
 ⟨some 15, .pick, [.t 10, .c (.b true), .t 14], none⟩] [0, 7, 8, 9, 10, 11, 12, 13, 14])
 (.cond (.t 15) [15]
 (.seq
 (.region false [⟨some 4, .mv, [.c (.b false)], none⟩] [1])
 .ret)
 .skip))
 (.seq
 (.seq
 (.region false [⟨some 16, .mv, [.t 1], none⟩,
 ⟨some 17, .len, [.t 16], none⟩,
 ⟨some 18, .mv, [.c (.i 0)], none⟩] [1])
 (.block 0
 F_impl_KnownOk_W0))
 (.seq
 (.region false [⟨some 4, .mv, [.c (.b true)], none⟩] [16, 17, 18])
 .ret)))) }
/-- impl.agreeingStates -/
def F_impl_agreeingStates_L0 : LC :=
 (.seq
 (.region false [⟨some 9, .bin .lss, [.t 8, .t 7], none⟩] [])
 (.seq
 (.cond (.t 9) [9]
 .skip
 (.exit 0))
 (.seq
 (.block 1
 (.seq
 (.region false [⟨some 10, .mv, [.t 8], none⟩,
 ⟨some 11, .idxa 1, [.t 6, .t 8], none⟩,
 ⟨some 12, .load 1 false, [.t 11], none⟩,
 ⟨some 4, .mv, [.t 10], none⟩,
 ⟨some 5, .mv, [.t 12], none⟩] [10, 11, 12])
 (.seq
 (.region false [⟨some 13, .mv, [.t 5], none⟩] [5])
 (.block 2
 (.seq
 (.region false [⟨some 15, .bin .eql, [.t 13, .c (.i 0)], none⟩,
 ⟨some 14, .mv, [.t 15], none⟩] [15])
 (.cond (.t 14) [14]
 (.region false [⟨some 16, .mv, [.t 3], none⟩,
 ⟨some 17, .mv, [.t 4], none⟩,
 ⟨some 18, .idxp 5 1, [.t 1048576, .t 17], none⟩,
 ⟨some 19, .load 1 false, [.t 18], none⟩,
 ⟨some 20, .bin .andNot, [.t 16, .t 19], none⟩,
 ⟨some 3, .mv, [.t 20], none⟩] [4, 13, 16, 17, 18, 19, 20])
 (.seq
 (.region false [⟨some 22, .bin .eql, [.t 13, .c (.i 1)], none⟩,
 ⟨some 21, .mv, [.t 22], none⟩] [13, 22])
 (.cond (.t 21) [21]
 (.region false [⟨some 23, .mv, [.t 3], none⟩,
 ⟨some 24, .mv, [.t 4], none⟩,
 ⟨some 25, .idxp 5 1, [.t 1048576, .t 24], none⟩,
 ⟨some 26, .load 1 false, [.t 25], none⟩,
 ⟨some 27, .bin .and, [.t 23, .t 26], none⟩,
 ⟨some 3, .mv, [.t 27], none⟩] [4, 23, 24, 25, 26, 27])
 .skip))))))))
 (.region false [⟨some 28, .bin .add, [.t 8, .c (.i 1)], none⟩,
 ⟨some 8, .mv, [.t 28], none⟩] [4, 28]))))
def F_impl_agreeingStates_W0 : LC := .loop F_impl_agreeingStates_L0
def F_impl_agreeingStates : LF :=
 { gl := [0], nparams := 1, results := [.t 2], body :=
 (.seq
 (.region false [⟨some 2, .mv, [.c (.w (0#32))], none⟩] [2])
 (.seq
 (.region false [⟨some 3, .mv, [.c (.w (4294967295#32))], none⟩] [])
 (.seq
 (.seq
 (.region false [⟨some 6, .mv, [.t 0], none⟩,
 ⟨some 7, .len, [.t 6], none⟩,
 ⟨some 8, .mv, [.c (.i 0)], none⟩] [0])
 (.block 0
 F_impl_agreeingStates_W0))
 (.seq
 (.region false [⟨some 29, .mv, [.t 3], none⟩,
 ⟨some 2, .mv, [.t 29], none⟩] [3, 6, 7, 8, 29])
 .ret)))) }
/-- spec.l20Tests -/
def F_spec_l20Tests_L0 : LC :=
 (.seq
 (.seq
 (.region false [⟨some 11, .mv, [.t 6], none⟩,
 ⟨some 12, .bin .gtr, [.t 11, .c (.i 0)], none⟩] [11])
 (.cond (.t 12) [12]
 .skip
 (.exit 0)))
 (.seq
 (.block 1
 (.region false [⟨some 15, .mv, [.t 5], none⟩,
 ⟨some 16, .mv, [.t 0], none⟩,
 ⟨some 17, .call n_spec_l20Rd_pick 8704, [.t 16, .c (.i 9)], none⟩,
 ⟨some 18, .bin .add, [.c (.i 1), .t 17], none⟩,
 ⟨some 19, .mv, [.t 0], none⟩,
 ⟨some 20, .call n_spec_l20Rd_pick 10240, [.t 19, .c (.i 5)], none⟩,
 ⟨some 21, .bin .add, [.c (.i 1), .t 20], none⟩,
 ⟨some 22, .build [.i 0, .i 0] [(0, 1), (1, 1)], [.t 18, .t 21], none⟩,
 ⟨some 23, .bslice 11792 1 2 (.st [.i 0, .i 0]) [0], [.t 22], none⟩,
 ⟨some 24, .app 12304 2, [.t 15, .t 23], none⟩,
 ⟨some 5, .mv, [.t 24], none⟩] [15, 16, 17, 18, 19, 20, 21, 22, 23, 24]))
 (.region false [⟨some 13, .mv, [.t 6], none⟩,
 ⟨some 14, .bin .sub, [.t 13, .c (.i 1)], none⟩,
 ⟨some 6, .mv, [.t 14], none⟩] [13, 14])))
def F_spec_l20Tests_W0 : LC := .loop F_spec_l20Tests_L0
def F_spec_l20Tests : LF :=
 { nparams := 2, results := [.t 4], body :=
 (.seq
 (.region false [⟨some 4, .newnil 2064, [], none⟩] [4])
 (.seq
 (.region false [⟨some 7, .bslice 3600 0 2 (.st [.i 0, .i 0]) [], [], none⟩,
 ⟨some 5, .mv, [.t 7], none⟩] [7])
 (.seq
 (.seq
 (.region false [⟨some 8, .mv, [.t 0], none⟩,
 ⟨some 9, .call n_spec_l20Rd_pick 4608, [.t 8, .c (.i 5)], none⟩,
 ⟨some 10, .bin .add, [.c (.i 1), .t 9], none⟩,
 ⟨some 6, .mv, [.t 10], none⟩] [8, 9, 10])
 (.block 0
 F_spec_l20Tests_W0))
 (.seq
 (.seq
 (.region false [⟨some 25, .mv, [.t 0], none⟩,
 ⟨some 26, .mv, [.t 1], none⟩,
 ⟨some 27, .call n_spec_l20Rd_odd 13824, [.t 25, .t 26], none⟩] [1, 6, 25, 26])
 (.cond (.t 27) [27]
 (.seq
 (.region false [⟨some 28, .mv, [.t 0], none⟩,
 ⟨some 29, .call n_spec_l20Rd_pick 14848, [.t 28, .c (.i 3)], none⟩] [28])
 (.block 2
 (.seq
 (.region false [⟨some 39, .bin .eql, [.t 29, .c (.i 0)], none⟩,
 ⟨some 38, .mv, [.t 39], none⟩] [39])
 (.cond (.t 38) [38]
 (.seq
 (.region false [⟨some 40, .bslice 20496 0 2 (.st [.i 0, .i 0]) [], [], none⟩,
 ⟨some 4, .mv, [.t 40], none⟩] [5, 29, 40])
 .ret)
 (.seq
 (.region false [⟨some 42, .bin .eql, [.t 29, .c (.i 1)], none⟩,
 ⟨some 41, .mv, [.t 42], none⟩] [29, 42])
 (.cond (.t 41) [41]
 (.region false [⟨some 43, .mv, [.t 5], none⟩,
 ⟨some 44, .bslice 22536 2 1 (.i 0) [0, 1], [.c (.i 0), .c (.i 10)], none⟩,
 ⟨some 45, .mv, [.t 0], none⟩,
 ⟨some 46, .call n_spec_l20Rd_pick 23552, [.t 45, .c (.i 2)], none⟩,
 ⟨some 47, .idxa 1, [.t 44, .t 46], none⟩,
 ⟨some 48, .load 1 false, [.t 47], none⟩,
 ⟨some 49, .idxa 2, [.t 43, .c (.i 0)], none⟩,
 ⟨some 50, .fld 0 1 false, [.t 49], none⟩,
 ⟨none, .store 1, [.t 50, .t 48], none⟩] [43, 44, 45, 46, 47, 48, 49, 50])
 (.region false [⟨some 30, .mv, [.t 5], none⟩,
 ⟨some 31, .bslice 15880 2 1 (.i 0) [0, 1], [.c (.i 0), .c (.i 6)], none⟩,
 ⟨some 32, .mv, [.t 0], none⟩,
 ⟨some 33, .call n_spec_l20Rd_pick 16896, [.t 32, .c (.i 2)], none⟩,
 ⟨some 34, .idxa 1, [.t 31, .t 33], none⟩,
 ⟨some 35, .load 1 false, [.t 34], none⟩,
 ⟨some 36, .idxa 2, [.t 30, .c (.i 0)], none⟩,
 ⟨some 37, .fld 1 1 false, [.t 36], none⟩,
 ⟨none, .store 1, [.t 37, .t 35], none⟩] [30, 31, 32, 33, 34, 35, 36, 37])))))))
 .skip))
 (.seq
 (.region false [⟨some 51, .mv, [.t 5], none⟩,
 ⟨some 4, .mv, [.t 51], none⟩] [5, 51])
 .ret))))) }
/-- spec.l1Agrees -/
def F_spec_l1Agrees_L0 : LC :=
 (.seq
 (.seq
 (.region false [⟨some 6, .mv, [.t 5], none⟩,
 ⟨some 7, .mv, [.t 0], none⟩,
 ⟨some 8, .len, [.t 7], none⟩,
 ⟨some 9, .bin .lss, [.t 6, .t 8], none⟩] [6, 7, 8])
 (.cond (.t 9) [9]
 .skip
 (.exit 0)))
 (.seq
 (.block 1
 (.seq
 (.region true [⟨some 12, .mv, [.t 0], none⟩,
 ⟨some 13, .mv, [.t 5], none⟩,
 ⟨some 14, .idxa 1, [.t 12, .t 13], none⟩,
 ⟨some 15, .load 1 false, [.t 14], none⟩,
 ⟨some 16, .bin .neq, [.t 15, .c (.i (-1))], none⟩,
 ⟨some 17, .mv, [.t 16], none⟩,
 ⟨some 18, .mv, [.t 0], some (17, true)⟩,
 ⟨some 19, .mv, [.t 5], some (17, true)⟩,
 ⟨some 20, .idxa 1, [.t 18, .t 19], some (17, true)⟩,
 ⟨some 21, .load 1 false, [.t 20], some (17, true)⟩,
 ⟨some 22, .mv, [.t 1], some (17, true)⟩,
 ⟨some 23, .mv, [.t 5], some (17, true)⟩,
 ⟨some 24, .bin .shr, [.t 22, .t 23], some (17, true)⟩,
 ⟨some 25, .bin .rem, [.t 24, .c (.i 2)], some (17, true)⟩,
 ⟨some 26, .bin .neq, [.t 21, .t 25], some (17, true)⟩,
 ⟨some 27, .pick, [.t 17, .t 26, .c (.b false)], none⟩] [12, 13, 14, 15, 16, 17, 18, 19, 20, 21, 22, 23, 24, 25, 26])
 (.cond (.t 27) [27]
 (.seq
 (.region false [⟨some 4, .mv, [.c (.b false)], none⟩] [0, 1, 5])
 .ret)
 .skip)))
 (.region false [⟨some 10, .mv, [.t 5], none⟩,
 ⟨some 11, .bin .add, [.t 10, .c (.i 1)], none⟩,
 ⟨some 5, .mv, [.t 11], none⟩] [10, 11])))
def F_spec_l1Agrees_W0 : LC := .loop F_spec_l1Agrees_L0
def F_spec_l1Agrees : LF :=
 { nparams := 2, results := [.t 4], body :=
 (.seq
 (.region false [⟨some 4, .mv, [.c (.b false)], none⟩] [4])
 (.seq
 (.seq
 (.region false [⟨some 5, .mv, [.c (.i 0)], none⟩] [])
 (.block 0
 F_spec_l1Agrees_W0))
 (.seq
 (.region false [⟨some 4, .mv, [.c (.b true)], none⟩] [0, 1, 5])
 .ret))) }
/-- spec.l2Starts -/
def F_spec_l2Starts_L0 : LC :=
 (.seq
 (.seq
 (.region false [⟨some 8, .mv, [.t 5], none⟩,
 ⟨some 9, .bin .gtr, [.t 8, .c (.i 0)], none⟩] [8])
 (.cond (.t 9) [9]
 .skip
 (.exit 0)))
 (.block 1
 (.seq
 (.seq
 (.region false [⟨some 10, .mv, [.t 0], none⟩,
 ⟨some 11, .mv, [.t 6], none⟩,
 ⟨some 12, .idxa 2, [.t 10, .t 11], none⟩,
 ⟨some 13, .fld 0 1 false, [.t 12], none⟩,
 ⟨some 14, .load 1 false, [.t 13], none⟩] [10, 11, 12, 13])
 (.block 2
 (.seq
 (.region false [⟨some 18, .bin .eql, [.t 14, .c (.i 0)], none⟩,
 ⟨some 17, .mv, [.t 18], none⟩] [18])
 (.cond (.t 17) [17]
 (.region false [⟨some 19, .mv, [.t 5], none⟩,
 ⟨some 20, .bin .sub, [.t 19, .c (.i 1)], none⟩,
 ⟨some 5, .mv, [.t 20], none⟩] [14, 19, 20])
 (.seq
 (.region false [⟨some 22, .bin .eql, [.t 14, .c (.i 1)], none⟩,
 ⟨some 21, .mv, [.t 22], none⟩] [14, 22])
 (.cond (.t 21) [21]
 .skip
 (.region false [⟨some 15, .mv, [.t 5], none⟩,
 ⟨some 16, .bin .add, [.t 15, .c (.i 1)], none⟩,
 ⟨some 5, .mv, [.t 16], none⟩] [15, 16])))))))
 (.region false [⟨some 23, .mv, [.t 6], none⟩,
 ⟨some 24, .bin .sub, [.t 23, .c (.i 1)], none⟩,
 ⟨some 6, .mv, [.t 24], none⟩] [23, 24]))))
def F_spec_l2Starts_W0 : LC := .loop F_spec_l2Starts_L0
def F_spec_l2Starts : LF :=
 { nparams := 2, results := [.t 4], body :=
 (.seq
 (.region false [⟨some 4, .mv, [.c (.i 0)], none⟩] [4])
 (.seq
 (.region false [⟨some 5, .mv, [.c (.i 1)], none⟩] [])
 (.seq
 (.region false [⟨some 7, .mv, [.t 1], none⟩,
 ⟨some 6, .mv, [.t 7], none⟩] [1, 7])
 (.seq
 (.block 0
 F_spec_l2Starts_W0)
 (.seq
 (.region false [⟨some 25, .mv, [.t 6], none⟩,
 ⟨some 26, .bin .add, [.t 25, .c (.i 1)], none⟩,
 ⟨some 4, .mv, [.t 26], none⟩] [0, 5, 6, 25, 26])
 .ret))))) }
def lf : Nat → Option LF
 | 3 => some F_laws_FnExactAskedIn
 | 4 => some F_laws_FnExactCostIn
 | 5 => some F_laws_FnExactAverageIn
 | 6 => some F_laws_FnExactBestOrder
 | 7 => some F_laws_FnAskedIn
 | 8 => some F_laws_FnCostIn
 | 9 => some F_laws_FnAverageIn
 | 10 => some F_laws_FnBestOrder
 | 11 => some F_laws_FnIdleLast
 | 12 => some F_laws_szMarkS
 | 13 => some F_spec_AskedIn
 | 14 => some F_laws_toMarkS
 | 15 => some F_laws_toIntS
 | 16 => some F_impl_AskedIn
 | 17 => some F_laws_eqMarkS
 | 18 => some F_laws_eqIntS
 | 19 => some F_laws_szTestS
 | 20 => some F_spec_CostIn
 | 21 => some F_laws_toTestS
 | 22 => some F_impl_CostIn
 | 23 => some F_laws_eqTestS
 | 24 => some F_spec_AverageIn
 | 25 => some F_impl_AverageIn
 | 26 => some F_spec_BestOrder
 | 27 => some F_impl_BestOrder
 | 28 => some F_laws_markTestS
 | 29 => some F_laws_markMarkS
 | 30 => some F_laws_markIntS
 | 31 => some F_laws_heldIntS
 | 32 => some F_spec_DrawAskedIn
 | 33 => some F_laws_alive
 | 34 => some F_impl_ProofOk
 | 35 => some F_spec_DrawCostIn
 | 36 => some F_impl_CostOf
 | 37 => some F_spec_DrawAverageIn
 | 38 => some F_impl_WeightOf
 | 39 => some F_impl_OtherTests
 | 40 => some F_impl_DualTerm
 | 41 => some F_spec_DrawBestOrder
 | 42 => some F_laws_sameInts
 | 43 => some F_impl_SwappedOrder
 | 44 => some F_laws_power
 | 45 => some F_impl_IdleTests
 | 46 => some F_spec_TermOk
 | 47 => some F_spec_OrderOk
 | 48 => some F_spec_StateOk
 | 49 => some F_spec_l4Asked
 | 50 => some F_spec_l3Table
 | 51 => some F_laws_toMark
 | 52 => some F_impl_TermOk
 | 53 => some F_impl_OrderOk
 | 54 => some F_impl_StateOk
 | 55 => some F_impl_trueStates
 | 56 => some F_impl_hasState
 | 57 => some F_impl_openStates
 | 58 => some F_laws_eqMark
 | 59 => some F_spec_TestsOk
 | 60 => some F_laws_toTest
 | 61 => some F_impl_TestsOk
 | 62 => some F_laws_eqTest
 | 63 => some F_spec_l4Walk
 | 64 => some F_spec_l4None
 | 65 => some F_spec_l1Power
 | 66 => some F_impl_statesOf
 | 67 => some F_spec_l4Search
 | 68 => some F_impl_bestBehind
 | 69 => some F_impl_openWeights
 | 70 => some F_spec_l20Open
 | 71 => some F_spec_l20State
 | 72 => some F_spec_l20Order
 | 73 => some F_impl_ForcedBy
 | 74 => some F_impl_knownBy
 | 75 => some F_spec_l20Case
 | 76 => some F_spec_l20Rd_pick
 | 77 => some F_impl_outcomeIn
 | 78 => some F_impl_isWithin
 | 79 => some F_slices_Clone_int_int
 | 80 => some F_impl_testsWhere
 | 81 => some F_impl_IdleTests_1
 | 82 => some F_spec_l1In
 | 83 => some F_spec_l3Forced
 | 84 => some F_spec_l3Value
 | 85 => some F_impl_manyOk
 | 86 => some F_impl_partsTaken
 | 87 => some F_impl_markOk
 | 88 => some F_impl_hasTest
 | 89 => some F_impl_foldTerm_uint32
 | 90 => some F_impl_statesOfPart
 | 91 => some F_impl_turnedStates
 | 92 => some F_spec_l20Term
 | 93 => some F_spec_l20Rd_odd
 | 94 => some F_impl_KnownOk
 | 95 => some F_impl_agreeingStates
 | 96 => some F_spec_l20Tests
 | 97 => some F_spec_l1Agrees
 | 98 => some F_spec_l2Starts
 | _ => none
theorem w_laws_FnAskedIn_0 (S : LS) : ex lf F_laws_FnAskedIn_W0 S = match ex lf F_laws_FnAskedIn_L0 S with | some (.normal, S1) => ex lf F_laws_FnAskedIn_W0 S1 | r => r := ex_loop lf F_laws_FnAskedIn_L0 S
theorem w_laws_FnAverageIn_0 (S : LS) : ex lf F_laws_FnAverageIn_W0 S = match ex lf F_laws_FnAverageIn_L0 S with | some (.normal, S1) => ex lf F_laws_FnAverageIn_W0 S1 | r => r := ex_loop lf F_laws_FnAverageIn_L0 S
theorem w_laws_FnBestOrder_0 (S : LS) : ex lf F_laws_FnBestOrder_W0 S = match ex lf F_laws_FnBestOrder_L0 S with | some (.normal, S1) => ex lf F_laws_FnBestOrder_W0 S1 | r => r := ex_loop lf F_laws_FnBestOrder_L0 S
theorem w_laws_FnBestOrder_1 (S : LS) : ex lf F_laws_FnBestOrder_W1 S = match ex lf F_laws_FnBestOrder_L1 S with | some (.normal, S1) => ex lf F_laws_FnBestOrder_W1 S1 | r => r := ex_loop lf F_laws_FnBestOrder_L1 S
theorem w_laws_FnIdleLast_0 (S : LS) : ex lf F_laws_FnIdleLast_W0 S = match ex lf F_laws_FnIdleLast_L0 S with | some (.normal, S1) => ex lf F_laws_FnIdleLast_W0 S1 | r => r := ex_loop lf F_laws_FnIdleLast_L0 S
theorem w_laws_toMarkS_0 (S : LS) : ex lf F_laws_toMarkS_W0 S = match ex lf F_laws_toMarkS_L0 S with | some (.normal, S1) => ex lf F_laws_toMarkS_W0 S1 | r => r := ex_loop lf F_laws_toMarkS_L0 S
theorem w_laws_toIntS_0 (S : LS) : ex lf F_laws_toIntS_W0 S = match ex lf F_laws_toIntS_L0 S with | some (.normal, S1) => ex lf F_laws_toIntS_W0 S1 | r => r := ex_loop lf F_laws_toIntS_L0 S
theorem w_impl_AskedIn_0 (S : LS) : ex lf F_impl_AskedIn_W0 S = match ex lf F_impl_AskedIn_L0 S with | some (.normal, S1) => ex lf F_impl_AskedIn_W0 S1 | r => r := ex_loop lf F_impl_AskedIn_L0 S
theorem w_laws_eqMarkS_0 (S : LS) : ex lf F_laws_eqMarkS_W0 S = match ex lf F_laws_eqMarkS_L0 S with | some (.normal, S1) => ex lf F_laws_eqMarkS_W0 S1 | r => r := ex_loop lf F_laws_eqMarkS_L0 S
theorem w_laws_eqIntS_0 (S : LS) : ex lf F_laws_eqIntS_W0 S = match ex lf F_laws_eqIntS_L0 S with | some (.normal, S1) => ex lf F_laws_eqIntS_W0 S1 | r => r := ex_loop lf F_laws_eqIntS_L0 S
theorem w_spec_CostIn_0 (S : LS) : ex lf F_spec_CostIn_W0 S = match ex lf F_spec_CostIn_L0 S with | some (.normal, S1) => ex lf F_spec_CostIn_W0 S1 | r => r := ex_loop lf F_spec_CostIn_L0 S
theorem w_laws_toTestS_0 (S : LS) : ex lf F_laws_toTestS_W0 S = match ex lf F_laws_toTestS_L0 S with | some (.normal, S1) => ex lf F_laws_toTestS_W0 S1 | r => r := ex_loop lf F_laws_toTestS_L0 S
theorem w_impl_CostIn_0 (S : LS) : ex lf F_impl_CostIn_W0 S = match ex lf F_impl_CostIn_L0 S with | some (.normal, S1) => ex lf F_impl_CostIn_W0 S1 | r => r := ex_loop lf F_impl_CostIn_L0 S
theorem w_laws_eqTestS_0 (S : LS) : ex lf F_laws_eqTestS_W0 S = match ex lf F_laws_eqTestS_L0 S with | some (.normal, S1) => ex lf F_laws_eqTestS_W0 S1 | r => r := ex_loop lf F_laws_eqTestS_L0 S
theorem w_impl_AverageIn_0 (S : LS) : ex lf F_impl_AverageIn_W0 S = match ex lf F_impl_AverageIn_L0 S with | some (.normal, S1) => ex lf F_impl_AverageIn_W0 S1 | r => r := ex_loop lf F_impl_AverageIn_L0 S
theorem w_laws_markTestS_0 (S : LS) : ex lf F_laws_markTestS_W0 S = match ex lf F_laws_markTestS_L0 S with | some (.normal, S1) => ex lf F_laws_markTestS_W0 S1 | r => r := ex_loop lf F_laws_markTestS_L0 S
theorem w_laws_markMarkS_0 (S : LS) : ex lf F_laws_markMarkS_W0 S = match ex lf F_laws_markMarkS_L0 S with | some (.normal, S1) => ex lf F_laws_markMarkS_W0 S1 | r => r := ex_loop lf F_laws_markMarkS_L0 S
theorem w_laws_markIntS_0 (S : LS) : ex lf F_laws_markIntS_W0 S = match ex lf F_laws_markIntS_L0 S with | some (.normal, S1) => ex lf F_laws_markIntS_W0 S1 | r => r := ex_loop lf F_laws_markIntS_L0 S
theorem w_laws_heldIntS_0 (S : LS) : ex lf F_laws_heldIntS_W0 S = match ex lf F_laws_heldIntS_L0 S with | some (.normal, S1) => ex lf F_laws_heldIntS_W0 S1 | r => r := ex_loop lf F_laws_heldIntS_L0 S
theorem w_impl_CostOf_0 (S : LS) : ex lf F_impl_CostOf_W0 S = match ex lf F_impl_CostOf_L0 S with | some (.normal, S1) => ex lf F_impl_CostOf_W0 S1 | r => r := ex_loop lf F_impl_CostOf_L0 S
theorem w_impl_WeightOf_0 (S : LS) : ex lf F_impl_WeightOf_W0 S = match ex lf F_impl_WeightOf_L0 S with | some (.normal, S1) => ex lf F_impl_WeightOf_W0 S1 | r => r := ex_loop lf F_impl_WeightOf_L0 S
theorem w_impl_OtherTests_0 (S : LS) : ex lf F_impl_OtherTests_W0 S = match ex lf F_impl_OtherTests_L0 S with | some (.normal, S1) => ex lf F_impl_OtherTests_W0 S1 | r => r := ex_loop lf F_impl_OtherTests_L0 S
theorem w_impl_DualTerm_0 (S : LS) : ex lf F_impl_DualTerm_W0 S = match ex lf F_impl_DualTerm_L0 S with | some (.normal, S1) => ex lf F_impl_DualTerm_W0 S1 | r => r := ex_loop lf F_impl_DualTerm_L0 S
theorem w_laws_sameInts_0 (S : LS) : ex lf F_laws_sameInts_W0 S = match ex lf F_laws_sameInts_L0 S with | some (.normal, S1) => ex lf F_laws_sameInts_W0 S1 | r => r := ex_loop lf F_laws_sameInts_L0 S
theorem w_laws_power_0 (S : LS) : ex lf F_laws_power_W0 S = match ex lf F_laws_power_L0 S with | some (.normal, S1) => ex lf F_laws_power_W0 S1 | r => r := ex_loop lf F_laws_power_L0 S
theorem w_spec_TermOk_0 (S : LS) : ex lf F_spec_TermOk_W0 S = match ex lf F_spec_TermOk_L0 S with | some (.normal, S1) => ex lf F_spec_TermOk_W0 S1 | r => r := ex_loop lf F_spec_TermOk_L0 S
theorem w_spec_OrderOk_0 (S : LS) : ex lf F_spec_OrderOk_W0 S = match ex lf F_spec_OrderOk_L0 S with | some (.normal, S1) => ex lf F_spec_OrderOk_W0 S1 | r => r := ex_loop lf F_spec_OrderOk_L0 S
theorem w_spec_l4Asked_0 (S : LS) : ex lf F_spec_l4Asked_W0 S = match ex lf F_spec_l4Asked_L0 S with | some (.normal, S1) => ex lf F_spec_l4Asked_W0 S1 | r => r := ex_loop lf F_spec_l4Asked_L0 S
theorem w_spec_l3Table_0 (S : LS) : ex lf F_spec_l3Table_W0 S = match ex lf F_spec_l3Table_L0 S with | some (.normal, S1) => ex lf F_spec_l3Table_W0 S1 | r => r := ex_loop lf F_spec_l3Table_L0 S
theorem w_impl_TermOk_0 (S : LS) : ex lf F_impl_TermOk_W0 S = match ex lf F_impl_TermOk_L0 S with | some (.normal, S1) => ex lf F_impl_TermOk_W0 S1 | r => r := ex_loop lf F_impl_TermOk_L0 S
theorem w_impl_OrderOk_0 (S : LS) : ex lf F_impl_OrderOk_W0 S = match ex lf F_impl_OrderOk_L0 S with | some (.normal, S1) => ex lf F_impl_OrderOk_W0 S1 | r => r := ex_loop lf F_impl_OrderOk_L0 S
theorem w_impl_openStates_0 (S : LS) : ex lf F_impl_openStates_W0 S = match ex lf F_impl_openStates_L0 S with | some (.normal, S1) => ex lf F_impl_openStates_W0 S1 | r => r := ex_loop lf F_impl_openStates_L0 S
theorem w_spec_TestsOk_0 (S : LS) : ex lf F_spec_TestsOk_W0 S = match ex lf F_spec_TestsOk_L0 S with | some (.normal, S1) => ex lf F_spec_TestsOk_W0 S1 | r => r := ex_loop lf F_spec_TestsOk_L0 S
theorem w_impl_TestsOk_0 (S : LS) : ex lf F_impl_TestsOk_W0 S = match ex lf F_impl_TestsOk_L0 S with | some (.normal, S1) => ex lf F_impl_TestsOk_W0 S1 | r => r := ex_loop lf F_impl_TestsOk_L0 S
theorem w_spec_l4Walk_0 (S : LS) : ex lf F_spec_l4Walk_W0 S = match ex lf F_spec_l4Walk_L0 S with | some (.normal, S1) => ex lf F_spec_l4Walk_W0 S1 | r => r := ex_loop lf F_spec_l4Walk_L0 S
theorem w_spec_l4None_0 (S : LS) : ex lf F_spec_l4None_W0 S = match ex lf F_spec_l4None_L0 S with | some (.normal, S1) => ex lf F_spec_l4None_W0 S1 | r => r := ex_loop lf F_spec_l4None_L0 S
theorem w_spec_l1Power_0 (S : LS) : ex lf F_spec_l1Power_W0 S = match ex lf F_spec_l1Power_L0 S with | some (.normal, S1) => ex lf F_spec_l1Power_W0 S1 | r => r := ex_loop lf F_spec_l1Power_L0 S
theorem w_spec_l4Search_1 (S : LS) : ex lf F_spec_l4Search_W1 S = match ex lf F_spec_l4Search_L1 S with | some (.normal, S1) => ex lf F_spec_l4Search_W1 S1 | r => r := ex_loop lf F_spec_l4Search_L1 S
theorem w_spec_l4Search_0 (S : LS) : ex lf F_spec_l4Search_W0 S = match ex lf F_spec_l4Search_L0 S with | some (.normal, S1) => ex lf F_spec_l4Search_W0 S1 | r => r := ex_loop lf F_spec_l4Search_L0 S
theorem w_impl_bestBehind_0 (S : LS) : ex lf F_impl_bestBehind_W0 S = match ex lf F_impl_bestBehind_L0 S with | some (.normal, S1) => ex lf F_impl_bestBehind_W0 S1 | r => r := ex_loop lf F_impl_bestBehind_L0 S
theorem w_impl_openWeights_1 (S : LS) : ex lf F_impl_openWeights_W1 S = match ex lf F_impl_openWeights_L1 S with | some (.normal, S1) => ex lf F_impl_openWeights_W1 S1 | r => r := ex_loop lf F_impl_openWeights_L1 S
theorem w_impl_openWeights_0 (S : LS) : ex lf F_impl_openWeights_W0 S = match ex lf F_impl_openWeights_L0 S with | some (.normal, S1) => ex lf F_impl_openWeights_W0 S1 | r => r := ex_loop lf F_impl_openWeights_L0 S
theorem w_spec_l20Order_0 (S : LS) : ex lf F_spec_l20Order_W0 S = match ex lf F_spec_l20Order_L0 S with | some (.normal, S1) => ex lf F_spec_l20Order_W0 S1 | r => r := ex_loop lf F_spec_l20Order_L0 S
theorem w_impl_knownBy_0 (S : LS) : ex lf F_impl_knownBy_W0 S = match ex lf F_impl_knownBy_L0 S with | some (.normal, S1) => ex lf F_impl_knownBy_W0 S1 | r => r := ex_loop lf F_impl_knownBy_L0 S
theorem w_impl_testsWhere_0 (S : LS) : ex lf F_impl_testsWhere_W0 S = match ex lf F_impl_testsWhere_L0 S with | some (.normal, S1) => ex lf F_impl_testsWhere_W0 S1 | r => r := ex_loop lf F_impl_testsWhere_L0 S
theorem w_spec_l3Forced_0 (S : LS) : ex lf F_spec_l3Forced_W0 S = match ex lf F_spec_l3Forced_L0 S with | some (.normal, S1) => ex lf F_spec_l3Forced_W0 S1 | r => r := ex_loop lf F_spec_l3Forced_L0 S
theorem w_impl_foldTerm_uint32_0 (S : LS) : ex lf F_impl_foldTerm_uint32_W0 S = match ex lf F_impl_foldTerm_uint32_L0 S with | some (.normal, S1) => ex lf F_impl_foldTerm_uint32_W0 S1 | r => r := ex_loop lf F_impl_foldTerm_uint32_L0 S
theorem w_spec_l20Term_0 (S : LS) : ex lf F_spec_l20Term_W0 S = match ex lf F_spec_l20Term_L0 S with | some (.normal, S1) => ex lf F_spec_l20Term_W0 S1 | r => r := ex_loop lf F_spec_l20Term_L0 S
theorem w_spec_l20Term_1 (S : LS) : ex lf F_spec_l20Term_W1 S = match ex lf F_spec_l20Term_L1 S with | some (.normal, S1) => ex lf F_spec_l20Term_W1 S1 | r => r := ex_loop lf F_spec_l20Term_L1 S
theorem w_spec_l20Term_2 (S : LS) : ex lf F_spec_l20Term_W2 S = match ex lf F_spec_l20Term_L2 S with | some (.normal, S1) => ex lf F_spec_l20Term_W2 S1 | r => r := ex_loop lf F_spec_l20Term_L2 S
theorem w_impl_KnownOk_0 (S : LS) : ex lf F_impl_KnownOk_W0 S = match ex lf F_impl_KnownOk_L0 S with | some (.normal, S1) => ex lf F_impl_KnownOk_W0 S1 | r => r := ex_loop lf F_impl_KnownOk_L0 S
theorem w_impl_agreeingStates_0 (S : LS) : ex lf F_impl_agreeingStates_W0 S = match ex lf F_impl_agreeingStates_L0 S with | some (.normal, S1) => ex lf F_impl_agreeingStates_W0 S1 | r => r := ex_loop lf F_impl_agreeingStates_L0 S
theorem w_spec_l20Tests_0 (S : LS) : ex lf F_spec_l20Tests_W0 S = match ex lf F_spec_l20Tests_L0 S with | some (.normal, S1) => ex lf F_spec_l20Tests_W0 S1 | r => r := ex_loop lf F_spec_l20Tests_L0 S
theorem w_spec_l1Agrees_0 (S : LS) : ex lf F_spec_l1Agrees_W0 S = match ex lf F_spec_l1Agrees_L0 S with | some (.normal, S1) => ex lf F_spec_l1Agrees_W0 S1 | r => r := ex_loop lf F_spec_l1Agrees_L0 S
theorem w_spec_l2Starts_0 (S : LS) : ex lf F_spec_l2Starts_W0 S = match ex lf F_spec_l2Starts_L0 S with | some (.normal, S1) => ex lf F_spec_l2Starts_W0 S1 | r => r := ex_loop lf F_spec_l2Starts_L0 S
end Zz
