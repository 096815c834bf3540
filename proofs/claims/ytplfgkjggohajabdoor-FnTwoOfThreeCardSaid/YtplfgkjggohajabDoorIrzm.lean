/- The functions of the program, read as data. No conditions. -/
import Derived.Test.YtplfgkjggohajabDoorLgC
set_option linter.unusedSectionVars false
set_option linter.unusedVariables false
set_option linter.unusedSimpArgs false
namespace Zz
open Go.Lg
abbrev oK (d : Nat) (k : K) (a : List Opd) : LOp := ⟨some d, k, a, none⟩
abbrev oG (d : Nat) (k : K) (a : List Opd) (t : Nat) (b : Bool) : LOp := ⟨some d, k, a, some (t, b)⟩
def n_laws_FnTwoOfThree : Nat := 12
def n_laws_alive : Nat := 17
def n_spec_TestsOk : Nat := 28
def n_spec_DrawCountBest : Nat := 45
def n_impl_ReadTerm : Nat := 46
def n_impl_BestAverage : Nat := 47
def n_impl_CountBest : Nat := 48
def n_impl_TrueWeight : Nat := 49
def n_impl_CountWeight : Nat := 50
def n_spec_l20Open : Nat := 52
def n_impl_startOf : Nat := 55
def n_impl_TestsOk : Nat := 63
def n_impl_point_howManyAsked : Nat := 65
def n_spec_l20Rd_pick : Nat := 66
def n_impl_TermOk : Nat := 68
def n_spec_l20Tests : Nat := 69
def n_spec_l1In : Nat := 70
def n_impl_WeightOf : Nat := 72
def n_impl_isWithin : Nat := 73
def n_impl_StateOk : Nat := 77
def n_impl_hasState : Nat := 78
def n_impl_trueStates : Nat := 79
def n_spec_l20Count : Nat := 84
def n_impl_readOr : Nat := 85
def n_impl_TermText : Nat := 86
def n_impl_leastFrom : Nat := 87
def n_impl_averagesOf : Nat := 88
def n_impl_CountOk : Nat := 89
def n_impl_leastToCount : Nat := 90
def n_impl_allOf : Nat := 91
def n_impl_CountBest_1 : Nat := 92
def n_impl_weightOfStates : Nat := 93
def n_impl_statesOf : Nat := 94
def n_impl_sizeOf : Nat := 95
def n_impl_point_value : Nat := 98
def n_impl_point_answered : Nat := 99
def n_impl_letterOf : Nat := 100
def n_impl_point_canAsk : Nat := 107
def n_impl_manyOk : Nat := 108
def n_impl_placeOf : Nat := 112
def n_impl_partsTaken : Nat := 113
def n_impl_markOk : Nat := 114
def n_spec_l20Rd_odd : Nat := 115
def n_impl_outcomeIn : Nat := 117
def n_impl_foldTerm_uint32 : Nat := 118
def n_impl_statesOfPart : Nat := 119
def n_impl_readRow : Nat := 120
def n_impl_readAnd : Nat := 121
def n_impl_foldTerm_impl_writtenPart : Nat := 122
def n_impl_writePart : Nat := 123
def n_impl_point_isForced : Nat := 124
def n_impl_averagesOf_1 : Nat := 125
def n_impl_averageAsking : Nat := 126
def n_impl_hasTest : Nat := 127
def n_math_bits_OnesCount : Nat := 128
def n_impl_valueAmong : Nat := 133
def n_impl_statesSaying : Nat := 134
def n_impl_readNot : Nat := 140
def n_impl_bracketedFrom : Nat := 141
def n_impl_wholeOf : Nat := 142
def n_math_bits_OnesCount32 : Nat := 143
def n_math_bits_OnesCount64 : Nat := 144
def n_impl_readLetter : Nat := 151
def bkFs : List Nat := []
instance : GL := ⟨[(0,.st [.w (2863311530#32),.w (3435973836#32),.w (4042322160#32),.w (4278255360#32),.w (4294901760#32)])],[42,43,106],["l4_orders.go:82","l10_rounds.go:90"],[],[(67,[2]),(145,[4]),(148,[5]),(150,[0])],[],["l20_draw.go:447"],bkFs⟩
theorem gEnv_0 : gEnv [0] = [(1048576,.adr (.st [.w (2863311530#32),.w (3435973836#32),.w (4042322160#32),.w (4278255360#32),.w (4294901760#32)]))] := rfl
/-- laws.FnTwoOfThree -/
def F_laws_FnTwoOfThree : LF :=
 { nparams := 1,results := [.t 2],body :=
 (.seq
 (.region false [oK 2 .mv [.c (.b false)]] [2])
 (.seq
 (.seq
 (.region false [oK 8 .mv [.t 0],
 oK 9 .len [.t 8],
 oK 10 (.bin .gtr) [.t 9,.c (.i 1048576)]] [8,9])
 (.cond (.t 10) [10]
 (.seq
 (.region false [oK 2 .mv [.c (.b true)]] [0])
 .ret)
 .skip))
 (.seq
 (.region false [oK 12 .mv [.t 0],
 oK 13 (.call n_spec_DrawCountBest 6656) [.t 12],
 oK 11 .mv [.t 13],
 oK 14 (.ext 0) [.t 11],
 oK 15 (.ext 1) [.t 11],
 oK 3 .mv [.t 14],
 oK 4 .mv [.t 15]] [0,4,11,12,13,14,15])
 (.seq
 (.seq
 (.region false [oK 16 .mv [.t 3],
 oK 17 (.call n_spec_TestsOk 8704) [.t 16],
 oK 18 (.un .not) [.t 17],
 oK 19 .mv [.t 18],
 oG 20 .mv [.t 3] 19 false,
 oG 21 .len [.t 20] 19 false,
 oG 22 (.bin .lss) [.t 21,.c (.i 3)] 19 false,
 oK 23 .pick [.t 19,.c (.b true),.t 22]] [16,17,18,19,20,21,22])
 (.cond (.t 23) [23]
 (.seq
 (.region false [oK 24 (.call n_laws_alive 12288) [],
 oK 2 .mv [.t 24]] [3,24])
 .ret)
 .skip))
 (.seq
 (.region false [oK 25 .mv [.t 3],
 oK 26 (.slice false true 2) [.t 25,.c (.i 3)],
 oK 5 .mv [.t 26]] [3,25,26])
 (.seq
 (.region false [oK 28 (.call n_impl_ReadTerm 14336) [.c (.i 3),.c (.s [97,38,98,124,97,38,99,124,98,38,99])],
 oK 27 .mv [.t 28],
 oK 29 (.ext 0) [.t 27],
 oK 30 (.ext 1) [.t 27],
 oK 6 .mv [.t 29],
 oK 7 .mv [.t 30]] [27,28,29,30])
 (.seq
 (.region false [oK 31 (.call n_laws_alive 15872) [],
 oK 32 .mv [.t 31],
 oG 33 .mv [.t 7] 32 true,
 oG 34 .mv [.t 33] 32 true,
 oG 35 .mv [.t 5] 34 true,
 oG 36 .mv [.t 6] 34 true,
 oG 37 (.call n_impl_BestAverage 18944) [.t 35,.t 36] 34 true,
 oG 38 .mv [.t 5] 34 true,
 oG 39 (.call n_impl_CountBest 19968) [.t 38,.c (.i 2)] 34 true,
 oG 40 (.bin .eql) [.t 37,.t 39] 34 true,
 oG 41 .pick [.t 34,.t 40,.c (.b false)] 32 true,
 oG 42 .mv [.t 41] 32 true,
 oG 43 .mv [.t 5] 42 true,
 oG 44 .mv [.t 6] 42 true,
 oG 45 (.call n_impl_TrueWeight 23040) [.t 43,.t 44] 42 true,
 oG 46 .mv [.t 5] 42 true,
 oG 47 (.call n_impl_CountWeight 24064) [.t 46,.c (.i 2)] 42 true,
 oG 48 (.bin .eql) [.t 45,.t 47] 42 true,
 oG 49 .pick [.t 42,.t 48,.c (.b false)] 32 true,
 oK 50 .pick [.t 32,.t 49,.c (.b false)],
 oK 2 .mv [.t 50]] [5,6,7,31,32,33,34,35,36,37,38,39,40,41,42,43,44,45,46,47,48,49,50])
 .ret))))))) }
/-- laws.alive -/
def F_laws_alive : LF :=
 { nparams := 0,results := [.t 0],body :=
 (.seq
 (.region false [oK 0 .mv [.c (.b false)]] [0])
 (.seq
 (.region false [oK 1 (.build [.i 0,.i 0] [(0,1),(1,1)]) [.c (.i 1),.c (.i 1)],
 oK 2 (.bslice 1040 1 2 (.st [.i 0,.i 0]) [0]) [.t 1],
 oK 3 (.call n_impl_TestsOk 1536) [.t 2],
 oK 4 .mv [.t 3],
 oG 5 (.build [.i 0,.i 0] []) [] 4 true,
 oG 6 (.bslice 3088 1 2 (.st [.i 0,.i 0]) [0]) [.t 5] 4 true,
 oG 7 (.call n_impl_TestsOk 3584) [.t 6] 4 true,
 oG 8 (.un .not) [.t 7] 4 true,
 oK 9 .pick [.t 4,.t 8,.c (.b false)],
 oK 0 .mv [.t 9]] [1,2,3,4,5,6,7,8,9])
 .ret)) }
/-- spec.TestsOk -/
def F_spec_TestsOk_L0 : LC :=
 (.seq
 (.seq
 (.region false [oK 4 .mv [.t 3],
 oK 5 .mv [.t 0],
 oK 6 .len [.t 5],
 oK 7 (.bin .lss) [.t 4,.t 6]] [4,5,6])
 (.cond (.t 7) [7]
 .skip
 (.exit 0)))
 (.seq
 (.block 1
 (.seq
 (.region false [oK 10 .mv [.t 0],
 oK 11 .mv [.t 3],
 oK 12 (.idxa 2) [.t 10,.t 11],
 oK 13 (.fld 0 1 false) [.t 12],
 oK 14 (.load 1 false) [.t 13],
 oK 15 (.call n_spec_l1In 7680) [.t 14,.c (.i 1),.c (.i 9)],
 oK 16 (.un .not) [.t 15],
 oK 17 .mv [.t 16],
 oG 18 .mv [.t 0] 17 false,
 oG 19 .mv [.t 3] 17 false,
 oG 20 (.idxa 2) [.t 18,.t 19] 17 false,
 oG 21 (.fld 1 1 false) [.t 20] 17 false,
 oG 22 (.load 1 false) [.t 21] 17 false,
 oG 23 (.call n_spec_l1In 11776) [.t 22,.c (.i 1),.c (.i 5)] 17 false,
 oG 24 (.un .not) [.t 23] 17 false,
 oK 25 .pick [.t 17,.c (.b true),.t 24]] [10,11,12,13,14,15,16,17,18,19,20,21,22,23,24])
 (.cond (.t 25) [25]
 (.seq
 (.region false [oK 2 .mv [.c (.b false)]] [0,3])
 .ret)
 .skip)))
 (.region false [oK 8 .mv [.t 3],
 oK 9 (.bin .add) [.t 8,.c (.i 1)],
 oK 3 .mv [.t 9]] [8,9])))
def F_spec_TestsOk_W0 : LC := .loop F_spec_TestsOk_L0
def F_spec_TestsOk : LF :=
 { nparams := 1,results := [.t 2],body :=
 (.seq
 (.region false [oK 2 .mv [.c (.b false)]] [2])
 (.seq
 (.seq
 (.region false [oK 3 .mv [.c (.i 0)]] [])
 (.block 0
 F_spec_TestsOk_W0))
 (.seq
 (.region false [oK 26 .mv [.t 0],
 oK 27 .len [.t 26],
 oK 28 (.call n_spec_l1In 14336) [.t 27,.c (.i 1),.c (.i 5)],
 oK 2 .mv [.t 28]] [0,3,26,27,28])
 .ret))) }
/-- spec.DrawCountBest -/
def F_spec_DrawCountBest : LF :=
 { nparams := 1,results := [.t 2,.t 3],body :=
 (.seq
 (.region false [oK 2 (.newnil 1040) [],
 oK 3 .mv [.c (.i 0)]] [2,3])
 (.seq
 (.region false [oK 4 .mv [.t 0],
 oK 5 (.call n_spec_l20Open 2560) [.t 4],
 oK 6 (.call n_spec_l20Count 3072) [.t 5],
 oK 7 (.ext 0) [.t 6],
 oK 8 (.ext 1) [.t 6],
 oK 2 .mv [.t 7],
 oK 3 .mv [.t 8]] [0,4,5,6,7,8])
 .ret)) }
/-- impl.ReadTerm -/
def F_impl_ReadTerm : LF :=
 { nparams := 2,results := [.t 4,.t 5],body :=
 (.seq
 (.region false [oK 4 (.newnil 2064) [],
 oK 5 .mv [.c (.b false)]] [4,5])
 (.seq
 (.seq
 (.region false [oK 8 .mv [.t 1],
 oK 9 .lens [.t 8],
 oK 10 (.bin .gtr) [.t 9,.c (.i 80)]] [8,9])
 (.cond (.t 10) [10]
 (.seq
 (.region false [oK 4 (.newnil 2064) [],
 oK 5 .mv [.c (.b false)]] [0,1])
 .ret)
 .skip))
 (.seq
 (.region false [oK 12 .mv [.t 1],
 oK 13 (.call n_impl_readOr 6656) [.t 12],
 oK 11 .mv [.t 13],
 oK 14 (.ext 0) [.t 11],
 oK 15 (.ext 1) [.t 11],
 oK 6 .mv [.t 14],
 oK 7 .mv [.t 15]] [11,12,13,14,15])
 (.seq
 (.seq
 (.region false [oK 16 .mv [.t 7],
 oK 17 (.bin .neq) [.t 16,.c (.s [])],
 oK 18 .mv [.t 17],
 oG 19 .mv [.t 0] 18 false,
 oG 20 .mv [.t 6] 18 false,
 oG 21 (.call n_impl_TermOk 10752) [.t 19,.t 20] 18 false,
 oG 22 (.un .not) [.t 21] 18 false,
 oK 23 .pick [.t 18,.c (.b true),.t 22],
 oK 24 .mv [.t 23],
 oG 25 .mv [.t 0] 24 false,
 oG 26 .mv [.t 6] 24 false,
 oG 27 (.call n_impl_TermText 13824) [.t 25,.t 26] 24 false,
 oG 28 .mv [.t 1] 24 false,
 oG 29 (.bin .neq) [.t 27,.t 28] 24 false,
 oK 30 .pick [.t 24,.c (.b true),.t 29]] [0,1,7,16,17,18,19,20,21,22,23,24,25,26,27,28,29])
 (.cond (.t 30) [30]
 (.seq
 (.region false [oK 4 (.newnil 2064) [],
 oK 5 .mv [.c (.b false)]] [6])
 .ret)
 .skip))
 (.seq
 (.region false [oK 31 .mv [.t 6],
 oK 4 .mv [.t 31],
 oK 5 .mv [.c (.b true)]] [6,31])
 .ret))))) }
/-- impl.BestAverage -/
def F_impl_BestAverage : LF :=
 { nparams := 2,results := [.t 4],body :=
 (.seq
 (.region false [oK 4 .mv [.c (.i 0)]] [4])
 (.seq
 (.region false [oK 8 .mv [.t 0],
 oK 9 .len [.t 8],
 oK 5 .mv [.t 9]] [8,9])
 (.seq
 (.seq
 (.region false [oK 10 .mv [.t 0],
 oK 11 (.call n_impl_TestsOk 5632) [.t 10],
 oK 12 (.un .not) [.t 11],
 oK 13 .mv [.t 12],
 oG 14 .mv [.t 5] 13 false,
 oG 15 .mv [.t 1] 13 false,
 oG 16 (.call n_impl_TermOk 8192) [.t 14,.t 15] 13 false,
 oG 17 (.un .not) [.t 16] 13 false,
 oK 18 .pick [.t 13,.c (.b true),.t 17]] [10,11,12,13,14,15,16,17])
 (.cond (.t 18) [18]
 (.seq
 (.region false [oK 4 .mv [.c (.i (-1))]] [0,1,5])
 .ret)
 .skip))
 (.seq
 (.region false [oK 20 .mv [.t 5],
 oK 21 .mv [.t 1],
 oK 22 (.call n_impl_startOf 11264) [.t 20,.t 21],
 oK 23 .mv [.t 0],
 oK 24 (.call n_impl_averagesOf 12288) [.t 23],
 oK 25 (.call n_impl_leastFrom 12800) [.t 22,.t 24],
 oK 19 .mv [.t 25],
 oK 26 (.ext 0) [.t 19],
 oK 27 (.ext 1) [.t 19],
 oK 6 .mv [.t 26],
 oK 7 .mv [.t 27]] [0,1,5,6,19,20,21,22,23,24,25,26,27])
 (.seq
 (.region false [oK 28 .mv [.t 7],
 oK 4 .mv [.t 28]] [7,28])
 .ret))))) }
/-- impl.CountBest -/
def F_impl_CountBest : LF :=
 { nparams := 2,results := [.t 4],body :=
 (.seq
 (.region false [oK 4 .mv [.c (.i 0)]] [4])
 (.seq
 (.seq
 (.region false [oK 5 .mv [.t 0],
 oK 6 .mv [.t 1],
 oK 7 (.call n_impl_CountOk 3584) [.t 5,.t 6],
 oK 8 (.un .not) [.t 7]] [5,6,7])
 (.cond (.t 8) [8]
 (.seq
 (.region false [oK 4 .mv [.c (.i (-1))]] [0,1])
 .ret)
 .skip))
 (.seq
 (.region false [oK 9 .mv [.t 0],
 oK 10 .mv [.t 0],
 oK 11 (.call n_impl_allOf 5632) [.t 10],
 oK 12 .mv [.t 1],
 oK 13 (.call n_impl_leastToCount 6656) [.t 9,.t 11,.t 12,.c (.fn n_impl_CountBest_1 [])],
 oK 4 .mv [.t 13]] [0,1,9,10,11,12,13])
 .ret))) }
/-- impl.TrueWeight -/
def F_impl_TrueWeight : LF :=
 { nparams := 2,results := [.t 4],body :=
 (.seq
 (.region false [oK 4 .mv [.c (.i 0)]] [4])
 (.seq
 (.seq
 (.region false [oK 5 .mv [.t 0],
 oK 6 (.call n_impl_TestsOk 3072) [.t 5],
 oK 7 (.un .not) [.t 6],
 oK 8 .mv [.t 7],
 oG 9 .mv [.t 0] 8 false,
 oG 10 .len [.t 9] 8 false,
 oG 11 .mv [.t 1] 8 false,
 oG 12 (.call n_impl_TermOk 6144) [.t 10,.t 11] 8 false,
 oG 13 (.un .not) [.t 12] 8 false,
 oK 14 .pick [.t 8,.c (.b true),.t 13]] [5,6,7,8,9,10,11,12,13])
 (.cond (.t 14) [14]
 (.seq
 (.region false [oK 4 .mv [.c (.i (-1))]] [0,1])
 .ret)
 .skip))
 (.seq
 (.region false [oK 15 .mv [.t 0],
 oK 16 .mv [.t 1],
 oK 17 (.call n_impl_trueStates 8704) [.t 16],
 oK 18 (.call n_impl_weightOfStates 9216) [.t 15,.t 17],
 oK 4 .mv [.t 18]] [0,1,15,16,17,18])
 .ret))) }
/-- impl.CountWeight -/
def F_impl_CountWeight_L0 : LC :=
 (.seq
 (.region false [oK 15 (.bin .lss) [.t 14,.t 13]] [])
 (.seq
 (.cond (.t 15) [15]
 .skip
 (.exit 0))
 (.seq
 (.block 1
 (.seq
 (.region false [oK 16 .mv [.t 14],
 oK 6 .mv [.t 16]] [16])
 (.seq
 (.region false [oK 17 .mv [.t 6],
 oK 18 (.call n_impl_sizeOf 9216) [.t 17],
 oK 19 .mv [.t 1],
 oK 20 (.bin .geq) [.t 18,.t 19]] [17,18,19])
 (.cond (.t 20) [20]
 (.region false [oK 21 .mv [.t 5],
 oK 22 .mv [.t 0],
 oK 23 .mv [.t 6],
 oK 24 (.call n_impl_WeightOf 12288) [.t 22,.t 23],
 oK 25 (.bin .add) [.t 21,.t 24],
 oK 5 .mv [.t 25]] [6,21,22,23,24,25])
 .skip))))
 (.region false [oK 26 (.bin .add) [.t 14,.c (.i 1)],
 oK 14 .mv [.t 26]] [6,26]))))
def F_impl_CountWeight_W0 : LC := .loop F_impl_CountWeight_L0
def F_impl_CountWeight : LF :=
 { nparams := 2,results := [.t 4],body :=
 (.seq
 (.region false [oK 4 .mv [.c (.i 0)]] [4])
 (.seq
 (.seq
 (.region false [oK 7 .mv [.t 0],
 oK 8 .mv [.t 1],
 oK 9 (.call n_impl_CountOk 4608) [.t 7,.t 8],
 oK 10 (.un .not) [.t 9]] [7,8,9])
 (.cond (.t 10) [10]
 (.seq
 (.region false [oK 4 .mv [.c (.i (-1))]] [0,1])
 .ret)
 .skip))
 (.seq
 (.region false [oK 5 .mv [.c (.i 0)]] [])
 (.seq
 (.seq
 (.region false [oK 11 .mv [.t 0],
 oK 12 .len [.t 11],
 oK 13 (.call n_impl_statesOf 6656) [.t 12],
 oK 14 .mv [.c (.i 0)]] [11,12])
 (.block 0
 F_impl_CountWeight_W0))
 (.seq
 (.region false [oK 27 .mv [.t 5],
 oK 4 .mv [.t 27]] [0,1,5,13,14,27])
 .ret))))) }
/-- spec.l20Open -/
def F_spec_l20Open : LF :=
 { nparams := 1,results := [.t 2],body :=
 (.seq
 (.region false [oK 2 .mv [.c (.np)]] [2])
 (.seq
 (.seq
 (.region false [oK 3 .mv [.t 0],
 oK 4 .len [.t 3],
 oK 5 (.bin .gtr) [.t 4,.c (.i 2000)]] [3,4])
 (.cond (.t 5) [5]
 (.region false [oK 6 .mv [.t 0],
 oK 7 (.slice false true 1) [.t 6,.c (.i 2000)],
 oK 0 .mv [.t 7]] [6,7])
 .skip))
 (.seq
 (.region false [oK 8 .mv [.t 0],
 oK 9 (.build [.sl 1 [],.i 0] [(0,1)]) [.t 8],
 oK 10 (.box 5136) [.t 9],
 oK 2 .mv [.t 10]] [0,8,9,10])
 .ret))) }
/-- impl.startOf -/
def F_impl_startOf : LF :=
 { nparams := 2,results := [.c 4 4 true],body :=
 (.seq
 (.region false [oK 4 (.alloc 2080 (.st [.i 0,.i 0,.w (0#32),.w (0#32)])) []] [])
 (.seq
 (.region false [oK 5 .mv [.t 0],
 oK 6 .mv [.t 1],
 oK 7 (.call n_impl_trueStates 3584) [.t 6],
 oK 8 (.build [.i 0,.i 0,.w (0#32),.w (0#32)] [(0,1),(2,1),(3,1)]) [.t 5,.c (.w (4294967295#32)),.t 7],
 ⟨none,.store 4,[.t 4,.t 8],none⟩] [0,1,5,6,7,8])
 .ret)) }
/-- impl.TestsOk -/
def F_impl_TestsOk_L0 : LC :=
 (.seq
 (.region false [oK 12 (.bin .lss) [.t 11,.t 10]] [])
 (.seq
 (.cond (.t 12) [12]
 .skip
 (.exit 0))
 (.seq
 (.block 1
 (.seq
 (.region false [oK 13 (.idxa 2) [.t 9,.t 11],
 oK 14 (.load 2 true) [.t 13],
 oK 4 (.alloc 2064 (.st [.i 0,.i 0])) [],
 ⟨none,.store 2,[.t 4,.t 14],none⟩] [13,14])
 (.seq
 (.region false [oK 15 (.fld 0 1 false) [.t 4],
 oK 16 (.load 1 false) [.t 15],
 oK 17 (.call n_impl_isWithin 8704) [.t 16,.c (.i 1),.c (.i 9)],
 oK 18 (.un .not) [.t 17],
 oK 19 .mv [.t 18],
 oG 20 (.fld 1 1 false) [.t 4] 19 false,
 oG 21 (.load 1 false) [.t 20] 19 false,
 oG 22 (.call n_impl_isWithin 11264) [.t 21,.c (.i 1),.c (.i 5)] 19 false,
 oG 23 (.un .not) [.t 22] 19 false,
 oK 24 .pick [.t 19,.c (.b true),.t 23]] [4,15,16,17,18,19,20,21,22,23])
 (.cond (.t 24) [24]
 (.seq
 (.region false [oK 2 .mv [.c (.b false)]] [9,10,11])
 .ret)
 .skip))))
 (.region false [oK 25 (.bin .add) [.t 11,.c (.i 1)],
 oK 11 .mv [.t 25]] [25]))))
def F_impl_TestsOk_W0 : LC := .loop F_impl_TestsOk_L0
def F_impl_TestsOk : LF :=
 { nparams := 1,results := [.t 2],body :=
 (.seq
 (.region false [oK 2 .mv [.c (.b false)]] [2])
 (.seq
 (.seq
 (.region false [oK 5 .mv [.t 0],
 oK 6 .len [.t 5],
 oK 7 (.call n_impl_manyOk 3584) [.t 6],
 oK 8 (.un .not) [.t 7]] [5,6,7])
 (.cond (.t 8) [8]
 (.seq
 (.region false [oK 2 .mv [.c (.b false)]] [0])
 .ret)
 .skip))
 (.seq
 (.seq
 (.region false [oK 9 .mv [.t 0],
 oK 10 .len [.t 9],
 oK 11 .mv [.c (.i 0)]] [0])
 (.block 0
 F_impl_TestsOk_W0))
 (.seq
 (.region false [oK 2 .mv [.c (.b true)]] [9,10,11])
 .ret)))) }
/-- impl.point).howManyAsked -/
def F_impl_point_howManyAsked : LF :=
 { nparams := 1,results := [.t 2],body :=
 (.seq
 (.region false [oK 1 (.box 544) [.t 0],
 oK 2 .mv [.c (.i 0)]] [0,2])
 (.seq
 (.region false [oK 3 (.fld 1 1 false) [.t 1],
 oK 4 (.load 1 false) [.t 3],
 oK 5 (.call n_impl_sizeOf 2560) [.t 4],
 oK 2 .mv [.t 5]] [1,3,4,5])
 .ret)) }
/-- spec.l20Rd).pick -/
def F_spec_l20Rd_pick : LF :=
 { nparams := 2,results := [.t 4],body :=
 (.seq
 (.region false [oK 4 .mv [.c (.i 0)]] [4])
 (.seq
 (.region false [oK 7 .mv [.t 0],
 oK 8 .mv [.t 0],
 oK 9 .chk [.t 8],
 oK 10 (.fld 1 1 false) [.t 9],
 oK 11 (.load 1 false) [.t 10],
 oK 12 (.bin .add) [.t 11,.c (.i 1)],
 oK 13 .chk [.t 7],
 oK 14 (.fld 1 1 false) [.t 13],
 ⟨none,.store 1,[.t 14,.t 12],none⟩] [7,8,9,10,11,12,13,14])
 (.seq
 (.seq
 (.region false [oK 15 .mv [.t 1],
 oK 16 (.bin .lss) [.t 15,.c (.i 1)],
 oK 17 .mv [.t 16],
 oG 18 .mv [.t 0] 17 false,
 oG 19 .chk [.t 18] 17 false,
 oG 20 (.fld 0 1 false) [.t 19] 17 false,
 oG 21 (.load 1 false) [.t 20] 17 false,
 oG 22 .len [.t 21] 17 false,
 oG 23 (.bin .eql) [.t 22,.c (.i 0)] 17 false,
 oK 24 .pick [.t 17,.c (.b true),.t 23]] [15,16,17,18,19,20,21,22,23])
 (.cond (.t 24) [24]
 (.seq
 (.region false [oK 4 .mv [.c (.i 0)]] [1])
 .ret)
 .skip))
 (.seq
 (.region false [oK 25 .mv [.t 0],
 oK 26 .chk [.t 25],
 oK 27 (.fld 1 1 false) [.t 26],
 oK 28 (.load 1 false) [.t 27],
 oK 29 (.bin .sub) [.t 28,.c (.i 1)],
 oK 5 .mv [.t 29]] [25,26,27,28,29])
 (.seq
 (.seq
 (.region false [oK 30 .mv [.t 5],
 oK 31 .mv [.t 0],
 oK 32 .chk [.t 31],
 oK 33 (.fld 0 1 false) [.t 32],
 oK 34 (.load 1 false) [.t 33],
 oK 35 .len [.t 34],
 oK 36 (.bin .lss) [.t 30,.t 35]] [30,31,32,33,34,35])
 (.cond (.t 36) [36]
 (.seq
 (.region false [oK 37 .mv [.t 0],
 oK 38 .chk [.t 37],
 oK 39 (.fld 0 1 false) [.t 38],
 oK 40 (.load 1 false) [.t 39],
 oK 41 .mv [.t 5],
 oK 42 (.idxa 1) [.t 40,.t 41],
 oK 43 (.load 1 false) [.t 42],
 oK 44 (.conv .b2i 22528) [.t 43],
 oK 45 .mv [.t 1],
 oK 46 (.bin .rem) [.t 44,.t 45],
 oK 4 .mv [.t 46]] [1,5,37,38,39,40,41,42,43,44,45,46])
 .ret)
 .skip))
 (.seq
 (.region true [oK 47 .mv [.t 0],
 oK 48 .chk [.t 47],
 oK 49 (.fld 0 1 false) [.t 48],
 oK 50 (.load 1 false) [.t 49],
 oK 51 .mv [.t 5],
 oK 52 .mv [.t 0],
 oK 53 .chk [.t 52],
 oK 54 (.fld 0 1 false) [.t 53],
 oK 55 (.load 1 false) [.t 54],
 oK 56 .len [.t 55],
 oK 57 (.bin .rem) [.t 51,.t 56],
 oK 58 (.idxa 1) [.t 50,.t 57],
 oK 59 (.load 1 false) [.t 58],
 oK 60 (.conv .b2i 30720) [.t 59],
 oK 61 (.bin .mul) [.t 60,.c (.i 131)],
 oK 62 .mv [.t 0],
 oK 63 .chk [.t 62],
 oK 64 (.fld 0 1 false) [.t 63],
 oK 65 (.load 1 false) [.t 64],
 oK 66 .mv [.t 5],
 oK 67 (.bin .mul) [.t 66,.c (.i 7)],
 oK 68 (.bin .add) [.t 67,.c (.i 3)],
 oK 69 .mv [.t 0],
 oK 70 .chk [.t 69],
 oK 71 (.fld 0 1 false) [.t 70],
 oK 72 (.load 1 false) [.t 71],
 oK 73 .len [.t 72],
 oK 74 (.bin .rem) [.t 68,.t 73],
 oK 75 (.idxa 1) [.t 65,.t 74],
 oK 76 (.load 1 false) [.t 75],
 oK 77 (.conv .b2i 39424) [.t 76],
 oK 78 (.bin .mul) [.t 77,.c (.i 1117)],
 oK 79 (.bin .add) [.t 61,.t 78],
 oK 80 .mv [.t 5],
 oK 81 (.bin .mul) [.t 80,.c (.i 29)],
 oK 82 (.bin .add) [.t 79,.t 81],
 oK 83 .mv [.t 5],
 oK 84 .mv [.t 0],
 oK 85 .chk [.t 84],
 oK 86 (.fld 0 1 false) [.t 85],
 oK 87 (.load 1 false) [.t 86],
 oK 88 .len [.t 87],
 oK 89 (.bin .quo) [.t 83,.t 88],
 oK 90 (.bin .mul) [.t 89,.c (.i 53)],
 oK 91 (.bin .add) [.t 82,.t 90],
 oK 6 .mv [.t 91]] [5,47,48,49,50,51,52,53,54,55,56,57,58,59,60,61,62,63,64,65,66,67,68,69,70,71,72,73,74,75,76,77,78,79,80,81,82,83,84,85,86,87,88,89,90,91])
 (.seq
 (.region false [oK 92 .mv [.t 6],
 oK 93 .mv [.t 6],
 oK 94 (.bin .quo) [.t 93,.c (.i 64)],
 oK 95 (.bin .xor) [.t 92,.t 94],
 oK 6 .mv [.t 95]] [92,93,94,95])
 (.seq
 (.region false [oK 96 .mv [.t 6],
 oK 97 .mv [.t 1],
 oK 98 (.bin .rem) [.t 96,.t 97],
 oK 4 .mv [.t 98]] [1,6,96,97,98])
 .ret)))))))) }
/-- impl.TermOk -/
def F_impl_TermOk_L0 : LC :=
 (.seq
 (.region false [oK 21 (.bin .lss) [.t 20,.t 19]] [])
 (.seq
 (.cond (.t 21) [21]
 .skip
 (.exit 0))
 (.seq
 (.block 1
 (.seq
 (.region false [oK 22 (.idxa 2) [.t 18,.t 20],
 oK 23 (.load 2 true) [.t 22],
 oK 7 (.alloc 3600 (.st [.i 0,.i 0])) [],
 ⟨none,.store 2,[.t 7,.t 23],none⟩] [22,23])
 (.seq
 (.region false [oK 24 (.fld 0 1 false) [.t 7],
 oK 25 (.load 1 false) [.t 24],
 oK 26 (.call n_impl_partsTaken 13312) [.t 25],
 oK 8 .mv [.t 26]] [24,25,26])
 (.seq
 (.seq
 (.region false [oK 27 .mv [.t 0],
 oK 28 (.load 2 true) [.t 7],
 oK 29 (.call n_impl_markOk 14848) [.t 27,.t 28],
 oK 30 (.un .not) [.t 29],
 oK 31 .mv [.t 30],
 oG 32 .mv [.t 5] 31 false,
 oG 33 .mv [.t 8] 31 false,
 oG 34 (.bin .lss) [.t 32,.t 33] 31 false,
 oK 35 .pick [.t 31,.c (.b true),.t 34]] [7,27,28,29,30,31,32,33,34])
 (.cond (.t 35) [35]
 (.seq
 (.region false [oK 4 .mv [.c (.b false)]] [0,5,8,18,19,20])
 .ret)
 .skip))
 (.region false [oK 36 .mv [.t 5],
 oK 37 .mv [.t 8],
 oK 38 (.bin .sub) [.c (.i 1),.t 37],
 oK 39 (.bin .add) [.t 36,.t 38],
 oK 5 .mv [.t 39]] [8,36,37,38,39])))))
 (.region false [oK 40 (.bin .add) [.t 20,.c (.i 1)],
 oK 20 .mv [.t 40]] [40]))))
def F_impl_TermOk_W0 : LC := .loop F_impl_TermOk_L0
def F_impl_TermOk : LF :=
 { nparams := 2,results := [.t 4],body :=
 (.seq
 (.region false [oK 4 .mv [.c (.b false)]] [4])
 (.seq
 (.seq
 (.region false [oK 9 .mv [.t 0],
 oK 10 (.call n_impl_manyOk 5120) [.t 9],
 oK 11 (.un .not) [.t 10],
 oK 12 .mv [.t 11],
 oG 13 .mv [.t 1] 12 false,
 oG 14 .len [.t 13] 12 false,
 oG 15 (.call n_impl_isWithin 7680) [.t 14,.c (.i 1),.c (.i 13)] 12 false,
 oG 16 (.un .not) [.t 15] 12 false,
 oK 17 .pick [.t 12,.c (.b true),.t 16]] [9,10,11,12,13,14,15,16])
 (.cond (.t 17) [17]
 (.seq
 (.region false [oK 4 .mv [.c (.b false)]] [0,1])
 .ret)
 .skip))
 (.seq
 (.region false [oK 5 .mv [.c (.i 0)]] [])
 (.seq
 (.seq
 (.region false [oK 18 .mv [.t 1],
 oK 19 .len [.t 18],
 oK 20 .mv [.c (.i 0)]] [1])
 (.block 0
 F_impl_TermOk_W0))
 (.seq
 (.region false [oK 41 .mv [.t 5],
 oK 42 (.bin .eql) [.t 41,.c (.i 1)],
 oK 4 .mv [.t 42]] [0,5,18,19,20,41,42])
 .ret))))) }
/-- spec.l20Tests -/
def F_spec_l20Tests_L0 : LC :=
 (.seq
 (.seq
 (.region false [oK 11 .mv [.t 6],
 oK 12 (.bin .gtr) [.t 11,.c (.i 0)]] [11])
 (.cond (.t 12) [12]
 .skip
 (.exit 0)))
 (.seq
 (.block 1
 (.region false [oK 15 .mv [.t 5],
 oK 16 .mv [.t 0],
 oK 17 (.call n_spec_l20Rd_pick 8704) [.t 16,.c (.i 9)],
 oK 18 (.bin .add) [.c (.i 1),.t 17],
 oK 19 .mv [.t 0],
 oK 20 (.call n_spec_l20Rd_pick 10240) [.t 19,.c (.i 5)],
 oK 21 (.bin .add) [.c (.i 1),.t 20],
 oK 22 (.build [.i 0,.i 0] [(0,1),(1,1)]) [.t 18,.t 21],
 oK 23 (.bslice 11792 1 2 (.st [.i 0,.i 0]) [0]) [.t 22],
 oK 24 (.app 12304 2) [.t 15,.t 23],
 oK 5 .mv [.t 24]] [15,16,17,18,19,20,21,22,23,24]))
 (.region false [oK 13 .mv [.t 6],
 oK 14 (.bin .sub) [.t 13,.c (.i 1)],
 oK 6 .mv [.t 14]] [13,14])))
def F_spec_l20Tests_W0 : LC := .loop F_spec_l20Tests_L0
def F_spec_l20Tests : LF :=
 { nparams := 2,results := [.t 4],body :=
 (.seq
 (.region false [oK 4 (.newnil 2064) []] [4])
 (.seq
 (.region false [oK 7 (.bslice 3600 0 2 (.st [.i 0,.i 0]) []) [],
 oK 5 .mv [.t 7]] [7])
 (.seq
 (.seq
 (.region false [oK 8 .mv [.t 0],
 oK 9 (.call n_spec_l20Rd_pick 4608) [.t 8,.c (.i 5)],
 oK 10 (.bin .add) [.c (.i 1),.t 9],
 oK 6 .mv [.t 10]] [8,9,10])
 (.block 0
 F_spec_l20Tests_W0))
 (.seq
 (.seq
 (.region false [oK 25 .mv [.t 0],
 oK 26 .mv [.t 1],
 oK 27 (.call n_spec_l20Rd_odd 13824) [.t 25,.t 26]] [1,6,25,26])
 (.cond (.t 27) [27]
 (.seq
 (.region false [oK 28 .mv [.t 0],
 oK 29 (.call n_spec_l20Rd_pick 14848) [.t 28,.c (.i 3)]] [28])
 (.block 2
 (.seq
 (.region false [oK 39 (.bin .eql) [.t 29,.c (.i 0)],
 oK 38 .mv [.t 39]] [39])
 (.cond (.t 38) [38]
 (.seq
 (.region false [oK 40 (.bslice 20496 0 2 (.st [.i 0,.i 0]) []) [],
 oK 4 .mv [.t 40]] [5,29,40])
 .ret)
 (.seq
 (.region false [oK 42 (.bin .eql) [.t 29,.c (.i 1)],
 oK 41 .mv [.t 42]] [29,42])
 (.cond (.t 41) [41]
 (.region false [oK 43 .mv [.t 5],
 oK 44 (.bslice 22536 2 1 (.i 0) [0,1]) [.c (.i 0),.c (.i 10)],
 oK 45 .mv [.t 0],
 oK 46 (.call n_spec_l20Rd_pick 23552) [.t 45,.c (.i 2)],
 oK 47 (.idxa 1) [.t 44,.t 46],
 oK 48 (.load 1 false) [.t 47],
 oK 49 (.idxa 2) [.t 43,.c (.i 0)],
 oK 50 (.fld 0 1 false) [.t 49],
 ⟨none,.store 1,[.t 50,.t 48],none⟩] [43,44,45,46,47,48,49,50])
 (.region false [oK 30 .mv [.t 5],
 oK 31 (.bslice 15880 2 1 (.i 0) [0,1]) [.c (.i 0),.c (.i 6)],
 oK 32 .mv [.t 0],
 oK 33 (.call n_spec_l20Rd_pick 16896) [.t 32,.c (.i 2)],
 oK 34 (.idxa 1) [.t 31,.t 33],
 oK 35 (.load 1 false) [.t 34],
 oK 36 (.idxa 2) [.t 30,.c (.i 0)],
 oK 37 (.fld 1 1 false) [.t 36],
 ⟨none,.store 1,[.t 37,.t 35],none⟩] [30,31,32,33,34,35,36,37])))))))
 .skip))
 (.seq
 (.region false [oK 51 .mv [.t 5],
 oK 4 .mv [.t 51]] [5,51])
 .ret))))) }
/-- spec.l1In -/
def F_spec_l1In : LF :=
 { nparams := 3,results := [.t 6],body :=
 (.seq
 (.region false [oK 6 .mv [.c (.b false)]] [6])
 (.seq
 (.region false [oK 7 .mv [.t 0],
 oK 8 .mv [.t 1],
 oK 9 (.bin .geq) [.t 7,.t 8],
 oK 10 .mv [.t 9],
 oG 11 .mv [.t 0] 10 true,
 oG 12 .mv [.t 2] 10 true,
 oG 13 (.bin .leq) [.t 11,.t 12] 10 true,
 oK 14 .pick [.t 10,.t 13,.c (.b false)],
 oK 6 .mv [.t 14]] [0,1,2,7,8,9,10,11,12,13,14])
 .ret)) }
/-- impl.WeightOf -/
def F_impl_WeightOf_L0 : LC :=
 (.seq
 (.region false [oK 21 (.bin .lss) [.t 20,.t 19]] [])
 (.seq
 (.cond (.t 21) [21]
 .skip
 (.exit 0))
 (.seq
 (.block 1
 (.seq
 (.region false [oK 22 .mv [.t 20],
 oK 23 (.idxa 2) [.t 18,.t 20],
 oK 24 (.load 2 true) [.t 23],
 oK 7 (.alloc 3600 (.st [.i 0,.i 0])) [],
 oK 6 .mv [.t 22],
 ⟨none,.store 2,[.t 7,.t 24],none⟩] [22,23,24])
 (.seq
 (.region false [oK 25 .mv [.t 1],
 oK 26 .mv [.t 6],
 oK 27 (.call n_impl_outcomeIn 13824) [.t 25,.t 26],
 oK 28 (.bin .eql) [.t 27,.c (.i 1)]] [6,25,26,27])
 (.cond (.t 28) [28]
 (.region false [oK 29 .mv [.t 5],
 oK 30 (.fld 1 1 false) [.t 7],
 oK 31 (.load 1 false) [.t 30],
 oK 32 (.bin .mul) [.t 29,.t 31],
 oK 5 .mv [.t 32]] [7,29,30,31,32])
 (.region false [oK 33 .mv [.t 5],
 oK 34 (.fld 1 1 false) [.t 7],
 oK 35 (.load 1 false) [.t 34],
 oK 36 (.bin .sub) [.c (.i 6),.t 35],
 oK 37 (.bin .mul) [.t 33,.t 36],
 oK 5 .mv [.t 37]] [7,33,34,35,36,37])))))
 (.region false [oK 38 (.bin .add) [.t 20,.c (.i 1)],
 oK 20 .mv [.t 38]] [38]))))
def F_impl_WeightOf_W0 : LC := .loop F_impl_WeightOf_L0
def F_impl_WeightOf : LF :=
 { nparams := 2,results := [.t 4],body :=
 (.seq
 (.region false [oK 4 .mv [.c (.i 0)]] [4])
 (.seq
 (.seq
 (.region false [oK 8 .mv [.t 0],
 oK 9 (.call n_impl_TestsOk 4608) [.t 8],
 oK 10 (.un .not) [.t 9],
 oK 11 .mv [.t 10],
 oG 12 .mv [.t 0] 11 false,
 oG 13 .len [.t 12] 11 false,
 oG 14 .mv [.t 1] 11 false,
 oG 15 (.call n_impl_StateOk 7680) [.t 13,.t 14] 11 false,
 oG 16 (.un .not) [.t 15] 11 false,
 oK 17 .pick [.t 11,.c (.b true),.t 16]] [8,9,10,11,12,13,14,15,16])
 (.cond (.t 17) [17]
 (.seq
 (.region false [oK 4 .mv [.c (.i (-1))]] [0,1])
 .ret)
 .skip))
 (.seq
 (.region false [oK 5 .mv [.c (.i 1)]] [])
 (.seq
 (.seq
 (.region false [oK 18 .mv [.t 0],
 oK 19 .len [.t 18],
 oK 20 .mv [.c (.i 0)]] [0])
 (.block 0
 F_impl_WeightOf_W0))
 (.seq
 (.region false [oK 39 .mv [.t 5],
 oK 4 .mv [.t 39]] [1,5,18,19,20,39])
 .ret))))) }
/-- impl.isWithin -/
def F_impl_isWithin : LF :=
 { nparams := 3,results := [.t 6],body :=
 (.seq
 (.region false [oK 6 .mv [.c (.b false)]] [6])
 (.seq
 (.region false [oK 7 .mv [.t 1],
 oK 8 .mv [.t 0],
 oK 9 (.bin .leq) [.t 7,.t 8],
 oK 10 .mv [.t 9],
 oG 11 .mv [.t 0] 10 true,
 oG 12 .mv [.t 2] 10 true,
 oG 13 (.bin .leq) [.t 11,.t 12] 10 true,
 oK 14 .pick [.t 10,.t 13,.c (.b false)],
 oK 6 .mv [.t 14]] [0,1,2,7,8,9,10,11,12,13,14])
 .ret)) }
/-- impl.StateOk -/
def F_impl_StateOk : LF :=
 { nparams := 2,results := [.t 4],body :=
 (.seq
 (.region false [oK 4 .mv [.c (.b false)]] [4])
 (.seq
 (.region false [oK 5 .mv [.t 0],
 oK 6 (.call n_impl_manyOk 3072) [.t 5],
 oK 7 .mv [.t 6],
 oG 8 .mv [.t 1] 7 true,
 oG 9 .mv [.t 0] 7 true,
 oG 10 (.call n_impl_statesOf 5120) [.t 9] 7 true,
 oG 11 (.bin .sub) [.t 10,.c (.i 1)] 7 true,
 oG 12 (.call n_impl_isWithin 6144) [.t 8,.c (.i 0),.t 11] 7 true,
 oK 13 .pick [.t 7,.t 12,.c (.b false)],
 oK 4 .mv [.t 13]] [0,1,5,6,7,8,9,10,11,12,13])
 .ret)) }
/-- impl.hasState -/
def F_impl_hasState : LF :=
 { nparams := 2,results := [.t 4],body :=
 (.seq
 (.region false [oK 4 .mv [.c (.b false)]] [4])
 (.seq
 (.region false [oK 5 .mv [.t 0],
 oK 6 .mv [.t 1],
 oK 7 (.bin .shr) [.t 5,.t 6],
 oK 8 (.bin .and) [.t 7,.c (.w (1#32))],
 oK 9 (.bin .eql) [.t 8,.c (.w (1#32))],
 oK 4 .mv [.t 9]] [0,1,5,6,7,8,9])
 .ret)) }
/-- impl.trueStates -/
def F_impl_trueStates : LF :=
 { nparams := 1,results := [.t 2],body :=
 (.seq
 (.region false [oK 2 .mv [.c (.w (0#32))]] [2])
 (.seq
 (.region false [oK 3 .mv [.t 0],
 oK 4 (.call n_impl_foldTerm_uint32 2048) [.t 3,.c (.fn n_impl_statesOfPart [])],
 oK 2 .mv [.t 4]] [0,3,4])
 .ret)) }
/-- spec.l20Count -/
def F_spec_l20Count : LF :=
 { nparams := 1,results := [.t 2,.t 3],body :=
 (.seq
 (.region false [oK 2 (.newnil 1040) [],
 oK 3 .mv [.c (.i 0)]] [2,3])
 (.seq
 (.region false [oK 5 .mv [.t 0],
 oK 6 (.call n_spec_l20Tests 3072) [.t 5,.c (.i 14)],
 oK 4 .mv [.t 6]] [5,6])
 (.seq
 (.region false [oK 7 .mv [.t 4],
 oK 8 .mv [.t 0],
 oK 9 .mv [.t 4],
 oK 10 .len [.t 9],
 oK 11 (.mm true) [.t 10,.c (.i 1)],
 oK 12 (.call n_spec_l20Rd_pick 6144) [.t 8,.t 11],
 oK 13 (.bin .add) [.c (.i 1),.t 12],
 oK 14 .mv [.t 0],
 oK 15 (.call n_spec_l20Rd_pick 7680) [.t 14,.c (.i 30)],
 oK 16 (.bin .quo) [.t 15,.c (.i 29)],
 oK 17 (.bin .add) [.t 13,.t 16],
 oK 18 .mv [.t 0],
 oK 19 (.call n_spec_l20Rd_pick 9728) [.t 18,.c (.i 40)],
 oK 20 (.bin .quo) [.t 19,.c (.i 39)],
 oK 21 (.bin .mul) [.t 20,.c (.i 2)],
 oK 22 (.bin .sub) [.t 17,.t 21],
 oK 2 .mv [.t 7],
 oK 3 .mv [.t 22]] [4,7,8,9,10,11,12,13,14,15,16,17,18,19,20,21,22])
 .ret))) }
/-- impl.readOr -/
def F_impl_readOr : LF :=
 { nparams := 1,results := [.t 2,.t 3],body :=
 (.seq
 (.region false [oK 2 (.newnil 1040) [],
 oK 3 .mv [.c (.s [])]] [2,3])
 (.seq
 (.region false [oK 4 .mv [.t 0],
 oK 5 (.call n_impl_readRow 2560) [.t 4,.c (.y 124),.c (.i 3),.c (.fn n_impl_readAnd [])],
 oK 6 (.ext 0) [.t 5],
 oK 7 (.ext 1) [.t 5],
 oK 2 .mv [.t 6],
 oK 3 .mv [.t 7]] [0,4,5,6,7])
 .ret)) }
/-- impl.TermText -/
def F_impl_TermText : LF :=
 { nparams := 2,results := [.t 4],body :=
 (.seq
 (.region false [oK 4 .mv [.c (.s [])]] [4])
 (.seq
 (.seq
 (.region false [oK 5 .mv [.t 0],
 oK 6 .mv [.t 1],
 oK 7 (.call n_impl_TermOk 3584) [.t 5,.t 6],
 oK 8 (.un .not) [.t 7]] [0,5,6,7])
 (.cond (.t 8) [8]
 (.seq
 (.region false [oK 4 .mv [.c (.s [])]] [1])
 .ret)
 .skip))
 (.seq
 (.region false [oK 9 .mv [.t 1],
 oK 10 (.call n_impl_foldTerm_impl_writtenPart 5120) [.t 9,.c (.fn n_impl_writePart [])],
 oK 11 (.fldv 0 1 false) [.t 10],
 oK 4 .mv [.t 11]] [1,9,10,11])
 .ret))) }
/-- impl.leastFrom -/
def F_impl_leastFrom_L0 : LC :=
 (.seq
 (.region false [oK 21 (.bin .lss) [.t 20,.t 19]] [])
 (.seq
 (.cond (.t 21) [21]
 .skip
 (.exit 0))
 (.seq
 (.block 1
 (.seq
 (.region false [oK 22 .mv [.t 20],
 oK 8 .mv [.t 22]] [22])
 (.seq
 (.seq
 (.region false [oK 23 (.load 4 true) [.t 2],
 oK 24 .mv [.t 8],
 oK 25 (.call n_impl_point_canAsk 12800) [.t 23,.t 24],
 oK 26 (.un .not) [.t 25]] [23,24,25])
 (.cond (.t 26) [26]
 (.exit 1)
 .skip))
 (.seq
 (.region false [oK 28 (.load 4 true) [.t 2],
 oK 29 .mv [.t 8],
 oK 30 (.call n_impl_point_answered 15360) [.t 28,.t 29,.c (.i 0)],
 oK 31 .mv [.t 1],
 oK 32 (.call n_impl_leastFrom 16384) [.t 30,.t 31],
 oK 27 .mv [.t 32],
 oK 33 (.ext 0) [.t 27],
 oK 34 (.ext 1) [.t 27],
 oK 9 .mv [.t 33],
 oK 10 .mv [.t 34]] [9,27,28,29,30,31,32,33,34])
 (.seq
 (.region false [oK 36 (.load 4 true) [.t 2],
 oK 37 .mv [.t 8],
 oK 38 (.call n_impl_point_answered 19456) [.t 36,.t 37,.c (.i 1)],
 oK 39 .mv [.t 1],
 oK 40 (.call n_impl_leastFrom 20480) [.t 38,.t 39],
 oK 35 .mv [.t 40],
 oK 41 (.ext 0) [.t 35],
 oK 42 (.ext 1) [.t 35],
 oK 11 .mv [.t 41],
 oK 12 .mv [.t 42]] [11,35,36,37,38,39,40,41,42])
 (.seq
 (.region false [oK 43 .mv [.t 1],
 oK 44 (.load 4 true) [.t 2],
 oK 45 .mv [.t 8],
 oK 46 .mv [.t 10],
 oK 47 .mv [.t 12],
 oK 48 (.calld 24576) [.t 43,.t 44,.t 45,.t 46,.t 47],
 oK 13 .mv [.t 48]] [10,12,43,44,45,46,47,48])
 (.seq
 (.region false [oK 49 .mv [.t 6],
 oK 50 (.bin .eql) [.t 49,.c (.i (-1))],
 oK 51 .mv [.t 50],
 oG 52 .mv [.t 13] 51 false,
 oG 53 .mv [.t 7] 51 false,
 oG 54 (.bin .lss) [.t 52,.t 53] 51 false,
 oK 55 .pick [.t 51,.c (.b true),.t 54]] [49,50,51,52,53,54])
 (.cond (.t 55) [55]
 (.region false [oK 56 .mv [.t 8],
 oK 57 .mv [.t 13],
 oK 6 .mv [.t 56],
 oK 7 .mv [.t 57]] [8,13,56,57])
 .skip))))))))
 (.region false [oK 58 (.bin .add) [.t 20,.c (.i 1)],
 oK 20 .mv [.t 58]] [8,13,58]))))
def F_impl_leastFrom_W0 : LC := .loop F_impl_leastFrom_L0
def F_impl_leastFrom : LF :=
 { nparams := 2,results := [.t 4,.t 5],body :=
 (.seq
 (.region false [oK 2 (.box 1056) [.t 0],
 oK 4 .mv [.c (.i 0)],
 oK 5 .mv [.c (.i 0)]] [0,4,5])
 (.seq
 (.region false [oK 6 .mv [.c (.i (-1))],
 oK 7 .mv [.c (.i 0)]] [])
 (.seq
 (.seq
 (.region false [oK 14 (.load 4 true) [.t 2],
 oK 15 (.call n_impl_point_isForced 7680) [.t 14]] [14])
 (.cond (.t 15) [15]
 (.seq
 (.region false [oK 16 .mv [.t 6],
 oK 17 .mv [.t 7],
 oK 4 .mv [.t 16],
 oK 5 .mv [.t 17]] [1,2,6,7,16,17])
 .ret)
 .skip))
 (.seq
 (.seq
 (.region false [oK 18 (.fld 0 1 false) [.t 2],
 oK 19 (.load 1 false) [.t 18],
 oK 20 .mv [.c (.i 0)]] [18])
 (.block 0
 F_impl_leastFrom_W0))
 (.seq
 (.region false [oK 59 .mv [.t 6],
 oK 60 .mv [.t 7],
 oK 4 .mv [.t 59],
 oK 5 .mv [.t 60]] [1,2,6,7,19,20,59,60])
 .ret))))) }
/-- impl.averagesOf -/
def F_impl_averagesOf : LF :=
 { nparams := 1,results := [.t 2],body :=
 (.seq
 (.region false [oK 1 (.box 520) [.t 0],
 oK 2 .mv [.c (.dead)]] [0,2])
 (.seq
 (.region false [oK 3 (.mkfn (mkNo n_impl_averagesOf_1 0)) [.t 1],
 oK 2 .mv [.t 3]] [1,3])
 .ret)) }
/-- impl.CountOk -/
def F_impl_CountOk : LF :=
 { nparams := 2,results := [.t 4],body :=
 (.seq
 (.region false [oK 4 .mv [.c (.b false)]] [4])
 (.seq
 (.region false [oK 5 .mv [.t 0],
 oK 6 (.call n_impl_TestsOk 3072) [.t 5],
 oK 7 .mv [.t 6],
 oG 8 .mv [.t 1] 7 true,
 oG 9 .mv [.t 0] 7 true,
 oG 10 .len [.t 9] 7 true,
 oG 11 (.call n_impl_isWithin 5632) [.t 8,.c (.i 1),.t 10] 7 true,
 oK 12 .pick [.t 7,.t 11,.c (.b false)],
 oK 4 .mv [.t 12]] [0,1,5,6,7,8,9,10,11,12])
 .ret)) }
/-- impl.leastToCount -/
def F_impl_leastToCount_L0 : LC :=
 (.seq
 (.region false [oK 32 (.bin .lss) [.t 31,.t 30]] [])
 (.seq
 (.cond (.t 32) [32]
 .skip
 (.exit 0))
 (.seq
 (.block 1
 (.seq
 (.region false [oK 33 .mv [.t 31],
 oK 34 (.idxa 2) [.t 29,.t 31],
 oK 35 (.load 2 true) [.t 34],
 oK 12 (.alloc 6160 (.st [.i 0,.i 0])) [],
 oK 11 .mv [.t 33],
 ⟨none,.store 2,[.t 12,.t 35],none⟩] [33,34,35])
 (.seq
 (.seq
 (.region false [oK 36 .mv [.t 9],
 oK 37 .mv [.t 11],
 oK 38 (.call n_impl_hasTest 19456) [.t 36,.t 37],
 oK 39 (.un .not) [.t 38]] [36,37,38])
 (.cond (.t 39) [39]
 (.exit 1)
 .skip))
 (.seq
 (.region false [oK 40 .mv [.t 1],
 oK 41 .mv [.t 11],
 oK 42 (.bin .shl) [.c (.i 1),.t 41],
 oK 43 (.bin .andNot) [.t 40,.t 42],
 oK 13 .mv [.t 43]] [11,40,41,42,43])
 (.seq
 (.region false [oK 44 .mv [.t 0],
 oK 45 .mv [.t 13],
 oK 46 .mv [.t 2],
 oK 47 .mv [.t 3],
 oK 48 (.call n_impl_leastToCount 24576) [.t 44,.t 45,.t 46,.t 47],
 oK 14 .mv [.t 48]] [44,45,46,47,48])
 (.seq
 (.region false [oK 49 .mv [.t 0],
 oK 50 .mv [.t 13],
 oK 51 .mv [.t 2],
 oK 52 (.bin .sub) [.t 51,.c (.i 1)],
 oK 53 .mv [.t 3],
 oK 54 (.call n_impl_leastToCount 27648) [.t 49,.t 50,.t 52,.t 53],
 oK 15 .mv [.t 54]] [13,49,50,51,52,53,54])
 (.seq
 (.region true [oK 55 (.load 2 true) [.t 12],
 oK 56 .mv [.t 1],
 oK 57 (.call n_impl_sizeOf 29184) [.t 56],
 oK 58 .mv [.t 14],
 oK 59 .mv [.t 15],
 oK 60 (.call n_impl_averageAsking 30720) [.t 55,.t 57,.t 58,.t 59],
 oK 16 .mv [.t 60]] [12,14,15,55,56,57,58,59,60])
 (.seq
 (.region false [oK 61 .mv [.t 10],
 oK 62 (.bin .eql) [.t 61,.c (.i (-1))],
 oK 63 .mv [.t 62],
 oG 64 .mv [.t 16] 63 false,
 oG 65 .mv [.t 10] 63 false,
 oG 66 (.bin .lss) [.t 64,.t 65] 63 false,
 oK 67 .pick [.t 63,.c (.b true),.t 66]] [61,62,63,64,65,66])
 (.cond (.t 67) [67]
 (.region false [oK 68 .mv [.t 16],
 oK 10 .mv [.t 68]] [16,68])
 .skip)))))))))
 (.region false [oK 69 (.bin .add) [.t 31,.c (.i 1)],
 oK 31 .mv [.t 69]] [11,12,16,69]))))
def F_impl_leastToCount_W0 : LC := .loop F_impl_leastToCount_L0
def F_impl_leastToCount : LF :=
 { nparams := 4,results := [.t 8],body :=
 (.seq
 (.region false [oK 8 .mv [.c (.i 0)]] [8])
 (.seq
 (.seq
 (.region false [oK 17 .mv [.t 2],
 oK 18 (.bin .eql) [.t 17,.c (.i 0)],
 oK 19 .mv [.t 18],
 oG 20 .mv [.t 1] 19 false,
 oG 21 (.call n_impl_sizeOf 10752) [.t 20] 19 false,
 oG 22 .mv [.t 2] 19 false,
 oG 23 (.bin .lss) [.t 21,.t 22] 19 false,
 oK 24 .pick [.t 19,.c (.b true),.t 23]] [17,18,19,20,21,22,23])
 (.cond (.t 24) [24]
 (.seq
 (.region false [oK 8 .mv [.c (.i 0)]] [0,1,2,3])
 .ret)
 .skip))
 (.seq
 (.region false [oK 25 .mv [.t 3],
 oK 26 .mv [.t 1],
 oK 27 .mv [.t 2],
 oK 28 (.calld 14336) [.t 25,.t 26,.t 27],
 oK 9 .mv [.t 28],
 oK 10 .mv [.c (.i (-1))]] [25,26,27,28])
 (.seq
 (.seq
 (.region false [oK 29 .mv [.t 0],
 oK 30 .len [.t 29],
 oK 31 .mv [.c (.i 0)]] [])
 (.block 0
 F_impl_leastToCount_W0))
 (.seq
 (.region false [oK 70 .mv [.t 10],
 oK 8 .mv [.t 70]] [0,1,2,3,9,10,29,30,31,70])
 .ret))))) }
/-- impl.allOf -/
def F_impl_allOf : LF :=
 { nparams := 1,results := [.t 2],body :=
 (.seq
 (.region false [oK 2 .mv [.c (.i 0)]] [2])
 (.seq
 (.region false [oK 3 .mv [.t 0],
 oK 4 .len [.t 3],
 oK 5 (.call n_impl_statesOf 2560) [.t 4],
 oK 6 (.bin .sub) [.t 5,.c (.i 1)],
 oK 2 .mv [.t 6]] [0,3,4,5,6])
 .ret)) }
/-- impl.CountBest$1 -/
def F_impl_CountBest_1 : LF :=
 { nparams := 2,results := [.t 4],body :=
 (.seq
 (.region false [oK 4 .mv [.c (.i 0)]] [1,4])
 (.seq
 (.region false [oK 5 .mv [.t 0],
 oK 4 .mv [.t 5]] [0,5])
 .ret)) }
/-- impl.weightOfStates -/
def F_impl_weightOfStates_L0 : LC :=
 (.seq
 (.region false [oK 11 (.bin .lss) [.t 10,.t 9]] [])
 (.seq
 (.cond (.t 11) [11]
 .skip
 (.exit 0))
 (.seq
 (.block 1
 (.seq
 (.region false [oK 12 .mv [.t 10],
 oK 6 .mv [.t 12]] [12])
 (.seq
 (.region false [oK 13 .mv [.t 1],
 oK 14 .mv [.t 6],
 oK 15 (.call n_impl_hasState 7680) [.t 13,.t 14]] [13,14])
 (.cond (.t 15) [15]
 (.region false [oK 16 .mv [.t 5],
 oK 17 .mv [.t 0],
 oK 18 .mv [.t 6],
 oK 19 (.call n_impl_WeightOf 9728) [.t 17,.t 18],
 oK 20 (.bin .add) [.t 16,.t 19],
 oK 5 .mv [.t 20]] [6,16,17,18,19,20])
 .skip))))
 (.region false [oK 21 (.bin .add) [.t 10,.c (.i 1)],
 oK 10 .mv [.t 21]] [6,21]))))
def F_impl_weightOfStates_W0 : LC := .loop F_impl_weightOfStates_L0
def F_impl_weightOfStates : LF :=
 { nparams := 2,results := [.t 4],body :=
 (.seq
 (.region false [oK 4 .mv [.c (.i 0)]] [4])
 (.seq
 (.region false [oK 5 .mv [.c (.i 0)]] [])
 (.seq
 (.seq
 (.region false [oK 7 .mv [.t 0],
 oK 8 .len [.t 7],
 oK 9 (.call n_impl_statesOf 4608) [.t 8],
 oK 10 .mv [.c (.i 0)]] [7,8])
 (.block 0
 F_impl_weightOfStates_W0))
 (.seq
 (.region false [oK 22 .mv [.t 5],
 oK 4 .mv [.t 22]] [0,1,5,9,10,22])
 .ret)))) }
/-- impl.statesOf -/
def F_impl_statesOf : LF :=
 { nparams := 1,results := [.t 2],body :=
 (.seq
 (.region false [oK 2 .mv [.c (.i 0)]] [2])
 (.seq
 (.region false [oK 3 .mv [.t 0],
 oK 4 (.bin .shl) [.c (.i 1),.t 3],
 oK 2 .mv [.t 4]] [0,3,4])
 .ret)) }
/-- impl.sizeOf -/
def F_impl_sizeOf : LF :=
 { nparams := 1,results := [.t 2],body :=
 (.seq
 (.region false [oK 2 .mv [.c (.i 0)]] [2])
 (.seq
 (.region false [oK 3 .mv [.t 0],
 oK 4 (.conv .i2q 2048) [.t 3],
 oK 5 (.call n_math_bits_OnesCount 2560) [.t 4],
 oK 2 .mv [.t 5]] [0,3,4,5])
 .ret)) }
/-- impl.point).value -/
def F_impl_point_value : LF :=
 { nparams := 1,results := [.t 2],body :=
 (.seq
 (.region false [oK 1 (.box 544) [.t 0],
 oK 2 .mv [.c (.i 0)]] [0,2])
 (.seq
 (.region false [oK 3 (.fld 3 1 false) [.t 1],
 oK 4 (.load 1 false) [.t 3],
 oK 5 (.fld 2 1 false) [.t 1],
 oK 6 (.load 1 false) [.t 5],
 oK 7 (.call n_impl_valueAmong 3584) [.t 4,.t 6],
 oK 2 .mv [.t 7]] [1,3,4,5,6,7])
 .ret)) }
/-- impl.point).answered -/
def F_impl_point_answered : LF :=
 { nparams := 3,results := [.c 6 4 true],body :=
 (.seq
 (.region false [oK 3 (.box 1568) [.t 0],
 oK 6 (.alloc 3104 (.st [.i 0,.i 0,.w (0#32),.w (0#32)])) []] [0])
 (.seq
 (.region true [oK 7 (.fld 1 1 false) [.t 3],
 oK 8 (.load 1 false) [.t 7],
 oK 9 .mv [.t 1],
 oK 10 (.bin .shl) [.c (.i 1),.t 9],
 oK 11 (.bin .or) [.t 8,.t 10],
 oK 12 (.fld 1 1 false) [.t 3],
 ⟨none,.store 1,[.t 12,.t 11],none⟩] [7,8,9,10,11,12])
 (.seq
 (.region true [oK 13 (.fld 2 1 false) [.t 3],
 oK 14 (.load 1 false) [.t 13],
 oK 15 .mv [.t 1],
 oK 16 .mv [.t 2],
 oK 17 (.call n_impl_statesSaying 8704) [.t 15,.t 16],
 oK 18 (.bin .and) [.t 14,.t 17],
 oK 19 (.fld 2 1 false) [.t 3],
 ⟨none,.store 1,[.t 19,.t 18],none⟩] [1,2,13,14,15,16,17,18,19])
 (.seq
 (.region false [oK 20 (.load 4 true) [.t 3],
 ⟨none,.store 4,[.t 6,.t 20],none⟩] [3,20])
 .ret)))) }
/-- impl.letterOf -/
def F_impl_letterOf : LF :=
 { nparams := 1,results := [.t 2],body :=
 (.seq
 (.region false [oK 2 .mv [.c (.s [])]] [2])
 (.seq
 (.region false [oK 3 .mv [.t 0],
 oK 4 (.bin .add) [.c (.i 97),.t 3],
 oK 5 (.conv .i2r 2560) [.t 4],
 oK 6 (.conv .r2s 3072) [.t 5],
 oK 2 .mv [.t 6]] [0,3,4,5,6])
 .ret)) }
/-- impl.point).canAsk -/
def F_impl_point_canAsk : LF :=
 { nparams := 2,results := [.t 4],body :=
 (.seq
 (.region false [oK 2 (.box 1056) [.t 0],
 oK 4 .mv [.c (.b false)]] [0,4])
 (.seq
 (.region false [oK 5 .mv [.t 1],
 oK 6 (.fld 0 1 false) [.t 2],
 oK 7 (.load 1 false) [.t 6],
 oK 8 (.bin .sub) [.t 7,.c (.i 1)],
 oK 9 (.call n_impl_isWithin 4608) [.t 5,.c (.i 0),.t 8],
 oK 10 .mv [.t 9],
 oG 11 (.fld 1 1 false) [.t 2] 10 true,
 oG 12 (.load 1 false) [.t 11] 10 true,
 oG 13 .mv [.t 1] 10 true,
 oG 14 (.call n_impl_hasTest 7168) [.t 12,.t 13] 10 true,
 oG 15 (.un .not) [.t 14] 10 true,
 oK 16 .pick [.t 10,.t 15,.c (.b false)],
 oK 4 .mv [.t 16]] [1,2,5,6,7,8,9,10,11,12,13,14,15,16])
 .ret)) }
/-- impl.manyOk -/
def F_impl_manyOk : LF :=
 { nparams := 1,results := [.t 2],body :=
 (.seq
 (.region false [oK 2 .mv [.c (.b false)]] [2])
 (.seq
 (.region false [oK 3 .mv [.t 0],
 oK 4 (.call n_impl_isWithin 2048) [.t 3,.c (.i 1),.c (.i 5)],
 oK 2 .mv [.t 4]] [0,3,4])
 .ret)) }
/-- impl.placeOf -/
def F_impl_placeOf : LF :=
 { nparams := 1,results := [.t 2],body :=
 (.seq
 (.region false [oK 2 .mv [.c (.i 0)]] [2])
 (.seq
 (.region false [oK 3 .mv [.t 0],
 oK 4 (.conv .b2i 2048) [.t 3],
 oK 5 (.bin .sub) [.t 4,.c (.i 97)],
 oK 2 .mv [.t 5]] [0,3,4,5])
 .ret)) }
/-- impl.partsTaken -/
def F_impl_partsTaken : LF :=
 { nparams := 1,results := [.t 2],body :=
 (.seq
 (.region false [oK 2 .mv [.c (.i 0)]] [2])
 (.seq
 (.seq
 (.region false [oK 3 .mv [.t 0]] [0])
 (.block 0
 (.seq
 (.region false [oK 5 (.bin .eql) [.t 3,.c (.i 0)],
 oK 4 .mv [.t 5]] [5])
 (.cond (.t 4) [4]
 (.seq
 (.region false [oK 2 .mv [.c (.i 0)]] [3])
 .ret)
 (.seq
 (.region false [oK 7 (.bin .eql) [.t 3,.c (.i 1)],
 oK 6 .mv [.t 7]] [3,7])
 (.cond (.t 6) [6]
 (.seq
 (.region false [oK 2 .mv [.c (.i 1)]] [])
 .ret)
 .skip))))))
 (.seq
 (.region false [oK 2 .mv [.c (.i 2)]] [])
 .ret))) }
/-- impl.markOk -/
def F_impl_markOk : LF :=
 { nparams := 2,results := [.t 4],body :=
 (.seq
 (.region false [oK 3 (.box 1552) [.t 1],
 oK 4 .mv [.c (.b false)]] [1,4])
 (.seq
 (.seq
 (.region false [oK 5 (.fld 0 1 false) [.t 3],
 oK 6 (.load 1 false) [.t 5],
 oK 7 (.bin .eql) [.t 6,.c (.i 0)]] [5,6])
 (.cond (.t 7) [7]
 (.seq
 (.region false [oK 8 (.fld 1 1 false) [.t 3],
 oK 9 (.load 1 false) [.t 8],
 oK 10 .mv [.t 0],
 oK 11 (.bin .sub) [.t 10,.c (.i 1)],
 oK 12 (.call n_impl_isWithin 6144) [.t 9,.c (.i 0),.t 11],
 oK 4 .mv [.t 12]] [0,3,8,9,10,11,12])
 .ret)
 .skip))
 (.seq
 (.region false [oK 13 (.fld 0 1 false) [.t 3],
 oK 14 (.load 1 false) [.t 13],
 oK 15 (.call n_impl_isWithin 7680) [.t 14,.c (.i 1),.c (.i 3)],
 oK 16 .mv [.t 15],
 oG 17 (.fld 1 1 false) [.t 3] 16 true,
 oG 18 (.load 1 false) [.t 17] 16 true,
 oG 19 (.bin .eql) [.t 18,.c (.i 0)] 16 true,
 oK 20 .pick [.t 16,.t 19,.c (.b false)],
 oK 4 .mv [.t 20]] [0,3,13,14,15,16,17,18,19,20])
 .ret))) }
/-- spec.l20Rd).odd -/
def F_spec_l20Rd_odd : LF :=
 { nparams := 2,results := [.t 4],body :=
 (.seq
 (.region false [oK 4 .mv [.c (.b false)]] [4])
 (.seq
 (.region false [oK 5 .mv [.t 1],
 oK 6 (.bin .gtr) [.t 5,.c (.i 0)],
 oK 7 .mv [.t 6],
 oG 8 .mv [.t 0] 7 true,
 oG 9 .mv [.t 1] 7 true,
 oG 10 (.call n_spec_l20Rd_pick 5120) [.t 8,.t 9] 7 true,
 oG 11 .mv [.t 1] 7 true,
 oG 12 (.bin .sub) [.t 11,.c (.i 1)] 7 true,
 oG 13 (.bin .eql) [.t 10,.t 12] 7 true,
 oK 14 .pick [.t 7,.t 13,.c (.b false)],
 oK 4 .mv [.t 14]] [1,5,6,7,8,9,10,11,12,13,14])
 .ret)) }
/-- impl.outcomeIn -/
def F_impl_outcomeIn : LF :=
 { nparams := 2,results := [.t 4],body :=
 (.seq
 (.region false [oK 4 .mv [.c (.i 0)]] [4])
 (.seq
 (.region false [oK 5 .mv [.t 0],
 oK 6 .mv [.t 1],
 oK 7 (.bin .shr) [.t 5,.t 6],
 oK 8 (.bin .and) [.t 7,.c (.i 1)],
 oK 4 .mv [.t 8]] [0,1,5,6,7,8])
 .ret)) }
/-- impl.foldTerm[uint32] -/
def F_impl_foldTerm_uint32_L0 : LC :=
 (.seq
 (.region false [oK 13 (.bin .lss) [.t 12,.t 11]] [])
 (.seq
 (.cond (.t 13) [13]
 .skip
 (.exit 0))
 (.seq
 (.block 1
 (.seq
 (.region false [oK 14 (.idxa 2) [.t 10,.t 12],
 oK 15 (.load 2 true) [.t 14],
 oK 7 (.alloc 3600 (.st [.i 0,.i 0])) [],
 ⟨none,.store 2,[.t 7,.t 15],none⟩] [14,15])
 (.seq
 (.region false [oK 16 .mv [.t 5],
 oK 17 .len [.t 16],
 oK 18 (.fld 0 1 false) [.t 7],
 oK 19 (.load 1 false) [.t 18],
 oK 20 (.call n_impl_partsTaken 10240) [.t 19],
 oK 21 (.bin .sub) [.t 17,.t 20],
 oK 8 .mv [.t 21]] [16,17,18,19,20,21])
 (.seq
 (.region true [oK 22 .mv [.t 1],
 oK 23 (.load 2 true) [.t 7],
 oK 24 .mv [.t 5],
 oK 25 .mv [.t 8],
 oK 26 (.slice true false 1) [.t 24,.t 25],
 oK 27 (.calld 13824) [.t 22,.t 23,.t 26],
 oK 9 .mv [.t 27]] [7,22,23,24,25,26,27])
 (.region false [oK 28 .mv [.t 5],
 oK 29 .mv [.t 8],
 oK 30 (.slice false true 1) [.t 28,.t 29],
 oK 31 .mv [.t 9],
 oK 32 (.bslice 16392 1 1 (.w (0#32)) [0]) [.t 31],
 oK 33 (.app 16904 1) [.t 30,.t 32],
 oK 5 .mv [.t 33]] [8,9,28,29,30,31,32,33])))))
 (.region false [oK 34 (.bin .add) [.t 12,.c (.i 1)],
 oK 12 .mv [.t 34]] [34]))))
def F_impl_foldTerm_uint32_W0 : LC := .loop F_impl_foldTerm_uint32_L0
def F_impl_foldTerm_uint32 : LF :=
 { nparams := 2,results := [.t 4],body :=
 (.seq
 (.region false [oK 4 .mv [.c (.w (0#32))]] [4])
 (.seq
 (.region false [oK 5 (.newnil 2568) []] [])
 (.seq
 (.seq
 (.region false [oK 10 .mv [.t 0],
 oK 11 .len [.t 10],
 oK 12 .mv [.c (.i 0)]] [0])
 (.block 0
 F_impl_foldTerm_uint32_W0))
 (.seq
 (.region false [oK 35 .mv [.t 5],
 oK 36 (.idxa 1) [.t 35,.c (.i 0)],
 oK 37 (.load 1 false) [.t 36],
 oK 4 .mv [.t 37]] [1,5,10,11,12,35,36,37])
 .ret)))) }
/-- impl.statesOfPart -/
def F_impl_statesOfPart : LF :=
 { gl := [0],nparams := 2,results := [.t 4],body :=
 (.seq
 (.region false [oK 2 (.box 1040) [.t 0],
 oK 4 .mv [.c (.w (0#32))]] [0,4])
 (.seq
 (.seq
 (.region false [oK 5 (.fld 0 1 false) [.t 2],
 oK 6 (.load 1 false) [.t 5]] [5])
 (.block 0
 (.seq
 (.region false [oK 8 (.bin .eql) [.t 6,.c (.i 0)],
 oK 7 .mv [.t 8]] [8])
 (.cond (.t 7) [7]
 (.seq
 (.region false [oK 9 (.fld 1 1 false) [.t 2],
 oK 10 (.load 1 false) [.t 9],
 oK 11 (.idxp 5 1) [.t 1048576,.t 10],
 oK 12 (.load 1 false) [.t 11],
 oK 4 .mv [.t 12]] [1,2,6,9,10,11,12])
 .ret)
 (.seq
 (.region false [oK 14 (.bin .eql) [.t 6,.c (.i 1)],
 oK 13 .mv [.t 14]] [2,14])
 (.cond (.t 13) [13]
 (.seq
 (.region false [oK 15 .mv [.t 1],
 oK 16 (.idxa 1) [.t 15,.c (.i 0)],
 oK 17 (.load 1 false) [.t 16],
 oK 18 (.un .xor) [.t 17],
 oK 4 .mv [.t 18]] [1,6,15,16,17,18])
 .ret)
 (.seq
 (.region false [oK 20 (.bin .eql) [.t 6,.c (.i 2)],
 oK 19 .mv [.t 20]] [6,20])
 (.cond (.t 19) [19]
 (.seq
 (.region true [oK 21 .mv [.t 1],
 oK 22 (.idxa 1) [.t 21,.c (.i 0)],
 oK 23 (.load 1 false) [.t 22],
 oK 24 .mv [.t 1],
 oK 25 (.idxa 1) [.t 24,.c (.i 1)],
 oK 26 (.load 1 false) [.t 25],
 oK 27 (.bin .and) [.t 23,.t 26],
 oK 4 .mv [.t 27]] [1,21,22,23,24,25,26,27])
 .ret)
 .skip))))))))
 (.seq
 (.region true [oK 28 .mv [.t 1],
 oK 29 (.idxa 1) [.t 28,.c (.i 0)],
 oK 30 (.load 1 false) [.t 29],
 oK 31 .mv [.t 1],
 oK 32 (.idxa 1) [.t 31,.c (.i 1)],
 oK 33 (.load 1 false) [.t 32],
 oK 34 (.bin .or) [.t 30,.t 33],
 oK 4 .mv [.t 34]] [1,28,29,30,31,32,33,34])
 .ret))) }
/-- impl.readRow -/
def F_impl_readRow_L0 : LC :=
 (.seq
 (.seq
 (.region false [oK 19 .mv [.t 10],
 oK 20 .len [.t 19],
 oK 21 (.bin .gtr) [.t 20,.c (.i 0)],
 oK 22 .mv [.t 21],
 oG 23 .mv [.t 11] 22 true,
 oG 24 (.bin .neq) [.t 23,.c (.s [])] 22 true,
 oK 25 .pick [.t 22,.t 24,.c (.b false)],
 oK 26 .mv [.t 25],
 oG 27 .mv [.t 11] 26 true,
 oG 28 .idx [.t 27,.c (.i 0)] 26 true,
 oG 29 .mv [.t 1] 26 true,
 oG 30 (.bin .eql) [.t 28,.t 29] 26 true,
 oK 31 .pick [.t 26,.t 30,.c (.b false)]] [19,20,21,22,23,24,25,26,27,28,29,30])
 (.cond (.t 31) [31]
 .skip
 (.exit 0)))
 (.block 1
 (.seq
 (.region false [oK 12 (.newnil 6160) []] [12])
 (.seq
 (.region false [oK 33 .mv [.t 3],
 oK 34 .mv [.t 11],
 oK 35 (.slices true false) [.t 34,.c (.i 1)],
 oK 36 (.calld 18432) [.t 33,.t 35],
 oK 32 .mv [.t 36],
 oK 37 (.ext 0) [.t 32],
 oK 38 (.ext 1) [.t 32],
 oK 12 .mv [.t 37],
 oK 11 .mv [.t 38]] [32,33,34,35,36,37,38])
 (.seq
 (.seq
 (.region false [oK 39 .mv [.t 12],
 oK 40 .len [.t 39],
 oK 41 (.bin .eql) [.t 40,.c (.i 0)]] [39,40])
 (.cond (.t 41) [41]
 (.seq
 (.region false [oK 8 (.newnil 4112) [],
 oK 9 .mv [.c (.s [])]] [1,2,3,10,11,12])
 .ret)
 .skip))
 (.region false [oK 42 .mv [.t 10],
 oK 43 .mv [.t 12],
 oK 44 (.app 22544 2) [.t 42,.t 43],
 oK 45 .mv [.t 2],
 oK 46 (.build [.i 0,.i 0] [(0,1)]) [.t 45],
 oK 47 (.bslice 24080 1 2 (.st [.i 0,.i 0]) [0]) [.t 46],
 oK 48 (.app 24592 2) [.t 44,.t 47],
 oK 10 .mv [.t 48]] [12,42,43,44,45,46,47,48]))))))
def F_impl_readRow_W0 : LC := .loop F_impl_readRow_L0
def F_impl_readRow : LF :=
 { nparams := 4,results := [.t 8,.t 9],body :=
 (.seq
 (.region false [oK 8 (.newnil 4112) [],
 oK 9 .mv [.c (.s [])]] [8,9])
 (.seq
 (.region false [oK 14 .mv [.t 3],
 oK 15 .mv [.t 0],
 oK 16 (.calld 8192) [.t 14,.t 15],
 oK 13 .mv [.t 16],
 oK 17 (.ext 0) [.t 13],
 oK 18 (.ext 1) [.t 13],
 oK 10 .mv [.t 17],
 oK 11 .mv [.t 18]] [0,13,14,15,16,17,18])
 (.seq
 (.block 0
 F_impl_readRow_W0)
 (.seq
 (.region false [oK 49 .mv [.t 10],
 oK 50 .mv [.t 11],
 oK 8 .mv [.t 49],
 oK 9 .mv [.t 50]] [1,2,3,10,11,49,50])
 .ret)))) }
/-- impl.readAnd -/
def F_impl_readAnd : LF :=
 { nparams := 1,results := [.t 2,.t 3],body :=
 (.seq
 (.region false [oK 2 (.newnil 1040) [],
 oK 3 .mv [.c (.s [])]] [2,3])
 (.seq
 (.region false [oK 4 .mv [.t 0],
 oK 5 (.call n_impl_readRow 2560) [.t 4,.c (.y 38),.c (.i 2),.c (.fn n_impl_readNot [])],
 oK 6 (.ext 0) [.t 5],
 oK 7 (.ext 1) [.t 5],
 oK 2 .mv [.t 6],
 oK 3 .mv [.t 7]] [0,4,5,6,7])
 .ret)) }
/-- impl.writtenPart] -/
def F_impl_foldTerm_impl_writtenPart_L0 : LC :=
 (.seq
 (.region false [oK 13 (.bin .lss) [.t 12,.t 11]] [])
 (.seq
 (.cond (.t 13) [13]
 .skip
 (.exit 0))
 (.seq
 (.block 1
 (.seq
 (.region false [oK 14 (.idxa 2) [.t 10,.t 12],
 oK 15 (.load 2 true) [.t 14],
 oK 7 (.alloc 3600 (.st [.i 0,.i 0])) [],
 ⟨none,.store 2,[.t 7,.t 15],none⟩] [14,15])
 (.seq
 (.region false [oK 16 .mv [.t 5],
 oK 17 .len [.t 16],
 oK 18 (.fld 0 1 false) [.t 7],
 oK 19 (.load 1 false) [.t 18],
 oK 20 (.call n_impl_partsTaken 10240) [.t 19],
 oK 21 (.bin .sub) [.t 17,.t 20],
 oK 8 .mv [.t 21]] [16,17,18,19,20,21])
 (.seq
 (.region true [oK 22 .mv [.t 1],
 oK 23 (.load 2 true) [.t 7],
 oK 24 .mv [.t 5],
 oK 25 .mv [.t 8],
 oK 26 (.slice true false 2) [.t 24,.t 25],
 oK 27 (.calld 13824) [.t 22,.t 23,.t 26],
 oK 9 (.alloc 4624 (.st [.s [],.i 0])) [],
 ⟨none,.store 2,[.t 9,.t 27],none⟩] [7,22,23,24,25,26,27])
 (.region true [oK 28 .mv [.t 5],
 oK 29 .mv [.t 8],
 oK 30 (.slice false true 2) [.t 28,.t 29],
 oK 31 (.load 2 true) [.t 9],
 oK 32 (.bslice 16400 1 2 (.st [.s [],.i 0]) [0]) [.t 31],
 oK 33 (.app 16912 2) [.t 30,.t 32],
 oK 5 .mv [.t 33]] [8,9,28,29,30,31,32,33])))))
 (.region false [oK 34 (.bin .add) [.t 12,.c (.i 1)],
 oK 12 .mv [.t 34]] [34]))))
def F_impl_foldTerm_impl_writtenPart_W0 : LC := .loop F_impl_foldTerm_impl_writtenPart_L0
def F_impl_foldTerm_impl_writtenPart : LF :=
 { nparams := 2,results := [.c 4 2 true],body :=
 (.seq
 (.region false [oK 4 (.alloc 2064 (.st [.s [],.i 0])) []] [])
 (.seq
 (.region false [oK 5 (.newnil 2576) []] [])
 (.seq
 (.seq
 (.region false [oK 10 .mv [.t 0],
 oK 11 .len [.t 10],
 oK 12 .mv [.c (.i 0)]] [0])
 (.block 0
 F_impl_foldTerm_impl_writtenPart_W0))
 (.seq
 (.region false [oK 35 .mv [.t 5],
 oK 36 (.idxa 2) [.t 35,.c (.i 0)],
 oK 37 (.load 2 true) [.t 36],
 ⟨none,.store 2,[.t 4,.t 37],none⟩] [1,5,10,11,12,35,36,37])
 .ret)))) }
/-- impl.writePart -/
def F_impl_writePart : LF :=
 { nparams := 2,results := [.c 4 2 true],body :=
 (.seq
 (.region false [oK 2 (.box 1040) [.t 0],
 oK 4 (.alloc 2064 (.st [.s [],.i 0])) []] [0])
 (.seq
 (.region false [oK 6 (.fld 0 1 false) [.t 2],
 oK 7 (.load 1 false) [.t 6],
 oK 8 (.build [.s [],.i 0] [(1,1)]) [.t 7],
 oK 5 (.alloc 2576 (.st [.s [],.i 0])) [],
 ⟨none,.store 2,[.t 5,.t 8],none⟩] [6,7,8])
 (.seq
 (.seq
 (.region false [oK 9 (.fld 0 1 false) [.t 2],
 oK 10 (.load 1 false) [.t 9]] [9])
 (.block 0
 (.seq
 (.region false [oK 12 (.bin .eql) [.t 10,.c (.i 0)],
 oK 11 .mv [.t 12]] [12])
 (.cond (.t 11) [11]
 (.region false [oK 13 (.fld 1 1 false) [.t 2],
 oK 14 (.load 1 false) [.t 13],
 oK 15 (.call n_impl_letterOf 7680) [.t 14],
 oK 16 (.fld 0 1 false) [.t 5],
 ⟨none,.store 1,[.t 16,.t 15],none⟩] [1,2,10,13,14,15,16])
 (.seq
 (.region false [oK 18 (.bin .eql) [.t 10,.c (.i 1)],
 oK 17 .mv [.t 18]] [2,18])
 (.cond (.t 17) [17]
 (.region false [oK 19 .mv [.t 1],
 oK 20 (.idxa 2) [.t 19,.c (.i 0)],
 oK 21 (.load 2 true) [.t 20],
 oK 22 (.call n_impl_bracketedFrom 11264) [.c (.i 2),.t 21],
 oK 23 (.bin .add) [.c (.s [33]),.t 22],
 oK 24 (.fld 0 1 false) [.t 5],
 ⟨none,.store 1,[.t 24,.t 23],none⟩] [1,10,19,20,21,22,23,24])
 (.seq
 (.region false [oK 26 (.bin .eql) [.t 10,.c (.i 2)],
 oK 25 .mv [.t 26]] [26])
 (.cond (.t 25) [25]
 (.region true [oK 27 .mv [.t 1],
 oK 28 (.idxa 2) [.t 27,.c (.i 0)],
 oK 29 (.load 2 true) [.t 28],
 oK 30 (.call n_impl_bracketedFrom 15360) [.c (.i 3),.t 29],
 oK 31 (.bin .add) [.t 30,.c (.s [38])],
 oK 32 .mv [.t 1],
 oK 33 (.idxa 2) [.t 32,.c (.i 1)],
 oK 34 (.load 2 true) [.t 33],
 oK 35 (.call n_impl_bracketedFrom 17920) [.c (.i 2),.t 34],
 oK 36 (.bin .add) [.t 31,.t 35],
 oK 37 (.fld 0 1 false) [.t 5],
 ⟨none,.store 1,[.t 37,.t 36],none⟩] [1,10,27,28,29,30,31,32,33,34,35,36,37])
 (.seq
 (.region false [oK 39 (.bin .eql) [.t 10,.c (.i 3)],
 oK 38 .mv [.t 39]] [10,39])
 (.cond (.t 38) [38]
 (.region true [oK 40 .mv [.t 1],
 oK 41 (.idxa 2) [.t 40,.c (.i 0)],
 oK 42 (.fld 0 1 false) [.t 41],
 oK 43 (.load 1 false) [.t 42],
 oK 44 (.bin .add) [.t 43,.c (.s [124])],
 oK 45 .mv [.t 1],
 oK 46 (.idxa 2) [.t 45,.c (.i 1)],
 oK 47 (.load 2 true) [.t 46],
 oK 48 (.call n_impl_bracketedFrom 24576) [.c (.i 3),.t 47],
 oK 49 (.bin .add) [.t 44,.t 48],
 oK 50 (.fld 0 1 false) [.t 5],
 ⟨none,.store 1,[.t 50,.t 49],none⟩] [1,40,41,42,43,44,45,46,47,48,49,50])
 .skip))))))))))
 (.seq
 (.region false [oK 51 (.load 2 true) [.t 5],
 ⟨none,.store 2,[.t 4,.t 51],none⟩] [1,5,51])
 .ret)))) }
/-- impl.point).isForced -/
def F_impl_point_isForced : LF :=
 { nparams := 1,results := [.t 2],body :=
 (.seq
 (.region false [oK 1 (.box 544) [.t 0],
 oK 2 .mv [.c (.b false)]] [0,2])
 (.seq
 (.region false [oK 3 (.load 4 true) [.t 1],
 oK 4 (.call n_impl_point_value 2048) [.t 3],
 oK 5 (.bin .neq) [.t 4,.c (.i (-1))],
 oK 2 .mv [.t 5]] [1,3,4,5])
 .ret)) }
/-- impl.averagesOf$1 -/
def F_impl_averagesOf_1 : LF :=
 { nparams := 5,results := [.t 9],body :=
 (.seq
 (.region false [oK 5 (.box 2592) [.t 0],
 oK 9 .mv [.c (.i 0)]] [0,9])
 (.seq
 (.region true [oK 10 (.load 1 false) [.t 4],
 oK 11 .mv [.t 1],
 oK 12 (.idxa 2) [.t 10,.t 11],
 oK 13 (.load 2 true) [.t 12],
 oK 14 (.fld 0 1 false) [.t 5],
 oK 15 (.load 1 false) [.t 14],
 oK 16 (.load 4 true) [.t 5],
 oK 17 (.call n_impl_point_howManyAsked 8704) [.t 16],
 oK 18 (.bin .sub) [.t 15,.t 17],
 oK 19 .mv [.t 2],
 oK 20 .mv [.t 3],
 oK 21 (.call n_impl_averageAsking 10752) [.t 13,.t 18,.t 19,.t 20],
 oK 9 .mv [.t 21]] [1,2,3,4,5,10,11,12,13,14,15,16,17,18,19,20,21])
 .ret)) }
/-- impl.averageAsking -/
def F_impl_averageAsking : LF :=
 { nparams := 4,results := [.t 8],body :=
 (.seq
 (.region false [oK 4 (.box 2064) [.t 0],
 oK 8 .mv [.c (.i 0)]] [0,8])
 (.seq
 (.region true [oK 9 (.fld 0 1 false) [.t 4],
 oK 10 (.load 1 false) [.t 9],
 oK 11 .mv [.t 1],
 oK 12 (.call n_impl_wholeOf 6144) [.t 11],
 oK 13 (.bin .mul) [.t 10,.t 12],
 oK 14 (.fld 1 1 false) [.t 4],
 oK 15 (.load 1 false) [.t 14],
 oK 16 (.bin .sub) [.c (.i 6),.t 15],
 oK 17 .mv [.t 2],
 oK 18 (.bin .mul) [.t 16,.t 17],
 oK 19 (.bin .add) [.t 13,.t 18],
 oK 20 (.fld 1 1 false) [.t 4],
 oK 21 (.load 1 false) [.t 20],
 oK 22 .mv [.t 3],
 oK 23 (.bin .mul) [.t 21,.t 22],
 oK 24 (.bin .add) [.t 19,.t 23],
 oK 8 .mv [.t 24]] [1,2,3,4,9,10,11,12,13,14,15,16,17,18,19,20,21,22,23,24])
 .ret)) }
/-- impl.hasTest -/
def F_impl_hasTest : LF :=
 { nparams := 2,results := [.t 4],body :=
 (.seq
 (.region false [oK 4 .mv [.c (.b false)]] [4])
 (.seq
 (.region false [oK 5 .mv [.t 0],
 oK 6 .mv [.t 1],
 oK 7 (.bin .shr) [.t 5,.t 6],
 oK 8 (.bin .and) [.t 7,.c (.i 1)],
 oK 9 (.bin .eql) [.t 8,.c (.i 1)],
 oK 4 .mv [.t 9]] [0,1,5,6,7,8,9])
 .ret)) }
/-- bits.OnesCount -/
def F_math_bits_OnesCount : LF :=
 { nparams := 1,results := [.t 2],body :=
 (.seq
 (.region false [oK 2 .mv [.c (.i 0)]] [2])
 (.seq
 (.cond (.c (.b false)) []
 (.seq
 .void
 .ret)
 .skip)
 (.seq
 (.region false [oK 6 .mv [.t 0],
 oK 7 (.call n_math_bits_OnesCount64 3584) [.t 6],
 oK 2 .mv [.t 7]] [0,6,7])
 .ret))) }
/-- impl.valueAmong -/
def F_impl_valueAmong : LF :=
 { nparams := 2,results := [.t 4],body :=
 (.seq
 (.region false [oK 4 .mv [.c (.i 0)]] [4])
 (.seq
 (.seq
 (.region false [oK 5 .mv [.t 0],
 oK 6 .mv [.t 1],
 oK 7 (.bin .and) [.t 5,.t 6]] [0,5,6])
 (.block 0
 (.seq
 (.region false [oK 9 .mv [.t 1],
 oK 10 (.bin .eql) [.t 7,.t 9],
 oK 8 .mv [.t 10]] [1,9,10])
 (.cond (.t 8) [8]
 (.seq
 (.region false [oK 4 .mv [.c (.i 1)]] [7])
 .ret)
 (.seq
 (.region false [oK 12 (.bin .eql) [.t 7,.c (.w (0#32))],
 oK 11 .mv [.t 12]] [7,12])
 (.cond (.t 11) [11]
 (.seq
 (.region false [oK 4 .mv [.c (.i 0)]] [])
 .ret)
 .skip))))))
 (.seq
 (.region false [oK 4 .mv [.c (.i (-1))]] [])
 .ret))) }
/-- impl.statesSaying -/
def F_impl_statesSaying : LF :=
 { gl := [0],nparams := 2,results := [.t 4],body :=
 (.seq
 (.region false [oK 4 .mv [.c (.w (0#32))]] [4])
 (.seq
 (.seq
 (.region false [oK 5 .mv [.t 1],
 oK 6 (.bin .eql) [.t 5,.c (.i 1)]] [1,5])
 (.cond (.t 6) [6]
 (.seq
 (.region false [oK 7 .mv [.t 0],
 oK 8 (.idxp 5 1) [.t 1048576,.t 7],
 oK 9 (.load 1 false) [.t 8],
 oK 4 .mv [.t 9]] [0,7,8,9])
 .ret)
 .skip))
 (.seq
 (.region false [oK 10 .mv [.t 0],
 oK 11 (.idxp 5 1) [.t 1048576,.t 10],
 oK 12 (.load 1 false) [.t 11],
 oK 13 (.un .xor) [.t 12],
 oK 4 .mv [.t 13]] [0,10,11,12,13])
 .ret))) }
/-- impl.readNot -/
def F_impl_readNot : LF :=
 { nparams := 1,results := [.t 2,.t 3],body :=
 (.seq
 (.region false [oK 2 (.newnil 1040) [],
 oK 3 .mv [.c (.s [])]] [2,3])
 (.seq
 (.seq
 (.region false [oK 8 .mv [.t 0],
 oK 9 (.bin .eql) [.t 8,.c (.s [])]] [8])
 (.cond (.t 9) [9]
 (.seq
 (.region false [oK 2 (.newnil 1040) [],
 oK 3 .mv [.c (.s [])]] [0])
 .ret)
 .skip))
 (.seq
 (.seq
 (.region false [oK 10 .mv [.t 0],
 oK 11 .idx [.t 10,.c (.i 0)]] [10])
 (.block 0
 (.seq
 (.region false [oK 13 (.bin .eql) [.t 11,.c (.y 33)],
 oK 12 .mv [.t 13]] [13])
 (.cond (.t 12) [12]
 (.seq
 (.region false [oK 15 .mv [.t 0],
 oK 16 (.slices true false) [.t 15,.c (.i 1)],
 oK 17 (.call n_impl_readNot 8704) [.t 16],
 oK 14 .mv [.t 17],
 oK 18 (.ext 0) [.t 14],
 oK 19 (.ext 1) [.t 14],
 oK 4 .mv [.t 18],
 oK 5 .mv [.t 19]] [0,11,14,15,16,17,18,19])
 (.seq
 (.seq
 (.region false [oK 20 .mv [.t 4],
 oK 21 .len [.t 20],
 oK 22 (.bin .eql) [.t 21,.c (.i 0)]] [20,21])
 (.cond (.t 22) [22]
 (.seq
 (.region false [oK 2 (.newnil 1040) [],
 oK 3 .mv [.c (.s [])]] [4,5])
 .ret)
 .skip))
 (.seq
 (.region false [oK 23 .mv [.t 4],
 oK 24 (.build [.i 0,.i 0] [(0,1)]) [.c (.i 1)],
 oK 25 (.bslice 12816 1 2 (.st [.i 0,.i 0]) [0]) [.t 24],
 oK 26 (.app 13328 2) [.t 23,.t 25],
 oK 27 .mv [.t 5],
 oK 2 .mv [.t 26],
 oK 3 .mv [.t 27]] [4,5,23,24,25,26,27])
 .ret)))
 (.seq
 (.region false [oK 29 (.bin .eql) [.t 11,.c (.y 40)],
 oK 28 .mv [.t 29]] [11,29])
 (.cond (.t 28) [28]
 (.seq
 (.region false [oK 31 .mv [.t 0],
 oK 32 (.slices true false) [.t 31,.c (.i 1)],
 oK 33 (.call n_impl_readOr 16896) [.t 32],
 oK 30 .mv [.t 33],
 oK 34 (.ext 0) [.t 30],
 oK 35 (.ext 1) [.t 30],
 oK 6 .mv [.t 34],
 oK 7 .mv [.t 35]] [0,30,31,32,33,34,35])
 (.seq
 (.seq
 (.region false [oK 36 .mv [.t 7],
 oK 37 (.bin .eql) [.t 36,.c (.s [])],
 oK 38 .mv [.t 37],
 oG 39 .mv [.t 7] 38 false,
 oG 40 .idx [.t 39,.c (.i 0)] 38 false,
 oG 41 (.bin .neq) [.t 40,.c (.y 41)] 38 false,
 oK 42 .pick [.t 38,.c (.b true),.t 41]] [36,37,38,39,40,41])
 (.cond (.t 42) [42]
 (.seq
 (.region false [oK 2 (.newnil 1040) [],
 oK 3 .mv [.c (.s [])]] [6,7])
 .ret)
 .skip))
 (.seq
 (.region true [oK 43 .mv [.t 6],
 oK 44 .mv [.t 7],
 oK 45 (.slices true false) [.t 44,.c (.i 1)],
 oK 2 .mv [.t 43],
 oK 3 .mv [.t 45]] [6,7,43,44,45])
 .ret)))
 .skip))))))
 (.seq
 (.region false [oK 46 .mv [.t 0],
 oK 47 (.call n_impl_readLetter 24064) [.t 46],
 oK 48 (.ext 0) [.t 47],
 oK 49 (.ext 1) [.t 47],
 oK 2 .mv [.t 48],
 oK 3 .mv [.t 49]] [0,46,47,48,49])
 .ret)))) }
/-- impl.bracketedFrom -/
def F_impl_bracketedFrom : LF :=
 { nparams := 2,results := [.t 4],body :=
 (.seq
 (.region false [oK 3 (.box 1552) [.t 1],
 oK 4 .mv [.c (.s [])]] [1,4])
 (.seq
 (.seq
 (.region false [oK 5 (.fld 1 1 false) [.t 3],
 oK 6 (.load 1 false) [.t 5],
 oK 7 .mv [.t 0],
 oK 8 (.bin .geq) [.t 6,.t 7]] [0,5,6,7])
 (.cond (.t 8) [8]
 (.seq
 (.region false [oK 9 (.fld 0 1 false) [.t 3],
 oK 10 (.load 1 false) [.t 9],
 oK 11 (.bin .add) [.c (.s [40]),.t 10],
 oK 12 (.bin .add) [.t 11,.c (.s [41])],
 oK 4 .mv [.t 12]] [3,9,10,11,12])
 .ret)
 .skip))
 (.seq
 (.region false [oK 13 (.fld 0 1 false) [.t 3],
 oK 14 (.load 1 false) [.t 13],
 oK 4 .mv [.t 14]] [3,13,14])
 .ret))) }
/-- impl.wholeOf -/
def F_impl_wholeOf_L0 : LC :=
 (.seq
 (.region false [oK 6 (.bin .lss) [.t 5,.t 4]] [])
 (.seq
 (.cond (.t 6) [6]
 .skip
 (.exit 0))
 (.seq
 (.block 1
 (.region false [oK 7 .mv [.t 3],
 oK 8 (.bin .mul) [.t 7,.c (.i 6)],
 oK 3 .mv [.t 8]] [7,8]))
 (.region false [oK 9 (.bin .add) [.t 5,.c (.i 1)],
 oK 5 .mv [.t 9]] [9]))))
def F_impl_wholeOf_W0 : LC := .loop F_impl_wholeOf_L0
def F_impl_wholeOf : LF :=
 { nparams := 1,results := [.t 2],body :=
 (.seq
 (.region false [oK 2 .mv [.c (.i 0)]] [2])
 (.seq
 (.region false [oK 3 .mv [.c (.i 1)]] [])
 (.seq
 (.seq
 (.region false [oK 4 .mv [.t 0],
 oK 5 .mv [.c (.i 0)]] [0])
 (.block 0
 F_impl_wholeOf_W0))
 (.seq
 (.region false [oK 10 .mv [.t 3],
 oK 2 .mv [.t 10]] [3,4,5,10])
 .ret)))) }
/-- bits.OnesCount64 -/
def F_math_bits_OnesCount64 : LF :=
 { nparams := 1,results := [.t 2],body :=
 (.seq
 (.region false [oK 2 .mv [.c (.i 0)]] [2])
 (.seq
 (.region false [oK 3 .mv [.t 0],
 oK 4 (.bin .shr) [.t 3,.c (.q 1)],
 oK 5 (.bin .and) [.t 4,.c (.q 6148914691236517205)],
 oK 6 .mv [.t 0],
 oK 7 (.bin .and) [.t 6,.c (.q 6148914691236517205)],
 oK 8 (.bin .add) [.t 5,.t 7],
 oK 0 .mv [.t 8]] [3,4,5,6,7,8])
 (.seq
 (.region false [oK 9 .mv [.t 0],
 oK 10 (.bin .shr) [.t 9,.c (.q 2)],
 oK 11 (.bin .and) [.t 10,.c (.q 3689348814741910323)],
 oK 12 .mv [.t 0],
 oK 13 (.bin .and) [.t 12,.c (.q 3689348814741910323)],
 oK 14 (.bin .add) [.t 11,.t 13],
 oK 0 .mv [.t 14]] [9,10,11,12,13,14])
 (.seq
 (.region false [oK 15 .mv [.t 0],
 oK 16 (.bin .shr) [.t 15,.c (.q 4)],
 oK 17 .mv [.t 0],
 oK 18 (.bin .add) [.t 16,.t 17],
 oK 19 (.bin .and) [.t 18,.c (.q 1085102592571150095)],
 oK 0 .mv [.t 19]] [15,16,17,18,19])
 (.seq
 (.region false [oK 20 .mv [.t 0],
 oK 21 .mv [.t 0],
 oK 22 (.bin .shr) [.t 21,.c (.q 8)],
 oK 23 (.bin .add) [.t 20,.t 22],
 oK 0 .mv [.t 23]] [20,21,22,23])
 (.seq
 (.region false [oK 24 .mv [.t 0],
 oK 25 .mv [.t 0],
 oK 26 (.bin .shr) [.t 25,.c (.q 16)],
 oK 27 (.bin .add) [.t 24,.t 26],
 oK 0 .mv [.t 27]] [24,25,26,27])
 (.seq
 (.region false [oK 28 .mv [.t 0],
 oK 29 .mv [.t 0],
 oK 30 (.bin .shr) [.t 29,.c (.q 32)],
 oK 31 (.bin .add) [.t 28,.t 30],
 oK 0 .mv [.t 31]] [28,29,30,31])
 (.seq
 (.region false [oK 32 .mv [.t 0],
 oK 33 (.conv .q2i 16896) [.t 32],
 oK 34 (.bin .and) [.t 33,.c (.i 127)],
 oK 2 .mv [.t 34]] [0,32,33,34])
 .ret)))))))) }
/-- impl.readLetter -/
def F_impl_readLetter : LF :=
 { nparams := 1,results := [.t 2,.t 3],body :=
 (.seq
 (.region false [oK 2 (.newnil 1040) [],
 oK 3 .mv [.c (.s [])]] [2,3])
 (.seq
 (.region false [oK 5 .mv [.t 0],
 oK 6 .idx [.t 5,.c (.i 0)],
 oK 7 (.call n_impl_placeOf 3584) [.t 6],
 oK 4 .mv [.t 7]] [5,6,7])
 (.seq
 (.seq
 (.region false [oK 8 .mv [.t 4],
 oK 9 (.call n_impl_isWithin 4608) [.t 8,.c (.i 0),.c (.i 4)],
 oK 10 (.un .not) [.t 9]] [8,9])
 (.cond (.t 10) [10]
 (.seq
 (.region false [oK 2 (.newnil 1040) [],
 oK 3 .mv [.c (.s [])]] [0,4])
 .ret)
 .skip))
 (.seq
 (.region true [oK 11 .mv [.t 4],
 oK 12 (.build [.i 0,.i 0] [(1,1)]) [.t 11],
 oK 13 (.bslice 6672 1 2 (.st [.i 0,.i 0]) [0]) [.t 12],
 oK 14 .mv [.t 0],
 oK 15 (.slices true false) [.t 14,.c (.i 1)],
 oK 2 .mv [.t 13],
 oK 3 .mv [.t 15]] [0,4,11,12,13,14,15])
 .ret)))) }
def lf : Nat → Option LF
 | 12 => some F_laws_FnTwoOfThree
 | 17 => some F_laws_alive
 | 28 => some F_spec_TestsOk
 | 45 => some F_spec_DrawCountBest
 | 46 => some F_impl_ReadTerm
 | 47 => some F_impl_BestAverage
 | 48 => some F_impl_CountBest
 | 49 => some F_impl_TrueWeight
 | 50 => some F_impl_CountWeight
 | 52 => some F_spec_l20Open
 | 55 => some F_impl_startOf
 | 63 => some F_impl_TestsOk
 | 65 => some F_impl_point_howManyAsked
 | 66 => some F_spec_l20Rd_pick
 | 68 => some F_impl_TermOk
 | 69 => some F_spec_l20Tests
 | 70 => some F_spec_l1In
 | 72 => some F_impl_WeightOf
 | 73 => some F_impl_isWithin
 | 77 => some F_impl_StateOk
 | 78 => some F_impl_hasState
 | 79 => some F_impl_trueStates
 | 84 => some F_spec_l20Count
 | 85 => some F_impl_readOr
 | 86 => some F_impl_TermText
 | 87 => some F_impl_leastFrom
 | 88 => some F_impl_averagesOf
 | 89 => some F_impl_CountOk
 | 90 => some F_impl_leastToCount
 | 91 => some F_impl_allOf
 | 92 => some F_impl_CountBest_1
 | 93 => some F_impl_weightOfStates
 | 94 => some F_impl_statesOf
 | 95 => some F_impl_sizeOf
 | 98 => some F_impl_point_value
 | 99 => some F_impl_point_answered
 | 100 => some F_impl_letterOf
 | 107 => some F_impl_point_canAsk
 | 108 => some F_impl_manyOk
 | 112 => some F_impl_placeOf
 | 113 => some F_impl_partsTaken
 | 114 => some F_impl_markOk
 | 115 => some F_spec_l20Rd_odd
 | 117 => some F_impl_outcomeIn
 | 118 => some F_impl_foldTerm_uint32
 | 119 => some F_impl_statesOfPart
 | 120 => some F_impl_readRow
 | 121 => some F_impl_readAnd
 | 122 => some F_impl_foldTerm_impl_writtenPart
 | 123 => some F_impl_writePart
 | 124 => some F_impl_point_isForced
 | 125 => some F_impl_averagesOf_1
 | 126 => some F_impl_averageAsking
 | 127 => some F_impl_hasTest
 | 128 => some F_math_bits_OnesCount
 | 133 => some F_impl_valueAmong
 | 134 => some F_impl_statesSaying
 | 140 => some F_impl_readNot
 | 141 => some F_impl_bracketedFrom
 | 142 => some F_impl_wholeOf
 | 144 => some F_math_bits_OnesCount64
 | 151 => some F_impl_readLetter
 | _ => none
theorem w_spec_TestsOk_0 (S : LS) : ex lf F_spec_TestsOk_W0 S = match ex lf F_spec_TestsOk_L0 S with | some (.normal,S1) => ex lf F_spec_TestsOk_W0 S1 | r => r := ex_loop lf F_spec_TestsOk_L0 S
theorem w_impl_CountWeight_0 (S : LS) : ex lf F_impl_CountWeight_W0 S = match ex lf F_impl_CountWeight_L0 S with | some (.normal,S1) => ex lf F_impl_CountWeight_W0 S1 | r => r := ex_loop lf F_impl_CountWeight_L0 S
theorem w_impl_TestsOk_0 (S : LS) : ex lf F_impl_TestsOk_W0 S = match ex lf F_impl_TestsOk_L0 S with | some (.normal,S1) => ex lf F_impl_TestsOk_W0 S1 | r => r := ex_loop lf F_impl_TestsOk_L0 S
theorem w_impl_TermOk_0 (S : LS) : ex lf F_impl_TermOk_W0 S = match ex lf F_impl_TermOk_L0 S with | some (.normal,S1) => ex lf F_impl_TermOk_W0 S1 | r => r := ex_loop lf F_impl_TermOk_L0 S
theorem w_spec_l20Tests_0 (S : LS) : ex lf F_spec_l20Tests_W0 S = match ex lf F_spec_l20Tests_L0 S with | some (.normal,S1) => ex lf F_spec_l20Tests_W0 S1 | r => r := ex_loop lf F_spec_l20Tests_L0 S
theorem w_impl_WeightOf_0 (S : LS) : ex lf F_impl_WeightOf_W0 S = match ex lf F_impl_WeightOf_L0 S with | some (.normal,S1) => ex lf F_impl_WeightOf_W0 S1 | r => r := ex_loop lf F_impl_WeightOf_L0 S
theorem w_impl_leastFrom_0 (S : LS) : ex lf F_impl_leastFrom_W0 S = match ex lf F_impl_leastFrom_L0 S with | some (.normal,S1) => ex lf F_impl_leastFrom_W0 S1 | r => r := ex_loop lf F_impl_leastFrom_L0 S
theorem w_impl_leastToCount_0 (S : LS) : ex lf F_impl_leastToCount_W0 S = match ex lf F_impl_leastToCount_L0 S with | some (.normal,S1) => ex lf F_impl_leastToCount_W0 S1 | r => r := ex_loop lf F_impl_leastToCount_L0 S
theorem w_impl_weightOfStates_0 (S : LS) : ex lf F_impl_weightOfStates_W0 S = match ex lf F_impl_weightOfStates_L0 S with | some (.normal,S1) => ex lf F_impl_weightOfStates_W0 S1 | r => r := ex_loop lf F_impl_weightOfStates_L0 S
theorem w_impl_foldTerm_uint32_0 (S : LS) : ex lf F_impl_foldTerm_uint32_W0 S = match ex lf F_impl_foldTerm_uint32_L0 S with | some (.normal,S1) => ex lf F_impl_foldTerm_uint32_W0 S1 | r => r := ex_loop lf F_impl_foldTerm_uint32_L0 S
theorem w_impl_readRow_0 (S : LS) : ex lf F_impl_readRow_W0 S = match ex lf F_impl_readRow_L0 S with | some (.normal,S1) => ex lf F_impl_readRow_W0 S1 | r => r := ex_loop lf F_impl_readRow_L0 S
theorem w_impl_foldTerm_impl_writtenPart_0 (S : LS) : ex lf F_impl_foldTerm_impl_writtenPart_W0 S = match ex lf F_impl_foldTerm_impl_writtenPart_L0 S with | some (.normal,S1) => ex lf F_impl_foldTerm_impl_writtenPart_W0 S1 | r => r := ex_loop lf F_impl_foldTerm_impl_writtenPart_L0 S
theorem w_impl_wholeOf_0 (S : LS) : ex lf F_impl_wholeOf_W0 S = match ex lf F_impl_wholeOf_L0 S with | some (.normal,S1) => ex lf F_impl_wholeOf_W0 S1 | r => r := ex_loop lf F_impl_wholeOf_L0 S
end Zz
