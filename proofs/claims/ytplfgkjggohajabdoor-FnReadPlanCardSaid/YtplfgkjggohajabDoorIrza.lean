/- The functions of the program, read as data. No conditions. -/
import Derived.Test.YtplfgkjggohajabDoorLgEza
import Derived.Shelf.SlGeneric
set_option linter.unusedSectionVars false
set_option linter.unusedVariables false
set_option linter.unusedSimpArgs false
namespace Zz
open Go.Lg
abbrev oK (d : Nat) (k : K) (a : List Opd) : LOp := ⟨some d, k, a, none⟩
abbrev oG (d : Nat) (k : K) (a : List Opd) (t : Nat) (b : Bool) : LOp := ⟨some d, k, a, some (t, b)⟩
def n_laws_FnReadPlan : Nat := 4
def n_impl_PlanText : Nat := 14
def n_spec_PlanText : Nat := 15
def n_impl_PlanOk : Nat := 16
def n_laws_alive : Nat := 17
def n_impl_ReadPlan : Nat := 18
def n_spec_DrawReadPlan : Nat := 20
def n_spec_ReadPlan : Nat := 21
def n_laws_samePlan : Nat := 22
def n_spec_TestsOk : Nat := 28
def n_spec_TermOk : Nat := 35
def n_spec_l20Planned : Nat := 51
def n_spec_l20Open : Nat := 52
def n_impl_foldPlan_string : Nat := 53
def n_impl_firstOf : Nat := 54
def n_impl_startOf : Nat := 55
def n_impl_writeValue : Nat := 56
def n_impl_writeChoice : Nat := 57
def n_spec_PlanOk : Nat := 58
def n_spec_l11Text : Nat := 59
def n_spec_l3Table : Nat := 60
def n_spec_l4None : Nat := 61
def n_impl_pointsOf : Nat := 62
def n_impl_TestsOk : Nat := 63
def n_impl_readChoices : Nat := 64
def n_spec_l20Rd_pick : Nat := 66
def n_spec_l11Read : Nat := 67
def n_impl_TermOk : Nat := 68
def n_spec_l20Tests : Nat := 69
def n_spec_l1In : Nat := 70
def n_impl_isWithin : Nat := 73
def n_impl_trueStates : Nat := 79
def n_spec_l20Case : Nat := 96
def n_spec_l20Plan : Nat := 97
def n_impl_point_value : Nat := 98
def n_impl_point_answered : Nat := 99
def n_impl_letterOf : Nat := 100
def n_spec_l6Checks : Nat := 101
def n_spec_l6Once : Nat := 102
def n_spec_l1Number : Nat := 103
def n_spec_l3Forced : Nat := 104
def n_spec_l3Value : Nat := 105
def n_impl_comesTo : Nat := 106
def n_impl_point_canAsk : Nat := 107
def n_impl_manyOk : Nat := 108
def n_impl_readBehind : Nat := 109
def n_strings_CutPrefix : Nat := 110
def n_impl_laidOut : Nat := 111
def n_impl_placeOf : Nat := 112
def n_impl_partsTaken : Nat := 113
def n_impl_markOk : Nat := 114
def n_spec_l20Rd_odd : Nat := 115
def n_impl_foldTerm_uint32 : Nat := 118
def n_impl_statesOfPart : Nat := 119
def n_impl_point_isForced : Nat := 124
def n_impl_hasTest : Nat := 127
def n_spec_l20Term : Nat := 129
def n_spec_BestPlan : Nat := 130
def n_spec_OrderPlan : Nat := 131
def n_spec_l20Order : Nat := 132
def n_impl_valueAmong : Nat := 133
def n_impl_statesSaying : Nat := 134
def n_spec_l1Agrees : Nat := 135
def n_spec_l2Starts : Nat := 136
def n_internal_stringslite_CutPrefix : Nat := 137
def n_slices_Concat_impl_Choice_impl_Choice : Nat := 138
def n_spec_l6Grow : Nat := 145
def n_spec_l1Power : Nat := 146
def n_spec_OrderOk : Nat := 147
def n_spec_l6Line : Nat := 148
def n_internal_stringslite_HasPrefix : Nat := 149
def n_slices_Grow_impl_Choice_impl_Choice : Nat := 150
def n_spec_l6Best : Nat := 152
def bkFs : List Nat := []
instance : GL := ⟨[(0,.st [.w (2863311530#32),.w (3435973836#32),.w (4042322160#32),.w (4278255360#32),.w (4294901760#32)])],[42,43,106],["l4_orders.go:82","l10_rounds.go:90"],[],[(67,[2]),(145,[4]),(148,[5]),(150,[0])],[],["l20_draw.go:447"],bkFs⟩
theorem gEnv_0 : gEnv [0] = [(1048576,.adr (.st [.w (2863311530#32),.w (3435973836#32),.w (4042322160#32),.w (4278255360#32),.w (4294901760#32)]))] := rfl
def F_laws_FnReadPlan : LF :=
 { nparams := 1,results := [.t 2],body :=
 (.seq
 (.region false [oK 2 .mv [.c (.b false)]] [2])
 (.seq
 (.seq
 (.region false [oK 12 .mv [.t 0],
 oK 13 .len [.t 12],
 oK 14 (.bin .gtr) [.t 13,.c (.i 1048576)]] [12,13])
 (.cond (.t 14) [14]
 (.seq
 (.region false [oK 2 .mv [.c (.b true)]] [0])
 .ret)
 .skip))
 (.seq
 (.region false [oK 16 .mv [.t 0],
 oK 17 (.call n_spec_DrawReadPlan 8704) [.t 16],
 oK 15 .mv [.t 17],
 oK 18 (.ext 0) [.t 15],
 oK 19 (.ext 1) [.t 15],
 oK 20 (.ext 2) [.t 15],
 oK 3 .mv [.t 18],
 oK 4 .mv [.t 19],
 oK 5 .mv [.t 20]] [0,15,16,17,18,19,20])
 (.seq
 (.region false [oK 22 .mv [.t 3],
 oK 23 .mv [.t 4],
 oK 24 .mv [.t 5],
 oK 25 (.call n_impl_ReadPlan 12800) [.t 22,.t 23,.t 24],
 oK 21 .mv [.t 25],
 oK 26 (.ext 0) [.t 21],
 oK 27 (.ext 1) [.t 21],
 oK 6 .mv [.t 26],
 oK 7 .mv [.t 27]] [21,22,23,24,25,26,27])
 (.seq
 (.region false [oK 29 .mv [.t 3],
 oK 30 .mv [.t 4],
 oK 31 .mv [.t 5],
 oK 32 (.call n_spec_ReadPlan 16384) [.t 29,.t 30,.t 31],
 oK 28 .mv [.t 32],
 oK 33 (.ext 0) [.t 28],
 oK 34 (.ext 1) [.t 28],
 oK 8 .mv [.t 33],
 oK 9 .mv [.t 34]] [28,29,30,31,32,33,34])
 (.seq
 (.seq
 (.region false [oK 35 .mv [.t 6],
 oK 36 .mv [.t 8],
 oK 37 (.call n_laws_samePlan 18944) [.t 35,.t 36],
 oK 38 (.un .not) [.t 37],
 oK 39 .mv [.t 38],
 oG 40 .mv [.t 7] 39 false,
 oG 41 .mv [.t 9] 39 false,
 oG 42 (.eqb true) [.t 40,.t 41] 39 false,
 oK 43 .pick [.t 39,.c (.b true),.t 42]] [8,9,35,36,37,38,39,40,41,42])
 (.cond (.t 43) [43]
 (.seq
 (.region false [oK 2 .mv [.c (.b false)]] [3,4,5,6,7])
 .ret)
 .skip))
 (.seq
 (.seq
 (.region false [oK 44 .mv [.t 7],
 oK 45 (.un .not) [.t 44]] [7,44])
 (.cond (.t 45) [45]
 (.seq
 (.region false [oK 46 .mv [.t 6],
 oK 47 .len [.t 46],
 oK 48 (.bin .eql) [.t 47,.c (.i 0)],
 oK 49 .mv [.t 48],
 oG 50 (.call n_laws_alive 25600) [] 49 true,
 oK 51 .pick [.t 49,.t 50,.c (.b false)],
 oK 2 .mv [.t 51]] [3,4,5,6,46,47,48,49,50,51])
 .ret)
 .skip))
 (.seq
 (.region false [oK 53 .mv [.t 3],
 oK 54 .mv [.t 4],
 oK 55 .mv [.t 5],
 oK 56 (.bin .add) [.t 55,.c (.s [41])],
 oK 57 (.call n_impl_ReadPlan 29184) [.t 53,.t 54,.t 56],
 oK 52 .mv [.t 57],
 oK 58 (.ext 0) [.t 52],
 oK 59 (.ext 1) [.t 52],
 oK 10 .mv [.t 58],
 oK 11 .mv [.t 59]] [10,52,53,54,55,56,57,58,59])
 (.seq
 (.region false [oK 60 .mv [.t 3],
 oK 61 .mv [.t 4],
 oK 62 .mv [.t 6],
 oK 63 (.call n_impl_PlanText 32256) [.t 60,.t 61,.t 62],
 oK 64 .mv [.t 5],
 oK 65 (.bin .eql) [.t 63,.t 64],
 oK 66 .mv [.t 65],
 oG 67 .mv [.t 3] 66 true,
 oG 68 .mv [.t 4] 66 true,
 oG 69 .mv [.t 6] 66 true,
 oG 70 (.call n_impl_PlanOk 35840) [.t 67,.t 68,.t 69] 66 true,
 oK 71 .pick [.t 66,.t 70,.c (.b false)],
 oK 72 .mv [.t 71],
 oG 73 .mv [.t 11] 72 true,
 oG 74 (.un .not) [.t 73] 72 true,
 oK 75 .pick [.t 72,.t 74,.c (.b false)],
 oK 2 .mv [.t 75]] [3,4,5,6,11,60,61,62,63,64,65,66,67,68,69,70,71,72,73,74,75])
 .ret))))))))) }
def F_impl_PlanText : LF :=
 { nparams := 3,results := [.t 6],body :=
 (.seq
 (.region false [oK 6 .mv [.c (.s [])]] [6])
 (.seq
 (.seq
 (.region false [oK 7 .mv [.t 0],
 oK 8 .mv [.t 1],
 oK 9 .mv [.t 2],
 oK 10 (.call n_impl_PlanOk 5120) [.t 7,.t 8,.t 9],
 oK 11 (.un .not) [.t 10]] [7,8,9,10])
 (.cond (.t 11) [11]
 (.seq
 (.region false [oK 6 .mv [.c (.s [])]] [0,1,2])
 .ret)
 .skip))
 (.seq
 (.region false [oK 12 .mv [.t 2],
 oK 13 .mv [.t 2],
 oK 14 (.call n_impl_firstOf 7168) [.t 13],
 oK 15 .mv [.t 0],
 oK 16 .mv [.t 1],
 oK 17 (.call n_impl_startOf 8704) [.t 15,.t 16],
 oK 18 (.call n_impl_foldPlan_string 9216) [.t 12,.t 14,.t 17,.c (.fn n_impl_writeValue []),.c (.fn n_impl_writeChoice [])],
 oK 6 .mv [.t 18]] [0,1,2,12,13,14,15,16,17,18])
 .ret))) }
def F_spec_PlanText : LF :=
 { nparams := 3,results := [.t 6],body :=
 (.seq
 (.region false [oK 6 .mv [.c (.s [])]] [6])
 (.seq
 (.seq
 (.region false [oK 8 .mv [.t 0],
 oK 9 .mv [.t 1],
 oK 10 .mv [.t 2],
 oK 11 (.call n_spec_PlanOk 5632) [.t 8,.t 9,.t 10],
 oK 12 (.un .not) [.t 11]] [8,9,10,11])
 (.cond (.t 12) [12]
 (.seq
 (.region false [oK 6 .mv [.c (.s [])]] [0,1,2])
 .ret)
 .skip))
 (.seq
 (.region false [oK 7 .mv [.c (.i 0)]] [])
 (.seq
 (.seq
 (.region false [oK 13 .mv [.t 2],
 oK 14 .len [.t 13],
 oK 15 (.bin .eql) [.t 14,.c (.i 0)]] [13,14])
 (.cond (.t 15) [15]
 (.region false [oK 7 .mv [.c (.i (-1))]] [])
 .skip))
 (.seq
 (.region false [oK 16 .mv [.t 0],
 oK 17 .mv [.t 0],
 oK 18 .mv [.t 1],
 oK 19 (.call n_spec_l3Table 9728) [.t 17,.t 18],
 oK 20 .mv [.t 2],
 oK 21 .mv [.t 7],
 oK 22 .mv [.t 0],
 oK 23 (.call n_spec_l4None 11776) [.t 22],
 oK 24 (.call n_spec_l11Text 12288) [.t 16,.t 19,.t 20,.t 21,.t 23],
 oK 6 .mv [.t 24]] [0,1,2,7,16,17,18,19,20,21,22,23,24])
 .ret))))) }
def F_impl_PlanOk : LF :=
 { nparams := 3,results := [.t 6],body :=
 (.seq
 (.region false [oK 6 .mv [.c (.b false)]] [6])
 (.seq
 (.region false [oK 10 .mv [.t 0],
 oK 11 .mv [.t 1],
 oK 12 .mv [.t 2],
 oK 13 (.call n_impl_pointsOf 6656) [.t 10,.t 11,.t 12],
 oK 9 .mv [.t 13],
 oK 14 (.ext 0) [.t 9],
 oK 15 (.ext 1) [.t 9],
 oK 7 .mv [.t 14],
 oK 8 .mv [.t 15]] [0,1,2,7,9,10,11,12,13,14,15])
 (.seq
 (.region false [oK 16 .mv [.t 8],
 oK 6 .mv [.t 16]] [8,16])
 .ret))) }
def F_laws_alive : LF :=
 { nparams := 0,results := [.t 0],body :=
 (.seq
 (.region false [oK 0 .mv [.c (.b false)]] [0])
 (.seq
 (.region false [oK 1 (.build [.i 0,.i 0] [(0,1),(1,1)]) [.c (.i 1),.c (.i 1)],
 oK 2 (.bslice 1040 1 2 (.st [.i 0,.i 0]) [0]) [.t 1],
 oK 3 (.call n_impl_TestsOk 1536) [.t 2],
 oK 4 .mv [.t 3],
 oG 5 (.build [.i 0,.i 0] []) [] 4 true,
 oG 6 (.bslice 3088 1 2 (.st [.i 0,.i 0]) [0]) [.t 5] 4 true,
 oG 7 (.call n_impl_TestsOk 3584) [.t 6] 4 true,
 oG 8 (.un .not) [.t 7] 4 true,
 oK 9 .pick [.t 4,.t 8,.c (.b false)],
 oK 0 .mv [.t 9]] [1,2,3,4,5,6,7,8,9])
 .ret)) }
def F_impl_ReadPlan : LF :=
 { nparams := 3,results := [.t 6,.t 7],body :=
 (.seq
 (.region false [oK 6 (.newnil 3096) [],
 oK 7 .mv [.c (.b false)]] [6,7])
 (.seq
 (.seq
 (.region false [oK 11 .mv [.t 2],
 oK 12 .lens [.t 11],
 oK 13 (.bin .gtr) [.t 12,.c (.i 400)]] [11,12])
 (.cond (.t 13) [13]
 (.seq
 (.region false [oK 6 (.newnil 3096) [],
 oK 7 .mv [.c (.b false)]] [0,1,2])
 .ret)
 .skip))
 (.seq
 (.region false [oK 15 .mv [.t 2],
 oK 16 (.call n_impl_readChoices 8192) [.t 15,.c (.i 0)],
 oK 14 .mv [.t 16],
 oK 17 (.ext 0) [.t 14],
 oK 18 (.ext 1) [.t 14],
 oK 19 (.ext 2) [.t 14],
 oK 8 .mv [.t 17],
 oK 9 .mv [.t 18],
 oK 10 .mv [.t 19]] [14,15,16,17,18,19])
 (.seq
 (.seq
 (.region false [oK 20 .mv [.t 10],
 oK 21 (.un .not) [.t 20],
 oK 22 .mv [.t 21],
 oG 23 .mv [.t 9] 22 false,
 oG 24 (.bin .neq) [.t 23,.c (.s [])] 22 false,
 oK 25 .pick [.t 22,.c (.b true),.t 24],
 oK 26 .mv [.t 25],
 oG 27 .mv [.t 0] 26 false,
 oG 28 .mv [.t 1] 26 false,
 oG 29 .mv [.t 8] 26 false,
 oG 30 (.call n_impl_PlanText 15360) [.t 27,.t 28,.t 29] 26 false,
 oG 31 .mv [.t 2] 26 false,
 oG 32 (.bin .neq) [.t 30,.t 31] 26 false,
 oK 33 .pick [.t 26,.c (.b true),.t 32]] [0,1,2,9,10,20,21,22,23,24,25,26,27,28,29,30,31,32])
 (.cond (.t 33) [33]
 (.seq
 (.region false [oK 6 (.newnil 3096) [],
 oK 7 .mv [.c (.b false)]] [8])
 .ret)
 .skip))
 (.seq
 (.region false [oK 34 .mv [.t 8],
 oK 6 .mv [.t 34],
 oK 7 .mv [.c (.b true)]] [8,34])
 .ret))))) }
def F_spec_DrawReadPlan : LF :=
 { nparams := 1,results := [.t 2,.t 3,.t 4],body :=
 (.seq
 (.region false [oK 2 .mv [.c (.i 0)],
 oK 3 (.newnil 1552) [],
 oK 4 .mv [.c (.s [])]] [2,3,4])
 (.seq
 (.region false [oK 11 .mv [.t 0],
 oK 12 (.call n_spec_l20Open 6144) [.t 11],
 oK 5 .mv [.t 12]] [0,11,12])
 (.seq
 (.region false [oK 14 .mv [.t 5],
 oK 15 (.call n_spec_l20Planned 7680) [.t 14,.c (.i 30)],
 oK 13 .mv [.t 15],
 oK 16 (.ext 0) [.t 13],
 oK 17 (.ext 1) [.t 13],
 oK 18 (.ext 2) [.t 13],
 oK 6 .mv [.t 16],
 oK 7 .mv [.t 17],
 oK 8 .mv [.t 18]] [13,14,15,16,17,18])
 (.seq
 (.region false [oK 19 .mv [.t 6],
 oK 20 .mv [.t 7],
 oK 21 .mv [.t 8],
 oK 22 (.call n_spec_PlanText 11264) [.t 19,.t 20,.t 21],
 oK 9 .mv [.t 22]] [8,19,20,21,22])
 (.seq
 (.seq
 (.region false [oK 23 .mv [.t 5],
 oK 24 (.call n_spec_l20Rd_pick 12288) [.t 23,.c (.i 3)],
 oK 25 (.bin .eql) [.t 24,.c (.i 0)],
 oK 26 .mv [.t 25],
 oG 27 .mv [.t 9] 26 true,
 oG 28 .lens [.t 27] 26 true,
 oG 29 (.bin .gtr) [.t 28,.c (.i 0)] 26 true,
 oK 30 .pick [.t 26,.t 29,.c (.b false)]] [23,24,25,26,27,28,29])
 (.cond (.t 30) [30]
 (.seq
 (.region false [oK 31 .mv [.t 5],
 oK 32 .mv [.t 9],
 oK 33 .lens [.t 32],
 oK 34 (.call n_spec_l20Rd_pick 17408) [.t 31,.t 33],
 oK 10 .mv [.t 34]] [31,32,33,34])
 (.seq
 (.region true [oK 35 .mv [.t 6],
 oK 36 .mv [.t 7],
 oK 37 .mv [.t 9],
 oK 38 .mv [.t 10],
 oK 39 (.slices false true) [.t 37,.t 38],
 oK 40 (.bslice 20488 8 1 (.s []) [0,1,2,3,4,5,6,7]) [.c (.s []),.c (.s [40]),.c (.s [41]),.c (.s [44]),.c (.s [48]),.c (.s [49]),.c (.s [97]),.c (.s [98,40,48,44,49,41])],
 oK 41 .mv [.t 5],
 oK 42 (.call n_spec_l20Rd_pick 21504) [.t 41,.c (.i 8)],
 oK 43 (.idxa 1) [.t 40,.t 42],
 oK 44 (.load 1 false) [.t 43],
 oK 45 (.bin .add) [.t 39,.t 44],
 oK 46 .mv [.t 9],
 oK 47 .mv [.t 10],
 oK 48 .mv [.t 5],
 oK 49 (.call n_spec_l20Rd_pick 25088) [.t 48,.c (.i 2)],
 oK 50 (.bin .add) [.t 47,.t 49],
 oK 51 (.slices true false) [.t 46,.t 50],
 oK 52 (.bin .add) [.t 45,.t 51],
 oK 2 .mv [.t 35],
 oK 3 .mv [.t 36],
 oK 4 .mv [.t 52]] [5,6,7,9,10,35,36,37,38,39,40,41,42,43,44,45,46,47,48,49,50,51,52])
 .ret))
 .skip))
 (.seq
 (.region false [oK 53 .mv [.t 6],
 oK 54 .mv [.t 7],
 oK 55 .mv [.t 9],
 oK 2 .mv [.t 53],
 oK 3 .mv [.t 54],
 oK 4 .mv [.t 55]] [5,6,7,9,53,54,55])
 .ret)))))) }
def F_spec_ReadPlan : LF :=
 { nparams := 3,results := [.t 6,.t 7],body :=
 (.seq
 (.region false [oK 6 (.newnil 3096) [],
 oK 7 .mv [.c (.b false)]] [6,7])
 (.seq
 (.seq
 (.region false [oK 11 .mv [.t 2],
 oK 12 .lens [.t 11],
 oK 13 (.bin .gtr) [.t 12,.c (.i 400)]] [11,12])
 (.cond (.t 13) [13]
 (.seq
 (.region false [oK 14 (.bslice 7192 0 3 (.st [.i 0,.i 0,.i 0]) []) [],
 oK 6 .mv [.t 14],
 oK 7 .mv [.c (.b false)]] [0,1,2,14])
 .ret)
 .skip))
 (.seq
 (.region false [oK 16 .mv [.t 2],
 oK 17 (.bslice 8728 0 3 (.st [.i 0,.i 0,.i 0]) []) [],
 oK 18 (.callm n_spec_l11Read [2] 9216) [.t 16,.c (.i 0),.t 17],
 oK 15 .mv [.t 18],
 oK 19 (.ext 0) [.t 15],
 oK 20 (.ext 1) [.t 15],
 oK 21 (.ext 2) [.t 15],
 oK 8 .mv [.t 19],
 oK 9 .mv [.t 20],
 oK 10 .mv [.t 21]] [9,15,16,17,18,19,20,21])
 (.seq
 (.seq
 (.region false [oK 22 .mv [.t 10],
 oK 23 .mv [.t 2],
 oK 24 .lens [.t 23],
 oK 25 (.bin .neq) [.t 22,.t 24],
 oK 26 .mv [.t 25],
 oG 27 .mv [.t 0] 26 false,
 oG 28 .mv [.t 1] 26 false,
 oG 29 .mv [.t 8] 26 false,
 oG 30 (.call n_spec_PlanText 15360) [.t 27,.t 28,.t 29] 26 false,
 oG 31 .mv [.t 2] 26 false,
 oG 32 (.bin .neq) [.t 30,.t 31] 26 false,
 oK 33 .pick [.t 26,.c (.b true),.t 32]] [0,1,2,10,22,23,24,25,26,27,28,29,30,31,32])
 (.cond (.t 33) [33]
 (.seq
 (.region false [oK 34 (.bslice 17432 0 3 (.st [.i 0,.i 0,.i 0]) []) [],
 oK 6 .mv [.t 34],
 oK 7 .mv [.c (.b false)]] [8,34])
 .ret)
 .skip))
 (.seq
 (.region false [oK 35 .mv [.t 8],
 oK 6 .mv [.t 35],
 oK 7 .mv [.c (.b true)]] [8,35])
 .ret))))) }
def F_laws_samePlan_L0 : LC :=
 (.seq
 (.seq
 (.region false [oK 11 .mv [.t 5],
 oK 12 .mv [.t 0],
 oK 13 .len [.t 12],
 oK 14 (.bin .lss) [.t 11,.t 13]] [11,12,13])
 (.cond (.t 14) [14]
 .skip
 (.exit 0)))
 (.seq
 (.block 1
 (.seq
 (.region true [oK 17 .mv [.t 0],
 oK 18 .mv [.t 5],
 oK 19 (.idxa 3) [.t 17,.t 18],
 oK 20 (.load 3 true) [.t 19],
 oK 21 .mv [.t 1],
 oK 22 .mv [.t 5],
 oK 23 (.idxa 3) [.t 21,.t 22],
 oK 24 (.load 3 true) [.t 23],
 oK 25 (.eqs true 3) [.t 20,.t 24]] [17,18,19,20,21,22,23,24])
 (.cond (.t 25) [25]
 (.seq
 (.region false [oK 4 .mv [.c (.b false)]] [0,1,5])
 .ret)
 .skip)))
 (.region false [oK 15 .mv [.t 5],
 oK 16 (.bin .add) [.t 15,.c (.i 1)],
 oK 5 .mv [.t 16]] [15,16])))
def F_laws_samePlan_W0 : LC := .loop F_laws_samePlan_L0
def F_laws_samePlan : LF :=
 { nparams := 2,results := [.t 4],body :=
 (.seq
 (.region false [oK 4 .mv [.c (.b false)]] [4])
 (.seq
 (.seq
 (.region false [oK 6 .mv [.t 0],
 oK 7 .len [.t 6],
 oK 8 .mv [.t 1],
 oK 9 .len [.t 8],
 oK 10 (.bin .neq) [.t 7,.t 9]] [6,7,8,9])
 (.cond (.t 10) [10]
 (.seq
 (.region false [oK 4 .mv [.c (.b false)]] [0,1])
 .ret)
 .skip))
 (.seq
 (.seq
 (.region false [oK 5 .mv [.c (.i 0)]] [])
 (.block 0
 F_laws_samePlan_W0))
 (.seq
 (.region false [oK 4 .mv [.c (.b true)]] [0,1,5])
 .ret)))) }
def F_spec_TestsOk_L0 : LC :=
 (.seq
 (.seq
 (.region false [oK 4 .mv [.t 3],
 oK 5 .mv [.t 0],
 oK 6 .len [.t 5],
 oK 7 (.bin .lss) [.t 4,.t 6]] [4,5,6])
 (.cond (.t 7) [7]
 .skip
 (.exit 0)))
 (.seq
 (.block 1
 (.seq
 (.region false [oK 10 .mv [.t 0],
 oK 11 .mv [.t 3],
 oK 12 (.idxa 2) [.t 10,.t 11],
 oK 13 (.fld 0 1 false) [.t 12],
 oK 14 (.load 1 false) [.t 13],
 oK 15 (.call n_spec_l1In 7680) [.t 14,.c (.i 1),.c (.i 9)],
 oK 16 (.un .not) [.t 15],
 oK 17 .mv [.t 16],
 oG 18 .mv [.t 0] 17 false,
 oG 19 .mv [.t 3] 17 false,
 oG 20 (.idxa 2) [.t 18,.t 19] 17 false,
 oG 21 (.fld 1 1 false) [.t 20] 17 false,
 oG 22 (.load 1 false) [.t 21] 17 false,
 oG 23 (.call n_spec_l1In 11776) [.t 22,.c (.i 1),.c (.i 5)] 17 false,
 oG 24 (.un .not) [.t 23] 17 false,
 oK 25 .pick [.t 17,.c (.b true),.t 24]] [10,11,12,13,14,15,16,17,18,19,20,21,22,23,24])
 (.cond (.t 25) [25]
 (.seq
 (.region false [oK 2 .mv [.c (.b false)]] [0,3])
 .ret)
 .skip)))
 (.region false [oK 8 .mv [.t 3],
 oK 9 (.bin .add) [.t 8,.c (.i 1)],
 oK 3 .mv [.t 9]] [8,9])))
def F_spec_TestsOk_W0 : LC := .loop F_spec_TestsOk_L0
def F_spec_TestsOk : LF :=
 { nparams := 1,results := [.t 2],body :=
 (.seq
 (.region false [oK 2 .mv [.c (.b false)]] [2])
 (.seq
 (.seq
 (.region false [oK 3 .mv [.c (.i 0)]] [])
 (.block 0
 F_spec_TestsOk_W0))
 (.seq
 (.region false [oK 26 .mv [.t 0],
 oK 27 .len [.t 26],
 oK 28 (.call n_spec_l1In 14336) [.t 27,.c (.i 1),.c (.i 5)],
 oK 2 .mv [.t 28]] [0,3,26,27,28])
 .ret))) }
def F_spec_TermOk_L0 : LC :=
 (.seq
 (.seq
 (.region false [oK 7 .mv [.t 6],
 oK 8 .mv [.t 1],
 oK 9 .len [.t 8],
 oK 10 (.bin .lss) [.t 7,.t 9]] [7,8,9])
 (.cond (.t 10) [10]
 .skip
 (.exit 0)))
 (.seq
 (.block 1
 (.block 2
 (.seq
 (.region false [oK 14 .mv [.t 1],
 oK 15 .mv [.t 6],
 oK 16 (.idxa 2) [.t 14,.t 15],
 oK 17 (.fld 0 1 false) [.t 16],
 oK 18 (.load 1 false) [.t 17],
 oK 19 (.bin .eql) [.t 18,.c (.i 0)],
 oK 20 .mv [.t 19],
 oG 21 .mv [.t 1] 20 true,
 oG 22 .mv [.t 6] 20 true,
 oG 23 (.idxa 2) [.t 21,.t 22] 20 true,
 oG 24 (.fld 1 1 false) [.t 23] 20 true,
 oG 25 (.load 1 false) [.t 24] 20 true,
 oG 26 (.bin .geq) [.t 25,.c (.i 0)] 20 true,
 oK 27 .pick [.t 20,.t 26,.c (.b false)],
 oK 28 .mv [.t 27],
 oG 29 .mv [.t 1] 28 true,
 oG 30 .mv [.t 6] 28 true,
 oG 31 (.idxa 2) [.t 29,.t 30] 28 true,
 oG 32 (.fld 1 1 false) [.t 31] 28 true,
 oG 33 (.load 1 false) [.t 32] 28 true,
 oG 34 .mv [.t 0] 28 true,
 oG 35 (.bin .lss) [.t 33,.t 34] 28 true,
 oK 36 .pick [.t 28,.t 35,.c (.b false)],
 oK 13 .mv [.t 36]] [14,15,16,17,18,19,20,21,22,23,24,25,26,27,28,29,30,31,32,33,34,35,36])
 (.cond (.t 13) [13]
 (.region false [oK 37 .mv [.t 5],
 oK 38 (.bin .add) [.t 37,.c (.i 1)],
 oK 5 .mv [.t 38]] [37,38])
 (.seq
 (.region false [oK 40 .mv [.t 1],
 oK 41 .mv [.t 6],
 oK 42 (.idxa 2) [.t 40,.t 41],
 oK 43 (.load 2 true) [.t 42],
 oK 44 (.build [.i 0,.i 0] [(0,1)]) [.c (.i 1)],
 oK 45 (.eqs false 2) [.t 43,.t 44],
 oK 46 .mv [.t 45],
 oG 47 .mv [.t 5] 46 true,
 oG 48 (.bin .geq) [.t 47,.c (.i 1)] 46 true,
 oK 49 .pick [.t 46,.t 48,.c (.b false)],
 oK 39 .mv [.t 49]] [40,41,42,43,44,45,46,47,48,49])
 (.cond (.t 39) [39]
 .skip
 (.seq
 (.region false [oK 51 .mv [.t 1],
 oK 52 .mv [.t 6],
 oK 53 (.idxa 2) [.t 51,.t 52],
 oK 54 (.load 2 true) [.t 53],
 oK 55 (.build [.i 0,.i 0] [(0,1)]) [.c (.i 2)],
 oK 56 (.eqs false 2) [.t 54,.t 55],
 oK 57 .mv [.t 56],
 oG 58 .mv [.t 1] 57 false,
 oG 59 .mv [.t 6] 57 false,
 oG 60 (.idxa 2) [.t 58,.t 59] 57 false,
 oG 61 (.load 2 true) [.t 60] 57 false,
 oG 62 (.build [.i 0,.i 0] [(0,1)]) [.c (.i 3)] 57 false,
 oG 63 (.eqs false 2) [.t 61,.t 62] 57 false,
 oK 64 .pick [.t 57,.c (.b true),.t 63],
 oK 65 .mv [.t 64],
 oG 66 .mv [.t 5] 65 true,
 oG 67 (.bin .geq) [.t 66,.c (.i 2)] 65 true,
 oK 68 .pick [.t 65,.t 67,.c (.b false)],
 oK 50 .mv [.t 68]] [51,52,53,54,55,56,57,58,59,60,61,62,63,64,65,66,67,68])
 (.cond (.t 50) [50]
 (.region false [oK 69 .mv [.t 5],
 oK 70 (.bin .sub) [.t 69,.c (.i 1)],
 oK 5 .mv [.t 70]] [69,70])
 (.seq
 (.region false [oK 4 .mv [.c (.b false)]] [0,1,5,6])
 .ret)))))))))
 (.region false [oK 11 .mv [.t 6],
 oK 12 (.bin .add) [.t 11,.c (.i 1)],
 oK 6 .mv [.t 12]] [11,12])))
def F_spec_TermOk_W0 : LC := .loop F_spec_TermOk_L0
def F_spec_TermOk : LF :=
 { nparams := 2,results := [.t 4],body :=
 (.seq
 (.region false [oK 4 .mv [.c (.b false)]] [4])
 (.seq
 (.region false [oK 5 .mv [.c (.i 0)]] [])
 (.seq
 (.seq
 (.region false [oK 6 .mv [.c (.i 0)]] [])
 (.block 0
 F_spec_TermOk_W0))
 (.seq
 (.region false [oK 71 .mv [.t 0],
 oK 72 (.call n_spec_l1In 36864) [.t 71,.c (.i 1),.c (.i 5)],
 oK 73 .mv [.t 72],
 oG 74 .mv [.t 5] 73 true,
 oG 75 (.bin .eql) [.t 74,.c (.i 1)] 73 true,
 oK 76 .pick [.t 73,.t 75,.c (.b false)],
 oK 77 .mv [.t 76],
 oG 78 .mv [.t 1] 77 true,
 oG 79 .len [.t 78] 77 true,
 oG 80 (.bin .leq) [.t 79,.c (.i 13)] 77 true,
 oK 81 .pick [.t 77,.t 80,.c (.b false)],
 oK 4 .mv [.t 81]] [0,1,5,6,71,72,73,74,75,76,77,78,79,80,81])
 .ret)))) }
def F_spec_l20Planned : LF :=
 { nparams := 2,results := [.t 4,.t 5,.t 6],body :=
 (.seq
 (.region false [oK 4 .mv [.c (.i 0)],
 oK 5 (.newnil 2576) [],
 oK 6 (.newnil 3096) []] [4,5,6])
 (.seq
 (.region false [oK 10 .mv [.t 0],
 oK 11 (.call n_spec_l20Case 5632) [.t 10,.c (.i 14)],
 oK 9 .mv [.t 11],
 oK 12 (.ext 0) [.t 9],
 oK 13 (.ext 1) [.t 9],
 oK 7 .mv [.t 12],
 oK 8 .mv [.t 13]] [9,10,11,12,13])
 (.ghost (.freeze 7)
(.ghost (.freeze 8)
 (.seq
 (.region false [oK 14 .mv [.t 7],
 oK 15 .len [.t 14],
 oK 16 .mv [.t 8],
 oK 17 .mv [.t 0],
 oK 18 .mv [.t 7],
 oK 19 .mv [.t 8],
 oK 20 .mv [.t 1],
 oK 21 (.call n_spec_l20Plan 10752) [.t 17,.t 18,.t 19,.t 20],
 oK 4 .mv [.t 15],
 oK 5 .mv [.t 16],
 oK 6 .mv [.t 21]] [1,7,8,14,15,16,17,18,19,20,21])
 .ret))))) }
def F_spec_l20Open : LF :=
 { nparams := 1,results := [.t 2],body :=
 (.seq
 (.region false [oK 2 .mv [.c (.np)]] [2])
 (.seq
 (.seq
 (.region false [oK 3 .mv [.t 0],
 oK 4 .len [.t 3],
 oK 5 (.bin .gtr) [.t 4,.c (.i 2000)]] [3,4])
 (.cond (.t 5) [5]
 (.region false [oK 6 .mv [.t 0],
 oK 7 (.slice false true 1) [.t 6,.c (.i 2000)],
 oK 0 .mv [.t 7]] [6,7])
 .skip))
 (.seq
 (.region false [oK 8 .mv [.t 0],
 oK 9 (.build [.sl 1 [],.i 0] [(0,1)]) [.t 8],
 oK 10 (.box 5136) [.t 9],
 oK 2 .mv [.t 10]] [0,8,9,10])
 .ret))) }
def F_impl_foldPlan_string : LF :=
 { nparams := 5,results := [.t 10],body :=
 (.seq
 (.region false [oK 7 (.box 3616) [.t 2],
 oK 10 .mv [.c (.s [])]] [2,10])
 (.seq
 (.seq
 (.region false [oK 14 .mv [.t 1],
 oK 15 (.bin .eql) [.t 14,.c (.i (-1))]] [14])
 (.cond (.t 15) [15]
 (.seq
 (.region false [oK 16 .mv [.t 3],
 oK 17 (.load 4 true) [.t 7],
 oK 18 (.call n_impl_point_value 9216) [.t 17],
 oK 19 (.calld 9728) [.t 16,.t 18],
 oK 10 .mv [.t 19]] [0,1,3,4,7,16,17,18,19])
 .ret)
 .skip))
 (.seq
 (.region false [oK 20 .mv [.t 0],
 oK 21 .mv [.t 1],
 oK 22 (.idxa 3) [.t 20,.t 21],
 oK 23 (.load 3 true) [.t 22],
 oK 11 (.alloc 5656 (.st [.i 0,.i 0,.i 0])) [],
 ⟨none,.store 3,[.t 11,.t 23],none⟩] [1,20,21,22,23])
 (.seq
 (.region true [oK 24 .mv [.t 0],
 oK 25 (.fld 1 1 false) [.t 11],
 oK 26 (.load 1 false) [.t 25],
 oK 27 (.load 4 true) [.t 7],
 oK 28 (.fld 0 1 false) [.t 11],
 oK 29 (.load 1 false) [.t 28],
 oK 30 (.call n_impl_point_answered 15360) [.t 27,.t 29,.c (.i 0)],
 oK 31 .mv [.t 3],
 oK 32 .mv [.t 4],
 oK 33 (.call n_impl_foldPlan_string 16896) [.t 24,.t 26,.t 30,.t 31,.t 32],
 oK 12 .mv [.t 33]] [24,25,26,27,28,29,30,31,32,33])
 (.seq
 (.region true [oK 34 .mv [.t 0],
 oK 35 (.fld 2 1 false) [.t 11],
 oK 36 (.load 1 false) [.t 35],
 oK 37 (.load 4 true) [.t 7],
 oK 38 (.fld 0 1 false) [.t 11],
 oK 39 (.load 1 false) [.t 38],
 oK 40 (.call n_impl_point_answered 20480) [.t 37,.t 39,.c (.i 1)],
 oK 41 .mv [.t 3],
 oK 42 .mv [.t 4],
 oK 43 (.call n_impl_foldPlan_string 22016) [.t 34,.t 36,.t 40,.t 41,.t 42],
 oK 13 .mv [.t 43]] [0,3,7,34,35,36,37,38,39,40,41,42,43])
 (.seq
 (.region false [oK 44 .mv [.t 4],
 oK 45 (.fld 0 1 false) [.t 11],
 oK 46 (.load 1 false) [.t 45],
 oK 47 .mv [.t 12],
 oK 48 .mv [.t 13],
 oK 49 (.calld 25088) [.t 44,.t 46,.t 47,.t 48],
 oK 10 .mv [.t 49]] [4,11,12,13,44,45,46,47,48,49])
 .ret)))))) }
def F_impl_firstOf : LF :=
 { nparams := 1,results := [.t 2],body :=
 (.seq
 (.region false [oK 2 .mv [.c (.i 0)]] [2])
 (.seq
 (.seq
 (.region false [oK 3 .mv [.t 0],
 oK 4 .len [.t 3],
 oK 5 (.bin .eql) [.t 4,.c (.i 0)]] [0,3,4])
 (.cond (.t 5) [5]
 (.seq
 (.region false [oK 2 .mv [.c (.i (-1))]] [])
 .ret)
 .skip))
 (.seq
 (.region false [oK 2 .mv [.c (.i 0)]] [])
 .ret))) }
def F_impl_startOf : LF :=
 { nparams := 2,results := [.c 4 4 true],body :=
 (.seq
 (.region false [oK 4 (.alloc 2080 (.st [.i 0,.i 0,.w (0#32),.w (0#32)])) []] [])
 (.seq
 (.region false [oK 5 .mv [.t 0],
 oK 6 .mv [.t 1],
 oK 7 (.call n_impl_trueStates 3584) [.t 6],
 oK 8 (.build [.i 0,.i 0,.w (0#32),.w (0#32)] [(0,1),(2,1),(3,1)]) [.t 5,.c (.w (4294967295#32)),.t 7],
 ⟨none,.store 4,[.t 4,.t 8],none⟩] [0,1,5,6,7,8])
 .ret)) }
def F_impl_writeValue : LF :=
 { nparams := 1,results := [.t 2],body :=
 (.seq
 (.region false [oK 2 .mv [.c (.s [])]] [2])
 (.seq
 (.region false [oK 3 .mv [.t 0],
 oK 4 (.bin .add) [.c (.i 48),.t 3],
 oK 5 (.conv .i2r 2560) [.t 4],
 oK 6 (.conv .r2s 3072) [.t 5],
 oK 2 .mv [.t 6]] [0,3,4,5,6])
 .ret)) }
def F_impl_writeChoice : LF :=
 { nparams := 3,results := [.t 6],body :=
 (.seq
 (.region false [oK 6 .mv [.c (.s [])]] [6])
 (.seq
 (.region false [oK 7 .mv [.t 0],
 oK 8 (.call n_impl_letterOf 4096) [.t 7],
 oK 9 (.bin .add) [.t 8,.c (.s [40])],
 oK 10 .mv [.t 1],
 oK 11 (.bin .add) [.t 9,.t 10],
 oK 12 (.bin .add) [.t 11,.c (.s [44])],
 oK 13 .mv [.t 2],
 oK 14 (.bin .add) [.t 12,.t 13],
 oK 15 (.bin .add) [.t 14,.c (.s [41])],
 oK 6 .mv [.t 15]] [0,1,2,7,8,9,10,11,12,13,14,15])
 .ret)) }
def F_spec_PlanOk : LF :=
 { nparams := 3,results := [.t 6],body :=
 (.seq
 (.region false [oK 6 .mv [.c (.b false)]] [6])
 (.seq
 (.seq
 (.region false [oK 10 .mv [.t 0],
 oK 11 .mv [.t 1],
 oK 12 (.call n_spec_TermOk 6144) [.t 10,.t 11],
 oK 13 (.un .not) [.t 12],
 oK 14 .mv [.t 13],
 oG 15 .mv [.t 2] 14 false,
 oG 16 .len [.t 15] 14 false,
 oG 17 (.bin .gtr) [.t 16,.c (.i 31)] 14 false,
 oK 18 .pick [.t 14,.c (.b true),.t 17]] [10,11,12,13,14,15,16,17])
 (.cond (.t 18) [18]
 (.seq
 (.region false [oK 6 .mv [.c (.b false)]] [0,1,2])
 .ret)
 .skip))
 (.seq
 (.region false [oK 7 .mv [.c (.i 0)]] [])
 (.seq
 (.seq
 (.region false [oK 19 .mv [.t 2],
 oK 20 .len [.t 19],
 oK 21 (.bin .eql) [.t 20,.c (.i 0)]] [19,20])
 (.cond (.t 21) [21]
 (.region false [oK 7 .mv [.c (.i (-1))]] [])
 .skip))
 (.seq
 (.region false [oK 23 .mv [.t 0],
 oK 24 .mv [.t 0],
 oK 25 .mv [.t 1],
 oK 26 (.call n_spec_l3Table 13312) [.t 24,.t 25],
 oK 27 .mv [.t 2],
 oK 28 .mv [.t 7],
 oK 29 .mv [.t 0],
 oK 30 (.call n_spec_l4None 15360) [.t 29],
 oK 31 (.call n_spec_l6Checks 15872) [.t 23,.t 26,.t 27,.t 28,.t 30],
 oK 22 .mv [.t 31],
 oK 32 (.ext 0) [.t 22],
 oK 33 (.ext 1) [.t 22],
 oK 8 .mv [.t 32],
 oK 9 .mv [.t 33]] [0,1,7,22,23,24,25,26,27,28,29,30,31,32,33])
 (.seq
 (.region false [oK 34 .mv [.t 9],
 oK 35 .mv [.t 34],
 oG 36 .mv [.t 8] 35 true,
 oG 37 .mv [.t 2] 35 true,
 oG 38 .len [.t 37] 35 true,
 oG 39 (.bin .eql) [.t 36,.t 38] 35 true,
 oK 40 .pick [.t 35,.t 39,.c (.b false)],
 oK 41 .mv [.t 40],
 oG 42 .mv [.t 2] 41 true,
 oG 43 (.call n_spec_l6Once 22016) [.t 42] 41 true,
 oK 44 .pick [.t 41,.t 43,.c (.b false)],
 oK 6 .mv [.t 44]] [2,8,9,34,35,36,37,38,39,40,41,42,43,44])
 .ret)))))) }
def F_spec_l11Text : LF :=
 { nparams := 5,results := [.t 10],body :=
 (.seq
 (.region false [oK 10 .mv [.c (.s [])]] [10])
 (.seq
 (.seq
 (.region false [oK 14 .mv [.t 3],
 oK 15 (.bin .eql) [.t 14,.c (.i (-1))]] [14])
 (.cond (.t 15) [15]
 (.seq
 (.region false [oK 16 .mv [.t 0],
 oK 17 .mv [.t 1],
 oK 18 .mv [.t 4],
 oK 19 (.call n_spec_l3Forced 9728) [.t 16,.t 17,.t 18],
 oK 20 (.call n_spec_l1Number 10240) [.t 19],
 oK 10 .mv [.t 20]] [0,1,2,3,4,16,17,18,19,20])
 .ret)
 .skip))
 (.seq
 (.region false [oK 21 .mv [.t 2],
 oK 22 .mv [.t 3],
 oK 23 (.idxa 3) [.t 21,.t 22],
 oK 24 (.load 3 true) [.t 23],
 oK 11 (.alloc 5656 (.st [.i 0,.i 0,.i 0])) [],
 ⟨none,.store 3,[.t 11,.t 24],none⟩] [3,21,22,23,24])
 (.seq
 (.region false [oK 25 (.bslice 12808 0 1 (.i 0) []) [],
 oK 26 .mv [.t 4],
 oK 27 (.app 13832 1) [.t 25,.t 26],
 oK 12 .mv [.t 27]] [25,26,27])
 (.seq
 (.region false [oK 28 .mv [.t 12],
 oK 29 (.fld 0 1 false) [.t 11],
 oK 30 (.load 1 false) [.t 29],
 oK 31 (.idxa 1) [.t 28,.t 30],
 ⟨none,.store 1,[.t 31,.c (.i 0)],none⟩] [28,29,30,31])
 (.seq
 (.region false [oK 32 (.bslice 16392 0 1 (.i 0) []) [],
 oK 33 .mv [.t 4],
 oK 34 (.app 17416 1) [.t 32,.t 33],
 oK 13 .mv [.t 34]] [4,32,33,34])
 (.seq
 (.region false [oK 35 .mv [.t 13],
 oK 36 (.fld 0 1 false) [.t 11],
 oK 37 (.load 1 false) [.t 36],
 oK 38 (.idxa 1) [.t 35,.t 37],
 ⟨none,.store 1,[.t 38,.c (.i 1)],none⟩] [35,36,37,38])
 (.seq
 (.region true [oK 39 (.fld 0 1 false) [.t 11],
 oK 40 (.load 1 false) [.t 39],
 oK 41 (.fld 0 1 false) [.t 11],
 oK 42 (.load 1 false) [.t 41],
 oK 43 (.bin .add) [.t 42,.c (.i 1)],
 oK 44 (.slices true true) [.c (.s [97,98,99,100,101]),.t 40,.t 43],
 oK 45 (.bin .add) [.t 44,.c (.s [40])],
 oK 46 .mv [.t 0],
 oK 47 .mv [.t 1],
 oK 48 .mv [.t 2],
 oK 49 (.fld 1 1 false) [.t 11],
 oK 50 (.load 1 false) [.t 49],
 oK 51 .mv [.t 12],
 oK 52 (.call n_spec_l11Text 26624) [.t 46,.t 47,.t 48,.t 50,.t 51],
 oK 53 (.bin .add) [.t 45,.t 52],
 oK 54 (.bin .add) [.t 53,.c (.s [44])],
 oK 55 .mv [.t 0],
 oK 56 .mv [.t 1],
 oK 57 .mv [.t 2],
 oK 58 (.fld 2 1 false) [.t 11],
 oK 59 (.load 1 false) [.t 58],
 oK 60 .mv [.t 13],
 oK 61 (.call n_spec_l11Text 31232) [.t 55,.t 56,.t 57,.t 59,.t 60],
 oK 62 (.bin .add) [.t 54,.t 61],
 oK 63 (.bin .add) [.t 62,.c (.s [41])],
 oK 10 .mv [.t 63]] [0,1,2,11,12,13,39,40,41,42,43,44,45,46,47,48,49,50,51,52,53,54,55,56,57,58,59,60,61,62,63])
 .ret)))))))) }
def F_spec_l3Table_L0 : LC :=
 (.seq
 (.seq
 (.region false [oK 7 .mv [.t 6],
 oK 8 .mv [.t 0],
 oK 9 (.bin .shl) [.c (.i 1),.t 8],
 oK 10 (.bin .lss) [.t 7,.t 9]] [7,8,9])
 (.cond (.t 10) [10]
 .skip
 (.exit 0)))
 (.seq
 (.block 1
 (.region false [oK 13 .mv [.t 5],
 oK 14 .mv [.t 1],
 oK 15 .mv [.t 6],
 oK 16 (.call n_spec_l3Value 8192) [.t 14,.t 15],
 oK 17 .mv [.t 6],
 oK 18 (.bin .shl) [.t 16,.t 17],
 oK 19 (.bin .or) [.t 13,.t 18],
 oK 5 .mv [.t 19]] [13,14,15,16,17,18,19]))
 (.region false [oK 11 .mv [.t 6],
 oK 12 (.bin .add) [.t 11,.c (.i 1)],
 oK 6 .mv [.t 12]] [11,12])))
def F_spec_l3Table_W0 : LC := .loop F_spec_l3Table_L0
def F_spec_l3Table : LF :=
 { nparams := 2,results := [.t 4],body :=
 (.seq
 (.region false [oK 4 .mv [.c (.i 0)]] [4])
 (.seq
 (.region false [oK 5 .mv [.c (.i 0)]] [])
 (.seq
 (.seq
 (.region false [oK 6 .mv [.c (.i 0)]] [])
 (.block 0
 F_spec_l3Table_W0))
 (.seq
 (.region false [oK 20 .mv [.t 5],
 oK 4 .mv [.t 20]] [0,1,5,6,20])
 .ret)))) }
def F_spec_l4None_L0 : LC :=
 (.seq
 (.seq
 (.region false [oK 6 .mv [.t 4],
 oK 7 .mv [.t 0],
 oK 8 (.bin .lss) [.t 6,.t 7]] [6,7])
 (.cond (.t 8) [8]
 .skip
 (.exit 0)))
 (.seq
 (.block 1
 (.region false [oK 11 .mv [.t 3],
 oK 12 (.bslice 6152 1 1 (.i 0) [0]) [.c (.i (-1))],
 oK 13 (.app 6664 1) [.t 11,.t 12],
 oK 3 .mv [.t 13]] [11,12,13]))
 (.region false [oK 9 .mv [.t 4],
 oK 10 (.bin .add) [.t 9,.c (.i 1)],
 oK 4 .mv [.t 10]] [9,10])))
def F_spec_l4None_W0 : LC := .loop F_spec_l4None_L0
def F_spec_l4None : LF :=
 { nparams := 1,results := [.t 2],body :=
 (.seq
 (.region false [oK 2 (.newnil 1032) []] [2])
 (.seq
 (.region false [oK 5 (.bslice 2568 0 1 (.i 0) []) [],
 oK 3 .mv [.t 5]] [5])
 (.seq
 (.seq
 (.region false [oK 4 .mv [.c (.i 0)]] [])
 (.block 0
 F_spec_l4None_W0))
 (.seq
 (.region false [oK 14 .mv [.t 3],
 oK 2 .mv [.t 14]] [0,3,4,14])
 .ret)))) }
def F_impl_pointsOf_L0 : LC :=
 (.seq
 (.region false [oK 35 (.bin .lss) [.t 34,.t 33]] [])
 (.seq
 (.cond (.t 35) [35]
 .skip
 (.exit 0))
 (.seq
 (.block 1
 (.seq
 (.region false [oK 36 .mv [.t 34],
 oK 37 (.idxa 3) [.t 32,.t 34],
 oK 38 (.load 3 true) [.t 37],
 oK 10 (.alloc 5144 (.st [.i 0,.i 0,.i 0])) [],
 oK 9 .mv [.t 36],
 ⟨none,.store 3,[.t 10,.t 38],none⟩] [36,37,38])
 (.seq
 (.region false [oK 39 .mv [.t 8],
 oK 40 .mv [.t 9],
 oK 41 (.idxa 4) [.t 39,.t 40],
 oK 42 (.load 4 true) [.t 41],
 oK 11 (.alloc 5664 (.st [.i 0,.i 0,.w (0#32),.w (0#32)])) [],
 ⟨none,.store 4,[.t 11,.t 42],none⟩] [39,40,41,42])
 (.seq
 (.region true [oK 43 (.load 4 true) [.t 11],
 oK 44 (.fld 0 1 false) [.t 10],
 oK 45 (.load 1 false) [.t 44],
 oK 46 (.call n_impl_point_canAsk 23552) [.t 43,.t 45],
 oK 47 (.un .not) [.t 46],
 oK 48 .mv [.t 47],
 oG 49 .mv [.t 8] 48 false,
 oG 50 .mv [.t 9] 48 false,
 oG 51 (.fld 1 1 false) [.t 10] 48 false,
 oG 52 (.load 1 false) [.t 51] 48 false,
 oG 53 (.load 4 true) [.t 11] 48 false,
 oG 54 (.fld 0 1 false) [.t 10] 48 false,
 oG 55 (.load 1 false) [.t 54] 48 false,
 oG 56 (.call n_impl_point_answered 28672) [.t 53,.t 55,.c (.i 0)] 48 false,
 oG 57 (.call n_impl_comesTo 29188) [.t 49,.t 50,.t 52,.t 56] 48 false,
 oG 58 (.un .not) [.t 57] 48 false,
 oK 59 .pick [.t 48,.c (.b true),.t 58],
 oK 60 .mv [.t 59],
 oG 61 .mv [.t 8] 60 false,
 oG 62 .mv [.t 9] 60 false,
 oG 63 (.fld 2 1 false) [.t 10] 60 false,
 oG 64 (.load 1 false) [.t 63] 60 false,
 oG 65 (.load 4 true) [.t 11] 60 false,
 oG 66 (.fld 0 1 false) [.t 10] 60 false,
 oG 67 (.load 1 false) [.t 66] 60 false,
 oG 68 (.call n_impl_point_answered 34816) [.t 65,.t 67,.c (.i 1)] 60 false,
 oG 69 (.call n_impl_comesTo 35332) [.t 61,.t 62,.t 64,.t 68] 60 false,
 oG 70 (.un .not) [.t 69] 60 false,
 oK 71 .pick [.t 60,.c (.b true),.t 70]] [9,10,11,43,44,45,46,47,48,49,50,51,52,53,54,55,56,57,58,59,60,61,62,63,64,65,66,67,68,69,70])
 (.cond (.t 71) [71]
 (.seq
 (.region false [oK 6 (.newnil 3104) [],
 oK 7 .mv [.c (.b false)]] [8,32,33,34])
 .ret)
 .skip)))))
 (.region false [oK 72 (.bin .add) [.t 34,.c (.i 1)],
 oK 34 .mv [.t 72]] [72]))))
def F_impl_pointsOf_W0 : LC := .loop F_impl_pointsOf_L0
def F_impl_pointsOf : LF :=
 { nparams := 3,results := [.t 6,.t 7],body :=
 (.seq
 (.region false [oK 6 (.newnil 3104) [],
 oK 7 .mv [.c (.b false)]] [6,7])
 (.seq
 (.seq
 (.region false [oK 12 .mv [.t 0],
 oK 13 .mv [.t 1],
 oK 14 (.call n_impl_TermOk 7168) [.t 12,.t 13],
 oK 15 (.un .not) [.t 14],
 oK 16 .mv [.t 15],
 oG 17 .mv [.t 2] 16 false,
 oG 18 .len [.t 17] 16 false,
 oG 19 (.bin .gtr) [.t 18,.c (.i 31)] 16 false,
 oK 20 .pick [.t 16,.c (.b true),.t 19]] [12,13,14,15,16,17,18,19])
 (.cond (.t 20) [20]
 (.seq
 (.region false [oK 6 (.newnil 3104) [],
 oK 7 .mv [.c (.b false)]] [0,1,2])
 .ret)
 .skip))
 (.seq
 (.region false [oK 21 .mv [.t 2],
 oK 22 .len [.t 21],
 oK 23 (.make 11808 4 (.st [.i 0,.i 0,.w (0#32),.w (0#32)])) [.t 22,.t 22],
 oK 8 .mv [.t 23]] [21,22,23])
 (.seq
 (.seq
 (.region false [oK 24 .mv [.t 8],
 oK 25 .mv [.t 2],
 oK 26 (.call n_impl_firstOf 13312) [.t 25],
 oK 27 .mv [.t 0],
 oK 28 .mv [.t 1],
 oK 29 (.call n_impl_startOf 14848) [.t 27,.t 28],
 oK 30 (.call n_impl_comesTo 15364) [.t 24,.c (.i (-1)),.t 26,.t 29],
 oK 31 (.un .not) [.t 30]] [0,1,24,25,26,27,28,29,30])
 (.cond (.t 31) [31]
 (.seq
 (.region false [oK 6 (.newnil 3104) [],
 oK 7 .mv [.c (.b false)]] [2,8])
 .ret)
 .skip))
 (.seq
 (.seq
 (.region false [oK 32 .mv [.t 2],
 oK 33 .len [.t 32],
 oK 34 .mv [.c (.i 0)]] [2])
 (.block 0
 F_impl_pointsOf_W0))
 (.seq
 (.region false [oK 73 .mv [.t 8],
 oK 6 .mv [.t 73],
 oK 7 .mv [.c (.b true)]] [8,32,33,34,73])
 .ret)))))) }
def F_impl_TestsOk_L0 : LC :=
 (.seq
 (.region false [oK 12 (.bin .lss) [.t 11,.t 10]] [])
 (.seq
 (.cond (.t 12) [12]
 .skip
 (.exit 0))
 (.seq
 (.block 1
 (.seq
 (.region false [oK 13 (.idxa 2) [.t 9,.t 11],
 oK 14 (.load 2 true) [.t 13],
 oK 4 (.alloc 2064 (.st [.i 0,.i 0])) [],
 ⟨none,.store 2,[.t 4,.t 14],none⟩] [13,14])
 (.seq
 (.region false [oK 15 (.fld 0 1 false) [.t 4],
 oK 16 (.load 1 false) [.t 15],
 oK 17 (.call n_impl_isWithin 8704) [.t 16,.c (.i 1),.c (.i 9)],
 oK 18 (.un .not) [.t 17],
 oK 19 .mv [.t 18],
 oG 20 (.fld 1 1 false) [.t 4] 19 false,
 oG 21 (.load 1 false) [.t 20] 19 false,
 oG 22 (.call n_impl_isWithin 11264) [.t 21,.c (.i 1),.c (.i 5)] 19 false,
 oG 23 (.un .not) [.t 22] 19 false,
 oK 24 .pick [.t 19,.c (.b true),.t 23]] [4,15,16,17,18,19,20,21,22,23])
 (.cond (.t 24) [24]
 (.seq
 (.region false [oK 2 .mv [.c (.b false)]] [9,10,11])
 .ret)
 .skip))))
 (.region false [oK 25 (.bin .add) [.t 11,.c (.i 1)],
 oK 11 .mv [.t 25]] [25]))))
def F_impl_TestsOk_W0 : LC := .loop F_impl_TestsOk_L0
def F_impl_TestsOk : LF :=
 { nparams := 1,results := [.t 2],body :=
 (.seq
 (.region false [oK 2 .mv [.c (.b false)]] [2])
 (.seq
 (.seq
 (.region false [oK 5 .mv [.t 0],
 oK 6 .len [.t 5],
 oK 7 (.call n_impl_manyOk 3584) [.t 6],
 oK 8 (.un .not) [.t 7]] [5,6,7])
 (.cond (.t 8) [8]
 (.seq
 (.region false [oK 2 .mv [.c (.b false)]] [0])
 .ret)
 .skip))
 (.seq
 (.seq
 (.region false [oK 9 .mv [.t 0],
 oK 10 .len [.t 9],
 oK 11 .mv [.c (.i 0)]] [0])
 (.block 0
 F_impl_TestsOk_W0))
 (.seq
 (.region false [oK 2 .mv [.c (.b true)]] [9,10,11])
 .ret)))) }
def F_impl_readChoices : LF :=
 { nparams := 2,results := [.t 4,.t 5,.t 6],body :=
 (.seq
 (.region false [oK 4 (.newnil 2072) [],
 oK 5 .mv [.c (.s [])],
 oK 6 .mv [.c (.b false)]] [4,5,6])
 (.seq
 (.seq
 (.region false [oK 14 .mv [.t 0],
 oK 15 (.bin .eql) [.t 14,.c (.s [])]] [14])
 (.cond (.t 15) [15]
 (.seq
 (.region false [oK 4 (.newnil 2072) [],
 oK 5 .mv [.c (.s [])],
 oK 6 .mv [.c (.b false)]] [0,1])
 .ret)
 .skip))
 (.seq
 (.region true [oK 16 .mv [.t 0],
 oK 17 .idx [.t 16,.c (.i 0)],
 oK 18 .mv [.t 0],
 oK 19 (.slices true false) [.t 18,.c (.i 1)],
 oK 7 .mv [.t 17],
 oK 8 .mv [.t 19]] [0,16,17,18,19])
 (.seq
 (.seq
 (.region false [oK 20 .mv [.t 7],
 oK 21 (.bin .eql) [.t 20,.c (.y 48)],
 oK 22 .mv [.t 21],
 oG 23 .mv [.t 7] 22 false,
 oG 24 (.bin .eql) [.t 23,.c (.y 49)] 22 false,
 oK 25 .pick [.t 22,.c (.b true),.t 24]] [20,21,22,23,24])
 (.cond (.t 25) [25]
 (.seq
 (.region false [oK 26 .mv [.t 8],
 oK 4 (.newnil 2072) [],
 oK 5 .mv [.t 26],
 oK 6 .mv [.c (.b true)]] [1,7,8,26])
 .ret)
 .skip))
 (.seq
 (.region false [oK 28 .mv [.t 8],
 oK 29 .mv [.t 1],
 oK 30 (.bin .add) [.t 29,.c (.i 1)],
 oK 31 (.call n_impl_readBehind 15872) [.c (.s [40]),.t 28,.t 30],
 oK 27 .mv [.t 31],
 oK 32 (.ext 0) [.t 27],
 oK 33 (.ext 1) [.t 27],
 oK 34 (.ext 2) [.t 27],
 oK 9 .mv [.t 32],
 oK 8 .mv [.t 33],
 oK 10 .mv [.t 34]] [27,28,29,30,31,32,33,34])
 (.seq
 (.region false [oK 36 .mv [.t 8],
 oK 37 .mv [.t 1],
 oK 38 (.bin .add) [.t 37,.c (.i 1)],
 oK 39 .mv [.t 9],
 oK 40 .len [.t 39],
 oK 41 (.bin .add) [.t 38,.t 40],
 oK 42 (.call n_impl_readBehind 21504) [.c (.s [44]),.t 36,.t 41],
 oK 35 .mv [.t 42],
 oK 43 (.ext 0) [.t 35],
 oK 44 (.ext 1) [.t 35],
 oK 45 (.ext 2) [.t 35],
 oK 11 .mv [.t 43],
 oK 8 .mv [.t 44],
 oK 12 .mv [.t 45]] [35,36,37,38,39,40,41,42,43,44,45])
 (.seq
 (.region false [oK 47 .mv [.t 8],
 oK 48 (.call n_strings_CutPrefix 24576) [.t 47,.c (.s [41])],
 oK 46 .mv [.t 48],
 oK 49 (.ext 0) [.t 46],
 oK 50 (.ext 1) [.t 46],
 oK 8 .mv [.t 49],
 oK 13 .mv [.t 50]] [46,47,48,49,50])
 (.seq
 (.seq
 (.region false [oK 51 .mv [.t 10],
 oK 52 (.un .not) [.t 51],
 oK 53 .mv [.t 52],
 oG 54 .mv [.t 12] 53 false,
 oG 55 (.un .not) [.t 54] 53 false,
 oK 56 .pick [.t 53,.c (.b true),.t 55],
 oK 57 .mv [.t 56],
 oG 58 .mv [.t 13] 57 false,
 oG 59 (.un .not) [.t 58] 57 false,
 oK 60 .pick [.t 57,.c (.b true),.t 59]] [10,12,13,51,52,53,54,55,56,57,58,59])
 (.cond (.t 60) [60]
 (.seq
 (.region false [oK 4 (.newnil 2072) [],
 oK 5 .mv [.c (.s [])],
 oK 6 .mv [.c (.b false)]] [1,7,8,9,11])
 .ret)
 .skip))
 (.seq
 (.region false [oK 61 .mv [.t 7],
 oK 62 (.call n_impl_placeOf 31744) [.t 61],
 oK 63 .mv [.t 1],
 oK 64 .mv [.t 9],
 oK 65 .mv [.t 11],
 oK 66 (.call n_impl_laidOut 33792) [.t 62,.t 63,.t 64,.t 65],
 oK 67 .mv [.t 8],
 oK 4 .mv [.t 66],
 oK 5 .mv [.t 67],
 oK 6 .mv [.c (.b true)]] [1,7,8,9,11,61,62,63,64,65,66,67])
 .ret))))))))) }
def F_spec_l20Rd_pick : LF :=
 { nparams := 2,results := [.t 4],body :=
 (.seq
 (.region false [oK 4 .mv [.c (.i 0)]] [4])
 (.seq
 (.region false [oK 7 .mv [.t 0],
 oK 8 .mv [.t 0],
 oK 9 .chk [.t 8],
 oK 10 (.fld 1 1 false) [.t 9],
 oK 11 (.load 1 false) [.t 10],
 oK 12 (.bin .add) [.t 11,.c (.i 1)],
 oK 13 .chk [.t 7],
 oK 14 (.fld 1 1 false) [.t 13],
 ⟨none,.store 1,[.t 14,.t 12],none⟩] [7,8,9,10,11,12,13,14])
 (.seq
 (.seq
 (.region false [oK 15 .mv [.t 1],
 oK 16 (.bin .lss) [.t 15,.c (.i 1)],
 oK 17 .mv [.t 16],
 oG 18 .mv [.t 0] 17 false,
 oG 19 .chk [.t 18] 17 false,
 oG 20 (.fld 0 1 false) [.t 19] 17 false,
 oG 21 (.load 1 false) [.t 20] 17 false,
 oG 22 .len [.t 21] 17 false,
 oG 23 (.bin .eql) [.t 22,.c (.i 0)] 17 false,
 oK 24 .pick [.t 17,.c (.b true),.t 23]] [15,16,17,18,19,20,21,22,23])
 (.cond (.t 24) [24]
 (.seq
 (.region false [oK 4 .mv [.c (.i 0)]] [1])
 .ret)
 .skip))
 (.seq
 (.region false [oK 25 .mv [.t 0],
 oK 26 .chk [.t 25],
 oK 27 (.fld 1 1 false) [.t 26],
 oK 28 (.load 1 false) [.t 27],
 oK 29 (.bin .sub) [.t 28,.c (.i 1)],
 oK 5 .mv [.t 29]] [25,26,27,28,29])
 (.seq
 (.seq
 (.region false [oK 30 .mv [.t 5],
 oK 31 .mv [.t 0],
 oK 32 .chk [.t 31],
 oK 33 (.fld 0 1 false) [.t 32],
 oK 34 (.load 1 false) [.t 33],
 oK 35 .len [.t 34],
 oK 36 (.bin .lss) [.t 30,.t 35]] [30,31,32,33,34,35])
 (.cond (.t 36) [36]
 (.seq
 (.region false [oK 37 .mv [.t 0],
 oK 38 .chk [.t 37],
 oK 39 (.fld 0 1 false) [.t 38],
 oK 40 (.load 1 false) [.t 39],
 oK 41 .mv [.t 5],
 oK 42 (.idxa 1) [.t 40,.t 41],
 oK 43 (.load 1 false) [.t 42],
 oK 44 (.conv .b2i 22528) [.t 43],
 oK 45 .mv [.t 1],
 oK 46 (.bin .rem) [.t 44,.t 45],
 oK 4 .mv [.t 46]] [1,5,37,38,39,40,41,42,43,44,45,46])
 .ret)
 .skip))
 (.seq
 (.region true [oK 47 .mv [.t 0],
 oK 48 .chk [.t 47],
 oK 49 (.fld 0 1 false) [.t 48],
 oK 50 (.load 1 false) [.t 49],
 oK 51 .mv [.t 5],
 oK 52 .mv [.t 0],
 oK 53 .chk [.t 52],
 oK 54 (.fld 0 1 false) [.t 53],
 oK 55 (.load 1 false) [.t 54],
 oK 56 .len [.t 55],
 oK 57 (.bin .rem) [.t 51,.t 56],
 oK 58 (.idxa 1) [.t 50,.t 57],
 oK 59 (.load 1 false) [.t 58],
 oK 60 (.conv .b2i 30720) [.t 59],
 oK 61 (.bin .mul) [.t 60,.c (.i 131)],
 oK 62 .mv [.t 0],
 oK 63 .chk [.t 62],
 oK 64 (.fld 0 1 false) [.t 63],
 oK 65 (.load 1 false) [.t 64],
 oK 66 .mv [.t 5],
 oK 67 (.bin .mul) [.t 66,.c (.i 7)],
 oK 68 (.bin .add) [.t 67,.c (.i 3)],
 oK 69 .mv [.t 0],
 oK 70 .chk [.t 69],
 oK 71 (.fld 0 1 false) [.t 70],
 oK 72 (.load 1 false) [.t 71],
 oK 73 .len [.t 72],
 oK 74 (.bin .rem) [.t 68,.t 73],
 oK 75 (.idxa 1) [.t 65,.t 74],
 oK 76 (.load 1 false) [.t 75],
 oK 77 (.conv .b2i 39424) [.t 76],
 oK 78 (.bin .mul) [.t 77,.c (.i 1117)],
 oK 79 (.bin .add) [.t 61,.t 78],
 oK 80 .mv [.t 5],
 oK 81 (.bin .mul) [.t 80,.c (.i 29)],
 oK 82 (.bin .add) [.t 79,.t 81],
 oK 83 .mv [.t 5],
 oK 84 .mv [.t 0],
 oK 85 .chk [.t 84],
 oK 86 (.fld 0 1 false) [.t 85],
 oK 87 (.load 1 false) [.t 86],
 oK 88 .len [.t 87],
 oK 89 (.bin .quo) [.t 83,.t 88],
 oK 90 (.bin .mul) [.t 89,.c (.i 53)],
 oK 91 (.bin .add) [.t 82,.t 90],
 oK 6 .mv [.t 91]] [5,47,48,49,50,51,52,53,54,55,56,57,58,59,60,61,62,63,64,65,66,67,68,69,70,71,72,73,74,75,76,77,78,79,80,81,82,83,84,85,86,87,88,89,90,91])
 (.seq
 (.region false [oK 92 .mv [.t 6],
 oK 93 .mv [.t 6],
 oK 94 (.bin .quo) [.t 93,.c (.i 64)],
 oK 95 (.bin .xor) [.t 92,.t 94],
 oK 6 .mv [.t 95]] [92,93,94,95])
 (.seq
 (.region false [oK 96 .mv [.t 6],
 oK 97 .mv [.t 1],
 oK 98 (.bin .rem) [.t 96,.t 97],
 oK 4 .mv [.t 98]] [1,6,96,97,98])
 .ret)))))))) }
def F_spec_l11Read_C5 : LC :=
 (.seq
 (.seq
 (.region false [oK 110 .mv [.t 14],
 oK 111 (.bin .lss) [.t 110,.c (.i 0)],
 oK 112 .mv [.t 111],
 oG 113 .mv [.t 14] 112 false,
 oG 114 .mv [.t 0] 112 false,
 oG 115 .lens [.t 114] 112 false,
 oG 116 (.bin .geq) [.t 113,.t 115] 112 false,
 oK 117 .pick [.t 112,.c (.b true),.t 116],
 oK 118 .mv [.t 117],
 oG 119 .mv [.t 0] 118 false,
 oG 120 .mv [.t 14] 118 false,
 oG 121 .idx [.t 119,.t 120] 118 false,
 oG 122 (.bin .neq) [.t 121,.c (.y 41)] 118 false,
 oK 123 .pick [.t 118,.c (.b true),.t 122]] [0,110,111,112,113,114,115,116,117,118,119,120,121,122])
 (.cond (.t 123) [123]
 (.seq
 (.region false [oK 124 .mv [.t 2],
 oK 6 .mv [.t 124],
 oK 7 .mv [.c (.i (-1))],
 oK 8 .mv [.c (.i (-1))]] [2,9,10,11,13,14,124])
 .ret)
 .skip))
 (.seq
 (.region false [oK 125 .mv [.t 2],
 oK 126 .mv [.t 9],
 oK 127 .mv [.t 10],
 oK 128 .mv [.t 11],
 oK 129 .mv [.t 13],
 oK 130 (.build [.i 0,.i 0,.i 0] [(0,1),(1,1),(2,1)]) [.t 127,.t 128,.t 129],
 oK 131 (.idxa 3) [.t 125,.t 126],
 ⟨none,.store 3,[.t 131,.t 130],none⟩] [10,11,13,125,126,127,128,129,130,131])
 (.seq
 (.region false [oK 132 .mv [.t 2],
 oK 133 .mv [.t 9],
 oK 134 .mv [.t 14],
 oK 135 (.bin .add) [.t 134,.c (.i 1)],
 oK 6 .mv [.t 132],
 oK 7 .mv [.t 133],
 oK 8 .mv [.t 135]] [2,9,14,132,133,134,135])
 .ret)))
def F_spec_l11Read_C4 : LC :=
 (.seq
 (.seq
 (.region false [oK 86 .mv [.t 12],
 oK 87 (.bin .lss) [.t 86,.c (.i 0)],
 oK 88 .mv [.t 87],
 oG 89 .mv [.t 12] 88 false,
 oG 90 .mv [.t 0] 88 false,
 oG 91 .lens [.t 90] 88 false,
 oG 92 (.bin .geq) [.t 89,.t 91] 88 false,
 oK 93 .pick [.t 88,.c (.b true),.t 92],
 oK 94 .mv [.t 93],
 oG 95 .mv [.t 0] 94 false,
 oG 96 .mv [.t 12] 94 false,
 oG 97 .idx [.t 95,.t 96] 94 false,
 oG 98 (.bin .neq) [.t 97,.c (.y 44)] 94 false,
 oK 99 .pick [.t 94,.c (.b true),.t 98]] [86,87,88,89,90,91,92,93,94,95,96,97,98])
 (.cond (.t 99) [99]
 (.seq
 (.region false [oK 100 .mv [.t 2],
 oK 6 .mv [.t 100],
 oK 7 .mv [.c (.i (-1))],
 oK 8 .mv [.c (.i (-1))]] [0,2,9,10,11,12,100])
 .ret)
 .skip))
 (.seq
 (.region false [oK 102 .mv [.t 0],
 oK 103 .mv [.t 12],
 oK 104 (.bin .add) [.t 103,.c (.i 1)],
 oK 105 .mv [.t 2],
 oK 106 (.callm n_spec_l11Read [2] 54272) [.t 102,.t 104,.t 105],
 oK 101 .mv [.t 106],
 oK 107 (.ext 0) [.t 101],
 oK 108 (.ext 1) [.t 101],
 oK 109 (.ext 2) [.t 101],
 oK 2 .mv [.t 107],
 oK 13 .mv [.t 108],
 oK 14 .mv [.t 109]] [12,101,102,103,104,105,106,107,108,109])
 F_spec_l11Read_C5))
def F_spec_l11Read_C3 : LC :=
 (.seq
 (.region false [oK 78 .mv [.t 0],
 oK 79 .mv [.t 1],
 oK 80 (.bin .add) [.t 79,.c (.i 2)],
 oK 81 .mv [.t 2],
 oK 82 (.callm n_spec_l11Read [2] 41984) [.t 78,.t 80,.t 81],
 oK 77 .mv [.t 82],
 oK 83 (.ext 0) [.t 77],
 oK 84 (.ext 1) [.t 77],
 oK 85 (.ext 2) [.t 77],
 oK 2 .mv [.t 83],
 oK 11 .mv [.t 84],
 oK 12 .mv [.t 85]] [1,77,78,79,80,81,82,83,84,85])
 F_spec_l11Read_C4)
def F_spec_l11Read_C2 : LC :=
 (.seq
 (.region false [oK 63 .mv [.t 2],
 oK 64 .len [.t 63],
 oK 9 .mv [.t 64]] [63,64])
 (.seq
 (.region false [oK 65 .mv [.t 0],
 oK 66 .mv [.t 1],
 oK 67 .idx [.t 65,.t 66],
 oK 68 (.bin .sub) [.t 67,.c (.y 97)],
 oK 69 (.conv .b2i 35328) [.t 68],
 oK 10 .mv [.t 69]] [65,66,67,68,69])
 (.seq
 (.region false [oK 70 (.bslice 35864 0 3 (.st [.i 0,.i 0,.i 0]) []) [],
 oK 71 .mv [.t 2],
 oK 72 (.app 36888 3) [.t 70,.t 71],
 oK 73 .mv [.t 10],
 oK 74 (.build [.i 0,.i 0,.i 0] [(0,1),(1,1),(2,1)]) [.t 73,.c (.i (-1)),.c (.i (-1))],
 oK 75 (.bslice 38424 1 3 (.st [.i 0,.i 0,.i 0]) [0]) [.t 74],
 oK 76 (.app 38936 3) [.t 72,.t 75],
 oK 2 .mv [.t 76]] [70,71,72,73,74,75,76])
 F_spec_l11Read_C3)))
def F_spec_l11Read_C1 : LC :=
 (.seq
 (.seq
 (.region false [oK 33 .mv [.t 0],
 oK 34 .mv [.t 1],
 oK 35 .idx [.t 33,.t 34],
 oK 36 (.bin .lss) [.t 35,.c (.y 97)],
 oK 37 .mv [.t 36],
 oG 38 .mv [.t 0] 37 false,
 oG 39 .mv [.t 1] 37 false,
 oG 40 .idx [.t 38,.t 39] 37 false,
 oG 41 (.bin .gtr) [.t 40,.c (.y 101)] 37 false,
 oK 42 .pick [.t 37,.c (.b true),.t 41],
 oK 43 .mv [.t 42],
 oG 44 .mv [.t 1] 43 false,
 oG 45 (.bin .add) [.t 44,.c (.i 1)] 43 false,
 oG 46 .mv [.t 0] 43 false,
 oG 47 .lens [.t 46] 43 false,
 oG 48 (.bin .geq) [.t 45,.t 47] 43 false,
 oK 49 .pick [.t 43,.c (.b true),.t 48],
 oK 50 .mv [.t 49],
 oG 51 .mv [.t 0] 50 false,
 oG 52 .mv [.t 1] 50 false,
 oG 53 (.bin .add) [.t 52,.c (.i 1)] 50 false,
 oG 54 .idx [.t 51,.t 53] 50 false,
 oG 55 (.bin .neq) [.t 54,.c (.y 40)] 50 false,
 oK 56 .pick [.t 50,.c (.b true),.t 55],
 oK 57 .mv [.t 56],
 oG 58 .mv [.t 2] 57 false,
 oG 59 .len [.t 58] 57 false,
 oG 60 (.bin .geq) [.t 59,.c (.i 31)] 57 false,
 oK 61 .pick [.t 57,.c (.b true),.t 60]] [33,34,35,36,37,38,39,40,41,42,43,44,45,46,47,48,49,50,51,52,53,54,55,56,57,58,59,60])
 (.cond (.t 61) [61]
 (.seq
 (.region false [oK 62 .mv [.t 2],
 oK 6 .mv [.t 62],
 oK 7 .mv [.c (.i (-1))],
 oK 8 .mv [.c (.i (-1))]] [0,1,2,62])
 .ret)
 .skip))
 F_spec_l11Read_C2)
def F_spec_l11Read_C0 : LC :=
 (.seq
 (.seq
 (.region false [oK 20 .mv [.t 0],
 oK 21 .mv [.t 1],
 oK 22 .idx [.t 20,.t 21],
 oK 23 (.bin .eql) [.t 22,.c (.y 48)],
 oK 24 .mv [.t 23],
 oG 25 .mv [.t 0] 24 false,
 oG 26 .mv [.t 1] 24 false,
 oG 27 .idx [.t 25,.t 26] 24 false,
 oG 28 (.bin .eql) [.t 27,.c (.y 49)] 24 false,
 oK 29 .pick [.t 24,.c (.b true),.t 28]] [20,21,22,23,24,25,26,27,28])
 (.cond (.t 29) [29]
 (.seq
 (.region false [oK 30 .mv [.t 2],
 oK 31 .mv [.t 1],
 oK 32 (.bin .add) [.t 31,.c (.i 1)],
 oK 6 .mv [.t 30],
 oK 7 .mv [.c (.i (-1))],
 oK 8 .mv [.t 32]] [0,1,2,30,31,32])
 .ret)
 .skip))
 F_spec_l11Read_C1)
def F_spec_l11Read : LF :=
 { nparams := 3,results := [.t 6,.t 7,.t 8],body :=
 (.seq
 (.region false [oK 6 (.newnil 3096) [],
 oK 7 .mv [.c (.i 0)],
 oK 8 .mv [.c (.i 0)]] [6,7,8])
 (.seq
 (.seq
 (.region false [oK 15 .mv [.t 1],
 oK 16 .mv [.t 0],
 oK 17 .lens [.t 16],
 oK 18 (.bin .geq) [.t 15,.t 17]] [15,16,17])
 (.cond (.t 18) [18]
 (.seq
 (.region false [oK 19 .mv [.t 2],
 oK 6 .mv [.t 19],
 oK 7 .mv [.c (.i (-1))],
 oK 8 .mv [.c (.i (-1))]] [0,1,2,19])
 .ret)
 .skip))
 F_spec_l11Read_C0)) }
def F_impl_TermOk_L0 : LC :=
 (.seq
 (.region false [oK 21 (.bin .lss) [.t 20,.t 19]] [])
 (.seq
 (.cond (.t 21) [21]
 .skip
 (.exit 0))
 (.seq
 (.block 1
 (.seq
 (.region false [oK 22 (.idxa 2) [.t 18,.t 20],
 oK 23 (.load 2 true) [.t 22],
 oK 7 (.alloc 3600 (.st [.i 0,.i 0])) [],
 ⟨none,.store 2,[.t 7,.t 23],none⟩] [22,23])
 (.seq
 (.region false [oK 24 (.fld 0 1 false) [.t 7],
 oK 25 (.load 1 false) [.t 24],
 oK 26 (.call n_impl_partsTaken 13312) [.t 25],
 oK 8 .mv [.t 26]] [24,25,26])
 (.seq
 (.seq
 (.region false [oK 27 .mv [.t 0],
 oK 28 (.load 2 true) [.t 7],
 oK 29 (.call n_impl_markOk 14848) [.t 27,.t 28],
 oK 30 (.un .not) [.t 29],
 oK 31 .mv [.t 30],
 oG 32 .mv [.t 5] 31 false,
 oG 33 .mv [.t 8] 31 false,
 oG 34 (.bin .lss) [.t 32,.t 33] 31 false,
 oK 35 .pick [.t 31,.c (.b true),.t 34]] [7,27,28,29,30,31,32,33,34])
 (.cond (.t 35) [35]
 (.seq
 (.region false [oK 4 .mv [.c (.b false)]] [0,5,8,18,19,20])
 .ret)
 .skip))
 (.region false [oK 36 .mv [.t 5],
 oK 37 .mv [.t 8],
 oK 38 (.bin .sub) [.c (.i 1),.t 37],
 oK 39 (.bin .add) [.t 36,.t 38],
 oK 5 .mv [.t 39]] [8,36,37,38,39])))))
 (.region false [oK 40 (.bin .add) [.t 20,.c (.i 1)],
 oK 20 .mv [.t 40]] [40]))))
def F_impl_TermOk_W0 : LC := .loop F_impl_TermOk_L0
def F_impl_TermOk : LF :=
 { nparams := 2,results := [.t 4],body :=
 (.seq
 (.region false [oK 4 .mv [.c (.b false)]] [4])
 (.seq
 (.seq
 (.region false [oK 9 .mv [.t 0],
 oK 10 (.call n_impl_manyOk 5120) [.t 9],
 oK 11 (.un .not) [.t 10],
 oK 12 .mv [.t 11],
 oG 13 .mv [.t 1] 12 false,
 oG 14 .len [.t 13] 12 false,
 oG 15 (.call n_impl_isWithin 7680) [.t 14,.c (.i 1),.c (.i 13)] 12 false,
 oG 16 (.un .not) [.t 15] 12 false,
 oK 17 .pick [.t 12,.c (.b true),.t 16]] [9,10,11,12,13,14,15,16])
 (.cond (.t 17) [17]
 (.seq
 (.region false [oK 4 .mv [.c (.b false)]] [0,1])
 .ret)
 .skip))
 (.seq
 (.region false [oK 5 .mv [.c (.i 0)]] [])
 (.seq
 (.seq
 (.region false [oK 18 .mv [.t 1],
 oK 19 .len [.t 18],
 oK 20 .mv [.c (.i 0)]] [1])
 (.block 0
 F_impl_TermOk_W0))
 (.seq
 (.region false [oK 41 .mv [.t 5],
 oK 42 (.bin .eql) [.t 41,.c (.i 1)],
 oK 4 .mv [.t 42]] [0,5,18,19,20,41,42])
 .ret))))) }
def F_spec_l20Tests_L0 : LC :=
 (.seq
 (.seq
 (.region false [oK 11 .mv [.t 6],
 oK 12 (.bin .gtr) [.t 11,.c (.i 0)]] [11])
 (.cond (.t 12) [12]
 .skip
 (.exit 0)))
 (.seq
 (.block 1
 (.region false [oK 15 .mv [.t 5],
 oK 16 .mv [.t 0],
 oK 17 (.call n_spec_l20Rd_pick 8704) [.t 16,.c (.i 9)],
 oK 18 (.bin .add) [.c (.i 1),.t 17],
 oK 19 .mv [.t 0],
 oK 20 (.call n_spec_l20Rd_pick 10240) [.t 19,.c (.i 5)],
 oK 21 (.bin .add) [.c (.i 1),.t 20],
 oK 22 (.build [.i 0,.i 0] [(0,1),(1,1)]) [.t 18,.t 21],
 oK 23 (.bslice 11792 1 2 (.st [.i 0,.i 0]) [0]) [.t 22],
 oK 24 (.app 12304 2) [.t 15,.t 23],
 oK 5 .mv [.t 24]] [15,16,17,18,19,20,21,22,23,24]))
 (.region false [oK 13 .mv [.t 6],
 oK 14 (.bin .sub) [.t 13,.c (.i 1)],
 oK 6 .mv [.t 14]] [13,14])))
def F_spec_l20Tests_W0 : LC := .loop F_spec_l20Tests_L0
def F_spec_l20Tests : LF :=
 { nparams := 2,results := [.t 4],body :=
 (.seq
 (.region false [oK 4 (.newnil 2064) []] [4])
 (.seq
 (.region false [oK 7 (.bslice 3600 0 2 (.st [.i 0,.i 0]) []) [],
 oK 5 .mv [.t 7]] [7])
 (.seq
 (.seq
 (.region false [oK 8 .mv [.t 0],
 oK 9 (.call n_spec_l20Rd_pick 4608) [.t 8,.c (.i 5)],
 oK 10 (.bin .add) [.c (.i 1),.t 9],
 oK 6 .mv [.t 10]] [8,9,10])
 (.block 0
 F_spec_l20Tests_W0))
 (.seq
 (.seq
 (.region false [oK 25 .mv [.t 0],
 oK 26 .mv [.t 1],
 oK 27 (.call n_spec_l20Rd_odd 13824) [.t 25,.t 26]] [1,6,25,26])
 (.cond (.t 27) [27]
 (.seq
 (.region false [oK 28 .mv [.t 0],
 oK 29 (.call n_spec_l20Rd_pick 14848) [.t 28,.c (.i 3)]] [28])
 (.block 2
 (.seq
 (.region false [oK 39 (.bin .eql) [.t 29,.c (.i 0)],
 oK 38 .mv [.t 39]] [39])
 (.cond (.t 38) [38]
 (.seq
 (.region false [oK 40 (.bslice 20496 0 2 (.st [.i 0,.i 0]) []) [],
 oK 4 .mv [.t 40]] [5,29,40])
 .ret)
 (.seq
 (.region false [oK 42 (.bin .eql) [.t 29,.c (.i 1)],
 oK 41 .mv [.t 42]] [29,42])
 (.cond (.t 41) [41]
 (.region false [oK 43 .mv [.t 5],
 oK 44 (.bslice 22536 2 1 (.i 0) [0,1]) [.c (.i 0),.c (.i 10)],
 oK 45 .mv [.t 0],
 oK 46 (.call n_spec_l20Rd_pick 23552) [.t 45,.c (.i 2)],
 oK 47 (.idxa 1) [.t 44,.t 46],
 oK 48 (.load 1 false) [.t 47],
 oK 49 (.idxa 2) [.t 43,.c (.i 0)],
 oK 50 (.fld 0 1 false) [.t 49],
 ⟨none,.store 1,[.t 50,.t 48],none⟩] [43,44,45,46,47,48,49,50])
 (.region false [oK 30 .mv [.t 5],
 oK 31 (.bslice 15880 2 1 (.i 0) [0,1]) [.c (.i 0),.c (.i 6)],
 oK 32 .mv [.t 0],
 oK 33 (.call n_spec_l20Rd_pick 16896) [.t 32,.c (.i 2)],
 oK 34 (.idxa 1) [.t 31,.t 33],
 oK 35 (.load 1 false) [.t 34],
 oK 36 (.idxa 2) [.t 30,.c (.i 0)],
 oK 37 (.fld 1 1 false) [.t 36],
 ⟨none,.store 1,[.t 37,.t 35],none⟩] [30,31,32,33,34,35,36,37])))))))
 .skip))
 (.seq
 (.region false [oK 51 .mv [.t 5],
 oK 4 .mv [.t 51]] [5,51])
 .ret))))) }
def F_spec_l1In : LF :=
 { nparams := 3,results := [.t 6],body :=
 (.seq
 (.region false [oK 6 .mv [.c (.b false)]] [6])
 (.seq
 (.region false [oK 7 .mv [.t 0],
 oK 8 .mv [.t 1],
 oK 9 (.bin .geq) [.t 7,.t 8],
 oK 10 .mv [.t 9],
 oG 11 .mv [.t 0] 10 true,
 oG 12 .mv [.t 2] 10 true,
 oG 13 (.bin .leq) [.t 11,.t 12] 10 true,
 oK 14 .pick [.t 10,.t 13,.c (.b false)],
 oK 6 .mv [.t 14]] [0,1,2,7,8,9,10,11,12,13,14])
 .ret)) }
def F_impl_isWithin : LF :=
 { nparams := 3,results := [.t 6],body :=
 (.seq
 (.region false [oK 6 .mv [.c (.b false)]] [6])
 (.seq
 (.region false [oK 7 .mv [.t 1],
 oK 8 .mv [.t 0],
 oK 9 (.bin .leq) [.t 7,.t 8],
 oK 10 .mv [.t 9],
 oG 11 .mv [.t 0] 10 true,
 oG 12 .mv [.t 2] 10 true,
 oG 13 (.bin .leq) [.t 11,.t 12] 10 true,
 oK 14 .pick [.t 10,.t 13,.c (.b false)],
 oK 6 .mv [.t 14]] [0,1,2,7,8,9,10,11,12,13,14])
 .ret)) }
def F_impl_trueStates : LF :=
 { nparams := 1,results := [.t 2],body :=
 (.seq
 (.region false [oK 2 .mv [.c (.w (0#32))]] [2])
 (.seq
 (.region false [oK 3 .mv [.t 0],
 oK 4 (.call n_impl_foldTerm_uint32 2048) [.t 3,.c (.fn n_impl_statesOfPart [])],
 oK 2 .mv [.t 4]] [0,3,4])
 .ret)) }
def F_spec_l20Case : LF :=
 { nparams := 2,results := [.t 4,.t 5],body :=
 (.seq
 (.region false [oK 4 (.newnil 2064) [],
 oK 5 (.newnil 2576) []] [4,5])
 (.seq
 (.region false [oK 7 .mv [.t 0],
 oK 8 .mv [.t 1],
 oK 9 (.bin .mul) [.t 8,.c (.i 2)],
 oK 10 (.call n_spec_l20Tests 5120) [.t 7,.t 9],
 oK 6 .mv [.t 10]] [7,8,9,10])
 (.seq
 (.region false [oK 11 .mv [.t 6],
 oK 12 .mv [.t 0],
 oK 13 .mv [.t 6],
 oK 14 .len [.t 13],
 oK 15 .mv [.t 1],
 oK 16 (.call n_spec_l20Term 8192) [.t 12,.t 14,.t 15],
 oK 4 .mv [.t 11],
 oK 5 .mv [.t 16]] [1,6,11,12,13,14,15,16])
 .ret))) }
def F_spec_l20Plan : LF :=
 { nparams := 4,results := [.t 8],body :=
 (.seq
 (.region false [oK 8 (.newnil 4120) []] [8])
 (.seq
 (.region false [oK 12 .mv [.t 1],
 oK 13 .mv [.t 2],
 oK 14 (.call n_spec_BestPlan 7168) [.t 12,.t 13],
 oK 11 .mv [.t 14],
 oK 15 (.ext 0) [.t 11],
 oK 16 (.ext 1) [.t 11],
 oK 9 .mv [.t 15],
 oK 10 .mv [.t 16]] [11,12,13,14,15,16])
 (.seq
 (.seq
 (.region false [oK 17 .mv [.t 10],
 oK 18 (.un .not) [.t 17],
 oK 19 .mv [.t 18],
 oG 20 .mv [.t 0] 19 false,
 oG 21 (.call n_spec_l20Rd_pick 10752) [.t 20,.c (.i 2)] 19 false,
 oG 22 (.bin .eql) [.t 21,.c (.i 0)] 19 false,
 oK 23 .pick [.t 19,.c (.b true),.t 22]] [10,17,18,19,20,21,22])
 (.cond (.t 23) [23]
 (.region false [oK 25 .mv [.t 1],
 oK 26 .len [.t 25],
 oK 27 .mv [.t 2],
 oK 28 .mv [.t 0],
 oK 29 .mv [.t 1],
 oK 30 .len [.t 29],
 oK 31 (.call n_spec_l20Order 15872) [.t 28,.t 30,.c (.i 0)],
 oK 32 (.call n_spec_OrderPlan 16384) [.t 26,.t 27,.t 31],
 oK 24 .mv [.t 32],
 oK 33 (.ext 0) [.t 24],
 oK 34 (.ext 1) [.t 24],
 oK 9 .mv [.t 33]] [1,2,24,25,26,27,28,29,30,31,32,33,34])
 .skip))
 (.seq
 (.seq
 (.region false [oK 35 .mv [.t 0],
 oK 36 .mv [.t 3],
 oK 37 (.call n_spec_l20Rd_odd 18944) [.t 35,.t 36]] [1,2,3,35,36])
 (.cond (.t 37) [37]
 (.seq
 (.region false [oK 38 .mv [.t 0],
 oK 39 (.call n_spec_l20Rd_pick 19968) [.t 38,.c (.i 3)]] [38])
 (.block 0
 (.seq
 (.region false [oK 53 (.bin .eql) [.t 39,.c (.i 0)],
 oK 52 .mv [.t 53]] [53])
 (.cond (.t 52) [52]
 (.seq
 (.region false [oK 54 .mv [.t 9],
 oK 55 (.build [.i 0,.i 0,.i 0] [(1,1),(2,1)]) [.c (.i (-1)),.c (.i (-1))],
 oK 56 (.bslice 28696 1 3 (.st [.i 0,.i 0,.i 0]) [0]) [.t 55],
 oK 57 (.app 29208 3) [.t 54,.t 56],
 oK 8 .mv [.t 57]] [9,39,54,55,56,57])
 .ret)
 (.seq
 (.region false [oK 59 (.bin .eql) [.t 39,.c (.i 1)],
 oK 58 .mv [.t 59]] [39,59])
 (.cond (.t 58) [58]
 (.seq
 (.region false [oK 60 .mv [.t 9],
 oK 61 .len [.t 60],
 oK 62 (.bin .gtr) [.t 61,.c (.i 0)]] [60,61])
 (.cond (.t 62) [62]
 (.region false [oK 63 .mv [.t 9],
 oK 64 .mv [.t 0],
 oK 65 .mv [.t 9],
 oK 66 .len [.t 65],
 oK 67 (.call n_spec_l20Rd_pick 34304) [.t 64,.t 66],
 oK 68 .mv [.t 0],
 oK 69 (.call n_spec_l20Rd_pick 35328) [.t 68,.c (.i 6)],
 oK 70 (.idxa 3) [.t 63,.t 67],
 oK 71 (.fld 0 1 false) [.t 70],
 ⟨none,.store 1,[.t 71,.t 69],none⟩] [63,64,65,66,67,68,69,70,71])
 .skip))
 (.seq
 (.region false [oK 40 .mv [.t 9],
 oK 41 .len [.t 40],
 oK 42 (.bin .gtr) [.t 41,.c (.i 0)]] [40,41])
 (.cond (.t 42) [42]
 (.region false [oK 43 .mv [.t 9],
 oK 44 .mv [.t 0],
 oK 45 .mv [.t 9],
 oK 46 .len [.t 45],
 oK 47 (.bin .add) [.t 46,.c (.i 2)],
 oK 48 (.call n_spec_l20Rd_pick 24576) [.t 44,.t 47],
 oK 49 (.bin .sub) [.t 48,.c (.i 1)],
 oK 50 (.idxa 3) [.t 43,.c (.i 0)],
 oK 51 (.fld 1 1 false) [.t 50],
 ⟨none,.store 1,[.t 51,.t 49],none⟩] [43,44,45,46,47,48,49,50,51])
 .skip))))))))
 .skip))
 (.seq
 (.region false [oK 72 .mv [.t 9],
 oK 8 .mv [.t 72]] [9,72])
 .ret))))) }
def F_impl_point_value : LF :=
 { nparams := 1,results := [.t 2],body :=
 (.seq
 (.region false [oK 1 (.box 544) [.t 0],
 oK 2 .mv [.c (.i 0)]] [0,2])
 (.seq
 (.region false [oK 3 (.fld 3 1 false) [.t 1],
 oK 4 (.load 1 false) [.t 3],
 oK 5 (.fld 2 1 false) [.t 1],
 oK 6 (.load 1 false) [.t 5],
 oK 7 (.call n_impl_valueAmong 3584) [.t 4,.t 6],
 oK 2 .mv [.t 7]] [1,3,4,5,6,7])
 .ret)) }
def F_impl_point_answered : LF :=
 { nparams := 3,results := [.c 6 4 true],body :=
 (.seq
 (.region false [oK 3 (.box 1568) [.t 0],
 oK 6 (.alloc 3104 (.st [.i 0,.i 0,.w (0#32),.w (0#32)])) []] [0])
 (.seq
 (.region true [oK 7 (.fld 1 1 false) [.t 3],
 oK 8 (.load 1 false) [.t 7],
 oK 9 .mv [.t 1],
 oK 10 (.bin .shl) [.c (.i 1),.t 9],
 oK 11 (.bin .or) [.t 8,.t 10],
 oK 12 (.fld 1 1 false) [.t 3],
 ⟨none,.store 1,[.t 12,.t 11],none⟩] [7,8,9,10,11,12])
 (.seq
 (.region true [oK 13 (.fld 2 1 false) [.t 3],
 oK 14 (.load 1 false) [.t 13],
 oK 15 .mv [.t 1],
 oK 16 .mv [.t 2],
 oK 17 (.call n_impl_statesSaying 8704) [.t 15,.t 16],
 oK 18 (.bin .and) [.t 14,.t 17],
 oK 19 (.fld 2 1 false) [.t 3],
 ⟨none,.store 1,[.t 19,.t 18],none⟩] [1,2,13,14,15,16,17,18,19])
 (.seq
 (.region false [oK 20 (.load 4 true) [.t 3],
 ⟨none,.store 4,[.t 6,.t 20],none⟩] [3,20])
 .ret)))) }
def F_impl_letterOf : LF :=
 { nparams := 1,results := [.t 2],body :=
 (.seq
 (.region false [oK 2 .mv [.c (.s [])]] [2])
 (.seq
 (.region false [oK 3 .mv [.t 0],
 oK 4 (.bin .add) [.c (.i 97),.t 3],
 oK 5 (.conv .i2r 2560) [.t 4],
 oK 6 (.conv .r2s 3072) [.t 5],
 oK 2 .mv [.t 6]] [0,3,4,5,6])
 .ret)) }
def F_spec_l6Checks_L0 : LC :=
 (.seq
 (.seq
 (.region false [oK 56 .mv [.t 15],
 oK 57 (.bin .lss) [.t 56,.c (.i 2)]] [56])
 (.cond (.t 57) [57]
 .skip
 (.exit 0)))
 (.seq
 (.block 1
 (.seq
 (.region false [oK 60 (.fld 1 1 false) [.t 13],
 oK 61 (.load 1 false) [.t 60],
 oK 16 .mv [.t 61]] [60,61])
 (.seq
 (.seq
 (.region false [oK 62 .mv [.t 15],
 oK 63 (.bin .eql) [.t 62,.c (.i 1)]] [62])
 (.cond (.t 63) [63]
 (.region false [oK 64 (.fld 2 1 false) [.t 13],
 oK 65 (.load 1 false) [.t 64],
 oK 16 .mv [.t 65]] [64,65])
 .skip))
 (.seq
 (.seq
 (.region false [oK 66 .mv [.t 16],
 oK 67 (.bin .neq) [.t 66,.c (.i (-1))],
 oK 68 .mv [.t 67],
 oG 69 .mv [.t 16] 68 true,
 oG 70 .mv [.t 3] 68 true,
 oG 71 (.bin .add) [.t 70,.c (.i 1)] 68 true,
 oG 72 .mv [.t 2] 68 true,
 oG 73 .len [.t 72] 68 true,
 oG 74 (.bin .sub) [.t 73,.c (.i 1)] 68 true,
 oG 75 (.call n_spec_l1In 38400) [.t 69,.t 71,.t 74] 68 true,
 oG 76 (.un .not) [.t 75] 68 true,
 oK 77 .pick [.t 68,.t 76,.c (.b false)]] [66,67,68,69,70,71,72,73,74,75,76])
 (.cond (.t 77) [77]
 (.seq
 (.region false [oK 10 .mv [.c (.i 0)],
 oK 11 .mv [.c (.b false)]] [0,1,2,3,4,13,14,15,16])
 .ret)
 .skip))
 (.seq
 (.region false [oK 78 (.bslice 39944 0 1 (.i 0) []) [],
 oK 79 .mv [.t 4],
 oK 80 (.app 40968 1) [.t 78,.t 79],
 oK 17 .mv [.t 80]] [78,79,80])
 (.seq
 (.region false [oK 81 .mv [.t 17],
 oK 82 (.fld 0 1 false) [.t 13],
 oK 83 (.load 1 false) [.t 82],
 oK 84 .mv [.t 15],
 oK 85 (.idxa 1) [.t 81,.t 83],
 ⟨none,.store 1,[.t 85,.t 84],none⟩] [81,82,83,84,85])
 (.seq
 (.region false [oK 87 .mv [.t 0],
 oK 88 .mv [.t 1],
 oK 89 .mv [.t 2],
 oK 90 .mv [.t 16],
 oK 91 .mv [.t 17],
 oK 92 (.call n_spec_l6Checks 47104) [.t 87,.t 88,.t 89,.t 90,.t 91],
 oK 86 .mv [.t 92],
 oK 93 (.ext 0) [.t 86],
 oK 94 (.ext 1) [.t 86],
 oK 18 .mv [.t 93],
 oK 19 .mv [.t 94]] [16,17,86,87,88,89,90,91,92,93,94])
 (.seq
 (.seq
 (.region false [oK 95 .mv [.t 19],
 oK 96 (.un .not) [.t 95]] [19,95])
 (.cond (.t 96) [96]
 (.seq
 (.region false [oK 10 .mv [.c (.i 0)],
 oK 11 .mv [.c (.b false)]] [0,1,2,3,4,13,14,15,18])
 .ret)
 .skip))
 (.region false [oK 97 .mv [.t 14],
 oK 98 .mv [.t 18],
 oK 99 (.bin .add) [.t 97,.t 98],
 oK 14 .mv [.t 99]] [18,97,98,99])))))))))
 (.region false [oK 58 .mv [.t 15],
 oK 59 (.bin .add) [.t 58,.c (.i 1)],
 oK 15 .mv [.t 59]] [58,59])))
def F_spec_l6Checks_W0 : LC := .loop F_spec_l6Checks_L0
def F_spec_l6Checks : LF :=
 { nparams := 5,results := [.t 10,.t 11],body :=
 (.seq
 (.region false [oK 10 .mv [.c (.i 0)],
 oK 11 .mv [.c (.b false)]] [10,11])
 (.seq
 (.region false [oK 20 .mv [.t 0],
 oK 21 .mv [.t 1],
 oK 22 .mv [.t 4],
 oK 23 (.call n_spec_l3Forced 11776) [.t 20,.t 21,.t 22],
 oK 24 (.bin .neq) [.t 23,.c (.i (-1))],
 oK 12 .mv [.t 24]] [20,21,22,23,24])
 (.seq
 (.seq
 (.region false [oK 25 .mv [.t 3],
 oK 26 (.bin .eql) [.t 25,.c (.i (-1))],
 oK 27 .mv [.t 26],
 oG 28 .mv [.t 12] 27 false,
 oK 29 .pick [.t 27,.c (.b true),.t 28]] [25,26,27,28])
 (.cond (.t 29) [29]
 (.seq
 (.region false [oK 30 .mv [.t 3],
 oK 31 (.bin .eql) [.t 30,.c (.i (-1))],
 oK 32 .mv [.t 31],
 oG 33 .mv [.t 12] 32 true,
 oK 34 .pick [.t 32,.t 33,.c (.b false)],
 oK 10 .mv [.c (.i 0)],
 oK 11 .mv [.t 34]] [0,1,2,3,4,12,30,31,32,33,34])
 .ret)
 .skip))
 (.seq
 (.region false [oK 35 .mv [.t 2],
 oK 36 .mv [.t 3],
 oK 37 (.idxa 3) [.t 35,.t 36],
 oK 38 (.load 3 true) [.t 37],
 oK 13 (.alloc 6680 (.st [.i 0,.i 0,.i 0])) [],
 ⟨none,.store 3,[.t 13,.t 38],none⟩] [12,35,36,37,38])
 (.seq
 (.seq
 (.region false [oK 39 (.fld 0 1 false) [.t 13],
 oK 40 (.load 1 false) [.t 39],
 oK 41 (.bin .lss) [.t 40,.c (.i 0)],
 oK 42 .mv [.t 41],
 oG 43 (.fld 0 1 false) [.t 13] 42 false,
 oG 44 (.load 1 false) [.t 43] 42 false,
 oG 45 .mv [.t 0] 42 false,
 oG 46 (.bin .geq) [.t 44,.t 45] 42 false,
 oK 47 .pick [.t 42,.c (.b true),.t 46],
 oK 48 .mv [.t 47],
 oG 49 .mv [.t 4] 48 false,
 oG 50 (.fld 0 1 false) [.t 13] 48 false,
 oG 51 (.load 1 false) [.t 50] 48 false,
 oG 52 (.idxa 1) [.t 49,.t 51] 48 false,
 oG 53 (.load 1 false) [.t 52] 48 false,
 oG 54 (.bin .neq) [.t 53,.c (.i (-1))] 48 false,
 oK 55 .pick [.t 48,.c (.b true),.t 54]] [39,40,41,42,43,44,45,46,47,48,49,50,51,52,53,54])
 (.cond (.t 55) [55]
 (.seq
 (.region false [oK 10 .mv [.c (.i 0)],
 oK 11 .mv [.c (.b false)]] [0,1,2,3,4,13])
 .ret)
 .skip))
 (.seq
 (.region false [oK 14 .mv [.c (.i 1)]] [])
 (.seq
 (.seq
 (.region false [oK 15 .mv [.c (.i 0)]] [])
 (.block 0
 F_spec_l6Checks_W0))
 (.seq
 (.region false [oK 100 .mv [.t 14],
 oK 10 .mv [.t 100],
 oK 11 .mv [.c (.b true)]] [0,1,2,3,4,13,14,15,100])
 .ret)))))))) }
def F_spec_l6Once_L1 : LC :=
 (.seq
 (.seq
 (.region false [oK 16 .mv [.t 5],
 oK 17 (.bin .lss) [.t 16,.c (.i 2)]] [16])
 (.cond (.t 17) [17]
 .skip
 (.exit 2)))
 (.seq
 (.block 3
 (.seq
 (.region false [oK 20 .mv [.t 0],
 oK 21 .mv [.t 4],
 oK 22 (.idxa 3) [.t 20,.t 21],
 oK 23 (.fld 1 1 false) [.t 22],
 oK 24 (.load 1 false) [.t 23],
 oK 6 .mv [.t 24]] [20,21,22,23,24])
 (.seq
 (.seq
 (.region false [oK 25 .mv [.t 5],
 oK 26 (.bin .eql) [.t 25,.c (.i 1)]] [25])
 (.cond (.t 26) [26]
 (.region false [oK 27 .mv [.t 0],
 oK 28 .mv [.t 4],
 oK 29 (.idxa 3) [.t 27,.t 28],
 oK 30 (.fld 2 1 false) [.t 29],
 oK 31 (.load 1 false) [.t 30],
 oK 6 .mv [.t 31]] [27,28,29,30,31])
 .skip))
 (.seq
 (.seq
 (.region false [oK 32 .mv [.t 6],
 oK 33 (.bin .eql) [.t 32,.c (.i (-1))]] [32])
 (.cond (.t 33) [33]
 (.exit 3)
 .skip))
 (.seq
 (.seq
 (.region false [oK 34 .mv [.t 6],
 oK 35 .mv [.t 0],
 oK 36 .len [.t 35],
 oK 37 (.bin .sub) [.t 36,.c (.i 1)],
 oK 38 (.call n_spec_l1In 19456) [.t 34,.c (.i 0),.t 37],
 oK 39 (.un .not) [.t 38],
 oK 40 .mv [.t 39],
 oG 41 .mv [.t 3] 40 false,
 oG 42 .mv [.t 6] 40 false,
 oG 43 (.idxa 1) [.t 41,.t 42] 40 false,
 oG 44 (.load 1 false) [.t 43] 40 false,
 oK 45 .pick [.t 40,.c (.b true),.t 44]] [34,35,36,37,38,39,40,41,42,43,44])
 (.cond (.t 45) [45]
 (.seq
 (.region false [oK 2 .mv [.c (.b false)]] [0,3,4,5,6])
 .ret)
 .skip))
 (.region false [oK 46 .mv [.t 3],
 oK 47 .mv [.t 6],
 oK 48 (.idxa 1) [.t 46,.t 47],
 ⟨none,.store 1,[.t 48,.c (.b true)],none⟩] [6,46,47,48]))))))
 (.region false [oK 18 .mv [.t 5],
 oK 19 (.bin .add) [.t 18,.c (.i 1)],
 oK 5 .mv [.t 19]] [6,18,19])))
def F_spec_l6Once_W1 : LC := .loop F_spec_l6Once_L1
def F_spec_l6Once_L0 : LC :=
 (.seq
 (.seq
 (.region false [oK 10 .mv [.t 4],
 oK 11 .mv [.t 0],
 oK 12 .len [.t 11],
 oK 13 (.bin .lss) [.t 10,.t 12]] [10,11,12])
 (.cond (.t 13) [13]
 .skip
 (.exit 0)))
 (.seq
 (.block 1
 (.seq
 (.region false [oK 5 .mv [.c (.i 0)]] [])
 (.block 2
 F_spec_l6Once_W1)))
 (.region false [oK 14 .mv [.t 4],
 oK 15 (.bin .add) [.t 14,.c (.i 1)],
 oK 4 .mv [.t 15]] [5,14,15])))
def F_spec_l6Once_W0 : LC := .loop F_spec_l6Once_L0
def F_spec_l6Once : LF :=
 { nparams := 1,results := [.t 2],body :=
 (.seq
 (.region false [oK 2 .mv [.c (.b false)]] [2])
 (.seq
 (.region false [oK 7 .mv [.t 0],
 oK 8 .len [.t 7],
 oK 9 (.make 4616 1 (.b false)) [.t 8,.t 8],
 oK 3 .mv [.t 9]] [7,8,9])
 (.seq
 (.seq
 (.region false [oK 4 .mv [.c (.i 0)]] [])
 (.block 0
 F_spec_l6Once_W0))
 (.seq
 (.region false [oK 2 .mv [.c (.b true)]] [0,3,4])
 .ret)))) }
def F_spec_l1Number : LF :=
 { nparams := 1,results := [.t 2],body :=
 (.seq
 (.region false [oK 2 .mv [.c (.s [])]] [2])
 (.seq
 (.seq
 (.region false [oK 3 .mv [.t 0],
 oK 4 (.bin .lss) [.t 3,.c (.i 10)]] [3])
 (.cond (.t 4) [4]
 (.seq
 (.region false [oK 5 .mv [.t 0],
 oK 6 (.mm true) [.t 5,.c (.i 0)],
 oK 7 (.bin .add) [.c (.i 48),.t 6],
 oK 8 (.conv .i2b 4096) [.t 7],
 oK 9 (.bslice 4616 1 1 (.y 0) [0]) [.t 8],
 oK 10 (.conv .b2s 5120) [.t 9],
 oK 2 .mv [.t 10]] [0,5,6,7,8,9,10])
 .ret)
 .skip))
 (.seq
 (.region true [oK 11 .mv [.t 0],
 oK 12 (.bin .quo) [.t 11,.c (.i 10)],
 oK 13 (.call n_spec_l1Number 6656) [.t 12],
 oK 14 .mv [.t 0],
 oK 15 (.bin .rem) [.t 14,.c (.i 10)],
 oK 16 (.bin .add) [.c (.i 48),.t 15],
 oK 17 (.conv .i2b 8704) [.t 16],
 oK 18 (.bslice 9224 1 1 (.y 0) [0]) [.t 17],
 oK 19 (.conv .b2s 9728) [.t 18],
 oK 20 (.bin .add) [.t 13,.t 19],
 oK 2 .mv [.t 20]] [0,11,12,13,14,15,16,17,18,19,20])
 .ret))) }
def F_spec_l3Forced_L0 : LC :=
 (.seq
 (.seq
 (.region false [oK 11 .mv [.t 9],
 oK 12 .mv [.t 0],
 oK 13 (.bin .shl) [.c (.i 1),.t 12],
 oK 14 (.bin .lss) [.t 11,.t 13]] [11,12,13])
 (.cond (.t 14) [14]
 .skip
 (.exit 0)))
 (.seq
 (.block 1
 (.seq
 (.seq
 (.region false [oK 17 .mv [.t 2],
 oK 18 .mv [.t 9],
 oK 19 (.call n_spec_l1Agrees 9728) [.t 17,.t 18],
 oK 20 (.un .not) [.t 19]] [17,18,19])
 (.cond (.t 20) [20]
 (.exit 1)
 .skip))
 (.seq
 (.region false [oK 21 .mv [.t 1],
 oK 22 .mv [.t 9],
 oK 23 (.bin .shr) [.t 21,.t 22],
 oK 24 (.bin .rem) [.t 23,.c (.i 2)],
 oK 10 .mv [.t 24]] [21,22,23,24])
 (.seq
 (.seq
 (.region false [oK 25 .mv [.t 8],
 oK 26 (.un .not) [.t 25],
 oK 27 .mv [.t 26],
 oG 28 .mv [.t 10] 27 true,
 oG 29 .mv [.t 7] 27 true,
 oG 30 (.bin .neq) [.t 28,.t 29] 27 true,
 oK 31 .pick [.t 27,.t 30,.c (.b false)]] [7,8,25,26,27,28,29,30])
 (.cond (.t 31) [31]
 (.seq
 (.region false [oK 6 .mv [.c (.i (-1))]] [0,1,2,9,10])
 .ret)
 .skip))
 (.seq
 (.region false [oK 32 .mv [.t 10],
 oK 7 .mv [.t 32]] [10,32])
 (.region false [oK 8 .mv [.c (.b false)]] []))))))
 (.region false [oK 15 .mv [.t 9],
 oK 16 (.bin .add) [.t 15,.c (.i 1)],
 oK 9 .mv [.t 16]] [15,16])))
def F_spec_l3Forced_W0 : LC := .loop F_spec_l3Forced_L0
def F_spec_l3Forced : LF :=
 { nparams := 3,results := [.t 6],body :=
 (.seq
 (.region false [oK 6 .mv [.c (.i 0)]] [6])
 (.seq
 (.region false [oK 7 .mv [.c (.i (-1))]] [])
 (.seq
 (.region false [oK 8 .mv [.c (.b true)]] [])
 (.seq
 (.seq
 (.region false [oK 9 .mv [.c (.i 0)]] [])
 (.block 0
 F_spec_l3Forced_W0))
 (.seq
 (.region false [oK 33 .mv [.t 7],
 oK 6 .mv [.t 33]] [0,1,2,7,8,9,33])
 .ret))))) }
def F_spec_l3Value : LF :=
 { nparams := 2,results := [.t 4],body :=
 (.seq
 (.region false [oK 4 .mv [.c (.i 0)]] [4])
 (.seq
 (.region false [oK 9 .mv [.t 0],
 oK 10 .len [.t 9],
 oK 11 (.bin .sub) [.t 10,.c (.i 1)],
 oK 5 .mv [.t 11]] [9,10,11])
 (.seq
 (.seq
 (.region false [oK 12 .mv [.t 0],
 oK 13 .mv [.t 5],
 oK 14 (.idxa 2) [.t 12,.t 13],
 oK 15 (.fld 0 1 false) [.t 14],
 oK 16 (.load 1 false) [.t 15]] [12,13,14,15])
 (.block 0
 (.seq
 (.region false [oK 18 (.bin .eql) [.t 16,.c (.i 0)],
 oK 17 .mv [.t 18]] [18])
 (.cond (.t 17) [17]
 (.seq
 (.region false [oK 19 .mv [.t 1],
 oK 20 .mv [.t 0],
 oK 21 .mv [.t 5],
 oK 22 (.idxa 2) [.t 20,.t 21],
 oK 23 (.fld 1 1 false) [.t 22],
 oK 24 (.load 1 false) [.t 23],
 oK 25 (.bin .shr) [.t 19,.t 24],
 oK 26 (.bin .rem) [.t 25,.c (.i 2)],
 oK 4 .mv [.t 26]] [0,1,5,16,19,20,21,22,23,24,25,26])
 .ret)
 (.seq
 (.region false [oK 28 (.bin .eql) [.t 16,.c (.i 1)],
 oK 27 .mv [.t 28]] [16,28])
 (.cond (.t 27) [27]
 (.seq
 (.region false [oK 29 .mv [.t 0],
 oK 30 .mv [.t 5],
 oK 31 (.slice false true 2) [.t 29,.t 30],
 oK 32 .mv [.t 1],
 oK 33 (.call n_spec_l3Value 16896) [.t 31,.t 32],
 oK 34 (.bin .sub) [.c (.i 1),.t 33],
 oK 4 .mv [.t 34]] [0,1,5,29,30,31,32,33,34])
 .ret)
 .skip))))))
 (.seq
 (.region false [oK 35 .mv [.t 0],
 oK 36 .mv [.t 5],
 oK 37 (.bin .sub) [.t 36,.c (.i 1)],
 oK 38 (.call n_spec_l2Starts 19456) [.t 35,.t 37],
 oK 6 .mv [.t 38]] [35,36,37,38])
 (.seq
 (.region false [oK 39 .mv [.t 0],
 oK 40 .mv [.t 6],
 oK 41 (.slice false true 2) [.t 39,.t 40],
 oK 42 .mv [.t 1],
 oK 43 (.call n_spec_l3Value 22016) [.t 41,.t 42],
 oK 7 .mv [.t 43]] [39,40,41,42,43])
 (.seq
 (.region false [oK 44 .mv [.t 0],
 oK 45 .mv [.t 6],
 oK 46 .mv [.t 5],
 oK 47 (.slice true true 2) [.t 44,.t 45,.t 46],
 oK 48 .mv [.t 1],
 oK 49 (.call n_spec_l3Value 25088) [.t 47,.t 48],
 oK 8 .mv [.t 49]] [1,6,44,45,46,47,48,49])
 (.seq
 (.seq
 (.region false [oK 50 .mv [.t 0],
 oK 51 .mv [.t 5],
 oK 52 (.idxa 2) [.t 50,.t 51],
 oK 53 (.fld 0 1 false) [.t 52],
 oK 54 (.load 1 false) [.t 53],
 oK 55 (.bin .eql) [.t 54,.c (.i 3)]] [0,5,50,51,52,53,54])
 (.cond (.t 55) [55]
 (.seq
 (.region false [oK 56 .mv [.t 7],
 oK 57 .mv [.t 8],
 oK 58 (.mm true) [.t 56,.t 57],
 oK 4 .mv [.t 58]] [7,8,56,57,58])
 .ret)
 .skip))
 (.seq
 (.region false [oK 59 .mv [.t 7],
 oK 60 .mv [.t 8],
 oK 61 (.mm false) [.t 59,.t 60],
 oK 4 .mv [.t 61]] [7,8,59,60,61])
 .ret)))))))) }
def F_impl_comesTo : LF :=
 { nparams := 4,results := [.t 8],body :=
 (.seq
 (.region false [oK 7 (.box 3616) [.t 3],
 oK 8 .mv [.c (.b false)]] [3,8])
 (.seq
 (.seq
 (.region false [oK 9 .mv [.t 2],
 oK 10 (.bin .eql) [.t 9,.c (.i (-1))],
 oK 11 .mv [.t 10],
 oG 12 (.load 4 true) [.t 7] 11 false,
 oG 13 (.call n_impl_point_isForced 6656) [.t 12] 11 false,
 oK 14 .pick [.t 11,.c (.b true),.t 13]] [9,10,11,12,13])
 (.cond (.t 14) [14]
 (.seq
 (.region false [oK 15 .mv [.t 2],
 oK 16 (.bin .eql) [.t 15,.c (.i (-1))],
 oK 17 .mv [.t 16],
 oG 18 (.load 4 true) [.t 7] 17 true,
 oG 19 (.call n_impl_point_isForced 9728) [.t 18] 17 true,
 oK 20 .pick [.t 17,.t 19,.c (.b false)],
 oK 8 .mv [.t 20]] [1,2,7,15,16,17,18,19,20])
 .ret)
 .skip))
 (.seq
 (.seq
 (.region false [oK 21 .mv [.t 2],
 oK 22 .mv [.t 1],
 oK 23 (.bin .add) [.t 22,.c (.i 1)],
 oK 24 .mv [.t 0],
 oK 25 .len [.t 24],
 oK 26 (.bin .sub) [.t 25,.c (.i 1)],
 oK 27 (.call n_impl_isWithin 13824) [.t 21,.t 23,.t 26],
 oK 28 (.un .not) [.t 27],
 oK 29 .mv [.t 28],
 oG 30 .mv [.t 0] 29 false,
 oG 31 .mv [.t 2] 29 false,
 oG 32 (.idxa 4) [.t 30,.t 31] 29 false,
 oG 33 (.load 4 true) [.t 32] 29 false,
 oG 34 (.build [.i 0,.i 0,.w (0#32),.w (0#32)] []) [] 29 false,
 oG 35 (.eqs true 4) [.t 33,.t 34] 29 false,
 oK 36 .pick [.t 29,.c (.b true),.t 35]] [1,21,22,23,24,25,26,27,28,29,30,31,32,33,34,35])
 (.cond (.t 36) [36]
 (.seq
 (.region false [oK 8 .mv [.c (.b false)]] [2,7])
 .ret)
 .skip))
 (.seq
 (.region false [oK 37 .mv [.t 0],
 oK 38 .mv [.t 2],
 oK 39 (.load 4 true) [.t 7],
 oK 40 (.idxa 4) [.t 37,.t 38],
 ⟨none,.store 4,[.t 40,.t 39],none⟩] [2,7,37,38,39,40])
 (.seq
 (.region false [oK 8 .mv [.c (.b true)]] [])
 .ret))))) }
def F_impl_point_canAsk : LF :=
 { nparams := 2,results := [.t 4],body :=
 (.seq
 (.region false [oK 2 (.box 1056) [.t 0],
 oK 4 .mv [.c (.b false)]] [0,4])
 (.seq
 (.region false [oK 5 .mv [.t 1],
 oK 6 (.fld 0 1 false) [.t 2],
 oK 7 (.load 1 false) [.t 6],
 oK 8 (.bin .sub) [.t 7,.c (.i 1)],
 oK 9 (.call n_impl_isWithin 4608) [.t 5,.c (.i 0),.t 8],
 oK 10 .mv [.t 9],
 oG 11 (.fld 1 1 false) [.t 2] 10 true,
 oG 12 (.load 1 false) [.t 11] 10 true,
 oG 13 .mv [.t 1] 10 true,
 oG 14 (.call n_impl_hasTest 7168) [.t 12,.t 13] 10 true,
 oG 15 (.un .not) [.t 14] 10 true,
 oK 16 .pick [.t 10,.t 15,.c (.b false)],
 oK 4 .mv [.t 16]] [1,2,5,6,7,8,9,10,11,12,13,14,15,16])
 .ret)) }
def F_impl_manyOk : LF :=
 { nparams := 1,results := [.t 2],body :=
 (.seq
 (.region false [oK 2 .mv [.c (.b false)]] [2])
 (.seq
 (.region false [oK 3 .mv [.t 0],
 oK 4 (.call n_impl_isWithin 2048) [.t 3,.c (.i 1),.c (.i 5)],
 oK 2 .mv [.t 4]] [0,3,4])
 .ret)) }
def F_impl_readBehind : LF :=
 { nparams := 3,results := [.t 6,.t 7,.t 8],body :=
 (.seq
 (.region false [oK 6 (.newnil 3096) [],
 oK 7 .mv [.c (.s [])],
 oK 8 .mv [.c (.b false)]] [6,7,8])
 (.seq
 (.region false [oK 12 .mv [.t 1],
 oK 13 .mv [.t 0],
 oK 14 (.call n_strings_CutPrefix 7168) [.t 12,.t 13],
 oK 11 .mv [.t 14],
 oK 15 (.ext 0) [.t 11],
 oK 16 (.ext 1) [.t 11],
 oK 9 .mv [.t 15],
 oK 10 .mv [.t 16]] [0,1,11,12,13,14,15,16])
 (.seq
 (.seq
 (.region false [oK 17 .mv [.t 10],
 oK 18 (.un .not) [.t 17]] [10,17])
 (.cond (.t 18) [18]
 (.seq
 (.region false [oK 6 (.newnil 3096) [],
 oK 7 .mv [.c (.s [])],
 oK 8 .mv [.c (.b false)]] [2,9])
 .ret)
 .skip))
 (.seq
 (.region false [oK 19 .mv [.t 9],
 oK 20 .mv [.t 2],
 oK 21 (.call n_impl_readChoices 10752) [.t 19,.t 20],
 oK 22 (.ext 0) [.t 21],
 oK 23 (.ext 1) [.t 21],
 oK 24 (.ext 2) [.t 21],
 oK 6 .mv [.t 22],
 oK 7 .mv [.t 23],
 oK 8 .mv [.t 24]] [2,9,19,20,21,22,23,24])
 .ret)))) }
def F_strings_CutPrefix : LF :=
 { nparams := 2,results := [.t 4,.t 5],body :=
 (.seq
 (.region false [oK 4 .mv [.c (.s [])],
 oK 5 .mv [.c (.b false)]] [4,5])
 (.seq
 (.region false [oK 6 .mv [.t 0],
 oK 7 .mv [.t 1],
 oK 8 (.call n_internal_stringslite_CutPrefix 4096) [.t 6,.t 7],
 oK 9 (.ext 0) [.t 8],
 oK 10 (.ext 1) [.t 8],
 oK 4 .mv [.t 9],
 oK 5 .mv [.t 10]] [0,1,6,7,8,9,10])
 .ret)) }
def F_impl_laidOut : LF :=
 { nparams := 4,results := [.t 8],body :=
 (.seq
 (.region false [oK 8 (.newnil 4120) []] [8])
 (.seq
 (.region false [oK 10 .mv [.t 0],
 oK 11 (.build [.i 0,.i 0,.i 0] [(0,1),(1,1),(2,1)]) [.t 10,.c (.i (-1)),.c (.i (-1))],
 oK 9 (.alloc 4632 (.st [.i 0,.i 0,.i 0])) [],
 ⟨none,.store 3,[.t 9,.t 11],none⟩] [0,10,11])
 (.seq
 (.seq
 (.region false [oK 12 .mv [.t 2],
 oK 13 .len [.t 12],
 oK 14 (.bin .gtr) [.t 13,.c (.i 0)]] [12,13])
 (.cond (.t 14) [14]
 (.region false [oK 15 .mv [.t 1],
 oK 16 (.bin .add) [.t 15,.c (.i 1)],
 oK 17 (.fld 1 1 false) [.t 9],
 ⟨none,.store 1,[.t 17,.t 16],none⟩] [15,16,17])
 .skip))
 (.seq
 (.seq
 (.region false [oK 18 .mv [.t 3],
 oK 19 .len [.t 18],
 oK 20 (.bin .gtr) [.t 19,.c (.i 0)]] [18,19])
 (.cond (.t 20) [20]
 (.region false [oK 21 .mv [.t 1],
 oK 22 (.bin .add) [.t 21,.c (.i 1)],
 oK 23 .mv [.t 2],
 oK 24 .len [.t 23],
 oK 25 (.bin .add) [.t 22,.t 24],
 oK 26 (.fld 2 1 false) [.t 9],
 ⟨none,.store 1,[.t 26,.t 25],none⟩] [1,21,22,23,24,25,26])
 .skip))
 (.seq
 (.region false [oK 27 (.load 3 true) [.t 9],
 oK 28 (.bslice 14360 1 3 (.st [.i 0,.i 0,.i 0]) [0]) [.t 27],
 oK 29 .mv [.t 2],
 oK 30 .mv [.t 3],
 oK 31 (.bslice 15880 3 1 (.sl 1 []) [0,1,2]) [.t 28,.t 29,.t 30],
 oK 32 (.call n_slices_Concat_impl_Choice_impl_Choice 16384) [.t 31],
 oK 8 .mv [.t 32]] [1,2,3,9,27,28,29,30,31,32])
 .ret))))) }
def F_impl_placeOf : LF :=
 { nparams := 1,results := [.t 2],body :=
 (.seq
 (.region false [oK 2 .mv [.c (.i 0)]] [2])
 (.seq
 (.region false [oK 3 .mv [.t 0],
 oK 4 (.conv .b2i 2048) [.t 3],
 oK 5 (.bin .sub) [.t 4,.c (.i 97)],
 oK 2 .mv [.t 5]] [0,3,4,5])
 .ret)) }
def F_impl_partsTaken : LF :=
 { nparams := 1,results := [.t 2],body :=
 (.seq
 (.region false [oK 2 .mv [.c (.i 0)]] [2])
 (.seq
 (.seq
 (.region false [oK 3 .mv [.t 0]] [0])
 (.block 0
 (.seq
 (.region false [oK 5 (.bin .eql) [.t 3,.c (.i 0)],
 oK 4 .mv [.t 5]] [5])
 (.cond (.t 4) [4]
 (.seq
 (.region false [oK 2 .mv [.c (.i 0)]] [3])
 .ret)
 (.seq
 (.region false [oK 7 (.bin .eql) [.t 3,.c (.i 1)],
 oK 6 .mv [.t 7]] [3,7])
 (.cond (.t 6) [6]
 (.seq
 (.region false [oK 2 .mv [.c (.i 1)]] [])
 .ret)
 .skip))))))
 (.seq
 (.region false [oK 2 .mv [.c (.i 2)]] [])
 .ret))) }
def F_impl_markOk : LF :=
 { nparams := 2,results := [.t 4],body :=
 (.seq
 (.region false [oK 3 (.box 1552) [.t 1],
 oK 4 .mv [.c (.b false)]] [1,4])
 (.seq
 (.seq
 (.region false [oK 5 (.fld 0 1 false) [.t 3],
 oK 6 (.load 1 false) [.t 5],
 oK 7 (.bin .eql) [.t 6,.c (.i 0)]] [5,6])
 (.cond (.t 7) [7]
 (.seq
 (.region false [oK 8 (.fld 1 1 false) [.t 3],
 oK 9 (.load 1 false) [.t 8],
 oK 10 .mv [.t 0],
 oK 11 (.bin .sub) [.t 10,.c (.i 1)],
 oK 12 (.call n_impl_isWithin 6144) [.t 9,.c (.i 0),.t 11],
 oK 4 .mv [.t 12]] [0,3,8,9,10,11,12])
 .ret)
 .skip))
 (.seq
 (.region false [oK 13 (.fld 0 1 false) [.t 3],
 oK 14 (.load 1 false) [.t 13],
 oK 15 (.call n_impl_isWithin 7680) [.t 14,.c (.i 1),.c (.i 3)],
 oK 16 .mv [.t 15],
 oG 17 (.fld 1 1 false) [.t 3] 16 true,
 oG 18 (.load 1 false) [.t 17] 16 true,
 oG 19 (.bin .eql) [.t 18,.c (.i 0)] 16 true,
 oK 20 .pick [.t 16,.t 19,.c (.b false)],
 oK 4 .mv [.t 20]] [0,3,13,14,15,16,17,18,19,20])
 .ret))) }
def F_spec_l20Rd_odd : LF :=
 { nparams := 2,results := [.t 4],body :=
 (.seq
 (.region false [oK 4 .mv [.c (.b false)]] [4])
 (.seq
 (.region false [oK 5 .mv [.t 1],
 oK 6 (.bin .gtr) [.t 5,.c (.i 0)],
 oK 7 .mv [.t 6],
 oG 8 .mv [.t 0] 7 true,
 oG 9 .mv [.t 1] 7 true,
 oG 10 (.call n_spec_l20Rd_pick 5120) [.t 8,.t 9] 7 true,
 oG 11 .mv [.t 1] 7 true,
 oG 12 (.bin .sub) [.t 11,.c (.i 1)] 7 true,
 oG 13 (.bin .eql) [.t 10,.t 12] 7 true,
 oK 14 .pick [.t 7,.t 13,.c (.b false)],
 oK 4 .mv [.t 14]] [1,5,6,7,8,9,10,11,12,13,14])
 .ret)) }
def F_impl_foldTerm_uint32_L0 : LC :=
 (.seq
 (.region false [oK 13 (.bin .lss) [.t 12,.t 11]] [])
 (.seq
 (.cond (.t 13) [13]
 .skip
 (.exit 0))
 (.seq
 (.block 1
 (.seq
 (.region false [oK 14 (.idxa 2) [.t 10,.t 12],
 oK 15 (.load 2 true) [.t 14],
 oK 7 (.alloc 3600 (.st [.i 0,.i 0])) [],
 ⟨none,.store 2,[.t 7,.t 15],none⟩] [14,15])
 (.seq
 (.region false [oK 16 .mv [.t 5],
 oK 17 .len [.t 16],
 oK 18 (.fld 0 1 false) [.t 7],
 oK 19 (.load 1 false) [.t 18],
 oK 20 (.call n_impl_partsTaken 10240) [.t 19],
 oK 21 (.bin .sub) [.t 17,.t 20],
 oK 8 .mv [.t 21]] [16,17,18,19,20,21])
 (.seq
 (.region true [oK 22 .mv [.t 1],
 oK 23 (.load 2 true) [.t 7],
 oK 24 .mv [.t 5],
 oK 25 .mv [.t 8],
 oK 26 (.slice true false 1) [.t 24,.t 25],
 oK 27 (.calld 13824) [.t 22,.t 23,.t 26],
 oK 9 .mv [.t 27]] [7,22,23,24,25,26,27])
 (.region false [oK 28 .mv [.t 5],
 oK 29 .mv [.t 8],
 oK 30 (.slice false true 1) [.t 28,.t 29],
 oK 31 .mv [.t 9],
 oK 32 (.bslice 16392 1 1 (.w (0#32)) [0]) [.t 31],
 oK 33 (.app 16904 1) [.t 30,.t 32],
 oK 5 .mv [.t 33]] [8,9,28,29,30,31,32,33])))))
 (.region false [oK 34 (.bin .add) [.t 12,.c (.i 1)],
 oK 12 .mv [.t 34]] [34]))))
def F_impl_foldTerm_uint32_W0 : LC := .loop F_impl_foldTerm_uint32_L0
def F_impl_foldTerm_uint32 : LF :=
 { nparams := 2,results := [.t 4],body :=
 (.seq
 (.region false [oK 4 .mv [.c (.w (0#32))]] [4])
 (.seq
 (.region false [oK 5 (.newnil 2568) []] [])
 (.seq
 (.seq
 (.region false [oK 10 .mv [.t 0],
 oK 11 .len [.t 10],
 oK 12 .mv [.c (.i 0)]] [0])
 (.block 0
 F_impl_foldTerm_uint32_W0))
 (.seq
 (.region false [oK 35 .mv [.t 5],
 oK 36 (.idxa 1) [.t 35,.c (.i 0)],
 oK 37 (.load 1 false) [.t 36],
 oK 4 .mv [.t 37]] [1,5,10,11,12,35,36,37])
 .ret)))) }
def F_impl_statesOfPart : LF :=
 { gl := [0],nparams := 2,results := [.t 4],body :=
 (.seq
 (.region false [oK 2 (.box 1040) [.t 0],
 oK 4 .mv [.c (.w (0#32))]] [0,4])
 (.seq
 (.seq
 (.region false [oK 5 (.fld 0 1 false) [.t 2],
 oK 6 (.load 1 false) [.t 5]] [5])
 (.block 0
 (.seq
 (.region false [oK 8 (.bin .eql) [.t 6,.c (.i 0)],
 oK 7 .mv [.t 8]] [8])
 (.cond (.t 7) [7]
 (.seq
 (.region false [oK 9 (.fld 1 1 false) [.t 2],
 oK 10 (.load 1 false) [.t 9],
 oK 11 (.idxp 5 1) [.t 1048576,.t 10],
 oK 12 (.load 1 false) [.t 11],
 oK 4 .mv [.t 12]] [1,2,6,9,10,11,12])
 .ret)
 (.seq
 (.region false [oK 14 (.bin .eql) [.t 6,.c (.i 1)],
 oK 13 .mv [.t 14]] [2,14])
 (.cond (.t 13) [13]
 (.seq
 (.region false [oK 15 .mv [.t 1],
 oK 16 (.idxa 1) [.t 15,.c (.i 0)],
 oK 17 (.load 1 false) [.t 16],
 oK 18 (.un .xor) [.t 17],
 oK 4 .mv [.t 18]] [1,6,15,16,17,18])
 .ret)
 (.seq
 (.region false [oK 20 (.bin .eql) [.t 6,.c (.i 2)],
 oK 19 .mv [.t 20]] [6,20])
 (.cond (.t 19) [19]
 (.seq
 (.region true [oK 21 .mv [.t 1],
 oK 22 (.idxa 1) [.t 21,.c (.i 0)],
 oK 23 (.load 1 false) [.t 22],
 oK 24 .mv [.t 1],
 oK 25 (.idxa 1) [.t 24,.c (.i 1)],
 oK 26 (.load 1 false) [.t 25],
 oK 27 (.bin .and) [.t 23,.t 26],
 oK 4 .mv [.t 27]] [1,21,22,23,24,25,26,27])
 .ret)
 .skip))))))))
 (.seq
 (.region true [oK 28 .mv [.t 1],
 oK 29 (.idxa 1) [.t 28,.c (.i 0)],
 oK 30 (.load 1 false) [.t 29],
 oK 31 .mv [.t 1],
 oK 32 (.idxa 1) [.t 31,.c (.i 1)],
 oK 33 (.load 1 false) [.t 32],
 oK 34 (.bin .or) [.t 30,.t 33],
 oK 4 .mv [.t 34]] [1,28,29,30,31,32,33,34])
 .ret))) }
def F_impl_point_isForced : LF :=
 { nparams := 1,results := [.t 2],body :=
 (.seq
 (.region false [oK 1 (.box 544) [.t 0],
 oK 2 .mv [.c (.b false)]] [0,2])
 (.seq
 (.region false [oK 3 (.load 4 true) [.t 1],
 oK 4 (.call n_impl_point_value 2048) [.t 3],
 oK 5 (.bin .neq) [.t 4,.c (.i (-1))],
 oK 2 .mv [.t 5]] [1,3,4,5])
 .ret)) }
def F_impl_hasTest : LF :=
 { nparams := 2,results := [.t 4],body :=
 (.seq
 (.region false [oK 4 .mv [.c (.b false)]] [4])
 (.seq
 (.region false [oK 5 .mv [.t 0],
 oK 6 .mv [.t 1],
 oK 7 (.bin .shr) [.t 5,.t 6],
 oK 8 (.bin .and) [.t 7,.c (.i 1)],
 oK 9 (.bin .eql) [.t 8,.c (.i 1)],
 oK 4 .mv [.t 9]] [0,1,5,6,7,8,9])
 .ret)) }
def F_spec_l20Term_L0 : LC :=
 (.seq
 (.seq
 (.region false [oK 23 .mv [.t 9],
 oK 24 .mv [.t 1],
 oK 25 (.bin .lss) [.t 23,.t 24],
 oK 26 .mv [.t 25],
 oG 27 .mv [.t 8] 26 true,
 oK 28 .pick [.t 26,.t 27,.c (.b false)]] [23,24,25,26,27])
 (.cond (.t 28) [28]
 .skip
 (.exit 0)))
 (.seq
 (.block 1
 (.seq
 (.region false [oK 31 .mv [.t 0],
 oK 32 (.call n_spec_l20Rd_pick 16384) [.t 31,.c (.i 4)],
 oK 33 (.bin .gtr) [.t 32,.c (.i 0)],
 oK 34 .mv [.t 33],
 oG 35 .mv [.t 9] 34 false,
 oG 36 (.bin .eql) [.t 35,.c (.i 0)] 34 false,
 oK 37 .pick [.t 34,.c (.b true),.t 36]] [31,32,33,34,35,36])
 (.cond (.t 37) [37]
 (.region false [oK 38 .mv [.t 7],
 oK 39 .mv [.t 9],
 oK 40 (.build [.i 0,.i 0] [(0,1),(1,1)]) [.c (.i 0),.t 39],
 oK 41 (.bslice 21008 1 2 (.st [.i 0,.i 0]) [0]) [.t 40],
 oK 42 (.bslice 21512 1 1 (.sl 1 []) [0]) [.t 41],
 oK 43 (.app 22024 1) [.t 38,.t 42],
 oK 7 .mv [.t 43]] [38,39,40,41,42,43])
 .skip)))
 (.region false [oK 29 .mv [.t 9],
 oK 30 (.bin .add) [.t 29,.c (.i 1)],
 oK 9 .mv [.t 30]] [29,30])))
def F_spec_l20Term_W0 : LC := .loop F_spec_l20Term_L0
def F_spec_l20Term_L1 : LC :=
 (.seq
 (.seq
 (.region false [oK 47 .mv [.t 10],
 oK 48 (.bin .gtr) [.t 47,.c (.i 0)],
 oK 49 .mv [.t 48],
 oG 50 .mv [.t 8] 49 true,
 oG 51 (.un .not) [.t 50] 49 true,
 oK 52 .pick [.t 49,.t 51,.c (.b false)]] [47,48,49,50,51])
 (.cond (.t 52) [52]
 .skip
 (.exit 2)))
 (.seq
 (.block 3
 (.region false [oK 55 .mv [.t 7],
 oK 56 .mv [.t 0],
 oK 57 .mv [.t 1],
 oK 58 (.call n_spec_l20Rd_pick 29696) [.t 56,.t 57],
 oK 59 (.build [.i 0,.i 0] [(0,1),(1,1)]) [.c (.i 0),.t 58],
 oK 60 (.bslice 30736 1 2 (.st [.i 0,.i 0]) [0]) [.t 59],
 oK 61 (.bslice 31240 1 1 (.sl 1 []) [0]) [.t 60],
 oK 62 (.app 31752 1) [.t 55,.t 61],
 oK 7 .mv [.t 62]] [55,56,57,58,59,60,61,62]))
 (.region false [oK 53 .mv [.t 10],
 oK 54 (.bin .sub) [.t 53,.c (.i 1)],
 oK 10 .mv [.t 54]] [53,54])))
def F_spec_l20Term_W1 : LC := .loop F_spec_l20Term_L1
def F_spec_l20Term_L2 : LC :=
 (.ghost (.rename 7 9736)
 (.seq
 (.seq
 (.region false [oK 63 .mv [.t 7],
 oK 64 .len [.t 63],
 oK 65 (.bin .gtr) [.t 64,.c (.i 1)]] [63,64])
 (.cond (.t 65) [65]
 .skip
 (.exit 4)))
 (.block 5
 (.seq
 (.region false [oK 66 .mv [.t 0],
 oK 67 .mv [.t 7],
 oK 68 .len [.t 67],
 oK 69 (.bin .sub) [.t 68,.c (.i 1)],
 oK 70 (.call n_spec_l20Rd_pick 35840) [.t 66,.t 69],
 oK 12 .mv [.t 70]] [66,67,68,69,70])
 (.seq
 (.seq
 (.region false [oK 71 .mv [.t 11],
 oK 72 (.bin .gtr) [.t 71,.c (.i 0)],
 oK 73 .mv [.t 72],
 oG 74 .mv [.t 0] 73 true,
 oG 75 (.call n_spec_l20Rd_pick 38400) [.t 74,.c (.i 4)] 73 true,
 oG 76 (.bin .eql) [.t 75,.c (.i 0)] 73 true,
 oK 77 .pick [.t 73,.t 76,.c (.b false)]] [71,72,73,74,75,76])
 (.cond (.t 77) [77]
 (.seq
 (.region false [oK 78 .mv [.t 11],
 oK 79 (.bin .sub) [.t 78,.c (.i 1)],
 oK 11 .mv [.t 79]] [78,79])
 (.seq
 (.region false [oK 80 .mv [.t 7],
 oK 81 .mv [.t 12],
 oK 82 (.bslice 42000 0 2 (.st [.i 0,.i 0]) []) [],
 oK 83 .mv [.t 7],
 oK 84 .mv [.t 12],
 oK 85 (.idxa 1) [.t 83,.t 84],
 oK 86 (.load 1 false) [.t 85],
 oK 87 (.app 44560 2) [.t 82,.t 86],
 oK 88 (.build [.i 0,.i 0] [(0,1)]) [.c (.i 1)],
 oK 89 (.bslice 45584 1 2 (.st [.i 0,.i 0]) [0]) [.t 88],
 oK 90 (.app 46096 2) [.t 87,.t 89],
 oK 91 (.idxa 1) [.t 80,.t 81],
 ⟨none,.store 1,[.t 91,.t 90],none⟩] [12,80,81,82,83,84,85,86,87,88,89,90,91])
 (.exit 5)))
 .skip))
 (.seq
 (.region true [oK 92 (.bslice 47120 0 2 (.st [.i 0,.i 0]) []) [],
 oK 93 .mv [.t 7],
 oK 94 .mv [.t 12],
 oK 95 (.idxa 1) [.t 93,.t 94],
 oK 96 (.load 1 false) [.t 95],
 oK 97 (.app 49680 2) [.t 92,.t 96],
 oK 98 .mv [.t 7],
 oK 99 .mv [.t 12],
 oK 100 (.bin .add) [.t 99,.c (.i 1)],
 oK 101 (.idxa 1) [.t 98,.t 100],
 oK 102 (.load 1 false) [.t 101],
 oK 103 (.app 52752 2) [.t 97,.t 102],
 oK 104 .mv [.t 0],
 oK 105 (.call n_spec_l20Rd_pick 53760) [.t 104,.c (.i 2)],
 oK 106 (.bin .add) [.c (.i 2),.t 105],
 oK 107 (.build [.i 0,.i 0] [(0,1)]) [.t 106],
 oK 108 (.bslice 55312 1 2 (.st [.i 0,.i 0]) [0]) [.t 107],
 oK 109 (.app 55824 2) [.t 103,.t 108],
 oK 13 .mv [.t 109]] [92,93,94,95,96,97,98,99,100,101,102,103,104,105,106,107,108,109])
 (.seq
 (.region false [oK 110 (.bslice 56328 0 1 (.sl 1 []) []) [],
 oK 111 .mv [.t 7],
 oK 112 .mv [.t 12],
 oK 113 (.slice false true 1) [.t 111,.t 112],
 oK 114 (.app 58376 1) [.t 110,.t 113],
 oK 14 .mv [.t 114]] [110,111,112,113,114])
 (.seq
 (.region false [oK 115 .mv [.t 14],
 oK 116 .mv [.t 13],
 oK 117 (.bslice 59912 1 1 (.sl 1 []) [0]) [.t 116],
 oK 118 (.app 60424 1) [.t 115,.t 117],
 oK 14 .mv [.t 118]] [13,115,116,117,118])
 (.region false [oK 119 .mv [.t 14],
 oK 120 .mv [.t 7],
 oK 121 .mv [.t 12],
 oK 122 (.bin .add) [.t 121,.c (.i 2)],
 oK 123 (.slice true false 1) [.t 120,.t 122],
 oK 124 (.app 63496 1) [.t 119,.t 123],
 oK 7 .mv [.t 124]] [12,14,119,120,121,122,123,124])))))))))
def F_spec_l20Term_W2 : LC := .loop F_spec_l20Term_L2
def F_spec_l20Term : LF :=
 { nparams := 3,results := [.t 6],body :=
 (.seq
 (.region false [oK 6 (.newnil 3088) []] [6])
 (.seq
 (.region false [oK 16 .mv [.t 1],
 oK 17 (.mm true) [.t 16,.c (.i 1)],
 oK 18 (.mm false) [.t 17,.c (.i 5)],
 oK 1 .mv [.t 18]] [16,17,18])
 (.seq
 (.region false [oK 19 (.bslice 9736 0 1 (.sl 1 []) []) [],
 oK 7 .mv [.t 19]] [19])
 (.seq
 (.region false [oK 20 .mv [.t 0],
 oK 21 (.call n_spec_l20Rd_pick 10752) [.t 20,.c (.i 2)],
 oK 22 (.bin .eql) [.t 21,.c (.i 0)],
 oK 8 .mv [.t 22]] [20,21,22])
 (.seq
 (.seq
 (.region false [oK 9 .mv [.c (.i 0)]] [])
 (.block 0
 F_spec_l20Term_W0))
 (.seq
 (.seq
 (.region false [oK 44 .mv [.t 0],
 oK 45 (.call n_spec_l20Rd_pick 23040) [.t 44,.c (.i 5)],
 oK 46 (.bin .add) [.c (.i 1),.t 45],
 oK 10 .mv [.t 46]] [9,44,45,46])
 (.block 2
 F_spec_l20Term_W1))
 (.seq
 (.region false [oK 11 .mv [.c (.i 2)]] [1,8,10])
 (.seq
 (.block 4
 F_spec_l20Term_W2)
 (.seq
 (.region false [oK 125 .mv [.t 7],
 oK 126 (.idxa 1) [.t 125,.c (.i 0)],
 oK 127 (.load 1 false) [.t 126],
 oK 15 .mv [.t 127]] [7,11,125,126,127])
 (.ghost (.promote 15 7696)
 (.seq
 (.seq
 (.region false [oK 128 .mv [.t 0],
 oK 129 .mv [.t 2],
 oK 130 (.call n_spec_l20Rd_odd 66560) [.t 128,.t 129]] [2,128,129])
 (.cond (.t 130) [130]
 (.seq
 (.region false [oK 131 .mv [.t 0],
 oK 132 (.call n_spec_l20Rd_pick 67584) [.t 131,.c (.i 3)]] [131])
 (.block 6
 (.seq
 (.region false [oK 137 (.bin .eql) [.t 132,.c (.i 0)],
 oK 136 .mv [.t 137]] [137])
 (.cond (.t 136) [136]
 (.seq
 (.region false [oK 138 (.bslice 70672 0 2 (.st [.i 0,.i 0]) []) [],
 oK 6 .mv [.t 138]] [15,132,138])
 .ret)
 (.seq
 (.region false [oK 140 (.bin .eql) [.t 132,.c (.i 1)],
 oK 139 .mv [.t 140]] [132,140])
 (.cond (.t 139) [139]
 (.seq
 (.region false [oK 141 .mv [.t 15],
 oK 142 (.build [.i 0,.i 0] [(0,1)]) [.c (.i 2)],
 oK 143 (.bslice 73232 1 2 (.st [.i 0,.i 0]) [0]) [.t 142],
 oK 144 (.app 73744 2) [.t 141,.t 143],
 oK 6 .mv [.t 144]] [15,141,142,143,144])
 .ret)
 (.region false [oK 133 .mv [.t 15],
 oK 134 (.build [.i 0,.i 0] [(0,1),(1,1)]) [.c (.i 0),.c (.i 5)],
 oK 135 (.idxa 2) [.t 133,.c (.i 0)],
 ⟨none,.store 2,[.t 135,.t 134],none⟩] [133,134,135])))))))
 .skip))
 (.seq
 (.region false [oK 145 .mv [.t 15],
 oK 6 .mv [.t 145]] [15,145])
 .ret)))))))))))) }
def F_spec_BestPlan : LF :=
 { nparams := 2,results := [.t 4,.t 5],body :=
 (.seq
 (.region false [oK 4 (.newnil 2072) [],
 oK 5 .mv [.c (.b false)]] [4,5])
 (.seq
 (.seq
 (.region false [oK 8 .mv [.t 0],
 oK 9 (.call n_spec_TestsOk 4608) [.t 8],
 oK 10 (.un .not) [.t 9],
 oK 11 .mv [.t 10],
 oG 12 .mv [.t 0] 11 false,
 oG 13 .len [.t 12] 11 false,
 oG 14 .mv [.t 1] 11 false,
 oG 15 (.call n_spec_TermOk 7680) [.t 13,.t 14] 11 false,
 oG 16 (.un .not) [.t 15] 11 false,
 oK 17 .pick [.t 11,.c (.b true),.t 16]] [8,9,10,11,12,13,14,15,16])
 (.cond (.t 17) [17]
 (.seq
 (.region false [oK 18 (.bslice 9240 0 3 (.st [.i 0,.i 0,.i 0]) []) [],
 oK 4 .mv [.t 18],
 oK 5 .mv [.c (.b false)]] [0,1,18])
 .ret)
 .skip))
 (.seq
 (.region false [oK 20 .mv [.t 0],
 oK 21 .mv [.t 0],
 oK 22 .len [.t 21],
 oK 23 .mv [.t 1],
 oK 24 (.call n_spec_l3Table 12288) [.t 22,.t 23],
 oK 25 .mv [.t 0],
 oK 26 .len [.t 25],
 oK 27 (.call n_spec_l4None 13824) [.t 26],
 oK 28 .mv [.t 0],
 oK 29 .len [.t 28],
 oK 30 (.call n_spec_l1Power 15360) [.t 29],
 oK 31 (.bslice 15896 0 3 (.st [.i 0,.i 0,.i 0]) []) [],
 oK 32 (.callm n_spec_l6Grow [4] 16384) [.t 20,.t 24,.t 27,.t 30,.t 31],
 oK 19 .mv [.t 32],
 oK 33 (.ext 0) [.t 19],
 oK 34 (.ext 1) [.t 19],
 oK 6 .mv [.t 33],
 oK 7 .mv [.t 34]] [0,1,7,19,20,21,22,23,24,25,26,27,28,29,30,31,32,33,34])
 (.seq
 (.region false [oK 35 .mv [.t 6],
 oK 4 .mv [.t 35],
 oK 5 .mv [.c (.b true)]] [6,35])
 .ret)))) }
def F_spec_OrderPlan : LF :=
 { nparams := 3,results := [.t 6,.t 7],body :=
 (.seq
 (.region false [oK 6 (.newnil 3096) [],
 oK 7 .mv [.c (.b false)]] [6,7])
 (.seq
 (.seq
 (.region false [oK 10 .mv [.t 0],
 oK 11 .mv [.t 1],
 oK 12 (.call n_spec_TermOk 6144) [.t 10,.t 11],
 oK 13 (.un .not) [.t 12],
 oK 14 .mv [.t 13],
 oG 15 .mv [.t 0] 14 false,
 oG 16 .mv [.t 2] 14 false,
 oG 17 (.call n_spec_OrderOk 8704) [.t 15,.t 16] 14 false,
 oG 18 (.un .not) [.t 17] 14 false,
 oK 19 .pick [.t 14,.c (.b true),.t 18]] [10,11,12,13,14,15,16,17,18])
 (.cond (.t 19) [19]
 (.seq
 (.region false [oK 20 (.bslice 10264 0 3 (.st [.i 0,.i 0,.i 0]) []) [],
 oK 6 .mv [.t 20],
 oK 7 .mv [.c (.b false)]] [0,1,2,20])
 .ret)
 .skip))
 (.seq
 (.region false [oK 22 .mv [.t 0],
 oK 23 .mv [.t 0],
 oK 24 .mv [.t 1],
 oK 25 (.call n_spec_l3Table 12800) [.t 23,.t 24],
 oK 26 .mv [.t 2],
 oK 27 .mv [.t 0],
 oK 28 (.call n_spec_l4None 14336) [.t 27],
 oK 29 (.bslice 14872 0 3 (.st [.i 0,.i 0,.i 0]) []) [],
 oK 30 (.callm n_spec_l6Line [5] 15360) [.t 22,.t 25,.t 26,.c (.i 0),.t 28,.t 29],
 oK 21 .mv [.t 30],
 oK 31 (.ext 0) [.t 21],
 oK 32 (.ext 1) [.t 21],
 oK 8 .mv [.t 31],
 oK 9 .mv [.t 32]] [0,1,2,9,21,22,23,24,25,26,27,28,29,30,31,32])
 (.seq
 (.region false [oK 33 .mv [.t 8],
 oK 6 .mv [.t 33],
 oK 7 .mv [.c (.b true)]] [8,33])
 .ret)))) }
def F_spec_l20Order_L0 : LC :=
 (.ghost (.rename 7 5640)
 (.seq
 (.seq
 (.region false [oK 12 .mv [.t 8],
 oK 13 .mv [.t 1],
 oK 14 (.bin .lss) [.t 12,.t 13]] [12,13])
 (.cond (.t 14) [14]
 .skip
 (.exit 0)))
 (.seq
 (.block 1
 (.seq
 (.region false [oK 17 .mv [.t 0],
 oK 18 .mv [.t 7],
 oK 19 .len [.t 18],
 oK 20 (.bin .add) [.t 19,.c (.i 1)],
 oK 21 (.call n_spec_l20Rd_pick 10752) [.t 17,.t 20],
 oK 9 .mv [.t 21]] [17,18,19,20,21])
 (.seq
 (.region false [oK 22 (.bslice 11272 0 1 (.i 0) []) [],
 oK 23 .mv [.t 7],
 oK 24 .mv [.t 9],
 oK 25 (.slice false true 1) [.t 23,.t 24],
 oK 26 (.app 13320 1) [.t 22,.t 25],
 oK 10 .mv [.t 26]] [22,23,24,25,26])
 (.seq
 (.region false [oK 27 .mv [.t 10],
 oK 28 .mv [.t 8],
 oK 29 (.bslice 14856 1 1 (.i 0) [0]) [.t 28],
 oK 30 (.app 15368 1) [.t 27,.t 29],
 oK 10 .mv [.t 30]] [27,28,29,30])
 (.region false [oK 31 .mv [.t 10],
 oK 32 .mv [.t 7],
 oK 33 .mv [.t 9],
 oK 34 (.slice true false 1) [.t 32,.t 33],
 oK 35 (.app 17928 1) [.t 31,.t 34],
 oK 7 .mv [.t 35]] [9,10,31,32,33,34,35])))))
 (.region false [oK 15 .mv [.t 8],
 oK 16 (.bin .add) [.t 15,.c (.i 1)],
 oK 8 .mv [.t 16]] [15,16]))))
def F_spec_l20Order_W0 : LC := .loop F_spec_l20Order_L0
def F_spec_l20Order : LF :=
 { nparams := 3,results := [.t 6],body :=
 (.seq
 (.region false [oK 6 (.newnil 3080) []] [6])
 (.seq
 (.region false [oK 11 (.bslice 5640 0 1 (.i 0) []) [],
 oK 7 .mv [.t 11]] [11])
 (.seq
 (.seq
 (.region false [oK 8 .mv [.c (.i 0)]] [])
 (.block 0
 F_spec_l20Order_W0))
 (.seq
 (.seq
 (.region false [oK 36 .mv [.t 0],
 oK 37 .mv [.t 2],
 oK 38 (.call n_spec_l20Rd_odd 19456) [.t 36,.t 37]] [1,2,8,36,37])
 (.cond (.t 38) [38]
 (.seq
 (.region false [oK 39 .mv [.t 0],
 oK 40 (.call n_spec_l20Rd_pick 20480) [.t 39,.c (.i 2)]] [39])
 (.block 2
 (.seq
 (.region false [oK 52 (.bin .eql) [.t 40,.c (.i 0)],
 oK 51 .mv [.t 52]] [40,52])
 (.cond (.t 51) [51]
 (.seq
 (.region false [oK 53 .mv [.t 7],
 oK 54 (.bslice 27656 1 1 (.i 0) [0]) [.c (.i 0)],
 oK 55 (.app 28168 1) [.t 53,.t 54],
 oK 6 .mv [.t 55]] [7,53,54,55])
 .ret)
 (.seq
 (.region false [oK 41 .mv [.t 7],
 oK 42 .len [.t 41],
 oK 43 (.bin .gtr) [.t 42,.c (.i 0)]] [41,42])
 (.cond (.t 43) [43]
 (.region false [oK 44 .mv [.t 7],
 oK 45 (.bslice 23048 2 1 (.i 0) [0,1]) [.c (.i 5),.c (.i (-1))],
 oK 46 .mv [.t 0],
 oK 47 (.call n_spec_l20Rd_pick 24064) [.t 46,.c (.i 2)],
 oK 48 (.idxa 1) [.t 45,.t 47],
 oK 49 (.load 1 false) [.t 48],
 oK 50 (.idxa 1) [.t 44,.c (.i 0)],
 ⟨none,.store 1,[.t 50,.t 49],none⟩] [44,45,46,47,48,49,50])
 .skip))))))
 .skip))
 (.seq
 (.region false [oK 56 .mv [.t 7],
 oK 6 .mv [.t 56]] [7,56])
 .ret))))) }
def F_impl_valueAmong : LF :=
 { nparams := 2,results := [.t 4],body :=
 (.seq
 (.region false [oK 4 .mv [.c (.i 0)]] [4])
 (.seq
 (.seq
 (.region false [oK 5 .mv [.t 0],
 oK 6 .mv [.t 1],
 oK 7 (.bin .and) [.t 5,.t 6]] [0,5,6])
 (.block 0
 (.seq
 (.region false [oK 9 .mv [.t 1],
 oK 10 (.bin .eql) [.t 7,.t 9],
 oK 8 .mv [.t 10]] [1,9,10])
 (.cond (.t 8) [8]
 (.seq
 (.region false [oK 4 .mv [.c (.i 1)]] [7])
 .ret)
 (.seq
 (.region false [oK 12 (.bin .eql) [.t 7,.c (.w (0#32))],
 oK 11 .mv [.t 12]] [7,12])
 (.cond (.t 11) [11]
 (.seq
 (.region false [oK 4 .mv [.c (.i 0)]] [])
 .ret)
 .skip))))))
 (.seq
 (.region false [oK 4 .mv [.c (.i (-1))]] [])
 .ret))) }
def F_impl_statesSaying : LF :=
 { gl := [0],nparams := 2,results := [.t 4],body :=
 (.seq
 (.region false [oK 4 .mv [.c (.w (0#32))]] [4])
 (.seq
 (.seq
 (.region false [oK 5 .mv [.t 1],
 oK 6 (.bin .eql) [.t 5,.c (.i 1)]] [1,5])
 (.cond (.t 6) [6]
 (.seq
 (.region false [oK 7 .mv [.t 0],
 oK 8 (.idxp 5 1) [.t 1048576,.t 7],
 oK 9 (.load 1 false) [.t 8],
 oK 4 .mv [.t 9]] [0,7,8,9])
 .ret)
 .skip))
 (.seq
 (.region false [oK 10 .mv [.t 0],
 oK 11 (.idxp 5 1) [.t 1048576,.t 10],
 oK 12 (.load 1 false) [.t 11],
 oK 13 (.un .xor) [.t 12],
 oK 4 .mv [.t 13]] [0,10,11,12,13])
 .ret))) }
def F_spec_l1Agrees_L0 : LC :=
 (.seq
 (.seq
 (.region false [oK 6 .mv [.t 5],
 oK 7 .mv [.t 0],
 oK 8 .len [.t 7],
 oK 9 (.bin .lss) [.t 6,.t 8]] [6,7,8])
 (.cond (.t 9) [9]
 .skip
 (.exit 0)))
 (.seq
 (.block 1
 (.seq
 (.region true [oK 12 .mv [.t 0],
 oK 13 .mv [.t 5],
 oK 14 (.idxa 1) [.t 12,.t 13],
 oK 15 (.load 1 false) [.t 14],
 oK 16 (.bin .neq) [.t 15,.c (.i (-1))],
 oK 17 .mv [.t 16],
 oG 18 .mv [.t 0] 17 true,
 oG 19 .mv [.t 5] 17 true,
 oG 20 (.idxa 1) [.t 18,.t 19] 17 true,
 oG 21 (.load 1 false) [.t 20] 17 true,
 oG 22 .mv [.t 1] 17 true,
 oG 23 .mv [.t 5] 17 true,
 oG 24 (.bin .shr) [.t 22,.t 23] 17 true,
 oG 25 (.bin .rem) [.t 24,.c (.i 2)] 17 true,
 oG 26 (.bin .neq) [.t 21,.t 25] 17 true,
 oK 27 .pick [.t 17,.t 26,.c (.b false)]] [12,13,14,15,16,17,18,19,20,21,22,23,24,25,26])
 (.cond (.t 27) [27]
 (.seq
 (.region false [oK 4 .mv [.c (.b false)]] [0,1,5])
 .ret)
 .skip)))
 (.region false [oK 10 .mv [.t 5],
 oK 11 (.bin .add) [.t 10,.c (.i 1)],
 oK 5 .mv [.t 11]] [10,11])))
def F_spec_l1Agrees_W0 : LC := .loop F_spec_l1Agrees_L0
def F_spec_l1Agrees : LF :=
 { nparams := 2,results := [.t 4],body :=
 (.seq
 (.region false [oK 4 .mv [.c (.b false)]] [4])
 (.seq
 (.seq
 (.region false [oK 5 .mv [.c (.i 0)]] [])
 (.block 0
 F_spec_l1Agrees_W0))
 (.seq
 (.region false [oK 4 .mv [.c (.b true)]] [0,1,5])
 .ret))) }
def F_spec_l2Starts_L0 : LC :=
 (.seq
 (.seq
 (.region false [oK 8 .mv [.t 5],
 oK 9 (.bin .gtr) [.t 8,.c (.i 0)]] [8])
 (.cond (.t 9) [9]
 .skip
 (.exit 0)))
 (.block 1
 (.seq
 (.seq
 (.region false [oK 10 .mv [.t 0],
 oK 11 .mv [.t 6],
 oK 12 (.idxa 2) [.t 10,.t 11],
 oK 13 (.fld 0 1 false) [.t 12],
 oK 14 (.load 1 false) [.t 13]] [10,11,12,13])
 (.block 2
 (.seq
 (.region false [oK 18 (.bin .eql) [.t 14,.c (.i 0)],
 oK 17 .mv [.t 18]] [18])
 (.cond (.t 17) [17]
 (.region false [oK 19 .mv [.t 5],
 oK 20 (.bin .sub) [.t 19,.c (.i 1)],
 oK 5 .mv [.t 20]] [14,19,20])
 (.seq
 (.region false [oK 22 (.bin .eql) [.t 14,.c (.i 1)],
 oK 21 .mv [.t 22]] [14,22])
 (.cond (.t 21) [21]
 .skip
 (.region false [oK 15 .mv [.t 5],
 oK 16 (.bin .add) [.t 15,.c (.i 1)],
 oK 5 .mv [.t 16]] [15,16])))))))
 (.region false [oK 23 .mv [.t 6],
 oK 24 (.bin .sub) [.t 23,.c (.i 1)],
 oK 6 .mv [.t 24]] [23,24]))))
def F_spec_l2Starts_W0 : LC := .loop F_spec_l2Starts_L0
def F_spec_l2Starts : LF :=
 { nparams := 2,results := [.t 4],body :=
 (.seq
 (.region false [oK 4 .mv [.c (.i 0)]] [4])
 (.seq
 (.region false [oK 5 .mv [.c (.i 1)]] [])
 (.seq
 (.region false [oK 7 .mv [.t 1],
 oK 6 .mv [.t 7]] [1,7])
 (.seq
 (.block 0
 F_spec_l2Starts_W0)
 (.seq
 (.region false [oK 25 .mv [.t 6],
 oK 26 (.bin .add) [.t 25,.c (.i 1)],
 oK 4 .mv [.t 26]] [0,5,6,25,26])
 .ret))))) }
def F_internal_stringslite_CutPrefix : LF :=
 { nparams := 2,results := [.t 4,.t 5],body :=
 (.seq
 (.region false [oK 4 .mv [.c (.s [])],
 oK 5 .mv [.c (.b false)]] [4,5])
 (.seq
 (.seq
 (.region false [oK 6 .mv [.t 0],
 oK 7 .mv [.t 1],
 oK 8 (.call n_internal_stringslite_HasPrefix 4096) [.t 6,.t 7],
 oK 9 (.un .not) [.t 8]] [6,7,8])
 (.cond (.t 9) [9]
 (.seq
 (.region false [oK 10 .mv [.t 0],
 oK 4 .mv [.t 10],
 oK 5 .mv [.c (.b false)]] [0,1,10])
 .ret)
 .skip))
 (.seq
 (.region false [oK 11 .mv [.t 0],
 oK 12 .mv [.t 1],
 oK 13 .lens [.t 12],
 oK 14 (.slices true false) [.t 11,.t 13],
 oK 4 .mv [.t 14],
 oK 5 .mv [.c (.b true)]] [0,1,11,12,13,14])
 .ret))) }
def F_slices_Concat_impl_Choice_impl_Choice_L0 : LC :=
 (.seq
 (.region false [oK 12 (.bin .lss) [.t 11,.t 10]] [])
 (.seq
 (.cond (.t 12) [12]
 .skip
 (.exit 0))
 (.seq
 (.block 1
 (.seq
 (.region false [oK 13 (.idxa 1) [.t 9,.t 11],
 oK 14 (.load 1 false) [.t 13],
 oK 5 .mv [.t 14]] [13,14])
 (.seq
 (.region false [oK 15 .mv [.t 3],
 oK 16 .mv [.t 5],
 oK 17 .len [.t 16],
 oK 18 (.bin .add) [.t 15,.t 17],
 oK 3 .mv [.t 18]] [5,15,16,17,18])
 (.seq
 (.region false [oK 19 .mv [.t 3],
 oK 20 (.bin .lss) [.t 19,.c (.i 0)]] [19])
 (.cond (.t 20) [20]
 .void
 .skip)))))
 (.region false [oK 22 (.bin .add) [.t 11,.c (.i 1)],
 oK 11 .mv [.t 22]] [22]))))
def F_slices_Concat_impl_Choice_impl_Choice_W0 : LC := .loop F_slices_Concat_impl_Choice_impl_Choice_L0
def F_slices_Concat_impl_Choice_impl_Choice_L1 : LC :=
 (.seq
 (.region false [oK 28 (.bin .lss) [.t 27,.t 26]] [])
 (.seq
 (.cond (.t 28) [28]
 .skip
 (.exit 2))
 (.seq
 (.block 3
 (.seq
 (.region false [oK 29 (.idxa 1) [.t 25,.t 27],
 oK 30 (.load 1 false) [.t 29],
 oK 8 .mv [.t 30]] [29,30])
 (.region false [oK 31 .mv [.t 6],
 oK 32 .mv [.t 8],
 oK 33 (.app 16920 3) [.t 31,.t 32],
 oK 6 .mv [.t 33]] [8,31,32,33])))
 (.region false [oK 34 (.bin .add) [.t 27,.c (.i 1)],
 oK 27 .mv [.t 34]] [34]))))
def F_slices_Concat_impl_Choice_impl_Choice_W1 : LC := .loop F_slices_Concat_impl_Choice_impl_Choice_L1
def F_slices_Concat_impl_Choice_impl_Choice : LF :=
 { nparams := 1,results := [.t 2],body :=
 (.seq
 (.region false [oK 2 (.newnil 1048) []] [2])
 (.seq
 (.region false [oK 3 .mv [.c (.i 0)]] [])
 (.seq
 (.seq
 (.region false [oK 9 .mv [.t 0],
 oK 10 .len [.t 9],
 oK 11 .mv [.c (.i 0)]] [])
 (.block 0
 F_slices_Concat_impl_Choice_impl_Choice_W0))
 (.seq
 (.region false [oK 23 .mv [.t 3],
 oK 24 (.callm n_slices_Grow_impl_Choice_impl_Choice [0] 12288) [.c (.nil),.t 23],
 oK 6 .mv [.t 24]] [3,9,10,11,23,24])
 (.seq
 (.seq
 (.region false [oK 25 .mv [.t 0],
 oK 26 .len [.t 25],
 oK 27 .mv [.c (.i 0)]] [0])
 (.block 2
 F_slices_Concat_impl_Choice_impl_Choice_W1))
 (.seq
 (.region false [oK 35 .mv [.t 6],
 oK 2 .mv [.t 35]] [6,25,26,27,35])
 .ret)))))) }
def F_spec_l6Grow : LF :=
 { nparams := 5,results := [.t 10,.t 11],body :=
 (.seq
 (.region false [oK 10 (.newnil 5144) [],
 oK 11 .mv [.c (.i 0)]] [10,11])
 (.seq
 (.region false [oK 20 .mv [.t 0],
 oK 21 .mv [.t 1],
 oK 22 .mv [.t 2],
 oK 23 .mv [.t 3],
 oK 24 (.call n_spec_l6Best 12288) [.t 20,.t 21,.t 22,.t 23],
 oK 19 .mv [.t 24],
 oK 25 (.ext 0) [.t 19],
 oK 26 (.ext 1) [.t 19],
 oK 12 .mv [.t 25],
 oK 13 .mv [.t 26]] [12,19,20,21,22,23,24,25,26])
 (.seq
 (.seq
 (.region false [oK 27 .mv [.t 13],
 oK 28 (.bin .eql) [.t 27,.c (.i (-1))]] [27])
 (.cond (.t 28) [28]
 (.seq
 (.region false [oK 29 .mv [.t 4],
 oK 10 .mv [.t 29],
 oK 11 .mv [.c (.i (-1))]] [0,1,2,3,4,13,29])
 .ret)
 .skip))
 (.seq
 (.region false [oK 30 .mv [.t 4],
 oK 31 .len [.t 30],
 oK 14 .mv [.t 31]] [30,31])
 (.seq
 (.region false [oK 32 (.bslice 16408 0 3 (.st [.i 0,.i 0,.i 0]) []) [],
 oK 33 .mv [.t 4],
 oK 34 (.app 17432 3) [.t 32,.t 33],
 oK 35 .mv [.t 13],
 oK 36 (.build [.i 0,.i 0,.i 0] [(0,1),(1,1),(2,1)]) [.t 35,.c (.i (-1)),.c (.i (-1))],
 oK 37 (.bslice 18968 1 3 (.st [.i 0,.i 0,.i 0]) [0]) [.t 36],
 oK 38 (.app 19480 3) [.t 34,.t 37],
 oK 4 .mv [.t 38]] [32,33,34,35,36,37,38])
 (.seq
 (.region false [oK 39 (.bslice 19976 0 1 (.i 0) []) [],
 oK 40 .mv [.t 2],
 oK 41 (.app 21000 1) [.t 39,.t 40],
 oK 15 .mv [.t 41]] [39,40,41])
 (.seq
 (.region false [oK 42 .mv [.t 15],
 oK 43 .mv [.t 13],
 oK 44 (.idxa 1) [.t 42,.t 43],
 ⟨none,.store 1,[.t 44,.c (.i 0)],none⟩] [42,43,44])
 (.seq
 (.region false [oK 45 (.bslice 23048 0 1 (.i 0) []) [],
 oK 46 .mv [.t 2],
 oK 47 (.app 24072 1) [.t 45,.t 46],
 oK 16 .mv [.t 47]] [2,45,46,47])
 (.seq
 (.region false [oK 48 .mv [.t 16],
 oK 49 .mv [.t 13],
 oK 50 (.idxa 1) [.t 48,.t 49],
 ⟨none,.store 1,[.t 50,.c (.i 1)],none⟩] [48,49,50])
 (.seq
 (.region false [oK 52 .mv [.t 0],
 oK 53 .mv [.t 1],
 oK 54 .mv [.t 15],
 oK 55 .mv [.t 3],
 oK 56 (.bin .quo) [.t 55,.c (.i 6)],
 oK 57 .mv [.t 0],
 oK 58 .mv [.t 13],
 oK 59 (.idxa 2) [.t 57,.t 58],
 oK 60 (.fld 1 1 false) [.t 59],
 oK 61 (.load 1 false) [.t 60],
 oK 62 (.bin .sub) [.c (.i 6),.t 61],
 oK 63 (.bin .mul) [.t 56,.t 62],
 oK 64 .mv [.t 4],
 oK 65 (.callm n_spec_l6Grow [4] 33280) [.t 52,.t 53,.t 54,.t 63,.t 64],
 oK 51 .mv [.t 65],
 oK 66 (.ext 0) [.t 51],
 oK 67 (.ext 1) [.t 51],
 oK 4 .mv [.t 66],
 oK 17 .mv [.t 67]] [15,51,52,53,54,55,56,57,58,59,60,61,62,63,64,65,66,67])
 (.seq
 (.region false [oK 69 .mv [.t 0],
 oK 70 .mv [.t 1],
 oK 71 .mv [.t 16],
 oK 72 .mv [.t 3],
 oK 73 (.bin .quo) [.t 72,.c (.i 6)],
 oK 74 .mv [.t 0],
 oK 75 .mv [.t 13],
 oK 76 (.idxa 2) [.t 74,.t 75],
 oK 77 (.fld 1 1 false) [.t 76],
 oK 78 (.load 1 false) [.t 77],
 oK 79 (.bin .mul) [.t 73,.t 78],
 oK 80 .mv [.t 4],
 oK 81 (.callm n_spec_l6Grow [4] 41472) [.t 69,.t 70,.t 71,.t 79,.t 80],
 oK 68 .mv [.t 81],
 oK 82 (.ext 0) [.t 68],
 oK 83 (.ext 1) [.t 68],
 oK 4 .mv [.t 82],
 oK 18 .mv [.t 83]] [0,1,3,16,68,69,70,71,72,73,74,75,76,77,78,79,80,81,82,83])
 (.seq
 (.region false [oK 84 .mv [.t 4],
 oK 85 .mv [.t 14],
 oK 86 .mv [.t 13],
 oK 87 .mv [.t 17],
 oK 88 .mv [.t 18],
 oK 89 (.build [.i 0,.i 0,.i 0] [(0,1),(1,1),(2,1)]) [.t 86,.t 87,.t 88],
 oK 90 (.idxa 3) [.t 84,.t 85],
 ⟨none,.store 3,[.t 90,.t 89],none⟩] [13,17,18,84,85,86,87,88,89,90])
 (.seq
 (.region false [oK 91 .mv [.t 4],
 oK 92 .mv [.t 14],
 oK 10 .mv [.t 91],
 oK 11 .mv [.t 92]] [4,14,91,92])
 .ret))))))))))))) }
def F_spec_l1Power_L0 : LC :=
 (.seq
 (.seq
 (.region false [oK 5 .mv [.t 4],
 oK 6 .mv [.t 0],
 oK 7 (.bin .lss) [.t 5,.t 6]] [5,6])
 (.cond (.t 7) [7]
 .skip
 (.exit 0)))
 (.seq
 (.block 1
 (.region false [oK 10 .mv [.t 3],
 oK 11 (.bin .mul) [.t 10,.c (.i 6)],
 oK 3 .mv [.t 11]] [10,11]))
 (.region false [oK 8 .mv [.t 4],
 oK 9 (.bin .add) [.t 8,.c (.i 1)],
 oK 4 .mv [.t 9]] [8,9])))
def F_spec_l1Power_W0 : LC := .loop F_spec_l1Power_L0
def F_spec_l1Power : LF :=
 { nparams := 1,results := [.t 2],body :=
 (.seq
 (.region false [oK 2 .mv [.c (.i 0)]] [2])
 (.seq
 (.region false [oK 3 .mv [.c (.i 1)]] [])
 (.seq
 (.seq
 (.region false [oK 4 .mv [.c (.i 0)]] [])
 (.block 0
 F_spec_l1Power_W0))
 (.seq
 (.region false [oK 12 .mv [.t 3],
 oK 2 .mv [.t 12]] [0,3,4,12])
 .ret)))) }
def F_spec_OrderOk_L0 : LC :=
 (.seq
 (.seq
 (.region false [oK 7 .mv [.t 6],
 oK 8 .mv [.t 1],
 oK 9 .len [.t 8],
 oK 10 (.bin .lss) [.t 7,.t 9]] [7,8,9])
 (.cond (.t 10) [10]
 .skip
 (.exit 0)))
 (.seq
 (.block 1
 (.seq
 (.seq
 (.region false [oK 13 .mv [.t 1],
 oK 14 .mv [.t 6],
 oK 15 (.idxa 1) [.t 13,.t 14],
 oK 16 (.load 1 false) [.t 15],
 oK 17 (.bin .lss) [.t 16,.c (.i 0)],
 oK 18 .mv [.t 17],
 oG 19 .mv [.t 1] 18 false,
 oG 20 .mv [.t 6] 18 false,
 oG 21 (.idxa 1) [.t 19,.t 20] 18 false,
 oG 22 (.load 1 false) [.t 21] 18 false,
 oG 23 .mv [.t 0] 18 false,
 oG 24 (.bin .geq) [.t 22,.t 23] 18 false,
 oK 25 .pick [.t 18,.c (.b true),.t 24],
 oK 26 .mv [.t 25],
 oG 27 .mv [.t 1] 26 false,
 oG 28 .mv [.t 6] 26 false,
 oG 29 (.idxa 1) [.t 27,.t 28] 26 false,
 oG 30 (.load 1 false) [.t 29] 26 false,
 oG 31 (.bin .geq) [.t 30,.c (.i 5)] 26 false,
 oK 32 .pick [.t 26,.c (.b true),.t 31],
 oK 33 .mv [.t 32],
 oG 34 .mv [.t 5] 33 false,
 oG 35 .mv [.t 1] 33 false,
 oG 36 .mv [.t 6] 33 false,
 oG 37 (.idxa 1) [.t 35,.t 36] 33 false,
 oG 38 (.load 1 false) [.t 37] 33 false,
 oG 39 (.bin .shr) [.t 34,.t 38] 33 false,
 oG 40 (.bin .rem) [.t 39,.c (.i 2)] 33 false,
 oG 41 (.bin .eql) [.t 40,.c (.i 1)] 33 false,
 oK 42 .pick [.t 33,.c (.b true),.t 41]] [13,14,15,16,17,18,19,20,21,22,23,24,25,26,27,28,29,30,31,32,33,34,35,36,37,38,39,40,41])
 (.cond (.t 42) [42]
 (.seq
 (.region false [oK 4 .mv [.c (.b false)]] [0,1,5,6])
 .ret)
 .skip))
 (.region false [oK 43 .mv [.t 5],
 oK 44 .mv [.t 1],
 oK 45 .mv [.t 6],
 oK 46 (.idxa 1) [.t 44,.t 45],
 oK 47 (.load 1 false) [.t 46],
 oK 48 (.bin .shl) [.c (.i 1),.t 47],
 oK 49 (.bin .or) [.t 43,.t 48],
 oK 5 .mv [.t 49]] [43,44,45,46,47,48,49])))
 (.region false [oK 11 .mv [.t 6],
 oK 12 (.bin .add) [.t 11,.c (.i 1)],
 oK 6 .mv [.t 12]] [11,12])))
def F_spec_OrderOk_W0 : LC := .loop F_spec_OrderOk_L0
def F_spec_OrderOk : LF :=
 { nparams := 2,results := [.t 4],body :=
 (.seq
 (.region false [oK 4 .mv [.c (.b false)]] [4])
 (.seq
 (.region false [oK 5 .mv [.c (.i 0)]] [])
 (.seq
 (.seq
 (.region false [oK 6 .mv [.c (.i 0)]] [])
 (.block 0
 F_spec_OrderOk_W0))
 (.seq
 (.region false [oK 50 .mv [.t 0],
 oK 51 (.call n_spec_l1In 26112) [.t 50,.c (.i 1),.c (.i 5)],
 oK 52 .mv [.t 51],
 oG 53 .mv [.t 1] 52 true,
 oG 54 .len [.t 53] 52 true,
 oG 55 .mv [.t 0] 52 true,
 oG 56 (.bin .eql) [.t 54,.t 55] 52 true,
 oK 57 .pick [.t 52,.t 56,.c (.b false)],
 oK 4 .mv [.t 57]] [0,1,5,6,50,51,52,53,54,55,56,57])
 .ret)))) }
def F_spec_l6Line : LF :=
 { nparams := 6,results := [.t 12,.t 13],body :=
 (.seq
 (.region false [oK 12 (.newnil 6168) [],
 oK 13 .mv [.c (.i 0)]] [12,13])
 (.seq
 (.seq
 (.region false [oK 20 .mv [.t 0],
 oK 21 .mv [.t 1],
 oK 22 .mv [.t 4],
 oK 23 (.call n_spec_l3Forced 11776) [.t 20,.t 21,.t 22],
 oK 24 (.bin .neq) [.t 23,.c (.i (-1))]] [20,21,22,23])
 (.cond (.t 24) [24]
 (.seq
 (.region false [oK 25 .mv [.t 5],
 oK 12 .mv [.t 25],
 oK 13 .mv [.c (.i (-1))]] [0,1,2,3,4,5,25])
 .ret)
 .skip))
 (.seq
 (.region false [oK 26 .mv [.t 5],
 oK 27 .len [.t 26],
 oK 14 .mv [.t 27]] [26,27])
 (.seq
 (.region false [oK 28 .mv [.t 2],
 oK 29 .mv [.t 3],
 oK 30 (.idxa 1) [.t 28,.t 29],
 oK 31 (.load 1 false) [.t 30],
 oK 15 .mv [.t 31]] [28,29,30,31])
 (.seq
 (.region false [oK 32 (.bslice 16408 0 3 (.st [.i 0,.i 0,.i 0]) []) [],
 oK 33 .mv [.t 5],
 oK 34 (.app 17432 3) [.t 32,.t 33],
 oK 35 .mv [.t 15],
 oK 36 (.build [.i 0,.i 0,.i 0] [(0,1),(1,1),(2,1)]) [.t 35,.c (.i (-1)),.c (.i (-1))],
 oK 37 (.bslice 18968 1 3 (.st [.i 0,.i 0,.i 0]) [0]) [.t 36],
 oK 38 (.app 19480 3) [.t 34,.t 37],
 oK 5 .mv [.t 38]] [32,33,34,35,36,37,38])
 (.seq
 (.region false [oK 39 (.bslice 19976 0 1 (.i 0) []) [],
 oK 40 .mv [.t 4],
 oK 41 (.app 21000 1) [.t 39,.t 40],
 oK 16 .mv [.t 41]] [39,40,41])
 (.seq
 (.region false [oK 42 .mv [.t 16],
 oK 43 .mv [.t 15],
 oK 44 (.idxa 1) [.t 42,.t 43],
 ⟨none,.store 1,[.t 44,.c (.i 0)],none⟩] [42,43,44])
 (.seq
 (.region false [oK 45 (.bslice 23048 0 1 (.i 0) []) [],
 oK 46 .mv [.t 4],
 oK 47 (.app 24072 1) [.t 45,.t 46],
 oK 17 .mv [.t 47]] [4,45,46,47])
 (.seq
 (.region false [oK 48 .mv [.t 17],
 oK 49 .mv [.t 15],
 oK 50 (.idxa 1) [.t 48,.t 49],
 ⟨none,.store 1,[.t 50,.c (.i 1)],none⟩] [48,49,50])
 (.seq
 (.region false [oK 52 .mv [.t 0],
 oK 53 .mv [.t 1],
 oK 54 .mv [.t 2],
 oK 55 .mv [.t 3],
 oK 56 (.bin .add) [.t 55,.c (.i 1)],
 oK 57 .mv [.t 16],
 oK 58 .mv [.t 5],
 oK 59 (.callm n_spec_l6Line [5] 30208) [.t 52,.t 53,.t 54,.t 56,.t 57,.t 58],
 oK 51 .mv [.t 59],
 oK 60 (.ext 0) [.t 51],
 oK 61 (.ext 1) [.t 51],
 oK 5 .mv [.t 60],
 oK 18 .mv [.t 61]] [16,51,52,53,54,55,56,57,58,59,60,61])
 (.seq
 (.region false [oK 63 .mv [.t 0],
 oK 64 .mv [.t 1],
 oK 65 .mv [.t 2],
 oK 66 .mv [.t 3],
 oK 67 (.bin .add) [.t 66,.c (.i 1)],
 oK 68 .mv [.t 17],
 oK 69 .mv [.t 5],
 oK 70 (.callm n_spec_l6Line [5] 35840) [.t 63,.t 64,.t 65,.t 67,.t 68,.t 69],
 oK 62 .mv [.t 70],
 oK 71 (.ext 0) [.t 62],
 oK 72 (.ext 1) [.t 62],
 oK 5 .mv [.t 71],
 oK 19 .mv [.t 72]] [0,1,2,3,17,62,63,64,65,66,67,68,69,70,71,72])
 (.seq
 (.region false [oK 73 .mv [.t 5],
 oK 74 .mv [.t 14],
 oK 75 .mv [.t 15],
 oK 76 .mv [.t 18],
 oK 77 .mv [.t 19],
 oK 78 (.build [.i 0,.i 0,.i 0] [(0,1),(1,1),(2,1)]) [.t 75,.t 76,.t 77],
 oK 79 (.idxa 3) [.t 73,.t 74],
 ⟨none,.store 3,[.t 79,.t 78],none⟩] [15,18,19,73,74,75,76,77,78,79])
 (.seq
 (.region false [oK 80 .mv [.t 5],
 oK 81 .mv [.t 14],
 oK 12 .mv [.t 80],
 oK 13 .mv [.t 81]] [5,14,80,81])
 .ret))))))))))))) }
def F_internal_stringslite_HasPrefix : LF :=
 { nparams := 2,results := [.t 4],body :=
 (.seq
 (.region false [oK 4 .mv [.c (.b false)]] [4])
 (.seq
 (.region false [oK 5 .mv [.t 0],
 oK 6 .lens [.t 5],
 oK 7 .mv [.t 1],
 oK 8 .lens [.t 7],
 oK 9 (.bin .geq) [.t 6,.t 8],
 oK 10 .mv [.t 9],
 oG 11 .mv [.t 0] 10 true,
 oG 12 .mv [.t 1] 10 true,
 oG 13 .lens [.t 12] 10 true,
 oG 14 (.slices false true) [.t 11,.t 13] 10 true,
 oG 15 .mv [.t 1] 10 true,
 oG 16 (.bin .eql) [.t 14,.t 15] 10 true,
 oK 17 .pick [.t 10,.t 16,.c (.b false)],
 oK 4 .mv [.t 17]] [0,1,5,6,7,8,9,10,11,12,13,14,15,16,17])
 .ret)) }
def F_slices_Grow_impl_Choice_impl_Choice : LF :=
 { nparams := 2,results := [],body := .skip,prim := some (growP 3) }
def F_spec_l6Best_L1 : LC :=
 (.seq
 (.seq
 (.region false [oK 43 .mv [.t 14],
 oK 44 (.bin .lss) [.t 43,.c (.i 2)]] [43])
 (.cond (.t 44) [44]
 .skip
 (.exit 2)))
 (.seq
 (.block 3
 (.seq
 (.region false [oK 47 (.bslice 24072 0 1 (.i 0) []) [],
 oK 48 .mv [.t 2],
 oK 49 (.app 25096 1) [.t 47,.t 48],
 oK 15 .mv [.t 49]] [47,48,49])
 (.seq
 (.region false [oK 50 .mv [.t 15],
 oK 51 .mv [.t 12],
 oK 52 .mv [.t 14],
 oK 53 (.idxa 1) [.t 50,.t 51],
 ⟨none,.store 1,[.t 53,.t 52],none⟩] [50,51,52,53])
 (.seq
 (.region false [oK 54 .mv [.t 0],
 oK 55 .mv [.t 12],
 oK 56 (.idxa 2) [.t 54,.t 55],
 oK 57 (.fld 1 1 false) [.t 56],
 oK 58 (.load 1 false) [.t 57],
 oK 16 .mv [.t 58]] [54,55,56,57,58])
 (.seq
 (.seq
 (.region false [oK 59 .mv [.t 14],
 oK 60 (.bin .eql) [.t 59,.c (.i 0)]] [59])
 (.cond (.t 60) [60]
 (.region false [oK 61 .mv [.t 16],
 oK 62 (.bin .sub) [.c (.i 6),.t 61],
 oK 16 .mv [.t 62]] [61,62])
 .skip))
 (.seq
 (.region false [oK 64 .mv [.t 0],
 oK 65 .mv [.t 1],
 oK 66 .mv [.t 15],
 oK 67 .mv [.t 3],
 oK 68 (.bin .quo) [.t 67,.c (.i 6)],
 oK 69 .mv [.t 16],
 oK 70 (.bin .mul) [.t 68,.t 69],
 oK 71 (.call n_spec_l6Best 36352) [.t 64,.t 65,.t 66,.t 70],
 oK 63 .mv [.t 71],
 oK 72 (.ext 0) [.t 63],
 oK 73 (.ext 1) [.t 63],
 oK 17 .mv [.t 72],
 oK 18 .mv [.t 73]] [15,16,18,63,64,65,66,67,68,69,70,71,72,73])
 (.region false [oK 74 .mv [.t 13],
 oK 75 .mv [.t 17],
 oK 76 (.bin .add) [.t 74,.t 75],
 oK 13 .mv [.t 76]] [17,74,75,76])))))))
 (.region false [oK 45 .mv [.t 14],
 oK 46 (.bin .add) [.t 45,.c (.i 1)],
 oK 14 .mv [.t 46]] [45,46])))
def F_spec_l6Best_W1 : LC := .loop F_spec_l6Best_L1
def F_spec_l6Best_L0 : LC :=
 (.seq
 (.seq
 (.region false [oK 25 .mv [.t 12],
 oK 26 .mv [.t 0],
 oK 27 .len [.t 26],
 oK 28 (.bin .lss) [.t 25,.t 27]] [25,26,27])
 (.cond (.t 28) [28]
 .skip
 (.exit 0)))
 (.seq
 (.block 1
 (.seq
 (.seq
 (.region false [oK 31 .mv [.t 2],
 oK 32 .mv [.t 12],
 oK 33 (.idxa 1) [.t 31,.t 32],
 oK 34 (.load 1 false) [.t 33],
 oK 35 (.bin .neq) [.t 34,.c (.i (-1))]] [31,32,33,34])
 (.cond (.t 35) [35]
 (.exit 1)
 .skip))
 (.seq
 (.region false [oK 36 .mv [.t 3],
 oK 37 .mv [.t 0],
 oK 38 .mv [.t 12],
 oK 39 (.idxa 2) [.t 37,.t 38],
 oK 40 (.fld 0 1 false) [.t 39],
 oK 41 (.load 1 false) [.t 40],
 oK 42 (.bin .mul) [.t 36,.t 41],
 oK 13 .mv [.t 42]] [36,37,38,39,40,41,42])
 (.seq
 (.seq
 (.region false [oK 14 .mv [.c (.i 0)]] [])
 (.block 2
 F_spec_l6Best_W1))
 (.seq
 (.region false [oK 77 .mv [.t 10],
 oK 78 (.bin .lss) [.t 77,.c (.i 0)],
 oK 79 .mv [.t 78],
 oG 80 .mv [.t 13] 79 false,
 oG 81 .mv [.t 10] 79 false,
 oG 82 (.bin .lss) [.t 80,.t 81] 79 false,
 oK 83 .pick [.t 79,.c (.b true),.t 82]] [14,77,78,79,80,81,82])
 (.cond (.t 83) [83]
 (.seq
 (.region false [oK 84 .mv [.t 13],
 oK 10 .mv [.t 84]] [11,13,84])
 (.region false [oK 85 .mv [.t 12],
 oK 11 .mv [.t 85]] [85]))
 .skip))))))
 (.region false [oK 29 .mv [.t 12],
 oK 30 (.bin .add) [.t 29,.c (.i 1)],
 oK 12 .mv [.t 30]] [13,29,30])))
def F_spec_l6Best_W0 : LC := .loop F_spec_l6Best_L0
def F_spec_l6Best : LF :=
 { nparams := 4,results := [.t 8,.t 9],body :=
 (.seq
 (.region false [oK 8 .mv [.c (.i 0)],
 oK 9 .mv [.c (.i 0)]] [8,9])
 (.seq
 (.seq
 (.region false [oK 19 .mv [.t 0],
 oK 20 .len [.t 19],
 oK 21 .mv [.t 1],
 oK 22 .mv [.t 2],
 oK 23 (.call n_spec_l3Forced 11776) [.t 20,.t 21,.t 22],
 oK 24 (.bin .neq) [.t 23,.c (.i (-1))]] [19,20,21,22,23])
 (.cond (.t 24) [24]
 (.seq
 (.region false [oK 8 .mv [.c (.i 0)],
 oK 9 .mv [.c (.i (-1))]] [0,1,2,3])
 .ret)
 .skip))
 (.seq
 (.region false [oK 10 .mv [.c (.i (-1))]] [])
 (.seq
 (.region false [oK 11 .mv [.c (.i (-1))]] [])
 (.seq
 (.seq
 (.region false [oK 12 .mv [.c (.i 0)]] [])
 (.block 0
 F_spec_l6Best_W0))
 (.seq
 (.region false [oK 86 .mv [.t 10],
 oK 87 .mv [.t 11],
 oK 8 .mv [.t 86],
 oK 9 .mv [.t 87]] [0,1,2,3,10,11,12,86,87])
 .ret)))))) }
def lf : Nat → Option LF
 | 4 => some F_laws_FnReadPlan
 | 14 => some F_impl_PlanText
 | 15 => some F_spec_PlanText
 | 16 => some F_impl_PlanOk
 | 17 => some F_laws_alive
 | 18 => some F_impl_ReadPlan
 | 20 => some F_spec_DrawReadPlan
 | 21 => some F_spec_ReadPlan
 | 22 => some F_laws_samePlan
 | 28 => some F_spec_TestsOk
 | 35 => some F_spec_TermOk
 | 51 => some F_spec_l20Planned
 | 52 => some F_spec_l20Open
 | 53 => some F_impl_foldPlan_string
 | 54 => some F_impl_firstOf
 | 55 => some F_impl_startOf
 | 56 => some F_impl_writeValue
 | 57 => some F_impl_writeChoice
 | 58 => some F_spec_PlanOk
 | 59 => some F_spec_l11Text
 | 60 => some F_spec_l3Table
 | 61 => some F_spec_l4None
 | 62 => some F_impl_pointsOf
 | 63 => some F_impl_TestsOk
 | 64 => some F_impl_readChoices
 | 66 => some F_spec_l20Rd_pick
 | 67 => some F_spec_l11Read
 | 68 => some F_impl_TermOk
 | 69 => some F_spec_l20Tests
 | 70 => some F_spec_l1In
 | 73 => some F_impl_isWithin
 | 79 => some F_impl_trueStates
 | 96 => some F_spec_l20Case
 | 97 => some F_spec_l20Plan
 | 98 => some F_impl_point_value
 | 99 => some F_impl_point_answered
 | 100 => some F_impl_letterOf
 | 101 => some F_spec_l6Checks
 | 102 => some F_spec_l6Once
 | 103 => some F_spec_l1Number
 | 104 => some F_spec_l3Forced
 | 105 => some F_spec_l3Value
 | 106 => some F_impl_comesTo
 | 107 => some F_impl_point_canAsk
 | 108 => some F_impl_manyOk
 | 109 => some F_impl_readBehind
 | 110 => some F_strings_CutPrefix
 | 111 => some F_impl_laidOut
 | 112 => some F_impl_placeOf
 | 113 => some F_impl_partsTaken
 | 114 => some F_impl_markOk
 | 115 => some F_spec_l20Rd_odd
 | 118 => some F_impl_foldTerm_uint32
 | 119 => some F_impl_statesOfPart
 | 124 => some F_impl_point_isForced
 | 127 => some F_impl_hasTest
 | 129 => some F_spec_l20Term
 | 130 => some F_spec_BestPlan
 | 131 => some F_spec_OrderPlan
 | 132 => some F_spec_l20Order
 | 133 => some F_impl_valueAmong
 | 134 => some F_impl_statesSaying
 | 135 => some F_spec_l1Agrees
 | 136 => some F_spec_l2Starts
 | 137 => some F_internal_stringslite_CutPrefix
 | 138 => some F_slices_Concat_impl_Choice_impl_Choice
 | 145 => some F_spec_l6Grow
 | 146 => some F_spec_l1Power
 | 147 => some F_spec_OrderOk
 | 148 => some F_spec_l6Line
 | 149 => some F_internal_stringslite_HasPrefix
 | 150 => some F_slices_Grow_impl_Choice_impl_Choice
 | 152 => some F_spec_l6Best
 | _ => none
theorem w_laws_samePlan_0 (S : LS) : ex lf F_laws_samePlan_W0 S = match ex lf F_laws_samePlan_L0 S with | some (.normal,S1) => ex lf F_laws_samePlan_W0 S1 | r => r := ex_loop lf F_laws_samePlan_L0 S
theorem w_spec_TestsOk_0 (S : LS) : ex lf F_spec_TestsOk_W0 S = match ex lf F_spec_TestsOk_L0 S with | some (.normal,S1) => ex lf F_spec_TestsOk_W0 S1 | r => r := ex_loop lf F_spec_TestsOk_L0 S
theorem w_spec_TermOk_0 (S : LS) : ex lf F_spec_TermOk_W0 S = match ex lf F_spec_TermOk_L0 S with | some (.normal,S1) => ex lf F_spec_TermOk_W0 S1 | r => r := ex_loop lf F_spec_TermOk_L0 S
theorem w_spec_l3Table_0 (S : LS) : ex lf F_spec_l3Table_W0 S = match ex lf F_spec_l3Table_L0 S with | some (.normal,S1) => ex lf F_spec_l3Table_W0 S1 | r => r := ex_loop lf F_spec_l3Table_L0 S
theorem w_spec_l4None_0 (S : LS) : ex lf F_spec_l4None_W0 S = match ex lf F_spec_l4None_L0 S with | some (.normal,S1) => ex lf F_spec_l4None_W0 S1 | r => r := ex_loop lf F_spec_l4None_L0 S
theorem w_impl_pointsOf_0 (S : LS) : ex lf F_impl_pointsOf_W0 S = match ex lf F_impl_pointsOf_L0 S with | some (.normal,S1) => ex lf F_impl_pointsOf_W0 S1 | r => r := ex_loop lf F_impl_pointsOf_L0 S
theorem w_impl_TestsOk_0 (S : LS) : ex lf F_impl_TestsOk_W0 S = match ex lf F_impl_TestsOk_L0 S with | some (.normal,S1) => ex lf F_impl_TestsOk_W0 S1 | r => r := ex_loop lf F_impl_TestsOk_L0 S
theorem w_impl_TermOk_0 (S : LS) : ex lf F_impl_TermOk_W0 S = match ex lf F_impl_TermOk_L0 S with | some (.normal,S1) => ex lf F_impl_TermOk_W0 S1 | r => r := ex_loop lf F_impl_TermOk_L0 S
theorem w_spec_l20Tests_0 (S : LS) : ex lf F_spec_l20Tests_W0 S = match ex lf F_spec_l20Tests_L0 S with | some (.normal,S1) => ex lf F_spec_l20Tests_W0 S1 | r => r := ex_loop lf F_spec_l20Tests_L0 S
theorem w_spec_l6Checks_0 (S : LS) : ex lf F_spec_l6Checks_W0 S = match ex lf F_spec_l6Checks_L0 S with | some (.normal,S1) => ex lf F_spec_l6Checks_W0 S1 | r => r := ex_loop lf F_spec_l6Checks_L0 S
theorem w_spec_l6Once_1 (S : LS) : ex lf F_spec_l6Once_W1 S = match ex lf F_spec_l6Once_L1 S with | some (.normal,S1) => ex lf F_spec_l6Once_W1 S1 | r => r := ex_loop lf F_spec_l6Once_L1 S
theorem w_spec_l6Once_0 (S : LS) : ex lf F_spec_l6Once_W0 S = match ex lf F_spec_l6Once_L0 S with | some (.normal,S1) => ex lf F_spec_l6Once_W0 S1 | r => r := ex_loop lf F_spec_l6Once_L0 S
theorem w_spec_l3Forced_0 (S : LS) : ex lf F_spec_l3Forced_W0 S = match ex lf F_spec_l3Forced_L0 S with | some (.normal,S1) => ex lf F_spec_l3Forced_W0 S1 | r => r := ex_loop lf F_spec_l3Forced_L0 S
theorem w_impl_foldTerm_uint32_0 (S : LS) : ex lf F_impl_foldTerm_uint32_W0 S = match ex lf F_impl_foldTerm_uint32_L0 S with | some (.normal,S1) => ex lf F_impl_foldTerm_uint32_W0 S1 | r => r := ex_loop lf F_impl_foldTerm_uint32_L0 S
theorem w_spec_l20Term_0 (S : LS) : ex lf F_spec_l20Term_W0 S = match ex lf F_spec_l20Term_L0 S with | some (.normal,S1) => ex lf F_spec_l20Term_W0 S1 | r => r := ex_loop lf F_spec_l20Term_L0 S
theorem w_spec_l20Term_1 (S : LS) : ex lf F_spec_l20Term_W1 S = match ex lf F_spec_l20Term_L1 S with | some (.normal,S1) => ex lf F_spec_l20Term_W1 S1 | r => r := ex_loop lf F_spec_l20Term_L1 S
theorem w_spec_l20Term_2 (S : LS) : ex lf F_spec_l20Term_W2 S = match ex lf F_spec_l20Term_L2 S with | some (.normal,S1) => ex lf F_spec_l20Term_W2 S1 | r => r := ex_loop lf F_spec_l20Term_L2 S
theorem w_spec_l20Order_0 (S : LS) : ex lf F_spec_l20Order_W0 S = match ex lf F_spec_l20Order_L0 S with | some (.normal,S1) => ex lf F_spec_l20Order_W0 S1 | r => r := ex_loop lf F_spec_l20Order_L0 S
theorem w_spec_l1Agrees_0 (S : LS) : ex lf F_spec_l1Agrees_W0 S = match ex lf F_spec_l1Agrees_L0 S with | some (.normal,S1) => ex lf F_spec_l1Agrees_W0 S1 | r => r := ex_loop lf F_spec_l1Agrees_L0 S
theorem w_spec_l2Starts_0 (S : LS) : ex lf F_spec_l2Starts_W0 S = match ex lf F_spec_l2Starts_L0 S with | some (.normal,S1) => ex lf F_spec_l2Starts_W0 S1 | r => r := ex_loop lf F_spec_l2Starts_L0 S
theorem w_slices_Concat_impl_Choice_impl_Choice_0 (S : LS) : ex lf F_slices_Concat_impl_Choice_impl_Choice_W0 S = match ex lf F_slices_Concat_impl_Choice_impl_Choice_L0 S with | some (.normal,S1) => ex lf F_slices_Concat_impl_Choice_impl_Choice_W0 S1 | r => r := ex_loop lf F_slices_Concat_impl_Choice_impl_Choice_L0 S
theorem w_slices_Concat_impl_Choice_impl_Choice_1 (S : LS) : ex lf F_slices_Concat_impl_Choice_impl_Choice_W1 S = match ex lf F_slices_Concat_impl_Choice_impl_Choice_L1 S with | some (.normal,S1) => ex lf F_slices_Concat_impl_Choice_impl_Choice_W1 S1 | r => r := ex_loop lf F_slices_Concat_impl_Choice_impl_Choice_L1 S
theorem w_spec_l1Power_0 (S : LS) : ex lf F_spec_l1Power_W0 S = match ex lf F_spec_l1Power_L0 S with | some (.normal,S1) => ex lf F_spec_l1Power_W0 S1 | r => r := ex_loop lf F_spec_l1Power_L0 S
theorem w_spec_OrderOk_0 (S : LS) : ex lf F_spec_OrderOk_W0 S = match ex lf F_spec_OrderOk_L0 S with | some (.normal,S1) => ex lf F_spec_OrderOk_W0 S1 | r => r := ex_loop lf F_spec_OrderOk_L0 S
theorem w_spec_l6Best_1 (S : LS) : ex lf F_spec_l6Best_W1 S = match ex lf F_spec_l6Best_L1 S with | some (.normal,S1) => ex lf F_spec_l6Best_W1 S1 | r => r := ex_loop lf F_spec_l6Best_L1 S
theorem w_spec_l6Best_0 (S : LS) : ex lf F_spec_l6Best_W0 S = match ex lf F_spec_l6Best_L0 S with | some (.normal,S1) => ex lf F_spec_l6Best_W0 S1 | r => r := ex_loop lf F_spec_l6Best_L0 S
end Zz
