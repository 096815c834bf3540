/- The functions of the program, read as data. No conditions. -/
import Derived.Test.YtplfgkjggohajabDoorLgC
set_option linter.unusedSectionVars false
set_option linter.unusedVariables false
set_option linter.unusedSimpArgs false
namespace Zz
open Go.Lg
abbrev op1 (d : Nat) (k : K) (a : List Opd) : LOp := ⟨some d, k, a, none⟩
abbrev op2 (d : Nat) (k : K) (a : List Opd) (t : Nat) (b : Bool) : LOp := ⟨some d, k, a, some (t, b)⟩
def n_laws_FnExactTurnedPlan : Nat := 10
def n_laws_FnExactStopsOf : Nat := 11
def n_spec_PlanText : Nat := 15
def n_impl_PlanOk : Nat := 16
def n_impl_TurnedPlan : Nat := 24
def n_spec_TurnedPlan : Nat := 25
def n_impl_StopsOf : Nat := 32
def n_spec_StopsOf : Nat := 33
def n_spec_TermOk : Nat := 35
def n_laws_szMarkS : Nat := 36
def n_laws_szChoiceS : Nat := 37
def n_laws_toMarkS : Nat := 38
def n_laws_toChoiceS : Nat := 39
def n_laws_eqMarkS : Nat := 40
def n_laws_eqChoiceS : Nat := 41
def n_laws_markMarkS : Nat := 42
def n_laws_markChoiceS : Nat := 43
def n_laws_heldChoiceS : Nat := 44
def n_impl_firstOf : Nat := 54
def n_impl_startOf : Nat := 55
def n_spec_PlanOk : Nat := 58
def n_spec_l11Text : Nat := 59
def n_spec_l3Table : Nat := 60
def n_spec_l4None : Nat := 61
def n_impl_pointsOf : Nat := 62
def n_impl_TermOk : Nat := 68
def n_spec_l1In : Nat := 70
def n_impl_isWithin : Nat := 73
def n_impl_StopsOf_1 : Nat := 74
def n_impl_StopsOf_2 : Nat := 75
def n_impl_foldPlan_int : Nat := 76
def n_impl_trueStates : Nat := 79
def n_laws_toMark : Nat := 80
def n_laws_toChoice : Nat := 81
def n_laws_eqMark : Nat := 82
def n_laws_eqChoice : Nat := 83
def n_impl_point_value : Nat := 98
def n_impl_point_answered : Nat := 99
def n_spec_l6Checks : Nat := 101
def n_spec_l6Once : Nat := 102
def n_spec_l1Number : Nat := 103
def n_spec_l3Forced : Nat := 104
def n_spec_l3Value : Nat := 105
def n_impl_comesTo : Nat := 106
def n_impl_point_canAsk : Nat := 107
def n_impl_manyOk : Nat := 108
def n_impl_partsTaken : Nat := 113
def n_impl_markOk : Nat := 114
def n_impl_foldTerm_uint32 : Nat := 118
def n_impl_statesOfPart : Nat := 119
def n_impl_point_isForced : Nat := 124
def n_impl_hasTest : Nat := 127
def n_impl_valueAmong : Nat := 133
def n_impl_statesSaying : Nat := 134
def n_spec_l1Agrees : Nat := 135
def n_spec_l2Starts : Nat := 136
def bkFs : List Nat := []
instance : GL := ⟨[(0,.st [.w (2863311530#32),.w (3435973836#32),.w (4042322160#32),.w (4278255360#32),.w (4294901760#32)])],[42,43,106],["l4_orders.go:82","l10_rounds.go:90"],[],[(67,[2]),(145,[4]),(148,[5]),(150,[0])],[],["l20_draw.go:447"],bkFs⟩
theorem gEnv_0 : gEnv [0] = [(1048576,.adr (.st [.w (2863311530#32),.w (3435973836#32),.w (4042322160#32),.w (4278255360#32),.w (4294901760#32)]))] := rfl
/-- laws.FnExactTurnedPlan -/
def F_laws_FnExactTurnedPlan : LF :=
 { nparams := 3,results := [.t 6],body :=
 (.seq
 (.region false [op1 6 .mv [.c (.b false)]] [6])
 (.seq
 (.region false [op1 7 .mv [.c (.i 1048576)]] [])
 (.seq
 (.region false [op1 19 .mv [.t 1],
 op1 20 .mv [.t 7],
 op1 21 (.call n_laws_szMarkS 10752) [.t 19,.t 20],
 op1 7 .mv [.t 21]] [19,20,21])
 (.seq
 (.seq
 (.region false [op1 22 .mv [.t 7],
 op1 23 (.bin .lss) [.t 22,.c (.i 0)]] [22])
 (.cond (.t 23) [23]
 (.seq
 (.region false [op1 6 .mv [.c (.b true)]] [0,1,2,7])
 .ret)
 .skip))
 (.seq
 (.region false [op1 24 .mv [.t 2],
 op1 25 .mv [.t 7],
 op1 26 (.call n_laws_szChoiceS 13312) [.t 24,.t 25],
 op1 7 .mv [.t 26]] [24,25,26])
 (.seq
 (.seq
 (.region false [op1 27 .mv [.t 7],
 op1 28 (.bin .lss) [.t 27,.c (.i 0)]] [7,27])
 (.cond (.t 28) [28]
 (.seq
 (.region false [op1 6 .mv [.c (.b true)]] [0,1,2])
 .ret)
 .skip))
 (.seq
 (.region false [op1 30 .mv [.t 0],
 op1 31 .mv [.t 1],
 op1 32 (.call n_laws_toMarkS 16384) [.t 31],
 op1 33 .mv [.t 2],
 op1 34 (.call n_laws_toChoiceS 17408) [.t 33],
 op1 35 (.call n_spec_TurnedPlan 17920) [.t 30,.t 32,.t 34],
 op1 29 .mv [.t 35],
 op1 36 (.ext 0) [.t 29],
 op1 37 (.ext 1) [.t 29],
 op1 8 .mv [.t 36],
 op1 9 .mv [.t 37]] [29,30,31,32,33,34,35,36,37])
 (.seq
 (.region false [op1 38 .mv [.t 1],
 op1 39 (.call n_laws_toMarkS 19968) [.t 38],
 op1 10 .mv [.t 39]] [38,39])
 (.seq
 (.region false [op1 40 .mv [.t 2],
 op1 41 (.call n_laws_toChoiceS 20992) [.t 40],
 op1 11 .mv [.t 41]] [40,41])
 (.seq
 (.region false [op1 43 .mv [.t 0],
 op1 44 .mv [.t 10],
 op1 45 .mv [.t 11],
 op1 46 (.call n_impl_TurnedPlan 23552) [.t 43,.t 44,.t 45],
 op1 42 .mv [.t 46],
 op1 47 (.ext 0) [.t 42],
 op1 48 (.ext 1) [.t 42],
 op1 12 .mv [.t 47],
 op1 13 .mv [.t 48]] [42,43,44,45,46,47,48])
 (.seq
 (.seq
 (.region false [op1 49 .mv [.t 12],
 op1 50 .mv [.t 8],
 op1 51 (.call n_laws_eqChoiceS 26112) [.t 49,.t 50],
 op1 52 (.un .not) [.t 51],
 op1 53 .mv [.t 52],
 op2 54 .mv [.t 13] 53 false,
 op2 55 .mv [.t 9] 53 false,
 op2 56 (.eqb true) [.t 54,.t 55] 53 false,
 op1 57 .pick [.t 53,.c (.b true),.t 56]] [49,50,51,52,53,54,55,56])
 (.cond (.t 57) [57]
 (.seq
 (.region false [op1 6 .mv [.c (.b false)]] [0,1,2,8,9,10,11,12,13])
 .ret)
 .skip))
 (.seq
 (.seq
 (.region false [op1 58 .mv [.t 10],
 op1 59 .mv [.t 1],
 op1 60 (.call n_laws_toMarkS 30720) [.t 59],
 op1 61 (.call n_laws_eqMarkS 31232) [.t 58,.t 60],
 op1 62 (.un .not) [.t 61]] [58,59,60,61])
 (.cond (.t 62) [62]
 (.seq
 (.region false [op1 6 .mv [.c (.b false)]] [0,1,2,8,9,10,11,12,13])
 .ret)
 .skip))
 (.seq
 (.seq
 (.region false [op1 63 .mv [.t 11],
 op1 64 .mv [.t 2],
 op1 65 (.call n_laws_toChoiceS 33280) [.t 64],
 op1 66 (.call n_laws_eqChoiceS 33792) [.t 63,.t 65],
 op1 67 (.un .not) [.t 66]] [63,64,65,66])
 (.cond (.t 67) [67]
 (.seq
 (.region false [op1 6 .mv [.c (.b false)]] [0,1,2,8,9,10,11,12,13])
 .ret)
 .skip))
 (.seq
 (.region false [op1 14 .mv [.c (.i 1)]] [])
 (.seq
 (.region false [op1 68 .mv [.t 10],
 op1 69 .mv [.t 14],
 op1 70 (.call n_laws_markMarkS 35844) [.t 68,.t 69],
 op1 14 .mv [.t 70]] [10,68,69,70])
 (.seq
 (.region false [op1 71 .mv [.t 11],
 op1 72 .mv [.t 14],
 op1 73 (.call n_laws_markChoiceS 37380) [.t 71,.t 72],
 op1 14 .mv [.t 73]] [11,71,72,73])
 (.seq
 (.seq
 (.region false [op1 74 .mv [.t 14],
 op1 75 (.bin .lss) [.t 74,.c (.i 0)],
 op1 76 .mv [.t 75],
 op2 77 .mv [.t 12] 76 false,
 op2 78 .mv [.t 8] 76 false,
 op2 79 (.call n_laws_eqChoiceS 40448) [.t 77,.t 78] 76 false,
 op2 80 (.un .not) [.t 79] 76 false,
 op1 81 .pick [.t 76,.c (.b true),.t 80],
 op1 82 .mv [.t 81],
 op2 83 .mv [.t 13] 82 false,
 op2 84 .mv [.t 9] 82 false,
 op2 85 (.eqb true) [.t 83,.t 84] 82 false,
 op1 86 .pick [.t 82,.c (.b true),.t 85]] [13,14,74,75,76,77,78,79,80,81,82,83,84,85])
 (.cond (.t 86) [86]
 (.seq
 (.region false [op1 6 .mv [.c (.b false)]] [0,1,2,8,9,12])
 .ret)
 .skip))
 (.seq
 (.region false [op1 15 .mv [.c (.i 1)]] [])
 (.seq
 (.region false [op1 87 .mv [.t 12],
 op1 88 .mv [.t 15],
 op1 89 (.call n_laws_markChoiceS 45572) [.t 87,.t 88],
 op1 15 .mv [.t 89]] [87,88,89])
 (.seq
 (.region false [op1 16 .mv [.c (.i 1)]] [])
 (.seq
 (.region false [op1 90 .mv [.t 12],
 op1 91 .mv [.t 16],
 op1 92 (.call n_laws_heldChoiceS 47104) [.t 90,.t 91],
 op1 16 .mv [.t 92]] [90,91,92])
 (.seq
 (.seq
 (.region false [op1 93 .mv [.t 16],
 op1 94 (.bin .lss) [.t 93,.c (.i 0)]] [93])
 (.cond (.t 94) [94]
 (.seq
 (.region false [op1 6 .mv [.c (.b false)]] [0,1,2,8,9,12,15,16])
 .ret)
 .skip))
 (.seq
 (.seq
 (.region false [op1 95 .mv [.t 16],
 op1 96 .mv [.t 15],
 op1 97 (.bin .neq) [.t 95,.t 96]] [16,95,96])
 (.cond (.t 97) [97]
 (.seq
 (.region false [op1 6 .mv [.c (.b false)]] [0,1,2,8,9,12,15])
 .ret)
 .skip))
 (.seq
 (.region false [op1 99 .mv [.t 0],
 op1 100 .mv [.t 1],
 op1 101 (.call n_laws_toMarkS 51712) [.t 100],
 op1 102 .mv [.t 2],
 op1 103 (.call n_laws_toChoiceS 52736) [.t 102],
 op1 104 (.call n_impl_TurnedPlan 53248) [.t 99,.t 101,.t 103],
 op1 98 .mv [.t 104],
 op1 105 (.ext 0) [.t 98],
 op1 106 (.ext 1) [.t 98],
 op1 17 .mv [.t 105],
 op1 18 .mv [.t 106]] [0,1,2,98,99,100,101,102,103,104,105,106])
 (.seq
 (.seq
 (.region false [op1 107 .mv [.t 17],
 op1 108 .mv [.t 8],
 op1 109 (.call n_laws_eqChoiceS 55808) [.t 107,.t 108],
 op1 110 (.un .not) [.t 109],
 op1 111 .mv [.t 110],
 op2 112 .mv [.t 18] 111 false,
 op2 113 .mv [.t 9] 111 false,
 op2 114 (.eqb true) [.t 112,.t 113] 111 false,
 op1 115 .pick [.t 111,.c (.b true),.t 114]] [8,9,17,18,107,108,109,110,111,112,113,114])
 (.cond (.t 115) [115]
 (.seq
 (.region false [op1 6 .mv [.c (.b false)]] [12,15])
 .ret)
 .skip))
 (.seq
 (.region false [op1 16 .mv [.c (.i 1)]] [])
 (.seq
 (.region false [op1 116 .mv [.t 12],
 op1 117 .mv [.t 16],
 op1 118 (.call n_laws_heldChoiceS 60416) [.t 116,.t 117],
 op1 16 .mv [.t 118]] [12,116,117,118])
 (.seq
 (.seq
 (.region false [op1 119 .mv [.t 16],
 op1 120 (.bin .lss) [.t 119,.c (.i 0)]] [119])
 (.cond (.t 120) [120]
 (.seq
 (.region false [op1 6 .mv [.c (.b false)]] [15,16])
 .ret)
 .skip))
 (.seq
 (.seq
 (.region false [op1 121 .mv [.t 16],
 op1 122 .mv [.t 15],
 op1 123 (.bin .neq) [.t 121,.t 122]] [15,16,121,122])
 (.cond (.t 123) [123]
 (.seq
 (.region false [op1 6 .mv [.c (.b false)]] [])
 .ret)
 .skip))
 (.seq
 (.region false [op1 6 .mv [.c (.b true)]] [])
 .ret)))))))))))))))))))))))))))))) }
/-- laws.FnExactStopsOf -/
def F_laws_FnExactStopsOf : LF :=
 { nparams := 4,results := [.t 8],body :=
 (.seq
 (.region false [op1 8 .mv [.c (.b false)]] [8])
 (.seq
 (.region false [op1 9 .mv [.c (.i 1048576)]] [])
 (.seq
 (.region false [op1 14 .mv [.t 1],
 op1 15 .mv [.t 9],
 op1 16 (.call n_laws_szMarkS 8192) [.t 14,.t 15],
 op1 9 .mv [.t 16]] [14,15,16])
 (.seq
 (.seq
 (.region false [op1 17 .mv [.t 9],
 op1 18 (.bin .lss) [.t 17,.c (.i 0)]] [17])
 (.cond (.t 18) [18]
 (.seq
 (.region false [op1 8 .mv [.c (.b true)]] [0,1,2,3,9])
 .ret)
 .skip))
 (.seq
 (.region false [op1 19 .mv [.t 2],
 op1 20 .mv [.t 9],
 op1 21 (.call n_laws_szChoiceS 10752) [.t 19,.t 20],
 op1 9 .mv [.t 21]] [19,20,21])
 (.seq
 (.seq
 (.region false [op1 22 .mv [.t 9],
 op1 23 (.bin .lss) [.t 22,.c (.i 0)]] [9,22])
 (.cond (.t 23) [23]
 (.seq
 (.region false [op1 8 .mv [.c (.b true)]] [0,1,2,3])
 .ret)
 .skip))
 (.seq
 (.region false [op1 24 .mv [.t 0],
 op1 25 .mv [.t 1],
 op1 26 (.call n_laws_toMarkS 13312) [.t 25],
 op1 27 .mv [.t 2],
 op1 28 (.call n_laws_toChoiceS 14336) [.t 27],
 op1 29 .mv [.t 3],
 op1 30 (.call n_spec_StopsOf 15360) [.t 24,.t 26,.t 28,.t 29],
 op1 10 .mv [.t 30]] [24,25,26,27,28,29,30])
 (.seq
 (.region false [op1 31 .mv [.t 1],
 op1 32 (.call n_laws_toMarkS 16384) [.t 31],
 op1 11 .mv [.t 32]] [31,32])
 (.seq
 (.region false [op1 33 .mv [.t 2],
 op1 34 (.call n_laws_toChoiceS 17408) [.t 33],
 op1 12 .mv [.t 34]] [33,34])
 (.seq
 (.region false [op1 35 .mv [.t 0],
 op1 36 .mv [.t 11],
 op1 37 .mv [.t 12],
 op1 38 .mv [.t 3],
 op1 39 (.call n_impl_StopsOf 19968) [.t 35,.t 36,.t 37,.t 38],
 op1 13 .mv [.t 39]] [0,3,35,36,37,38,39])
 (.seq
 (.seq
 (.region false [op1 40 .mv [.t 13],
 op1 41 .mv [.t 10],
 op1 42 (.bin .neq) [.t 40,.t 41]] [10,13,40,41])
 (.cond (.t 42) [42]
 (.seq
 (.region false [op1 8 .mv [.c (.b false)]] [1,2,11,12])
 .ret)
 .skip))
 (.seq
 (.seq
 (.region false [op1 43 .mv [.t 11],
 op1 44 .mv [.t 1],
 op1 45 (.call n_laws_toMarkS 23040) [.t 44],
 op1 46 (.call n_laws_eqMarkS 23552) [.t 43,.t 45],
 op1 47 (.un .not) [.t 46]] [1,11,43,44,45,46])
 (.cond (.t 47) [47]
 (.seq
 (.region false [op1 8 .mv [.c (.b false)]] [2,12])
 .ret)
 .skip))
 (.seq
 (.seq
 (.region false [op1 48 .mv [.t 12],
 op1 49 .mv [.t 2],
 op1 50 (.call n_laws_toChoiceS 25600) [.t 49],
 op1 51 (.call n_laws_eqChoiceS 26112) [.t 48,.t 50],
 op1 52 (.un .not) [.t 51]] [2,12,48,49,50,51])
 (.cond (.t 52) [52]
 (.seq
 (.region false [op1 8 .mv [.c (.b false)]] [])
 .ret)
 .skip))
 (.seq
 (.region false [op1 8 .mv [.c (.b true)]] [])
 .ret)))))))))))))) }
/-- spec.PlanText -/
def F_spec_PlanText : LF :=
 { nparams := 3,results := [.t 6],body :=
 (.seq
 (.region false [op1 6 .mv [.c (.s [])]] [6])
 (.seq
 (.seq
 (.region false [op1 8 .mv [.t 0],
 op1 9 .mv [.t 1],
 op1 10 .mv [.t 2],
 op1 11 (.call n_spec_PlanOk 5632) [.t 8,.t 9,.t 10],
 op1 12 (.un .not) [.t 11]] [8,9,10,11])
 (.cond (.t 12) [12]
 (.seq
 (.region false [op1 6 .mv [.c (.s [])]] [0,1,2])
 .ret)
 .skip))
 (.seq
 (.region false [op1 7 .mv [.c (.i 0)]] [])
 (.seq
 (.seq
 (.region false [op1 13 .mv [.t 2],
 op1 14 .len [.t 13],
 op1 15 (.bin .eql) [.t 14,.c (.i 0)]] [13,14])
 (.cond (.t 15) [15]
 (.region false [op1 7 .mv [.c (.i (-1))]] [])
 .skip))
 (.seq
 (.region false [op1 16 .mv [.t 0],
 op1 17 .mv [.t 0],
 op1 18 .mv [.t 1],
 op1 19 (.call n_spec_l3Table 9728) [.t 17,.t 18],
 op1 20 .mv [.t 2],
 op1 21 .mv [.t 7],
 op1 22 .mv [.t 0],
 op1 23 (.call n_spec_l4None 11776) [.t 22],
 op1 24 (.call n_spec_l11Text 12288) [.t 16,.t 19,.t 20,.t 21,.t 23],
 op1 6 .mv [.t 24]] [0,1,2,7,16,17,18,19,20,21,22,23,24])
 .ret))))) }
/-- impl.PlanOk -/
def F_impl_PlanOk : LF :=
 { nparams := 3,results := [.t 6],body :=
 (.seq
 (.region false [op1 6 .mv [.c (.b false)]] [6])
 (.seq
 (.region false [op1 10 .mv [.t 0],
 op1 11 .mv [.t 1],
 op1 12 .mv [.t 2],
 op1 13 (.call n_impl_pointsOf 6656) [.t 10,.t 11,.t 12],
 op1 9 .mv [.t 13],
 op1 14 (.ext 0) [.t 9],
 op1 15 (.ext 1) [.t 9],
 op1 7 .mv [.t 14],
 op1 8 .mv [.t 15]] [0,1,2,7,9,10,11,12,13,14,15])
 (.seq
 (.region false [op1 16 .mv [.t 8],
 op1 6 .mv [.t 16]] [8,16])
 .ret))) }
/-- impl.TurnedPlan -/
def F_impl_TurnedPlan_L0 : LC :=
 (.seq
 (.region false [op1 22 (.bin .lss) [.t 21,.t 20]] [])
 (.seq
 (.cond (.t 22) [22]
 .skip
 (.exit 0))
 (.seq
 (.block 1
 (.seq
 (.region false [op1 23 .mv [.t 21],
 op1 24 (.idxa 3) [.t 19,.t 21],
 op1 25 (.load 3 true) [.t 24],
 op1 10 (.alloc 5144 (.st [.i 0,.i 0,.i 0])) [],
 op1 9 .mv [.t 23],
 ⟨none,.store 3,[.t 10,.t 25],none⟩] [23,24,25])
 (.region false [op1 26 .mv [.t 8],
 op1 27 .mv [.t 9],
 op1 28 (.fld 0 1 false) [.t 10],
 op1 29 (.load 1 false) [.t 28],
 op1 30 (.fld 2 1 false) [.t 10],
 op1 31 (.load 1 false) [.t 30],
 op1 32 (.fld 1 1 false) [.t 10],
 op1 33 (.load 1 false) [.t 32],
 op1 34 (.build [.i 0,.i 0,.i 0] [(0,1),(1,1),(2,1)]) [.t 29,.t 31,.t 33],
 op1 35 (.idxa 3) [.t 26,.t 27],
 ⟨none,.store 3,[.t 35,.t 34],none⟩] [9,10,26,27,28,29,30,31,32,33,34,35])))
 (.region false [op1 36 (.bin .add) [.t 21,.c (.i 1)],
 op1 21 .mv [.t 36]] [36]))))
def F_impl_TurnedPlan_W0 : LC := .loop F_impl_TurnedPlan_L0
def F_impl_TurnedPlan : LF :=
 { nparams := 3,results := [.t 6,.t 7],body :=
 (.seq
 (.region false [op1 6 (.newnil 3096) [],
 op1 7 .mv [.c (.b false)]] [6,7])
 (.seq
 (.seq
 (.region false [op1 11 .mv [.t 0],
 op1 12 .mv [.t 1],
 op1 13 .mv [.t 2],
 op1 14 (.call n_impl_PlanOk 7168) [.t 11,.t 12,.t 13],
 op1 15 (.un .not) [.t 14]] [0,1,11,12,13,14])
 (.cond (.t 15) [15]
 (.seq
 (.region false [op1 6 (.newnil 3096) [],
 op1 7 .mv [.c (.b false)]] [2])
 .ret)
 .skip))
 (.seq
 (.region false [op1 16 .mv [.t 2],
 op1 17 .len [.t 16],
 op1 18 (.make 9240 3 (.st [.i 0,.i 0,.i 0])) [.t 17,.t 17],
 op1 8 .mv [.t 18]] [16,17,18])
 (.seq
 (.seq
 (.region false [op1 19 .mv [.t 2],
 op1 20 .len [.t 19],
 op1 21 .mv [.c (.i 0)]] [2])
 (.block 0
 F_impl_TurnedPlan_W0))
 (.seq
 (.region false [op1 37 .mv [.t 8],
 op1 6 .mv [.t 37],
 op1 7 .mv [.c (.b true)]] [8,19,20,21,37])
 .ret))))) }
/-- spec.TurnedPlan -/
def F_spec_TurnedPlan_L0 : LC :=
 (.seq
 (.seq
 (.region false [op1 17 .mv [.t 9],
 op1 18 .mv [.t 2],
 op1 19 .len [.t 18],
 op1 20 (.bin .lss) [.t 17,.t 19]] [17,18,19])
 (.cond (.t 20) [20]
 .skip
 (.exit 0)))
 (.seq
 (.block 1
 (.region true [op1 23 .mv [.t 8],
 op1 24 .mv [.t 2],
 op1 25 .mv [.t 9],
 op1 26 (.idxa 3) [.t 24,.t 25],
 op1 27 (.fld 0 1 false) [.t 26],
 op1 28 (.load 1 false) [.t 27],
 op1 29 .mv [.t 2],
 op1 30 .mv [.t 9],
 op1 31 (.idxa 3) [.t 29,.t 30],
 op1 32 (.fld 2 1 false) [.t 31],
 op1 33 (.load 1 false) [.t 32],
 op1 34 .mv [.t 2],
 op1 35 .mv [.t 9],
 op1 36 (.idxa 3) [.t 34,.t 35],
 op1 37 (.fld 1 1 false) [.t 36],
 op1 38 (.load 1 false) [.t 37],
 op1 39 (.build [.i 0,.i 0,.i 0] [(0,1),(1,1),(2,1)]) [.t 28,.t 33,.t 38],
 op1 40 (.bslice 20504 1 3 (.st [.i 0,.i 0,.i 0]) [0]) [.t 39],
 op1 41 (.app 21016 3) [.t 23,.t 40],
 op1 8 .mv [.t 41]] [23,24,25,26,27,28,29,30,31,32,33,34,35,36,37,38,39,40,41]))
 (.region false [op1 21 .mv [.t 9],
 op1 22 (.bin .add) [.t 21,.c (.i 1)],
 op1 9 .mv [.t 22]] [21,22])))
def F_spec_TurnedPlan_W0 : LC := .loop F_spec_TurnedPlan_L0
def F_spec_TurnedPlan : LF :=
 { nparams := 3,results := [.t 6,.t 7],body :=
 (.seq
 (.region false [op1 6 (.newnil 3096) [],
 op1 7 .mv [.c (.b false)]] [6,7])
 (.seq
 (.seq
 (.region false [op1 10 .mv [.t 0],
 op1 11 .mv [.t 1],
 op1 12 .mv [.t 2],
 op1 13 (.call n_spec_PlanOk 6656) [.t 10,.t 11,.t 12],
 op1 14 (.un .not) [.t 13]] [0,1,10,11,12,13])
 (.cond (.t 14) [14]
 (.seq
 (.region false [op1 15 (.bslice 7704 0 3 (.st [.i 0,.i 0,.i 0]) []) [],
 op1 6 .mv [.t 15],
 op1 7 .mv [.c (.b false)]] [2,15])
 .ret)
 .skip))
 (.seq
 (.region false [op1 16 (.bslice 8216 0 3 (.st [.i 0,.i 0,.i 0]) []) [],
 op1 8 .mv [.t 16]] [16])
 (.seq
 (.seq
 (.region false [op1 9 .mv [.c (.i 0)]] [])
 (.block 0
 F_spec_TurnedPlan_W0))
 (.seq
 (.region false [op1 42 .mv [.t 8],
 op1 6 .mv [.t 42],
 op1 7 .mv [.c (.b true)]] [2,8,9,42])
 .ret))))) }
/-- impl.StopsOf -/
def F_impl_StopsOf : LF :=
 { nparams := 4,results := [.t 8],body :=
 (.seq
 (.region false [op1 7 (.box 3592) [.t 3],
 op1 8 .mv [.c (.i 0)]] [3,8])
 (.ghost (.close_ 7)
 (.seq
 (.seq
 (.region false [op1 11 .mv [.t 0],
 op1 12 .mv [.t 1],
 op1 13 .mv [.t 2],
 op1 14 (.call n_impl_PlanOk 7168) [.t 11,.t 12,.t 13],
 op1 15 (.un .not) [.t 14],
 op1 16 .mv [.t 15],
 op2 17 (.load 1 false) [.t 7] 16 false,
 op2 18 (.call n_impl_isWithin 9216) [.t 17,.c (.i 0),.c (.i 1)] 16 false,
 op2 19 (.un .not) [.t 18] 16 false,
 op1 20 .pick [.t 16,.c (.b true),.t 19]] [11,12,13,14,15,16,17,18,19])
 (.cond (.t 20) [20]
 (.seq
 (.region false [op1 8 .mv [.c (.i (-1))]] [0,1,2,7])
 .ret)
 .skip))
 (.seq
 (.region false [op1 21 (.mkfn (mkNo n_impl_StopsOf_1 0)) [.t 7],
 op1 9 .mv [.t 21]] [7,21])
 (.seq
 (.region false [op1 10 .mv [.c (.fn n_impl_StopsOf_2 [])]] [])
 (.seq
 (.region false [op1 22 .mv [.t 2],
 op1 23 .mv [.t 2],
 op1 24 (.call n_impl_firstOf 12288) [.t 23],
 op1 25 .mv [.t 0],
 op1 26 .mv [.t 1],
 op1 27 (.call n_impl_startOf 13824) [.t 25,.t 26],
 op1 28 .mv [.t 9],
 op1 29 .mv [.t 10],
 op1 30 (.call n_impl_foldPlan_int 15360) [.t 22,.t 24,.t 27,.t 28,.t 29],
 op1 8 .mv [.t 30]] [0,1,2,9,10,22,23,24,25,26,27,28,29,30])
 .ret)))))) }
/-- spec.StopsOf -/
def F_spec_StopsOf_L0 : LC :=
 (.seq
 (.seq
 (.region false [op1 26 .mv [.t 11],
 op1 27 .mv [.t 9],
 op1 28 .lens [.t 27],
 op1 29 (.bin .lss) [.t 26,.t 28]] [26,27,28])
 (.cond (.t 29) [29]
 .skip
 (.exit 0)))
 (.seq
 (.block 1
 (.seq
 (.region false [op1 32 .mv [.t 9],
 op1 33 .mv [.t 11],
 op1 34 .idx [.t 32,.t 33],
 op1 35 .mv [.t 3],
 op1 36 (.bin .add) [.c (.i 48),.t 35],
 op1 37 (.conv .i2b 18944) [.t 36],
 op1 38 (.bin .eql) [.t 34,.t 37]] [32,33,34,35,36,37])
 (.cond (.t 38) [38]
 (.region false [op1 39 .mv [.t 10],
 op1 40 (.bin .add) [.t 39,.c (.i 1)],
 op1 10 .mv [.t 40]] [39,40])
 .skip)))
 (.region false [op1 30 .mv [.t 11],
 op1 31 (.bin .add) [.t 30,.c (.i 1)],
 op1 11 .mv [.t 31]] [30,31])))
def F_spec_StopsOf_W0 : LC := .loop F_spec_StopsOf_L0
def F_spec_StopsOf : LF :=
 { nparams := 4,results := [.t 8],body :=
 (.seq
 (.region false [op1 8 .mv [.c (.i 0)]] [8])
 (.seq
 (.seq
 (.region false [op1 12 .mv [.t 0],
 op1 13 .mv [.t 1],
 op1 14 .mv [.t 2],
 op1 15 (.call n_spec_PlanOk 7680) [.t 12,.t 13,.t 14],
 op1 16 (.un .not) [.t 15],
 op1 17 .mv [.t 16],
 op2 18 .mv [.t 3] 17 false,
 op2 19 (.call n_spec_l1In 9728) [.t 18,.c (.i 0),.c (.i 1)] 17 false,
 op2 20 (.un .not) [.t 19] 17 false,
 op1 21 .pick [.t 17,.c (.b true),.t 20]] [12,13,14,15,16,17,18,19,20])
 (.cond (.t 21) [21]
 (.seq
 (.region false [op1 8 .mv [.c (.i (-1))]] [0,1,2,3])
 .ret)
 .skip))
 (.seq
 (.region false [op1 22 .mv [.t 0],
 op1 23 .mv [.t 1],
 op1 24 .mv [.t 2],
 op1 25 (.call n_spec_PlanText 12800) [.t 22,.t 23,.t 24],
 op1 9 .mv [.t 25]] [0,1,2,22,23,24,25])
 (.seq
 (.region false [op1 10 .mv [.c (.i 0)]] [])
 (.seq
 (.seq
 (.region false [op1 11 .mv [.c (.i 0)]] [])
 (.block 0
 F_spec_StopsOf_W0))
 (.seq
 (.region false [op1 41 .mv [.t 10],
 op1 8 .mv [.t 41]] [3,9,10,11,41])
 .ret)))))) }
/-- spec.TermOk -/
def F_spec_TermOk_L0 : LC :=
 (.seq
 (.seq
 (.region false [op1 7 .mv [.t 6],
 op1 8 .mv [.t 1],
 op1 9 .len [.t 8],
 op1 10 (.bin .lss) [.t 7,.t 9]] [7,8,9])
 (.cond (.t 10) [10]
 .skip
 (.exit 0)))
 (.seq
 (.block 1
 (.block 2
 (.seq
 (.region false [op1 14 .mv [.t 1],
 op1 15 .mv [.t 6],
 op1 16 (.idxa 2) [.t 14,.t 15],
 op1 17 (.fld 0 1 false) [.t 16],
 op1 18 (.load 1 false) [.t 17],
 op1 19 (.bin .eql) [.t 18,.c (.i 0)],
 op1 20 .mv [.t 19],
 op2 21 .mv [.t 1] 20 true,
 op2 22 .mv [.t 6] 20 true,
 op2 23 (.idxa 2) [.t 21,.t 22] 20 true,
 op2 24 (.fld 1 1 false) [.t 23] 20 true,
 op2 25 (.load 1 false) [.t 24] 20 true,
 op2 26 (.bin .geq) [.t 25,.c (.i 0)] 20 true,
 op1 27 .pick [.t 20,.t 26,.c (.b false)],
 op1 28 .mv [.t 27],
 op2 29 .mv [.t 1] 28 true,
 op2 30 .mv [.t 6] 28 true,
 op2 31 (.idxa 2) [.t 29,.t 30] 28 true,
 op2 32 (.fld 1 1 false) [.t 31] 28 true,
 op2 33 (.load 1 false) [.t 32] 28 true,
 op2 34 .mv [.t 0] 28 true,
 op2 35 (.bin .lss) [.t 33,.t 34] 28 true,
 op1 36 .pick [.t 28,.t 35,.c (.b false)],
 op1 13 .mv [.t 36]] [14,15,16,17,18,19,20,21,22,23,24,25,26,27,28,29,30,31,32,33,34,35,36])
 (.cond (.t 13) [13]
 (.region false [op1 37 .mv [.t 5],
 op1 38 (.bin .add) [.t 37,.c (.i 1)],
 op1 5 .mv [.t 38]] [37,38])
 (.seq
 (.region false [op1 40 .mv [.t 1],
 op1 41 .mv [.t 6],
 op1 42 (.idxa 2) [.t 40,.t 41],
 op1 43 (.load 2 true) [.t 42],
 op1 44 (.build [.i 0,.i 0] [(0,1)]) [.c (.i 1)],
 op1 45 (.eqs false 2) [.t 43,.t 44],
 op1 46 .mv [.t 45],
 op2 47 .mv [.t 5] 46 true,
 op2 48 (.bin .geq) [.t 47,.c (.i 1)] 46 true,
 op1 49 .pick [.t 46,.t 48,.c (.b false)],
 op1 39 .mv [.t 49]] [40,41,42,43,44,45,46,47,48,49])
 (.cond (.t 39) [39]
 .skip
 (.seq
 (.region false [op1 51 .mv [.t 1],
 op1 52 .mv [.t 6],
 op1 53 (.idxa 2) [.t 51,.t 52],
 op1 54 (.load 2 true) [.t 53],
 op1 55 (.build [.i 0,.i 0] [(0,1)]) [.c (.i 2)],
 op1 56 (.eqs false 2) [.t 54,.t 55],
 op1 57 .mv [.t 56],
 op2 58 .mv [.t 1] 57 false,
 op2 59 .mv [.t 6] 57 false,
 op2 60 (.idxa 2) [.t 58,.t 59] 57 false,
 op2 61 (.load 2 true) [.t 60] 57 false,
 op2 62 (.build [.i 0,.i 0] [(0,1)]) [.c (.i 3)] 57 false,
 op2 63 (.eqs false 2) [.t 61,.t 62] 57 false,
 op1 64 .pick [.t 57,.c (.b true),.t 63],
 op1 65 .mv [.t 64],
 op2 66 .mv [.t 5] 65 true,
 op2 67 (.bin .geq) [.t 66,.c (.i 2)] 65 true,
 op1 68 .pick [.t 65,.t 67,.c (.b false)],
 op1 50 .mv [.t 68]] [51,52,53,54,55,56,57,58,59,60,61,62,63,64,65,66,67,68])
 (.cond (.t 50) [50]
 (.region false [op1 69 .mv [.t 5],
 op1 70 (.bin .sub) [.t 69,.c (.i 1)],
 op1 5 .mv [.t 70]] [69,70])
 (.seq
 (.region false [op1 4 .mv [.c (.b false)]] [0,1,5,6])
 .ret)))))))))
 (.region false [op1 11 .mv [.t 6],
 op1 12 (.bin .add) [.t 11,.c (.i 1)],
 op1 6 .mv [.t 12]] [11,12])))
def F_spec_TermOk_W0 : LC := .loop F_spec_TermOk_L0
def F_spec_TermOk : LF :=
 { nparams := 2,results := [.t 4],body :=
 (.seq
 (.region false [op1 4 .mv [.c (.b false)]] [4])
 (.seq
 (.region false [op1 5 .mv [.c (.i 0)]] [])
 (.seq
 (.seq
 (.region false [op1 6 .mv [.c (.i 0)]] [])
 (.block 0
 F_spec_TermOk_W0))
 (.seq
 (.region false [op1 71 .mv [.t 0],
 op1 72 (.call n_spec_l1In 36864) [.t 71,.c (.i 1),.c (.i 5)],
 op1 73 .mv [.t 72],
 op2 74 .mv [.t 5] 73 true,
 op2 75 (.bin .eql) [.t 74,.c (.i 1)] 73 true,
 op1 76 .pick [.t 73,.t 75,.c (.b false)],
 op1 77 .mv [.t 76],
 op2 78 .mv [.t 1] 77 true,
 op2 79 .len [.t 78] 77 true,
 op2 80 (.bin .leq) [.t 79,.c (.i 13)] 77 true,
 op1 81 .pick [.t 77,.t 80,.c (.b false)],
 op1 4 .mv [.t 81]] [0,1,5,6,71,72,73,74,75,76,77,78,79,80,81])
 .ret)))) }
/-- laws.szMarkS -/
def F_laws_szMarkS : LF :=
 { nparams := 2,results := [.t 4],body :=
 (.seq
 (.region false [op1 4 .mv [.c (.i 0)]] [4])
 (.seq
 (.region false [op1 5 .mv [.t 1],
 op1 6 .mv [.t 0],
 op1 7 .len [.t 6],
 op1 8 (.bin .sub) [.t 5,.t 7],
 op1 1 .mv [.t 8]] [0,5,6,7,8])
 (.seq
 (.seq
 (.region false [op1 9 .mv [.t 1],
 op1 10 (.bin .lss) [.t 9,.c (.i 0)]] [9])
 (.cond (.t 10) [10]
 (.seq
 (.region false [op1 4 .mv [.c (.i (-1))]] [1])
 .ret)
 .skip))
 (.seq
 (.region false [op1 11 .mv [.t 1],
 op1 4 .mv [.t 11]] [1,11])
 .ret)))) }
/-- laws.szChoiceS -/
def F_laws_szChoiceS : LF :=
 { nparams := 2,results := [.t 4],body :=
 (.seq
 (.region false [op1 4 .mv [.c (.i 0)]] [4])
 (.seq
 (.region false [op1 5 .mv [.t 1],
 op1 6 .mv [.t 0],
 op1 7 .len [.t 6],
 op1 8 (.bin .sub) [.t 5,.t 7],
 op1 1 .mv [.t 8]] [0,5,6,7,8])
 (.seq
 (.seq
 (.region false [op1 9 .mv [.t 1],
 op1 10 (.bin .lss) [.t 9,.c (.i 0)]] [9])
 (.cond (.t 10) [10]
 (.seq
 (.region false [op1 4 .mv [.c (.i (-1))]] [1])
 .ret)
 .skip))
 (.seq
 (.region false [op1 11 .mv [.t 1],
 op1 4 .mv [.t 11]] [1,11])
 .ret)))) }
/-- laws.toMarkS -/
def F_laws_toMarkS_L0 : LC :=
 (.seq
 (.seq
 (.region false [op1 8 .mv [.t 4],
 op1 9 .mv [.t 0],
 op1 10 .len [.t 9],
 op1 11 (.bin .lss) [.t 8,.t 10]] [8,9,10])
 (.cond (.t 11) [11]
 .skip
 (.exit 0)))
 (.seq
 (.block 1
 (.region false [op1 14 .mv [.t 3],
 op1 15 .mv [.t 4],
 op1 16 .mv [.t 0],
 op1 17 .mv [.t 4],
 op1 18 (.idxa 2) [.t 16,.t 17],
 op1 19 (.load 2 true) [.t 18],
 op1 20 (.call n_laws_toMark 10240) [.t 19],
 op1 21 (.idxa 2) [.t 14,.t 15],
 ⟨none,.store 2,[.t 21,.t 20],none⟩] [14,15,16,17,18,19,20,21]))
 (.region false [op1 12 .mv [.t 4],
 op1 13 (.bin .add) [.t 12,.c (.i 1)],
 op1 4 .mv [.t 13]] [12,13])))
def F_laws_toMarkS_W0 : LC := .loop F_laws_toMarkS_L0
def F_laws_toMarkS : LF :=
 { nparams := 1,results := [.t 2],body :=
 (.seq
 (.region false [op1 2 (.newnil 1040) []] [2])
 (.seq
 (.region false [op1 5 .mv [.t 0],
 op1 6 .len [.t 5],
 op1 7 (.make 3600 2 (.st [.i 0,.i 0])) [.t 6,.t 6],
 op1 3 .mv [.t 7]] [5,6,7])
 (.seq
 (.seq
 (.region false [op1 4 .mv [.c (.i 0)]] [])
 (.block 0
 F_laws_toMarkS_W0))
 (.seq
 (.region false [op1 22 .mv [.t 3],
 op1 2 .mv [.t 22]] [0,3,4,22])
 .ret)))) }
/-- laws.toChoiceS -/
def F_laws_toChoiceS_L0 : LC :=
 (.seq
 (.seq
 (.region false [op1 8 .mv [.t 4],
 op1 9 .mv [.t 0],
 op1 10 .len [.t 9],
 op1 11 (.bin .lss) [.t 8,.t 10]] [8,9,10])
 (.cond (.t 11) [11]
 .skip
 (.exit 0)))
 (.seq
 (.block 1
 (.region false [op1 14 .mv [.t 3],
 op1 15 .mv [.t 4],
 op1 16 .mv [.t 0],
 op1 17 .mv [.t 4],
 op1 18 (.idxa 3) [.t 16,.t 17],
 op1 19 (.load 3 true) [.t 18],
 op1 20 (.call n_laws_toChoice 10240) [.t 19],
 op1 21 (.idxa 3) [.t 14,.t 15],
 ⟨none,.store 3,[.t 21,.t 20],none⟩] [14,15,16,17,18,19,20,21]))
 (.region false [op1 12 .mv [.t 4],
 op1 13 (.bin .add) [.t 12,.c (.i 1)],
 op1 4 .mv [.t 13]] [12,13])))
def F_laws_toChoiceS_W0 : LC := .loop F_laws_toChoiceS_L0
def F_laws_toChoiceS : LF :=
 { nparams := 1,results := [.t 2],body :=
 (.seq
 (.region false [op1 2 (.newnil 1048) []] [2])
 (.seq
 (.region false [op1 5 .mv [.t 0],
 op1 6 .len [.t 5],
 op1 7 (.make 3608 3 (.st [.i 0,.i 0,.i 0])) [.t 6,.t 6],
 op1 3 .mv [.t 7]] [5,6,7])
 (.seq
 (.seq
 (.region false [op1 4 .mv [.c (.i 0)]] [])
 (.block 0
 F_laws_toChoiceS_W0))
 (.seq
 (.region false [op1 22 .mv [.t 3],
 op1 2 .mv [.t 22]] [0,3,4,22])
 .ret)))) }
/-- laws.eqMarkS -/
def F_laws_eqMarkS_L0 : LC :=
 (.seq
 (.seq
 (.region false [op1 11 .mv [.t 5],
 op1 12 .mv [.t 0],
 op1 13 .len [.t 12],
 op1 14 (.bin .lss) [.t 11,.t 13]] [11,12,13])
 (.cond (.t 14) [14]
 .skip
 (.exit 0)))
 (.seq
 (.block 1
 (.seq
 (.region true [op1 17 .mv [.t 0],
 op1 18 .mv [.t 5],
 op1 19 (.idxa 2) [.t 17,.t 18],
 op1 20 (.load 2 true) [.t 19],
 op1 21 .mv [.t 1],
 op1 22 .mv [.t 5],
 op1 23 (.idxa 2) [.t 21,.t 22],
 op1 24 (.load 2 true) [.t 23],
 op1 25 (.call n_laws_eqMark 12800) [.t 20,.t 24],
 op1 26 (.un .not) [.t 25]] [17,18,19,20,21,22,23,24,25])
 (.cond (.t 26) [26]
 (.seq
 (.region false [op1 4 .mv [.c (.b false)]] [0,1,5])
 .ret)
 .skip)))
 (.region false [op1 15 .mv [.t 5],
 op1 16 (.bin .add) [.t 15,.c (.i 1)],
 op1 5 .mv [.t 16]] [15,16])))
def F_laws_eqMarkS_W0 : LC := .loop F_laws_eqMarkS_L0
def F_laws_eqMarkS : LF :=
 { nparams := 2,results := [.t 4],body :=
 (.seq
 (.region false [op1 4 .mv [.c (.b false)]] [4])
 (.seq
 (.seq
 (.region false [op1 6 .mv [.t 0],
 op1 7 .len [.t 6],
 op1 8 .mv [.t 1],
 op1 9 .len [.t 8],
 op1 10 (.bin .neq) [.t 7,.t 9]] [6,7,8,9])
 (.cond (.t 10) [10]
 (.seq
 (.region false [op1 4 .mv [.c (.b false)]] [0,1])
 .ret)
 .skip))
 (.seq
 (.seq
 (.region false [op1 5 .mv [.c (.i 0)]] [])
 (.block 0
 F_laws_eqMarkS_W0))
 (.seq
 (.region false [op1 4 .mv [.c (.b true)]] [0,1,5])
 .ret)))) }
/-- laws.eqChoiceS -/
def F_laws_eqChoiceS_L0 : LC :=
 (.seq
 (.seq
 (.region false [op1 11 .mv [.t 5],
 op1 12 .mv [.t 0],
 op1 13 .len [.t 12],
 op1 14 (.bin .lss) [.t 11,.t 13]] [11,12,13])
 (.cond (.t 14) [14]
 .skip
 (.exit 0)))
 (.seq
 (.block 1
 (.seq
 (.region true [op1 17 .mv [.t 0],
 op1 18 .mv [.t 5],
 op1 19 (.idxa 3) [.t 17,.t 18],
 op1 20 (.load 3 true) [.t 19],
 op1 21 .mv [.t 1],
 op1 22 .mv [.t 5],
 op1 23 (.idxa 3) [.t 21,.t 22],
 op1 24 (.load 3 true) [.t 23],
 op1 25 (.call n_laws_eqChoice 12800) [.t 20,.t 24],
 op1 26 (.un .not) [.t 25]] [17,18,19,20,21,22,23,24,25])
 (.cond (.t 26) [26]
 (.seq
 (.region false [op1 4 .mv [.c (.b false)]] [0,1,5])
 .ret)
 .skip)))
 (.region false [op1 15 .mv [.t 5],
 op1 16 (.bin .add) [.t 15,.c (.i 1)],
 op1 5 .mv [.t 16]] [15,16])))
def F_laws_eqChoiceS_W0 : LC := .loop F_laws_eqChoiceS_L0
def F_laws_eqChoiceS : LF :=
 { nparams := 2,results := [.t 4],body :=
 (.seq
 (.region false [op1 4 .mv [.c (.b false)]] [4])
 (.seq
 (.seq
 (.region false [op1 6 .mv [.t 0],
 op1 7 .len [.t 6],
 op1 8 .mv [.t 1],
 op1 9 .len [.t 8],
 op1 10 (.bin .neq) [.t 7,.t 9]] [6,7,8,9])
 (.cond (.t 10) [10]
 (.seq
 (.region false [op1 4 .mv [.c (.b false)]] [0,1])
 .ret)
 .skip))
 (.seq
 (.seq
 (.region false [op1 5 .mv [.c (.i 0)]] [])
 (.block 0
 F_laws_eqChoiceS_W0))
 (.seq
 (.region false [op1 4 .mv [.c (.b true)]] [0,1,5])
 .ret)))) }
/-- laws.markMarkS -/
def F_laws_markMarkS_L0 : LC :=
 (.seq
 (.seq
 (.region false [op1 6 .mv [.t 5],
 op1 7 .mv [.t 0],
 op1 8 .len [.t 7],
 op1 9 (.bin .lss) [.t 6,.t 8]] [6,7,8])
 (.cond (.t 9) [9]
 .skip
 (.exit 0)))
 (.seq
 (.block 1
 (.seq
 (.region false [op1 12 .mv [.t 0],
 op1 13 .mv [.t 5],
 op1 14 .mv [.t 1],
 op1 15 (.idxa 2) [.t 12,.t 13],
 op1 16 (.fld 0 1 false) [.t 15],
 ⟨none,.store 1,[.t 16,.t 14],none⟩] [12,13,14,15,16])
 (.seq
 (.region false [op1 17 .mv [.t 1],
 op1 18 (.bin .add) [.t 17,.c (.i 1)],
 op1 1 .mv [.t 18]] [17,18])
 (.seq
 (.region false [op1 19 .mv [.t 0],
 op1 20 .mv [.t 5],
 op1 21 .mv [.t 1],
 op1 22 (.idxa 2) [.t 19,.t 20],
 op1 23 (.fld 1 1 false) [.t 22],
 ⟨none,.store 1,[.t 23,.t 21],none⟩] [19,20,21,22,23])
 (.region false [op1 24 .mv [.t 1],
 op1 25 (.bin .add) [.t 24,.c (.i 1)],
 op1 1 .mv [.t 25]] [24,25])))))
 (.region false [op1 10 .mv [.t 5],
 op1 11 (.bin .add) [.t 10,.c (.i 1)],
 op1 5 .mv [.t 11]] [10,11])))
def F_laws_markMarkS_W0 : LC := .loop F_laws_markMarkS_L0
def F_laws_markMarkS : LF :=
 { nparams := 2,results := [.t 4],body :=
 (.seq
 (.region false [op1 4 .mv [.c (.i 0)]] [4])
 (.seq
 (.seq
 (.region false [op1 5 .mv [.c (.i 0)]] [])
 (.block 0
 F_laws_markMarkS_W0))
 (.seq
 (.region false [op1 26 .mv [.t 1],
 op1 4 .mv [.t 26]] [1,5,26])
 .ret))) }
/-- laws.markChoiceS -/
def F_laws_markChoiceS_L0 : LC :=
 (.seq
 (.seq
 (.region false [op1 6 .mv [.t 5],
 op1 7 .mv [.t 0],
 op1 8 .len [.t 7],
 op1 9 (.bin .lss) [.t 6,.t 8]] [6,7,8])
 (.cond (.t 9) [9]
 .skip
 (.exit 0)))
 (.seq
 (.block 1
 (.seq
 (.region false [op1 12 .mv [.t 0],
 op1 13 .mv [.t 5],
 op1 14 .mv [.t 1],
 op1 15 (.idxa 3) [.t 12,.t 13],
 op1 16 (.fld 0 1 false) [.t 15],
 ⟨none,.store 1,[.t 16,.t 14],none⟩] [12,13,14,15,16])
 (.seq
 (.region false [op1 17 .mv [.t 1],
 op1 18 (.bin .add) [.t 17,.c (.i 1)],
 op1 1 .mv [.t 18]] [17,18])
 (.seq
 (.region false [op1 19 .mv [.t 0],
 op1 20 .mv [.t 5],
 op1 21 .mv [.t 1],
 op1 22 (.idxa 3) [.t 19,.t 20],
 op1 23 (.fld 1 1 false) [.t 22],
 ⟨none,.store 1,[.t 23,.t 21],none⟩] [19,20,21,22,23])
 (.seq
 (.region false [op1 24 .mv [.t 1],
 op1 25 (.bin .add) [.t 24,.c (.i 1)],
 op1 1 .mv [.t 25]] [24,25])
 (.seq
 (.region false [op1 26 .mv [.t 0],
 op1 27 .mv [.t 5],
 op1 28 .mv [.t 1],
 op1 29 (.idxa 3) [.t 26,.t 27],
 op1 30 (.fld 2 1 false) [.t 29],
 ⟨none,.store 1,[.t 30,.t 28],none⟩] [26,27,28,29,30])
 (.region false [op1 31 .mv [.t 1],
 op1 32 (.bin .add) [.t 31,.c (.i 1)],
 op1 1 .mv [.t 32]] [31,32])))))))
 (.region false [op1 10 .mv [.t 5],
 op1 11 (.bin .add) [.t 10,.c (.i 1)],
 op1 5 .mv [.t 11]] [10,11])))
def F_laws_markChoiceS_W0 : LC := .loop F_laws_markChoiceS_L0
def F_laws_markChoiceS : LF :=
 { nparams := 2,results := [.t 4],body :=
 (.seq
 (.region false [op1 4 .mv [.c (.i 0)]] [4])
 (.seq
 (.seq
 (.region false [op1 5 .mv [.c (.i 0)]] [])
 (.block 0
 F_laws_markChoiceS_W0))
 (.seq
 (.region false [op1 33 .mv [.t 1],
 op1 4 .mv [.t 33]] [1,5,33])
 .ret))) }
/-- laws.heldChoiceS -/
def F_laws_heldChoiceS_L0 : LC :=
 (.seq
 (.seq
 (.region false [op1 6 .mv [.t 5],
 op1 7 .mv [.t 0],
 op1 8 .len [.t 7],
 op1 9 (.bin .lss) [.t 6,.t 8]] [6,7,8])
 (.cond (.t 9) [9]
 .skip
 (.exit 0)))
 (.seq
 (.block 1
 (.seq
 (.seq
 (.region false [op1 12 .mv [.t 0],
 op1 13 .mv [.t 5],
 op1 14 (.idxa 3) [.t 12,.t 13],
 op1 15 (.fld 0 1 false) [.t 14],
 op1 16 (.load 1 false) [.t 15],
 op1 17 .mv [.t 1],
 op1 18 (.bin .neq) [.t 16,.t 17]] [12,13,14,15,16,17])
 (.cond (.t 18) [18]
 (.seq
 (.region false [op1 4 .mv [.c (.i (-1))]] [0,1,5])
 .ret)
 .skip))
 (.seq
 (.region false [op1 19 .mv [.t 1],
 op1 20 (.bin .add) [.t 19,.c (.i 1)],
 op1 1 .mv [.t 20]] [19,20])
 (.seq
 (.seq
 (.region false [op1 21 .mv [.t 0],
 op1 22 .mv [.t 5],
 op1 23 (.idxa 3) [.t 21,.t 22],
 op1 24 (.fld 1 1 false) [.t 23],
 op1 25 (.load 1 false) [.t 24],
 op1 26 .mv [.t 1],
 op1 27 (.bin .neq) [.t 25,.t 26]] [21,22,23,24,25,26])
 (.cond (.t 27) [27]
 (.seq
 (.region false [op1 4 .mv [.c (.i (-1))]] [0,1,5])
 .ret)
 .skip))
 (.seq
 (.region false [op1 28 .mv [.t 1],
 op1 29 (.bin .add) [.t 28,.c (.i 1)],
 op1 1 .mv [.t 29]] [28,29])
 (.seq
 (.seq
 (.region false [op1 30 .mv [.t 0],
 op1 31 .mv [.t 5],
 op1 32 (.idxa 3) [.t 30,.t 31],
 op1 33 (.fld 2 1 false) [.t 32],
 op1 34 (.load 1 false) [.t 33],
 op1 35 .mv [.t 1],
 op1 36 (.bin .neq) [.t 34,.t 35]] [30,31,32,33,34,35])
 (.cond (.t 36) [36]
 (.seq
 (.region false [op1 4 .mv [.c (.i (-1))]] [0,1,5])
 .ret)
 .skip))
 (.region false [op1 37 .mv [.t 1],
 op1 38 (.bin .add) [.t 37,.c (.i 1)],
 op1 1 .mv [.t 38]] [37,38])))))))
 (.region false [op1 10 .mv [.t 5],
 op1 11 (.bin .add) [.t 10,.c (.i 1)],
 op1 5 .mv [.t 11]] [10,11])))
def F_laws_heldChoiceS_W0 : LC := .loop F_laws_heldChoiceS_L0
def F_laws_heldChoiceS : LF :=
 { nparams := 2,results := [.t 4],body :=
 (.seq
 (.region false [op1 4 .mv [.c (.i 0)]] [4])
 (.seq
 (.seq
 (.region false [op1 5 .mv [.c (.i 0)]] [])
 (.block 0
 F_laws_heldChoiceS_W0))
 (.seq
 (.region false [op1 39 .mv [.t 1],
 op1 4 .mv [.t 39]] [0,1,5,39])
 .ret))) }
/-- impl.firstOf -/
def F_impl_firstOf : LF :=
 { nparams := 1,results := [.t 2],body :=
 (.seq
 (.region false [op1 2 .mv [.c (.i 0)]] [2])
 (.seq
 (.seq
 (.region false [op1 3 .mv [.t 0],
 op1 4 .len [.t 3],
 op1 5 (.bin .eql) [.t 4,.c (.i 0)]] [0,3,4])
 (.cond (.t 5) [5]
 (.seq
 (.region false [op1 2 .mv [.c (.i (-1))]] [])
 .ret)
 .skip))
 (.seq
 (.region false [op1 2 .mv [.c (.i 0)]] [])
 .ret))) }
/-- impl.startOf -/
def F_impl_startOf : LF :=
 { nparams := 2,results := [.c 4 4 true],body :=
 (.seq
 (.region false [op1 4 (.alloc 2080 (.st [.i 0,.i 0,.w (0#32),.w (0#32)])) []] [])
 (.seq
 (.region false [op1 5 .mv [.t 0],
 op1 6 .mv [.t 1],
 op1 7 (.call n_impl_trueStates 3584) [.t 6],
 op1 8 (.build [.i 0,.i 0,.w (0#32),.w (0#32)] [(0,1),(2,1),(3,1)]) [.t 5,.c (.w (4294967295#32)),.t 7],
 ⟨none,.store 4,[.t 4,.t 8],none⟩] [0,1,5,6,7,8])
 .ret)) }
/-- spec.PlanOk -/
def F_spec_PlanOk : LF :=
 { nparams := 3,results := [.t 6],body :=
 (.seq
 (.region false [op1 6 .mv [.c (.b false)]] [6])
 (.seq
 (.seq
 (.region false [op1 10 .mv [.t 0],
 op1 11 .mv [.t 1],
 op1 12 (.call n_spec_TermOk 6144) [.t 10,.t 11],
 op1 13 (.un .not) [.t 12],
 op1 14 .mv [.t 13],
 op2 15 .mv [.t 2] 14 false,
 op2 16 .len [.t 15] 14 false,
 op2 17 (.bin .gtr) [.t 16,.c (.i 31)] 14 false,
 op1 18 .pick [.t 14,.c (.b true),.t 17]] [10,11,12,13,14,15,16,17])
 (.cond (.t 18) [18]
 (.seq
 (.region false [op1 6 .mv [.c (.b false)]] [0,1,2])
 .ret)
 .skip))
 (.seq
 (.region false [op1 7 .mv [.c (.i 0)]] [])
 (.seq
 (.seq
 (.region false [op1 19 .mv [.t 2],
 op1 20 .len [.t 19],
 op1 21 (.bin .eql) [.t 20,.c (.i 0)]] [19,20])
 (.cond (.t 21) [21]
 (.region false [op1 7 .mv [.c (.i (-1))]] [])
 .skip))
 (.seq
 (.region false [op1 23 .mv [.t 0],
 op1 24 .mv [.t 0],
 op1 25 .mv [.t 1],
 op1 26 (.call n_spec_l3Table 13312) [.t 24,.t 25],
 op1 27 .mv [.t 2],
 op1 28 .mv [.t 7],
 op1 29 .mv [.t 0],
 op1 30 (.call n_spec_l4None 15360) [.t 29],
 op1 31 (.call n_spec_l6Checks 15872) [.t 23,.t 26,.t 27,.t 28,.t 30],
 op1 22 .mv [.t 31],
 op1 32 (.ext 0) [.t 22],
 op1 33 (.ext 1) [.t 22],
 op1 8 .mv [.t 32],
 op1 9 .mv [.t 33]] [0,1,7,22,23,24,25,26,27,28,29,30,31,32,33])
 (.seq
 (.region false [op1 34 .mv [.t 9],
 op1 35 .mv [.t 34],
 op2 36 .mv [.t 8] 35 true,
 op2 37 .mv [.t 2] 35 true,
 op2 38 .len [.t 37] 35 true,
 op2 39 (.bin .eql) [.t 36,.t 38] 35 true,
 op1 40 .pick [.t 35,.t 39,.c (.b false)],
 op1 41 .mv [.t 40],
 op2 42 .mv [.t 2] 41 true,
 op2 43 (.call n_spec_l6Once 22016) [.t 42] 41 true,
 op1 44 .pick [.t 41,.t 43,.c (.b false)],
 op1 6 .mv [.t 44]] [2,8,9,34,35,36,37,38,39,40,41,42,43,44])
 .ret)))))) }
/-- spec.l11Text -/
def F_spec_l11Text : LF :=
 { nparams := 5,results := [.t 10],body :=
 (.seq
 (.region false [op1 10 .mv [.c (.s [])]] [10])
 (.seq
 (.seq
 (.region false [op1 14 .mv [.t 3],
 op1 15 (.bin .eql) [.t 14,.c (.i (-1))]] [14])
 (.cond (.t 15) [15]
 (.seq
 (.region false [op1 16 .mv [.t 0],
 op1 17 .mv [.t 1],
 op1 18 .mv [.t 4],
 op1 19 (.call n_spec_l3Forced 9728) [.t 16,.t 17,.t 18],
 op1 20 (.call n_spec_l1Number 10240) [.t 19],
 op1 10 .mv [.t 20]] [0,1,2,3,4,16,17,18,19,20])
 .ret)
 .skip))
 (.seq
 (.region false [op1 21 .mv [.t 2],
 op1 22 .mv [.t 3],
 op1 23 (.idxa 3) [.t 21,.t 22],
 op1 24 (.load 3 true) [.t 23],
 op1 11 (.alloc 5656 (.st [.i 0,.i 0,.i 0])) [],
 ⟨none,.store 3,[.t 11,.t 24],none⟩] [3,21,22,23,24])
 (.seq
 (.region false [op1 25 (.bslice 12808 0 1 (.i 0) []) [],
 op1 26 .mv [.t 4],
 op1 27 (.app 13832 1) [.t 25,.t 26],
 op1 12 .mv [.t 27]] [25,26,27])
 (.seq
 (.region false [op1 28 .mv [.t 12],
 op1 29 (.fld 0 1 false) [.t 11],
 op1 30 (.load 1 false) [.t 29],
 op1 31 (.idxa 1) [.t 28,.t 30],
 ⟨none,.store 1,[.t 31,.c (.i 0)],none⟩] [28,29,30,31])
 (.seq
 (.region false [op1 32 (.bslice 16392 0 1 (.i 0) []) [],
 op1 33 .mv [.t 4],
 op1 34 (.app 17416 1) [.t 32,.t 33],
 op1 13 .mv [.t 34]] [4,32,33,34])
 (.seq
 (.region false [op1 35 .mv [.t 13],
 op1 36 (.fld 0 1 false) [.t 11],
 op1 37 (.load 1 false) [.t 36],
 op1 38 (.idxa 1) [.t 35,.t 37],
 ⟨none,.store 1,[.t 38,.c (.i 1)],none⟩] [35,36,37,38])
 (.seq
 (.region true [op1 39 (.fld 0 1 false) [.t 11],
 op1 40 (.load 1 false) [.t 39],
 op1 41 (.fld 0 1 false) [.t 11],
 op1 42 (.load 1 false) [.t 41],
 op1 43 (.bin .add) [.t 42,.c (.i 1)],
 op1 44 (.slices true true) [.c (.s [97,98,99,100,101]),.t 40,.t 43],
 op1 45 (.bin .add) [.t 44,.c (.s [40])],
 op1 46 .mv [.t 0],
 op1 47 .mv [.t 1],
 op1 48 .mv [.t 2],
 op1 49 (.fld 1 1 false) [.t 11],
 op1 50 (.load 1 false) [.t 49],
 op1 51 .mv [.t 12],
 op1 52 (.call n_spec_l11Text 26624) [.t 46,.t 47,.t 48,.t 50,.t 51],
 op1 53 (.bin .add) [.t 45,.t 52],
 op1 54 (.bin .add) [.t 53,.c (.s [44])],
 op1 55 .mv [.t 0],
 op1 56 .mv [.t 1],
 op1 57 .mv [.t 2],
 op1 58 (.fld 2 1 false) [.t 11],
 op1 59 (.load 1 false) [.t 58],
 op1 60 .mv [.t 13],
 op1 61 (.call n_spec_l11Text 31232) [.t 55,.t 56,.t 57,.t 59,.t 60],
 op1 62 (.bin .add) [.t 54,.t 61],
 op1 63 (.bin .add) [.t 62,.c (.s [41])],
 op1 10 .mv [.t 63]] [0,1,2,11,12,13,39,40,41,42,43,44,45,46,47,48,49,50,51,52,53,54,55,56,57,58,59,60,61,62,63])
 .ret)))))))) }
/-- spec.l3Table -/
def F_spec_l3Table_L0 : LC :=
 (.seq
 (.seq
 (.region false [op1 7 .mv [.t 6],
 op1 8 .mv [.t 0],
 op1 9 (.bin .shl) [.c (.i 1),.t 8],
 op1 10 (.bin .lss) [.t 7,.t 9]] [7,8,9])
 (.cond (.t 10) [10]
 .skip
 (.exit 0)))
 (.seq
 (.block 1
 (.region false [op1 13 .mv [.t 5],
 op1 14 .mv [.t 1],
 op1 15 .mv [.t 6],
 op1 16 (.call n_spec_l3Value 8192) [.t 14,.t 15],
 op1 17 .mv [.t 6],
 op1 18 (.bin .shl) [.t 16,.t 17],
 op1 19 (.bin .or) [.t 13,.t 18],
 op1 5 .mv [.t 19]] [13,14,15,16,17,18,19]))
 (.region false [op1 11 .mv [.t 6],
 op1 12 (.bin .add) [.t 11,.c (.i 1)],
 op1 6 .mv [.t 12]] [11,12])))
def F_spec_l3Table_W0 : LC := .loop F_spec_l3Table_L0
def F_spec_l3Table : LF :=
 { nparams := 2,results := [.t 4],body :=
 (.seq
 (.region false [op1 4 .mv [.c (.i 0)]] [4])
 (.seq
 (.region false [op1 5 .mv [.c (.i 0)]] [])
 (.seq
 (.seq
 (.region false [op1 6 .mv [.c (.i 0)]] [])
 (.block 0
 F_spec_l3Table_W0))
 (.seq
 (.region false [op1 20 .mv [.t 5],
 op1 4 .mv [.t 20]] [0,1,5,6,20])
 .ret)))) }
/-- spec.l4None -/
def F_spec_l4None_L0 : LC :=
 (.seq
 (.seq
 (.region false [op1 6 .mv [.t 4],
 op1 7 .mv [.t 0],
 op1 8 (.bin .lss) [.t 6,.t 7]] [6,7])
 (.cond (.t 8) [8]
 .skip
 (.exit 0)))
 (.seq
 (.block 1
 (.region false [op1 11 .mv [.t 3],
 op1 12 (.bslice 6152 1 1 (.i 0) [0]) [.c (.i (-1))],
 op1 13 (.app 6664 1) [.t 11,.t 12],
 op1 3 .mv [.t 13]] [11,12,13]))
 (.region false [op1 9 .mv [.t 4],
 op1 10 (.bin .add) [.t 9,.c (.i 1)],
 op1 4 .mv [.t 10]] [9,10])))
def F_spec_l4None_W0 : LC := .loop F_spec_l4None_L0
def F_spec_l4None : LF :=
 { nparams := 1,results := [.t 2],body :=
 (.seq
 (.region false [op1 2 (.newnil 1032) []] [2])
 (.seq
 (.region false [op1 5 (.bslice 2568 0 1 (.i 0) []) [],
 op1 3 .mv [.t 5]] [5])
 (.seq
 (.seq
 (.region false [op1 4 .mv [.c (.i 0)]] [])
 (.block 0
 F_spec_l4None_W0))
 (.seq
 (.region false [op1 14 .mv [.t 3],
 op1 2 .mv [.t 14]] [0,3,4,14])
 .ret)))) }
/-- impl.pointsOf -/
def F_impl_pointsOf_L0 : LC :=
 (.seq
 (.region false [op1 35 (.bin .lss) [.t 34,.t 33]] [])
 (.seq
 (.cond (.t 35) [35]
 .skip
 (.exit 0))
 (.seq
 (.block 1
 (.seq
 (.region false [op1 36 .mv [.t 34],
 op1 37 (.idxa 3) [.t 32,.t 34],
 op1 38 (.load 3 true) [.t 37],
 op1 10 (.alloc 5144 (.st [.i 0,.i 0,.i 0])) [],
 op1 9 .mv [.t 36],
 ⟨none,.store 3,[.t 10,.t 38],none⟩] [36,37,38])
 (.seq
 (.region false [op1 39 .mv [.t 8],
 op1 40 .mv [.t 9],
 op1 41 (.idxa 4) [.t 39,.t 40],
 op1 42 (.load 4 true) [.t 41],
 op1 11 (.alloc 5664 (.st [.i 0,.i 0,.w (0#32),.w (0#32)])) [],
 ⟨none,.store 4,[.t 11,.t 42],none⟩] [39,40,41,42])
 (.seq
 (.region true [op1 43 (.load 4 true) [.t 11],
 op1 44 (.fld 0 1 false) [.t 10],
 op1 45 (.load 1 false) [.t 44],
 op1 46 (.call n_impl_point_canAsk 23552) [.t 43,.t 45],
 op1 47 (.un .not) [.t 46],
 op1 48 .mv [.t 47],
 op2 49 .mv [.t 8] 48 false,
 op2 50 .mv [.t 9] 48 false,
 op2 51 (.fld 1 1 false) [.t 10] 48 false,
 op2 52 (.load 1 false) [.t 51] 48 false,
 op2 53 (.load 4 true) [.t 11] 48 false,
 op2 54 (.fld 0 1 false) [.t 10] 48 false,
 op2 55 (.load 1 false) [.t 54] 48 false,
 op2 56 (.call n_impl_point_answered 28672) [.t 53,.t 55,.c (.i 0)] 48 false,
 op2 57 (.call n_impl_comesTo 29188) [.t 49,.t 50,.t 52,.t 56] 48 false,
 op2 58 (.un .not) [.t 57] 48 false,
 op1 59 .pick [.t 48,.c (.b true),.t 58],
 op1 60 .mv [.t 59],
 op2 61 .mv [.t 8] 60 false,
 op2 62 .mv [.t 9] 60 false,
 op2 63 (.fld 2 1 false) [.t 10] 60 false,
 op2 64 (.load 1 false) [.t 63] 60 false,
 op2 65 (.load 4 true) [.t 11] 60 false,
 op2 66 (.fld 0 1 false) [.t 10] 60 false,
 op2 67 (.load 1 false) [.t 66] 60 false,
 op2 68 (.call n_impl_point_answered 34816) [.t 65,.t 67,.c (.i 1)] 60 false,
 op2 69 (.call n_impl_comesTo 35332) [.t 61,.t 62,.t 64,.t 68] 60 false,
 op2 70 (.un .not) [.t 69] 60 false,
 op1 71 .pick [.t 60,.c (.b true),.t 70]] [9,10,11,43,44,45,46,47,48,49,50,51,52,53,54,55,56,57,58,59,60,61,62,63,64,65,66,67,68,69,70])
 (.cond (.t 71) [71]
 (.seq
 (.region false [op1 6 (.newnil 3104) [],
 op1 7 .mv [.c (.b false)]] [8,32,33,34])
 .ret)
 .skip)))))
 (.region false [op1 72 (.bin .add) [.t 34,.c (.i 1)],
 op1 34 .mv [.t 72]] [72]))))
def F_impl_pointsOf_W0 : LC := .loop F_impl_pointsOf_L0
def F_impl_pointsOf : LF :=
 { nparams := 3,results := [.t 6,.t 7],body :=
 (.seq
 (.region false [op1 6 (.newnil 3104) [],
 op1 7 .mv [.c (.b false)]] [6,7])
 (.seq
 (.seq
 (.region false [op1 12 .mv [.t 0],
 op1 13 .mv [.t 1],
 op1 14 (.call n_impl_TermOk 7168) [.t 12,.t 13],
 op1 15 (.un .not) [.t 14],
 op1 16 .mv [.t 15],
 op2 17 .mv [.t 2] 16 false,
 op2 18 .len [.t 17] 16 false,
 op2 19 (.bin .gtr) [.t 18,.c (.i 31)] 16 false,
 op1 20 .pick [.t 16,.c (.b true),.t 19]] [12,13,14,15,16,17,18,19])
 (.cond (.t 20) [20]
 (.seq
 (.region false [op1 6 (.newnil 3104) [],
 op1 7 .mv [.c (.b false)]] [0,1,2])
 .ret)
 .skip))
 (.seq
 (.region false [op1 21 .mv [.t 2],
 op1 22 .len [.t 21],
 op1 23 (.make 11808 4 (.st [.i 0,.i 0,.w (0#32),.w (0#32)])) [.t 22,.t 22],
 op1 8 .mv [.t 23]] [21,22,23])
 (.seq
 (.seq
 (.region false [op1 24 .mv [.t 8],
 op1 25 .mv [.t 2],
 op1 26 (.call n_impl_firstOf 13312) [.t 25],
 op1 27 .mv [.t 0],
 op1 28 .mv [.t 1],
 op1 29 (.call n_impl_startOf 14848) [.t 27,.t 28],
 op1 30 (.call n_impl_comesTo 15364) [.t 24,.c (.i (-1)),.t 26,.t 29],
 op1 31 (.un .not) [.t 30]] [0,1,24,25,26,27,28,29,30])
 (.cond (.t 31) [31]
 (.seq
 (.region false [op1 6 (.newnil 3104) [],
 op1 7 .mv [.c (.b false)]] [2,8])
 .ret)
 .skip))
 (.seq
 (.seq
 (.region false [op1 32 .mv [.t 2],
 op1 33 .len [.t 32],
 op1 34 .mv [.c (.i 0)]] [2])
 (.block 0
 F_impl_pointsOf_W0))
 (.seq
 (.region false [op1 73 .mv [.t 8],
 op1 6 .mv [.t 73],
 op1 7 .mv [.c (.b true)]] [8,32,33,34,73])
 .ret)))))) }
/-- impl.TermOk -/
def F_impl_TermOk_L0 : LC :=
 (.seq
 (.region false [op1 21 (.bin .lss) [.t 20,.t 19]] [])
 (.seq
 (.cond (.t 21) [21]
 .skip
 (.exit 0))
 (.seq
 (.block 1
 (.seq
 (.region false [op1 22 (.idxa 2) [.t 18,.t 20],
 op1 23 (.load 2 true) [.t 22],
 op1 7 (.alloc 3600 (.st [.i 0,.i 0])) [],
 ⟨none,.store 2,[.t 7,.t 23],none⟩] [22,23])
 (.seq
 (.region false [op1 24 (.fld 0 1 false) [.t 7],
 op1 25 (.load 1 false) [.t 24],
 op1 26 (.call n_impl_partsTaken 13312) [.t 25],
 op1 8 .mv [.t 26]] [24,25,26])
 (.seq
 (.seq
 (.region false [op1 27 .mv [.t 0],
 op1 28 (.load 2 true) [.t 7],
 op1 29 (.call n_impl_markOk 14848) [.t 27,.t 28],
 op1 30 (.un .not) [.t 29],
 op1 31 .mv [.t 30],
 op2 32 .mv [.t 5] 31 false,
 op2 33 .mv [.t 8] 31 false,
 op2 34 (.bin .lss) [.t 32,.t 33] 31 false,
 op1 35 .pick [.t 31,.c (.b true),.t 34]] [7,27,28,29,30,31,32,33,34])
 (.cond (.t 35) [35]
 (.seq
 (.region false [op1 4 .mv [.c (.b false)]] [0,5,8,18,19,20])
 .ret)
 .skip))
 (.region false [op1 36 .mv [.t 5],
 op1 37 .mv [.t 8],
 op1 38 (.bin .sub) [.c (.i 1),.t 37],
 op1 39 (.bin .add) [.t 36,.t 38],
 op1 5 .mv [.t 39]] [8,36,37,38,39])))))
 (.region false [op1 40 (.bin .add) [.t 20,.c (.i 1)],
 op1 20 .mv [.t 40]] [40]))))
def F_impl_TermOk_W0 : LC := .loop F_impl_TermOk_L0
def F_impl_TermOk : LF :=
 { nparams := 2,results := [.t 4],body :=
 (.seq
 (.region false [op1 4 .mv [.c (.b false)]] [4])
 (.seq
 (.seq
 (.region false [op1 9 .mv [.t 0],
 op1 10 (.call n_impl_manyOk 5120) [.t 9],
 op1 11 (.un .not) [.t 10],
 op1 12 .mv [.t 11],
 op2 13 .mv [.t 1] 12 false,
 op2 14 .len [.t 13] 12 false,
 op2 15 (.call n_impl_isWithin 7680) [.t 14,.c (.i 1),.c (.i 13)] 12 false,
 op2 16 (.un .not) [.t 15] 12 false,
 op1 17 .pick [.t 12,.c (.b true),.t 16]] [9,10,11,12,13,14,15,16])
 (.cond (.t 17) [17]
 (.seq
 (.region false [op1 4 .mv [.c (.b false)]] [0,1])
 .ret)
 .skip))
 (.seq
 (.region false [op1 5 .mv [.c (.i 0)]] [])
 (.seq
 (.seq
 (.region false [op1 18 .mv [.t 1],
 op1 19 .len [.t 18],
 op1 20 .mv [.c (.i 0)]] [1])
 (.block 0
 F_impl_TermOk_W0))
 (.seq
 (.region false [op1 41 .mv [.t 5],
 op1 42 (.bin .eql) [.t 41,.c (.i 1)],
 op1 4 .mv [.t 42]] [0,5,18,19,20,41,42])
 .ret))))) }
/-- spec.l1In -/
def F_spec_l1In : LF :=
 { nparams := 3,results := [.t 6],body :=
 (.seq
 (.region false [op1 6 .mv [.c (.b false)]] [6])
 (.seq
 (.region false [op1 7 .mv [.t 0],
 op1 8 .mv [.t 1],
 op1 9 (.bin .geq) [.t 7,.t 8],
 op1 10 .mv [.t 9],
 op2 11 .mv [.t 0] 10 true,
 op2 12 .mv [.t 2] 10 true,
 op2 13 (.bin .leq) [.t 11,.t 12] 10 true,
 op1 14 .pick [.t 10,.t 13,.c (.b false)],
 op1 6 .mv [.t 14]] [0,1,2,7,8,9,10,11,12,13,14])
 .ret)) }
/-- impl.isWithin -/
def F_impl_isWithin : LF :=
 { nparams := 3,results := [.t 6],body :=
 (.seq
 (.region false [op1 6 .mv [.c (.b false)]] [6])
 (.seq
 (.region false [op1 7 .mv [.t 1],
 op1 8 .mv [.t 0],
 op1 9 (.bin .leq) [.t 7,.t 8],
 op1 10 .mv [.t 9],
 op2 11 .mv [.t 0] 10 true,
 op2 12 .mv [.t 2] 10 true,
 op2 13 (.bin .leq) [.t 11,.t 12] 10 true,
 op1 14 .pick [.t 10,.t 13,.c (.b false)],
 op1 6 .mv [.t 14]] [0,1,2,7,8,9,10,11,12,13,14])
 .ret)) }
/-- impl.StopsOf$1 -/
def F_impl_StopsOf_1 : LF :=
 { nparams := 2,results := [.t 3],body :=
 (.seq
 (.region false [op1 3 .mv [.c (.i 0)]] [3])
 (.seq
 (.seq
 (.region false [op1 4 .mv [.t 0],
 op1 5 (.load 1 false) [.t 1],
 op1 6 (.bin .eql) [.t 4,.t 5]] [0,1,4,5])
 (.cond (.t 6) [6]
 (.seq
 (.region false [op1 3 .mv [.c (.i 1)]] [])
 .ret)
 .skip))
 (.seq
 (.region false [op1 3 .mv [.c (.i 0)]] [])
 .ret))) }
/-- impl.StopsOf$2 -/
def F_impl_StopsOf_2 : LF :=
 { nparams := 3,results := [.t 6],body :=
 (.seq
 (.region false [op1 6 .mv [.c (.i 0)]] [0,6])
 (.seq
 (.region false [op1 7 .mv [.t 1],
 op1 8 .mv [.t 2],
 op1 9 (.bin .add) [.t 7,.t 8],
 op1 6 .mv [.t 9]] [1,2,7,8,9])
 .ret)) }
/-- impl.foldPlan[int] -/
def F_impl_foldPlan_int : LF :=
 { nparams := 5,results := [.t 10],body :=
 (.seq
 (.region false [op1 7 (.box 3616) [.t 2],
 op1 10 .mv [.c (.i 0)]] [2,10])
 (.seq
 (.seq
 (.region false [op1 14 .mv [.t 1],
 op1 15 (.bin .eql) [.t 14,.c (.i (-1))]] [14])
 (.cond (.t 15) [15]
 (.seq
 (.region false [op1 16 .mv [.t 3],
 op1 17 (.load 4 true) [.t 7],
 op1 18 (.call n_impl_point_value 9216) [.t 17],
 op1 19 (.calld 9728) [.t 16,.t 18],
 op1 10 .mv [.t 19]] [0,1,3,4,7,16,17,18,19])
 .ret)
 .skip))
 (.seq
 (.region false [op1 20 .mv [.t 0],
 op1 21 .mv [.t 1],
 op1 22 (.idxa 3) [.t 20,.t 21],
 op1 23 (.load 3 true) [.t 22],
 op1 11 (.alloc 5656 (.st [.i 0,.i 0,.i 0])) [],
 ⟨none,.store 3,[.t 11,.t 23],none⟩] [1,20,21,22,23])
 (.seq
 (.region true [op1 24 .mv [.t 0],
 op1 25 (.fld 1 1 false) [.t 11],
 op1 26 (.load 1 false) [.t 25],
 op1 27 (.load 4 true) [.t 7],
 op1 28 (.fld 0 1 false) [.t 11],
 op1 29 (.load 1 false) [.t 28],
 op1 30 (.call n_impl_point_answered 15360) [.t 27,.t 29,.c (.i 0)],
 op1 31 .mv [.t 3],
 op1 32 .mv [.t 4],
 op1 33 (.call n_impl_foldPlan_int 16896) [.t 24,.t 26,.t 30,.t 31,.t 32],
 op1 12 .mv [.t 33]] [24,25,26,27,28,29,30,31,32,33])
 (.seq
 (.region true [op1 34 .mv [.t 0],
 op1 35 (.fld 2 1 false) [.t 11],
 op1 36 (.load 1 false) [.t 35],
 op1 37 (.load 4 true) [.t 7],
 op1 38 (.fld 0 1 false) [.t 11],
 op1 39 (.load 1 false) [.t 38],
 op1 40 (.call n_impl_point_answered 20480) [.t 37,.t 39,.c (.i 1)],
 op1 41 .mv [.t 3],
 op1 42 .mv [.t 4],
 op1 43 (.call n_impl_foldPlan_int 22016) [.t 34,.t 36,.t 40,.t 41,.t 42],
 op1 13 .mv [.t 43]] [0,3,7,34,35,36,37,38,39,40,41,42,43])
 (.seq
 (.region false [op1 44 .mv [.t 4],
 op1 45 (.fld 0 1 false) [.t 11],
 op1 46 (.load 1 false) [.t 45],
 op1 47 .mv [.t 12],
 op1 48 .mv [.t 13],
 op1 49 (.calld 25088) [.t 44,.t 46,.t 47,.t 48],
 op1 10 .mv [.t 49]] [4,11,12,13,44,45,46,47,48,49])
 .ret)))))) }
/-- impl.trueStates -/
def F_impl_trueStates : LF :=
 { nparams := 1,results := [.t 2],body :=
 (.seq
 (.region false [op1 2 .mv [.c (.w (0#32))]] [2])
 (.seq
 (.region false [op1 3 .mv [.t 0],
 op1 4 (.call n_impl_foldTerm_uint32 2048) [.t 3,.c (.fn n_impl_statesOfPart [])],
 op1 2 .mv [.t 4]] [0,3,4])
 .ret)) }
/-- laws.toMark -/
def F_laws_toMark : LF :=
 { nparams := 1,results := [.c 2 2 true],body :=
 (.seq
 (.region false [op1 1 (.box 528) [.t 0],
 op1 2 (.alloc 1040 (.st [.i 0,.i 0])) []] [0])
 (.seq
 (.region false [op1 3 (.alloc 1552 (.st [.i 0,.i 0])) []] [])
 (.seq
 (.region false [op1 4 (.fld 0 1 false) [.t 1],
 op1 5 (.load 1 false) [.t 4],
 op1 6 (.fld 0 1 false) [.t 3],
 ⟨none,.store 1,[.t 6,.t 5],none⟩] [4,5,6])
 (.seq
 (.region false [op1 7 (.fld 1 1 false) [.t 1],
 op1 8 (.load 1 false) [.t 7],
 op1 9 (.fld 1 1 false) [.t 3],
 ⟨none,.store 1,[.t 9,.t 8],none⟩] [1,7,8,9])
 (.seq
 (.region false [op1 10 (.load 2 true) [.t 3],
 ⟨none,.store 2,[.t 2,.t 10],none⟩] [3,10])
 .ret))))) }
/-- laws.toChoice -/
def F_laws_toChoice : LF :=
 { nparams := 1,results := [.c 2 3 true],body :=
 (.seq
 (.region false [op1 1 (.box 536) [.t 0],
 op1 2 (.alloc 1048 (.st [.i 0,.i 0,.i 0])) []] [0])
 (.seq
 (.region false [op1 3 (.alloc 1560 (.st [.i 0,.i 0,.i 0])) []] [])
 (.seq
 (.region false [op1 4 (.fld 0 1 false) [.t 1],
 op1 5 (.load 1 false) [.t 4],
 op1 6 (.fld 0 1 false) [.t 3],
 ⟨none,.store 1,[.t 6,.t 5],none⟩] [4,5,6])
 (.seq
 (.region false [op1 7 (.fld 1 1 false) [.t 1],
 op1 8 (.load 1 false) [.t 7],
 op1 9 (.fld 1 1 false) [.t 3],
 ⟨none,.store 1,[.t 9,.t 8],none⟩] [7,8,9])
 (.seq
 (.region false [op1 10 (.fld 2 1 false) [.t 1],
 op1 11 (.load 1 false) [.t 10],
 op1 12 (.fld 2 1 false) [.t 3],
 ⟨none,.store 1,[.t 12,.t 11],none⟩] [1,10,11,12])
 (.seq
 (.region false [op1 13 (.load 3 true) [.t 3],
 ⟨none,.store 3,[.t 2,.t 13],none⟩] [3,13])
 .ret)))))) }
/-- laws.eqMark -/
def F_laws_eqMark : LF :=
 { nparams := 2,results := [.t 4],body :=
 (.seq
 (.region false [op1 2 (.box 1040) [.t 0],
 op1 3 (.box 1552) [.t 1],
 op1 4 .mv [.c (.b false)]] [0,1,4])
 (.seq
 (.seq
 (.region false [op1 5 (.fld 0 1 false) [.t 2],
 op1 6 (.load 1 false) [.t 5],
 op1 7 (.fld 0 1 false) [.t 3],
 op1 8 (.load 1 false) [.t 7],
 op1 9 (.bin .neq) [.t 6,.t 8]] [5,6,7,8])
 (.cond (.t 9) [9]
 (.seq
 (.region false [op1 4 .mv [.c (.b false)]] [2,3])
 .ret)
 .skip))
 (.seq
 (.seq
 (.region false [op1 10 (.fld 1 1 false) [.t 2],
 op1 11 (.load 1 false) [.t 10],
 op1 12 (.fld 1 1 false) [.t 3],
 op1 13 (.load 1 false) [.t 12],
 op1 14 (.bin .neq) [.t 11,.t 13]] [2,3,10,11,12,13])
 (.cond (.t 14) [14]
 (.seq
 (.region false [op1 4 .mv [.c (.b false)]] [])
 .ret)
 .skip))
 (.seq
 (.region false [op1 4 .mv [.c (.b true)]] [])
 .ret)))) }
/-- laws.eqChoice -/
def F_laws_eqChoice : LF :=
 { nparams := 2,results := [.t 4],body :=
 (.seq
 (.region false [op1 2 (.box 1048) [.t 0],
 op1 3 (.box 1560) [.t 1],
 op1 4 .mv [.c (.b false)]] [0,1,4])
 (.seq
 (.seq
 (.region false [op1 5 (.fld 0 1 false) [.t 2],
 op1 6 (.load 1 false) [.t 5],
 op1 7 (.fld 0 1 false) [.t 3],
 op1 8 (.load 1 false) [.t 7],
 op1 9 (.bin .neq) [.t 6,.t 8]] [5,6,7,8])
 (.cond (.t 9) [9]
 (.seq
 (.region false [op1 4 .mv [.c (.b false)]] [2,3])
 .ret)
 .skip))
 (.seq
 (.seq
 (.region false [op1 10 (.fld 1 1 false) [.t 2],
 op1 11 (.load 1 false) [.t 10],
 op1 12 (.fld 1 1 false) [.t 3],
 op1 13 (.load 1 false) [.t 12],
 op1 14 (.bin .neq) [.t 11,.t 13]] [10,11,12,13])
 (.cond (.t 14) [14]
 (.seq
 (.region false [op1 4 .mv [.c (.b false)]] [2,3])
 .ret)
 .skip))
 (.seq
 (.seq
 (.region false [op1 15 (.fld 2 1 false) [.t 2],
 op1 16 (.load 1 false) [.t 15],
 op1 17 (.fld 2 1 false) [.t 3],
 op1 18 (.load 1 false) [.t 17],
 op1 19 (.bin .neq) [.t 16,.t 18]] [2,3,15,16,17,18])
 (.cond (.t 19) [19]
 (.seq
 (.region false [op1 4 .mv [.c (.b false)]] [])
 .ret)
 .skip))
 (.seq
 (.region false [op1 4 .mv [.c (.b true)]] [])
 .ret))))) }
/-- impl.point).value -/
def F_impl_point_value : LF :=
 { nparams := 1,results := [.t 2],body :=
 (.seq
 (.region false [op1 1 (.box 544) [.t 0],
 op1 2 .mv [.c (.i 0)]] [0,2])
 (.seq
 (.region false [op1 3 (.fld 3 1 false) [.t 1],
 op1 4 (.load 1 false) [.t 3],
 op1 5 (.fld 2 1 false) [.t 1],
 op1 6 (.load 1 false) [.t 5],
 op1 7 (.call n_impl_valueAmong 3584) [.t 4,.t 6],
 op1 2 .mv [.t 7]] [1,3,4,5,6,7])
 .ret)) }
/-- impl.point).answered -/
def F_impl_point_answered : LF :=
 { nparams := 3,results := [.c 6 4 true],body :=
 (.seq
 (.region false [op1 3 (.box 1568) [.t 0],
 op1 6 (.alloc 3104 (.st [.i 0,.i 0,.w (0#32),.w (0#32)])) []] [0])
 (.seq
 (.region true [op1 7 (.fld 1 1 false) [.t 3],
 op1 8 (.load 1 false) [.t 7],
 op1 9 .mv [.t 1],
 op1 10 (.bin .shl) [.c (.i 1),.t 9],
 op1 11 (.bin .or) [.t 8,.t 10],
 op1 12 (.fld 1 1 false) [.t 3],
 ⟨none,.store 1,[.t 12,.t 11],none⟩] [7,8,9,10,11,12])
 (.seq
 (.region true [op1 13 (.fld 2 1 false) [.t 3],
 op1 14 (.load 1 false) [.t 13],
 op1 15 .mv [.t 1],
 op1 16 .mv [.t 2],
 op1 17 (.call n_impl_statesSaying 8704) [.t 15,.t 16],
 op1 18 (.bin .and) [.t 14,.t 17],
 op1 19 (.fld 2 1 false) [.t 3],
 ⟨none,.store 1,[.t 19,.t 18],none⟩] [1,2,13,14,15,16,17,18,19])
 (.seq
 (.region false [op1 20 (.load 4 true) [.t 3],
 ⟨none,.store 4,[.t 6,.t 20],none⟩] [3,20])
 .ret)))) }
/-- spec.l6Checks -/
def F_spec_l6Checks_L0 : LC :=
 (.seq
 (.seq
 (.region false [op1 56 .mv [.t 15],
 op1 57 (.bin .lss) [.t 56,.c (.i 2)]] [56])
 (.cond (.t 57) [57]
 .skip
 (.exit 0)))
 (.seq
 (.block 1
 (.seq
 (.region false [op1 60 (.fld 1 1 false) [.t 13],
 op1 61 (.load 1 false) [.t 60],
 op1 16 .mv [.t 61]] [60,61])
 (.seq
 (.seq
 (.region false [op1 62 .mv [.t 15],
 op1 63 (.bin .eql) [.t 62,.c (.i 1)]] [62])
 (.cond (.t 63) [63]
 (.region false [op1 64 (.fld 2 1 false) [.t 13],
 op1 65 (.load 1 false) [.t 64],
 op1 16 .mv [.t 65]] [64,65])
 .skip))
 (.seq
 (.seq
 (.region false [op1 66 .mv [.t 16],
 op1 67 (.bin .neq) [.t 66,.c (.i (-1))],
 op1 68 .mv [.t 67],
 op2 69 .mv [.t 16] 68 true,
 op2 70 .mv [.t 3] 68 true,
 op2 71 (.bin .add) [.t 70,.c (.i 1)] 68 true,
 op2 72 .mv [.t 2] 68 true,
 op2 73 .len [.t 72] 68 true,
 op2 74 (.bin .sub) [.t 73,.c (.i 1)] 68 true,
 op2 75 (.call n_spec_l1In 38400) [.t 69,.t 71,.t 74] 68 true,
 op2 76 (.un .not) [.t 75] 68 true,
 op1 77 .pick [.t 68,.t 76,.c (.b false)]] [66,67,68,69,70,71,72,73,74,75,76])
 (.cond (.t 77) [77]
 (.seq
 (.region false [op1 10 .mv [.c (.i 0)],
 op1 11 .mv [.c (.b false)]] [0,1,2,3,4,13,14,15,16])
 .ret)
 .skip))
 (.seq
 (.region false [op1 78 (.bslice 39944 0 1 (.i 0) []) [],
 op1 79 .mv [.t 4],
 op1 80 (.app 40968 1) [.t 78,.t 79],
 op1 17 .mv [.t 80]] [78,79,80])
 (.seq
 (.region false [op1 81 .mv [.t 17],
 op1 82 (.fld 0 1 false) [.t 13],
 op1 83 (.load 1 false) [.t 82],
 op1 84 .mv [.t 15],
 op1 85 (.idxa 1) [.t 81,.t 83],
 ⟨none,.store 1,[.t 85,.t 84],none⟩] [81,82,83,84,85])
 (.seq
 (.region false [op1 87 .mv [.t 0],
 op1 88 .mv [.t 1],
 op1 89 .mv [.t 2],
 op1 90 .mv [.t 16],
 op1 91 .mv [.t 17],
 op1 92 (.call n_spec_l6Checks 47104) [.t 87,.t 88,.t 89,.t 90,.t 91],
 op1 86 .mv [.t 92],
 op1 93 (.ext 0) [.t 86],
 op1 94 (.ext 1) [.t 86],
 op1 18 .mv [.t 93],
 op1 19 .mv [.t 94]] [16,17,86,87,88,89,90,91,92,93,94])
 (.seq
 (.seq
 (.region false [op1 95 .mv [.t 19],
 op1 96 (.un .not) [.t 95]] [19,95])
 (.cond (.t 96) [96]
 (.seq
 (.region false [op1 10 .mv [.c (.i 0)],
 op1 11 .mv [.c (.b false)]] [0,1,2,3,4,13,14,15,18])
 .ret)
 .skip))
 (.region false [op1 97 .mv [.t 14],
 op1 98 .mv [.t 18],
 op1 99 (.bin .add) [.t 97,.t 98],
 op1 14 .mv [.t 99]] [18,97,98,99])))))))))
 (.region false [op1 58 .mv [.t 15],
 op1 59 (.bin .add) [.t 58,.c (.i 1)],
 op1 15 .mv [.t 59]] [58,59])))
def F_spec_l6Checks_W0 : LC := .loop F_spec_l6Checks_L0
def F_spec_l6Checks : LF :=
 { nparams := 5,results := [.t 10,.t 11],body :=
 (.seq
 (.region false [op1 10 .mv [.c (.i 0)],
 op1 11 .mv [.c (.b false)]] [10,11])
 (.seq
 (.region false [op1 20 .mv [.t 0],
 op1 21 .mv [.t 1],
 op1 22 .mv [.t 4],
 op1 23 (.call n_spec_l3Forced 11776) [.t 20,.t 21,.t 22],
 op1 24 (.bin .neq) [.t 23,.c (.i (-1))],
 op1 12 .mv [.t 24]] [20,21,22,23,24])
 (.seq
 (.seq
 (.region false [op1 25 .mv [.t 3],
 op1 26 (.bin .eql) [.t 25,.c (.i (-1))],
 op1 27 .mv [.t 26],
 op2 28 .mv [.t 12] 27 false,
 op1 29 .pick [.t 27,.c (.b true),.t 28]] [25,26,27,28])
 (.cond (.t 29) [29]
 (.seq
 (.region false [op1 30 .mv [.t 3],
 op1 31 (.bin .eql) [.t 30,.c (.i (-1))],
 op1 32 .mv [.t 31],
 op2 33 .mv [.t 12] 32 true,
 op1 34 .pick [.t 32,.t 33,.c (.b false)],
 op1 10 .mv [.c (.i 0)],
 op1 11 .mv [.t 34]] [0,1,2,3,4,12,30,31,32,33,34])
 .ret)
 .skip))
 (.seq
 (.region false [op1 35 .mv [.t 2],
 op1 36 .mv [.t 3],
 op1 37 (.idxa 3) [.t 35,.t 36],
 op1 38 (.load 3 true) [.t 37],
 op1 13 (.alloc 6680 (.st [.i 0,.i 0,.i 0])) [],
 ⟨none,.store 3,[.t 13,.t 38],none⟩] [12,35,36,37,38])
 (.seq
 (.seq
 (.region false [op1 39 (.fld 0 1 false) [.t 13],
 op1 40 (.load 1 false) [.t 39],
 op1 41 (.bin .lss) [.t 40,.c (.i 0)],
 op1 42 .mv [.t 41],
 op2 43 (.fld 0 1 false) [.t 13] 42 false,
 op2 44 (.load 1 false) [.t 43] 42 false,
 op2 45 .mv [.t 0] 42 false,
 op2 46 (.bin .geq) [.t 44,.t 45] 42 false,
 op1 47 .pick [.t 42,.c (.b true),.t 46],
 op1 48 .mv [.t 47],
 op2 49 .mv [.t 4] 48 false,
 op2 50 (.fld 0 1 false) [.t 13] 48 false,
 op2 51 (.load 1 false) [.t 50] 48 false,
 op2 52 (.idxa 1) [.t 49,.t 51] 48 false,
 op2 53 (.load 1 false) [.t 52] 48 false,
 op2 54 (.bin .neq) [.t 53,.c (.i (-1))] 48 false,
 op1 55 .pick [.t 48,.c (.b true),.t 54]] [39,40,41,42,43,44,45,46,47,48,49,50,51,52,53,54])
 (.cond (.t 55) [55]
 (.seq
 (.region false [op1 10 .mv [.c (.i 0)],
 op1 11 .mv [.c (.b false)]] [0,1,2,3,4,13])
 .ret)
 .skip))
 (.seq
 (.region false [op1 14 .mv [.c (.i 1)]] [])
 (.seq
 (.seq
 (.region false [op1 15 .mv [.c (.i 0)]] [])
 (.block 0
 F_spec_l6Checks_W0))
 (.seq
 (.region false [op1 100 .mv [.t 14],
 op1 10 .mv [.t 100],
 op1 11 .mv [.c (.b true)]] [0,1,2,3,4,13,14,15,100])
 .ret)))))))) }
/-- spec.l6Once -/
def F_spec_l6Once_L1 : LC :=
 (.seq
 (.seq
 (.region false [op1 16 .mv [.t 5],
 op1 17 (.bin .lss) [.t 16,.c (.i 2)]] [16])
 (.cond (.t 17) [17]
 .skip
 (.exit 2)))
 (.seq
 (.block 3
 (.seq
 (.region false [op1 20 .mv [.t 0],
 op1 21 .mv [.t 4],
 op1 22 (.idxa 3) [.t 20,.t 21],
 op1 23 (.fld 1 1 false) [.t 22],
 op1 24 (.load 1 false) [.t 23],
 op1 6 .mv [.t 24]] [20,21,22,23,24])
 (.seq
 (.seq
 (.region false [op1 25 .mv [.t 5],
 op1 26 (.bin .eql) [.t 25,.c (.i 1)]] [25])
 (.cond (.t 26) [26]
 (.region false [op1 27 .mv [.t 0],
 op1 28 .mv [.t 4],
 op1 29 (.idxa 3) [.t 27,.t 28],
 op1 30 (.fld 2 1 false) [.t 29],
 op1 31 (.load 1 false) [.t 30],
 op1 6 .mv [.t 31]] [27,28,29,30,31])
 .skip))
 (.seq
 (.seq
 (.region false [op1 32 .mv [.t 6],
 op1 33 (.bin .eql) [.t 32,.c (.i (-1))]] [32])
 (.cond (.t 33) [33]
 (.exit 3)
 .skip))
 (.seq
 (.seq
 (.region false [op1 34 .mv [.t 6],
 op1 35 .mv [.t 0],
 op1 36 .len [.t 35],
 op1 37 (.bin .sub) [.t 36,.c (.i 1)],
 op1 38 (.call n_spec_l1In 19456) [.t 34,.c (.i 0),.t 37],
 op1 39 (.un .not) [.t 38],
 op1 40 .mv [.t 39],
 op2 41 .mv [.t 3] 40 false,
 op2 42 .mv [.t 6] 40 false,
 op2 43 (.idxa 1) [.t 41,.t 42] 40 false,
 op2 44 (.load 1 false) [.t 43] 40 false,
 op1 45 .pick [.t 40,.c (.b true),.t 44]] [34,35,36,37,38,39,40,41,42,43,44])
 (.cond (.t 45) [45]
 (.seq
 (.region false [op1 2 .mv [.c (.b false)]] [0,3,4,5,6])
 .ret)
 .skip))
 (.region false [op1 46 .mv [.t 3],
 op1 47 .mv [.t 6],
 op1 48 (.idxa 1) [.t 46,.t 47],
 ⟨none,.store 1,[.t 48,.c (.b true)],none⟩] [6,46,47,48]))))))
 (.region false [op1 18 .mv [.t 5],
 op1 19 (.bin .add) [.t 18,.c (.i 1)],
 op1 5 .mv [.t 19]] [6,18,19])))
def F_spec_l6Once_W1 : LC := .loop F_spec_l6Once_L1
def F_spec_l6Once_L0 : LC :=
 (.seq
 (.seq
 (.region false [op1 10 .mv [.t 4],
 op1 11 .mv [.t 0],
 op1 12 .len [.t 11],
 op1 13 (.bin .lss) [.t 10,.t 12]] [10,11,12])
 (.cond (.t 13) [13]
 .skip
 (.exit 0)))
 (.seq
 (.block 1
 (.seq
 (.region false [op1 5 .mv [.c (.i 0)]] [])
 (.block 2
 F_spec_l6Once_W1)))
 (.region false [op1 14 .mv [.t 4],
 op1 15 (.bin .add) [.t 14,.c (.i 1)],
 op1 4 .mv [.t 15]] [5,14,15])))
def F_spec_l6Once_W0 : LC := .loop F_spec_l6Once_L0
def F_spec_l6Once : LF :=
 { nparams := 1,results := [.t 2],body :=
 (.seq
 (.region false [op1 2 .mv [.c (.b false)]] [2])
 (.seq
 (.region false [op1 7 .mv [.t 0],
 op1 8 .len [.t 7],
 op1 9 (.make 4616 1 (.b false)) [.t 8,.t 8],
 op1 3 .mv [.t 9]] [7,8,9])
 (.seq
 (.seq
 (.region false [op1 4 .mv [.c (.i 0)]] [])
 (.block 0
 F_spec_l6Once_W0))
 (.seq
 (.region false [op1 2 .mv [.c (.b true)]] [0,3,4])
 .ret)))) }
/-- spec.l1Number -/
def F_spec_l1Number : LF :=
 { nparams := 1,results := [.t 2],body :=
 (.seq
 (.region false [op1 2 .mv [.c (.s [])]] [2])
 (.seq
 (.seq
 (.region false [op1 3 .mv [.t 0],
 op1 4 (.bin .lss) [.t 3,.c (.i 10)]] [3])
 (.cond (.t 4) [4]
 (.seq
 (.region false [op1 5 .mv [.t 0],
 op1 6 (.mm true) [.t 5,.c (.i 0)],
 op1 7 (.bin .add) [.c (.i 48),.t 6],
 op1 8 (.conv .i2b 4096) [.t 7],
 op1 9 (.bslice 4616 1 1 (.y 0) [0]) [.t 8],
 op1 10 (.conv .b2s 5120) [.t 9],
 op1 2 .mv [.t 10]] [0,5,6,7,8,9,10])
 .ret)
 .skip))
 (.seq
 (.region true [op1 11 .mv [.t 0],
 op1 12 (.bin .quo) [.t 11,.c (.i 10)],
 op1 13 (.call n_spec_l1Number 6656) [.t 12],
 op1 14 .mv [.t 0],
 op1 15 (.bin .rem) [.t 14,.c (.i 10)],
 op1 16 (.bin .add) [.c (.i 48),.t 15],
 op1 17 (.conv .i2b 8704) [.t 16],
 op1 18 (.bslice 9224 1 1 (.y 0) [0]) [.t 17],
 op1 19 (.conv .b2s 9728) [.t 18],
 op1 20 (.bin .add) [.t 13,.t 19],
 op1 2 .mv [.t 20]] [0,11,12,13,14,15,16,17,18,19,20])
 .ret))) }
/-- spec.l3Forced -/
def F_spec_l3Forced_L0 : LC :=
 (.seq
 (.seq
 (.region false [op1 11 .mv [.t 9],
 op1 12 .mv [.t 0],
 op1 13 (.bin .shl) [.c (.i 1),.t 12],
 op1 14 (.bin .lss) [.t 11,.t 13]] [11,12,13])
 (.cond (.t 14) [14]
 .skip
 (.exit 0)))
 (.seq
 (.block 1
 (.seq
 (.seq
 (.region false [op1 17 .mv [.t 2],
 op1 18 .mv [.t 9],
 op1 19 (.call n_spec_l1Agrees 9728) [.t 17,.t 18],
 op1 20 (.un .not) [.t 19]] [17,18,19])
 (.cond (.t 20) [20]
 (.exit 1)
 .skip))
 (.seq
 (.region false [op1 21 .mv [.t 1],
 op1 22 .mv [.t 9],
 op1 23 (.bin .shr) [.t 21,.t 22],
 op1 24 (.bin .rem) [.t 23,.c (.i 2)],
 op1 10 .mv [.t 24]] [21,22,23,24])
 (.seq
 (.seq
 (.region false [op1 25 .mv [.t 8],
 op1 26 (.un .not) [.t 25],
 op1 27 .mv [.t 26],
 op2 28 .mv [.t 10] 27 true,
 op2 29 .mv [.t 7] 27 true,
 op2 30 (.bin .neq) [.t 28,.t 29] 27 true,
 op1 31 .pick [.t 27,.t 30,.c (.b false)]] [7,8,25,26,27,28,29,30])
 (.cond (.t 31) [31]
 (.seq
 (.region false [op1 6 .mv [.c (.i (-1))]] [0,1,2,9,10])
 .ret)
 .skip))
 (.seq
 (.region false [op1 32 .mv [.t 10],
 op1 7 .mv [.t 32]] [10,32])
 (.region false [op1 8 .mv [.c (.b false)]] []))))))
 (.region false [op1 15 .mv [.t 9],
 op1 16 (.bin .add) [.t 15,.c (.i 1)],
 op1 9 .mv [.t 16]] [15,16])))
def F_spec_l3Forced_W0 : LC := .loop F_spec_l3Forced_L0
def F_spec_l3Forced : LF :=
 { nparams := 3,results := [.t 6],body :=
 (.seq
 (.region false [op1 6 .mv [.c (.i 0)]] [6])
 (.seq
 (.region false [op1 7 .mv [.c (.i (-1))]] [])
 (.seq
 (.region false [op1 8 .mv [.c (.b true)]] [])
 (.seq
 (.seq
 (.region false [op1 9 .mv [.c (.i 0)]] [])
 (.block 0
 F_spec_l3Forced_W0))
 (.seq
 (.region false [op1 33 .mv [.t 7],
 op1 6 .mv [.t 33]] [0,1,2,7,8,9,33])
 .ret))))) }
/-- spec.l3Value -/
def F_spec_l3Value : LF :=
 { nparams := 2,results := [.t 4],body :=
 (.seq
 (.region false [op1 4 .mv [.c (.i 0)]] [4])
 (.seq
 (.region false [op1 9 .mv [.t 0],
 op1 10 .len [.t 9],
 op1 11 (.bin .sub) [.t 10,.c (.i 1)],
 op1 5 .mv [.t 11]] [9,10,11])
 (.seq
 (.seq
 (.region false [op1 12 .mv [.t 0],
 op1 13 .mv [.t 5],
 op1 14 (.idxa 2) [.t 12,.t 13],
 op1 15 (.fld 0 1 false) [.t 14],
 op1 16 (.load 1 false) [.t 15]] [12,13,14,15])
 (.block 0
 (.seq
 (.region false [op1 18 (.bin .eql) [.t 16,.c (.i 0)],
 op1 17 .mv [.t 18]] [18])
 (.cond (.t 17) [17]
 (.seq
 (.region false [op1 19 .mv [.t 1],
 op1 20 .mv [.t 0],
 op1 21 .mv [.t 5],
 op1 22 (.idxa 2) [.t 20,.t 21],
 op1 23 (.fld 1 1 false) [.t 22],
 op1 24 (.load 1 false) [.t 23],
 op1 25 (.bin .shr) [.t 19,.t 24],
 op1 26 (.bin .rem) [.t 25,.c (.i 2)],
 op1 4 .mv [.t 26]] [0,1,5,16,19,20,21,22,23,24,25,26])
 .ret)
 (.seq
 (.region false [op1 28 (.bin .eql) [.t 16,.c (.i 1)],
 op1 27 .mv [.t 28]] [16,28])
 (.cond (.t 27) [27]
 (.seq
 (.region false [op1 29 .mv [.t 0],
 op1 30 .mv [.t 5],
 op1 31 (.slice false true 2) [.t 29,.t 30],
 op1 32 .mv [.t 1],
 op1 33 (.call n_spec_l3Value 16896) [.t 31,.t 32],
 op1 34 (.bin .sub) [.c (.i 1),.t 33],
 op1 4 .mv [.t 34]] [0,1,5,29,30,31,32,33,34])
 .ret)
 .skip))))))
 (.seq
 (.region false [op1 35 .mv [.t 0],
 op1 36 .mv [.t 5],
 op1 37 (.bin .sub) [.t 36,.c (.i 1)],
 op1 38 (.call n_spec_l2Starts 19456) [.t 35,.t 37],
 op1 6 .mv [.t 38]] [35,36,37,38])
 (.seq
 (.region false [op1 39 .mv [.t 0],
 op1 40 .mv [.t 6],
 op1 41 (.slice false true 2) [.t 39,.t 40],
 op1 42 .mv [.t 1],
 op1 43 (.call n_spec_l3Value 22016) [.t 41,.t 42],
 op1 7 .mv [.t 43]] [39,40,41,42,43])
 (.seq
 (.region false [op1 44 .mv [.t 0],
 op1 45 .mv [.t 6],
 op1 46 .mv [.t 5],
 op1 47 (.slice true true 2) [.t 44,.t 45,.t 46],
 op1 48 .mv [.t 1],
 op1 49 (.call n_spec_l3Value 25088) [.t 47,.t 48],
 op1 8 .mv [.t 49]] [1,6,44,45,46,47,48,49])
 (.seq
 (.seq
 (.region false [op1 50 .mv [.t 0],
 op1 51 .mv [.t 5],
 op1 52 (.idxa 2) [.t 50,.t 51],
 op1 53 (.fld 0 1 false) [.t 52],
 op1 54 (.load 1 false) [.t 53],
 op1 55 (.bin .eql) [.t 54,.c (.i 3)]] [0,5,50,51,52,53,54])
 (.cond (.t 55) [55]
 (.seq
 (.region false [op1 56 .mv [.t 7],
 op1 57 .mv [.t 8],
 op1 58 (.mm true) [.t 56,.t 57],
 op1 4 .mv [.t 58]] [7,8,56,57,58])
 .ret)
 .skip))
 (.seq
 (.region false [op1 59 .mv [.t 7],
 op1 60 .mv [.t 8],
 op1 61 (.mm false) [.t 59,.t 60],
 op1 4 .mv [.t 61]] [7,8,59,60,61])
 .ret)))))))) }
/-- impl.comesTo -/
def F_impl_comesTo : LF :=
 { nparams := 4,results := [.t 8],body :=
 (.seq
 (.region false [op1 7 (.box 3616) [.t 3],
 op1 8 .mv [.c (.b false)]] [3,8])
 (.seq
 (.seq
 (.region false [op1 9 .mv [.t 2],
 op1 10 (.bin .eql) [.t 9,.c (.i (-1))],
 op1 11 .mv [.t 10],
 op2 12 (.load 4 true) [.t 7] 11 false,
 op2 13 (.call n_impl_point_isForced 6656) [.t 12] 11 false,
 op1 14 .pick [.t 11,.c (.b true),.t 13]] [9,10,11,12,13])
 (.cond (.t 14) [14]
 (.seq
 (.region false [op1 15 .mv [.t 2],
 op1 16 (.bin .eql) [.t 15,.c (.i (-1))],
 op1 17 .mv [.t 16],
 op2 18 (.load 4 true) [.t 7] 17 true,
 op2 19 (.call n_impl_point_isForced 9728) [.t 18] 17 true,
 op1 20 .pick [.t 17,.t 19,.c (.b false)],
 op1 8 .mv [.t 20]] [1,2,7,15,16,17,18,19,20])
 .ret)
 .skip))
 (.seq
 (.seq
 (.region false [op1 21 .mv [.t 2],
 op1 22 .mv [.t 1],
 op1 23 (.bin .add) [.t 22,.c (.i 1)],
 op1 24 .mv [.t 0],
 op1 25 .len [.t 24],
 op1 26 (.bin .sub) [.t 25,.c (.i 1)],
 op1 27 (.call n_impl_isWithin 13824) [.t 21,.t 23,.t 26],
 op1 28 (.un .not) [.t 27],
 op1 29 .mv [.t 28],
 op2 30 .mv [.t 0] 29 false,
 op2 31 .mv [.t 2] 29 false,
 op2 32 (.idxa 4) [.t 30,.t 31] 29 false,
 op2 33 (.load 4 true) [.t 32] 29 false,
 op2 34 (.build [.i 0,.i 0,.w (0#32),.w (0#32)] []) [] 29 false,
 op2 35 (.eqs true 4) [.t 33,.t 34] 29 false,
 op1 36 .pick [.t 29,.c (.b true),.t 35]] [1,21,22,23,24,25,26,27,28,29,30,31,32,33,34,35])
 (.cond (.t 36) [36]
 (.seq
 (.region false [op1 8 .mv [.c (.b false)]] [2,7])
 .ret)
 .skip))
 (.seq
 (.region false [op1 37 .mv [.t 0],
 op1 38 .mv [.t 2],
 op1 39 (.load 4 true) [.t 7],
 op1 40 (.idxa 4) [.t 37,.t 38],
 ⟨none,.store 4,[.t 40,.t 39],none⟩] [2,7,37,38,39,40])
 (.seq
 (.region false [op1 8 .mv [.c (.b true)]] [])
 .ret))))) }
/-- impl.point).canAsk -/
def F_impl_point_canAsk : LF :=
 { nparams := 2,results := [.t 4],body :=
 (.seq
 (.region false [op1 2 (.box 1056) [.t 0],
 op1 4 .mv [.c (.b false)]] [0,4])
 (.seq
 (.region false [op1 5 .mv [.t 1],
 op1 6 (.fld 0 1 false) [.t 2],
 op1 7 (.load 1 false) [.t 6],
 op1 8 (.bin .sub) [.t 7,.c (.i 1)],
 op1 9 (.call n_impl_isWithin 4608) [.t 5,.c (.i 0),.t 8],
 op1 10 .mv [.t 9],
 op2 11 (.fld 1 1 false) [.t 2] 10 true,
 op2 12 (.load 1 false) [.t 11] 10 true,
 op2 13 .mv [.t 1] 10 true,
 op2 14 (.call n_impl_hasTest 7168) [.t 12,.t 13] 10 true,
 op2 15 (.un .not) [.t 14] 10 true,
 op1 16 .pick [.t 10,.t 15,.c (.b false)],
 op1 4 .mv [.t 16]] [1,2,5,6,7,8,9,10,11,12,13,14,15,16])
 .ret)) }
/-- impl.manyOk -/
def F_impl_manyOk : LF :=
 { nparams := 1,results := [.t 2],body :=
 (.seq
 (.region false [op1 2 .mv [.c (.b false)]] [2])
 (.seq
 (.region false [op1 3 .mv [.t 0],
 op1 4 (.call n_impl_isWithin 2048) [.t 3,.c (.i 1),.c (.i 5)],
 op1 2 .mv [.t 4]] [0,3,4])
 .ret)) }
/-- impl.partsTaken -/
def F_impl_partsTaken : LF :=
 { nparams := 1,results := [.t 2],body :=
 (.seq
 (.region false [op1 2 .mv [.c (.i 0)]] [2])
 (.seq
 (.seq
 (.region false [op1 3 .mv [.t 0]] [0])
 (.block 0
 (.seq
 (.region false [op1 5 (.bin .eql) [.t 3,.c (.i 0)],
 op1 4 .mv [.t 5]] [5])
 (.cond (.t 4) [4]
 (.seq
 (.region false [op1 2 .mv [.c (.i 0)]] [3])
 .ret)
 (.seq
 (.region false [op1 7 (.bin .eql) [.t 3,.c (.i 1)],
 op1 6 .mv [.t 7]] [3,7])
 (.cond (.t 6) [6]
 (.seq
 (.region false [op1 2 .mv [.c (.i 1)]] [])
 .ret)
 .skip))))))
 (.seq
 (.region false [op1 2 .mv [.c (.i 2)]] [])
 .ret))) }
/-- impl.markOk -/
def F_impl_markOk : LF :=
 { nparams := 2,results := [.t 4],body :=
 (.seq
 (.region false [op1 3 (.box 1552) [.t 1],
 op1 4 .mv [.c (.b false)]] [1,4])
 (.seq
 (.seq
 (.region false [op1 5 (.fld 0 1 false) [.t 3],
 op1 6 (.load 1 false) [.t 5],
 op1 7 (.bin .eql) [.t 6,.c (.i 0)]] [5,6])
 (.cond (.t 7) [7]
 (.seq
 (.region false [op1 8 (.fld 1 1 false) [.t 3],
 op1 9 (.load 1 false) [.t 8],
 op1 10 .mv [.t 0],
 op1 11 (.bin .sub) [.t 10,.c (.i 1)],
 op1 12 (.call n_impl_isWithin 6144) [.t 9,.c (.i 0),.t 11],
 op1 4 .mv [.t 12]] [0,3,8,9,10,11,12])
 .ret)
 .skip))
 (.seq
 (.region false [op1 13 (.fld 0 1 false) [.t 3],
 op1 14 (.load 1 false) [.t 13],
 op1 15 (.call n_impl_isWithin 7680) [.t 14,.c (.i 1),.c (.i 3)],
 op1 16 .mv [.t 15],
 op2 17 (.fld 1 1 false) [.t 3] 16 true,
 op2 18 (.load 1 false) [.t 17] 16 true,
 op2 19 (.bin .eql) [.t 18,.c (.i 0)] 16 true,
 op1 20 .pick [.t 16,.t 19,.c (.b false)],
 op1 4 .mv [.t 20]] [0,3,13,14,15,16,17,18,19,20])
 .ret))) }
/-- impl.foldTerm[uint32] -/
def F_impl_foldTerm_uint32_L0 : LC :=
 (.seq
 (.region false [op1 13 (.bin .lss) [.t 12,.t 11]] [])
 (.seq
 (.cond (.t 13) [13]
 .skip
 (.exit 0))
 (.seq
 (.block 1
 (.seq
 (.region false [op1 14 (.idxa 2) [.t 10,.t 12],
 op1 15 (.load 2 true) [.t 14],
 op1 7 (.alloc 3600 (.st [.i 0,.i 0])) [],
 ⟨none,.store 2,[.t 7,.t 15],none⟩] [14,15])
 (.seq
 (.region false [op1 16 .mv [.t 5],
 op1 17 .len [.t 16],
 op1 18 (.fld 0 1 false) [.t 7],
 op1 19 (.load 1 false) [.t 18],
 op1 20 (.call n_impl_partsTaken 10240) [.t 19],
 op1 21 (.bin .sub) [.t 17,.t 20],
 op1 8 .mv [.t 21]] [16,17,18,19,20,21])
 (.seq
 (.region true [op1 22 .mv [.t 1],
 op1 23 (.load 2 true) [.t 7],
 op1 24 .mv [.t 5],
 op1 25 .mv [.t 8],
 op1 26 (.slice true false 1) [.t 24,.t 25],
 op1 27 (.calld 13824) [.t 22,.t 23,.t 26],
 op1 9 .mv [.t 27]] [7,22,23,24,25,26,27])
 (.region false [op1 28 .mv [.t 5],
 op1 29 .mv [.t 8],
 op1 30 (.slice false true 1) [.t 28,.t 29],
 op1 31 .mv [.t 9],
 op1 32 (.bslice 16392 1 1 (.w (0#32)) [0]) [.t 31],
 op1 33 (.app 16904 1) [.t 30,.t 32],
 op1 5 .mv [.t 33]] [8,9,28,29,30,31,32,33])))))
 (.region false [op1 34 (.bin .add) [.t 12,.c (.i 1)],
 op1 12 .mv [.t 34]] [34]))))
def F_impl_foldTerm_uint32_W0 : LC := .loop F_impl_foldTerm_uint32_L0
def F_impl_foldTerm_uint32 : LF :=
 { nparams := 2,results := [.t 4],body :=
 (.seq
 (.region false [op1 4 .mv [.c (.w (0#32))]] [4])
 (.seq
 (.region false [op1 5 (.newnil 2568) []] [])
 (.seq
 (.seq
 (.region false [op1 10 .mv [.t 0],
 op1 11 .len [.t 10],
 op1 12 .mv [.c (.i 0)]] [0])
 (.block 0
 F_impl_foldTerm_uint32_W0))
 (.seq
 (.region false [op1 35 .mv [.t 5],
 op1 36 (.idxa 1) [.t 35,.c (.i 0)],
 op1 37 (.load 1 false) [.t 36],
 op1 4 .mv [.t 37]] [1,5,10,11,12,35,36,37])
 .ret)))) }
/-- impl.statesOfPart -/
def F_impl_statesOfPart : LF :=
 { gl := [0],nparams := 2,results := [.t 4],body :=
 (.seq
 (.region false [op1 2 (.box 1040) [.t 0],
 op1 4 .mv [.c (.w (0#32))]] [0,4])
 (.seq
 (.seq
 (.region false [op1 5 (.fld 0 1 false) [.t 2],
 op1 6 (.load 1 false) [.t 5]] [5])
 (.block 0
 (.seq
 (.region false [op1 8 (.bin .eql) [.t 6,.c (.i 0)],
 op1 7 .mv [.t 8]] [8])
 (.cond (.t 7) [7]
 (.seq
 (.region false [op1 9 (.fld 1 1 false) [.t 2],
 op1 10 (.load 1 false) [.t 9],
 op1 11 (.idxp 5 1) [.t 1048576,.t 10],
 op1 12 (.load 1 false) [.t 11],
 op1 4 .mv [.t 12]] [1,2,6,9,10,11,12])
 .ret)
 (.seq
 (.region false [op1 14 (.bin .eql) [.t 6,.c (.i 1)],
 op1 13 .mv [.t 14]] [2,14])
 (.cond (.t 13) [13]
 (.seq
 (.region false [op1 15 .mv [.t 1],
 op1 16 (.idxa 1) [.t 15,.c (.i 0)],
 op1 17 (.load 1 false) [.t 16],
 op1 18 (.un .xor) [.t 17],
 op1 4 .mv [.t 18]] [1,6,15,16,17,18])
 .ret)
 (.seq
 (.region false [op1 20 (.bin .eql) [.t 6,.c (.i 2)],
 op1 19 .mv [.t 20]] [6,20])
 (.cond (.t 19) [19]
 (.seq
 (.region true [op1 21 .mv [.t 1],
 op1 22 (.idxa 1) [.t 21,.c (.i 0)],
 op1 23 (.load 1 false) [.t 22],
 op1 24 .mv [.t 1],
 op1 25 (.idxa 1) [.t 24,.c (.i 1)],
 op1 26 (.load 1 false) [.t 25],
 op1 27 (.bin .and) [.t 23,.t 26],
 op1 4 .mv [.t 27]] [1,21,22,23,24,25,26,27])
 .ret)
 .skip))))))))
 (.seq
 (.region true [op1 28 .mv [.t 1],
 op1 29 (.idxa 1) [.t 28,.c (.i 0)],
 op1 30 (.load 1 false) [.t 29],
 op1 31 .mv [.t 1],
 op1 32 (.idxa 1) [.t 31,.c (.i 1)],
 op1 33 (.load 1 false) [.t 32],
 op1 34 (.bin .or) [.t 30,.t 33],
 op1 4 .mv [.t 34]] [1,28,29,30,31,32,33,34])
 .ret))) }
/-- impl.point).isForced -/
def F_impl_point_isForced : LF :=
 { nparams := 1,results := [.t 2],body :=
 (.seq
 (.region false [op1 1 (.box 544) [.t 0],
 op1 2 .mv [.c (.b false)]] [0,2])
 (.seq
 (.region false [op1 3 (.load 4 true) [.t 1],
 op1 4 (.call n_impl_point_value 2048) [.t 3],
 op1 5 (.bin .neq) [.t 4,.c (.i (-1))],
 op1 2 .mv [.t 5]] [1,3,4,5])
 .ret)) }
/-- impl.hasTest -/
def F_impl_hasTest : LF :=
 { nparams := 2,results := [.t 4],body :=
 (.seq
 (.region false [op1 4 .mv [.c (.b false)]] [4])
 (.seq
 (.region false [op1 5 .mv [.t 0],
 op1 6 .mv [.t 1],
 op1 7 (.bin .shr) [.t 5,.t 6],
 op1 8 (.bin .and) [.t 7,.c (.i 1)],
 op1 9 (.bin .eql) [.t 8,.c (.i 1)],
 op1 4 .mv [.t 9]] [0,1,5,6,7,8,9])
 .ret)) }
/-- impl.valueAmong -/
def F_impl_valueAmong : LF :=
 { nparams := 2,results := [.t 4],body :=
 (.seq
 (.region false [op1 4 .mv [.c (.i 0)]] [4])
 (.seq
 (.seq
 (.region false [op1 5 .mv [.t 0],
 op1 6 .mv [.t 1],
 op1 7 (.bin .and) [.t 5,.t 6]] [0,5,6])
 (.block 0
 (.seq
 (.region false [op1 9 .mv [.t 1],
 op1 10 (.bin .eql) [.t 7,.t 9],
 op1 8 .mv [.t 10]] [1,9,10])
 (.cond (.t 8) [8]
 (.seq
 (.region false [op1 4 .mv [.c (.i 1)]] [7])
 .ret)
 (.seq
 (.region false [op1 12 (.bin .eql) [.t 7,.c (.w (0#32))],
 op1 11 .mv [.t 12]] [7,12])
 (.cond (.t 11) [11]
 (.seq
 (.region false [op1 4 .mv [.c (.i 0)]] [])
 .ret)
 .skip))))))
 (.seq
 (.region false [op1 4 .mv [.c (.i (-1))]] [])
 .ret))) }
/-- impl.statesSaying -/
def F_impl_statesSaying : LF :=
 { gl := [0],nparams := 2,results := [.t 4],body :=
 (.seq
 (.region false [op1 4 .mv [.c (.w (0#32))]] [4])
 (.seq
 (.seq
 (.region false [op1 5 .mv [.t 1],
 op1 6 (.bin .eql) [.t 5,.c (.i 1)]] [1,5])
 (.cond (.t 6) [6]
 (.seq
 (.region false [op1 7 .mv [.t 0],
 op1 8 (.idxp 5 1) [.t 1048576,.t 7],
 op1 9 (.load 1 false) [.t 8],
 op1 4 .mv [.t 9]] [0,7,8,9])
 .ret)
 .skip))
 (.seq
 (.region false [op1 10 .mv [.t 0],
 op1 11 (.idxp 5 1) [.t 1048576,.t 10],
 op1 12 (.load 1 false) [.t 11],
 op1 13 (.un .xor) [.t 12],
 op1 4 .mv [.t 13]] [0,10,11,12,13])
 .ret))) }
/-- spec.l1Agrees -/
def F_spec_l1Agrees_L0 : LC :=
 (.seq
 (.seq
 (.region false [op1 6 .mv [.t 5],
 op1 7 .mv [.t 0],
 op1 8 .len [.t 7],
 op1 9 (.bin .lss) [.t 6,.t 8]] [6,7,8])
 (.cond (.t 9) [9]
 .skip
 (.exit 0)))
 (.seq
 (.block 1
 (.seq
 (.region true [op1 12 .mv [.t 0],
 op1 13 .mv [.t 5],
 op1 14 (.idxa 1) [.t 12,.t 13],
 op1 15 (.load 1 false) [.t 14],
 op1 16 (.bin .neq) [.t 15,.c (.i (-1))],
 op1 17 .mv [.t 16],
 op2 18 .mv [.t 0] 17 true,
 op2 19 .mv [.t 5] 17 true,
 op2 20 (.idxa 1) [.t 18,.t 19] 17 true,
 op2 21 (.load 1 false) [.t 20] 17 true,
 op2 22 .mv [.t 1] 17 true,
 op2 23 .mv [.t 5] 17 true,
 op2 24 (.bin .shr) [.t 22,.t 23] 17 true,
 op2 25 (.bin .rem) [.t 24,.c (.i 2)] 17 true,
 op2 26 (.bin .neq) [.t 21,.t 25] 17 true,
 op1 27 .pick [.t 17,.t 26,.c (.b false)]] [12,13,14,15,16,17,18,19,20,21,22,23,24,25,26])
 (.cond (.t 27) [27]
 (.seq
 (.region false [op1 4 .mv [.c (.b false)]] [0,1,5])
 .ret)
 .skip)))
 (.region false [op1 10 .mv [.t 5],
 op1 11 (.bin .add) [.t 10,.c (.i 1)],
 op1 5 .mv [.t 11]] [10,11])))
def F_spec_l1Agrees_W0 : LC := .loop F_spec_l1Agrees_L0
def F_spec_l1Agrees : LF :=
 { nparams := 2,results := [.t 4],body :=
 (.seq
 (.region false [op1 4 .mv [.c (.b false)]] [4])
 (.seq
 (.seq
 (.region false [op1 5 .mv [.c (.i 0)]] [])
 (.block 0
 F_spec_l1Agrees_W0))
 (.seq
 (.region false [op1 4 .mv [.c (.b true)]] [0,1,5])
 .ret))) }
/-- spec.l2Starts -/
def F_spec_l2Starts_L0 : LC :=
 (.seq
 (.seq
 (.region false [op1 8 .mv [.t 5],
 op1 9 (.bin .gtr) [.t 8,.c (.i 0)]] [8])
 (.cond (.t 9) [9]
 .skip
 (.exit 0)))
 (.block 1
 (.seq
 (.seq
 (.region false [op1 10 .mv [.t 0],
 op1 11 .mv [.t 6],
 op1 12 (.idxa 2) [.t 10,.t 11],
 op1 13 (.fld 0 1 false) [.t 12],
 op1 14 (.load 1 false) [.t 13]] [10,11,12,13])
 (.block 2
 (.seq
 (.region false [op1 18 (.bin .eql) [.t 14,.c (.i 0)],
 op1 17 .mv [.t 18]] [18])
 (.cond (.t 17) [17]
 (.region false [op1 19 .mv [.t 5],
 op1 20 (.bin .sub) [.t 19,.c (.i 1)],
 op1 5 .mv [.t 20]] [14,19,20])
 (.seq
 (.region false [op1 22 (.bin .eql) [.t 14,.c (.i 1)],
 op1 21 .mv [.t 22]] [14,22])
 (.cond (.t 21) [21]
 .skip
 (.region false [op1 15 .mv [.t 5],
 op1 16 (.bin .add) [.t 15,.c (.i 1)],
 op1 5 .mv [.t 16]] [15,16])))))))
 (.region false [op1 23 .mv [.t 6],
 op1 24 (.bin .sub) [.t 23,.c (.i 1)],
 op1 6 .mv [.t 24]] [23,24]))))
def F_spec_l2Starts_W0 : LC := .loop F_spec_l2Starts_L0
def F_spec_l2Starts : LF :=
 { nparams := 2,results := [.t 4],body :=
 (.seq
 (.region false [op1 4 .mv [.c (.i 0)]] [4])
 (.seq
 (.region false [op1 5 .mv [.c (.i 1)]] [])
 (.seq
 (.region false [op1 7 .mv [.t 1],
 op1 6 .mv [.t 7]] [1,7])
 (.seq
 (.block 0
 F_spec_l2Starts_W0)
 (.seq
 (.region false [op1 25 .mv [.t 6],
 op1 26 (.bin .add) [.t 25,.c (.i 1)],
 op1 4 .mv [.t 26]] [0,5,6,25,26])
 .ret))))) }
def lf : Nat → Option LF
 | 10 => some F_laws_FnExactTurnedPlan
 | 11 => some F_laws_FnExactStopsOf
 | 15 => some F_spec_PlanText
 | 16 => some F_impl_PlanOk
 | 24 => some F_impl_TurnedPlan
 | 25 => some F_spec_TurnedPlan
 | 32 => some F_impl_StopsOf
 | 33 => some F_spec_StopsOf
 | 35 => some F_spec_TermOk
 | 36 => some F_laws_szMarkS
 | 37 => some F_laws_szChoiceS
 | 38 => some F_laws_toMarkS
 | 39 => some F_laws_toChoiceS
 | 40 => some F_laws_eqMarkS
 | 41 => some F_laws_eqChoiceS
 | 42 => some F_laws_markMarkS
 | 43 => some F_laws_markChoiceS
 | 44 => some F_laws_heldChoiceS
 | 54 => some F_impl_firstOf
 | 55 => some F_impl_startOf
 | 58 => some F_spec_PlanOk
 | 59 => some F_spec_l11Text
 | 60 => some F_spec_l3Table
 | 61 => some F_spec_l4None
 | 62 => some F_impl_pointsOf
 | 68 => some F_impl_TermOk
 | 70 => some F_spec_l1In
 | 73 => some F_impl_isWithin
 | 74 => some F_impl_StopsOf_1
 | 75 => some F_impl_StopsOf_2
 | 76 => some F_impl_foldPlan_int
 | 79 => some F_impl_trueStates
 | 80 => some F_laws_toMark
 | 81 => some F_laws_toChoice
 | 82 => some F_laws_eqMark
 | 83 => some F_laws_eqChoice
 | 98 => some F_impl_point_value
 | 99 => some F_impl_point_answered
 | 101 => some F_spec_l6Checks
 | 102 => some F_spec_l6Once
 | 103 => some F_spec_l1Number
 | 104 => some F_spec_l3Forced
 | 105 => some F_spec_l3Value
 | 106 => some F_impl_comesTo
 | 107 => some F_impl_point_canAsk
 | 108 => some F_impl_manyOk
 | 113 => some F_impl_partsTaken
 | 114 => some F_impl_markOk
 | 118 => some F_impl_foldTerm_uint32
 | 119 => some F_impl_statesOfPart
 | 124 => some F_impl_point_isForced
 | 127 => some F_impl_hasTest
 | 133 => some F_impl_valueAmong
 | 134 => some F_impl_statesSaying
 | 135 => some F_spec_l1Agrees
 | 136 => some F_spec_l2Starts
 | _ => none
theorem w_impl_TurnedPlan_0 (S : LS) : ex lf F_impl_TurnedPlan_W0 S = match ex lf F_impl_TurnedPlan_L0 S with | some (.normal,S1) => ex lf F_impl_TurnedPlan_W0 S1 | r => r := ex_loop lf F_impl_TurnedPlan_L0 S
theorem w_spec_TurnedPlan_0 (S : LS) : ex lf F_spec_TurnedPlan_W0 S = match ex lf F_spec_TurnedPlan_L0 S with | some (.normal,S1) => ex lf F_spec_TurnedPlan_W0 S1 | r => r := ex_loop lf F_spec_TurnedPlan_L0 S
theorem w_spec_StopsOf_0 (S : LS) : ex lf F_spec_StopsOf_W0 S = match ex lf F_spec_StopsOf_L0 S with | some (.normal,S1) => ex lf F_spec_StopsOf_W0 S1 | r => r := ex_loop lf F_spec_StopsOf_L0 S
theorem w_spec_TermOk_0 (S : LS) : ex lf F_spec_TermOk_W0 S = match ex lf F_spec_TermOk_L0 S with | some (.normal,S1) => ex lf F_spec_TermOk_W0 S1 | r => r := ex_loop lf F_spec_TermOk_L0 S
theorem w_laws_toMarkS_0 (S : LS) : ex lf F_laws_toMarkS_W0 S = match ex lf F_laws_toMarkS_L0 S with | some (.normal,S1) => ex lf F_laws_toMarkS_W0 S1 | r => r := ex_loop lf F_laws_toMarkS_L0 S
theorem w_laws_toChoiceS_0 (S : LS) : ex lf F_laws_toChoiceS_W0 S = match ex lf F_laws_toChoiceS_L0 S with | some (.normal,S1) => ex lf F_laws_toChoiceS_W0 S1 | r => r := ex_loop lf F_laws_toChoiceS_L0 S
theorem w_laws_eqMarkS_0 (S : LS) : ex lf F_laws_eqMarkS_W0 S = match ex lf F_laws_eqMarkS_L0 S with | some (.normal,S1) => ex lf F_laws_eqMarkS_W0 S1 | r => r := ex_loop lf F_laws_eqMarkS_L0 S
theorem w_laws_eqChoiceS_0 (S : LS) : ex lf F_laws_eqChoiceS_W0 S = match ex lf F_laws_eqChoiceS_L0 S with | some (.normal,S1) => ex lf F_laws_eqChoiceS_W0 S1 | r => r := ex_loop lf F_laws_eqChoiceS_L0 S
theorem w_laws_markMarkS_0 (S : LS) : ex lf F_laws_markMarkS_W0 S = match ex lf F_laws_markMarkS_L0 S with | some (.normal,S1) => ex lf F_laws_markMarkS_W0 S1 | r => r := ex_loop lf F_laws_markMarkS_L0 S
theorem w_laws_markChoiceS_0 (S : LS) : ex lf F_laws_markChoiceS_W0 S = match ex lf F_laws_markChoiceS_L0 S with | some (.normal,S1) => ex lf F_laws_markChoiceS_W0 S1 | r => r := ex_loop lf F_laws_markChoiceS_L0 S
theorem w_laws_heldChoiceS_0 (S : LS) : ex lf F_laws_heldChoiceS_W0 S = match ex lf F_laws_heldChoiceS_L0 S with | some (.normal,S1) => ex lf F_laws_heldChoiceS_W0 S1 | r => r := ex_loop lf F_laws_heldChoiceS_L0 S
theorem w_spec_l3Table_0 (S : LS) : ex lf F_spec_l3Table_W0 S = match ex lf F_spec_l3Table_L0 S with | some (.normal,S1) => ex lf F_spec_l3Table_W0 S1 | r => r := ex_loop lf F_spec_l3Table_L0 S
theorem w_spec_l4None_0 (S : LS) : ex lf F_spec_l4None_W0 S = match ex lf F_spec_l4None_L0 S with | some (.normal,S1) => ex lf F_spec_l4None_W0 S1 | r => r := ex_loop lf F_spec_l4None_L0 S
theorem w_impl_pointsOf_0 (S : LS) : ex lf F_impl_pointsOf_W0 S = match ex lf F_impl_pointsOf_L0 S with | some (.normal,S1) => ex lf F_impl_pointsOf_W0 S1 | r => r := ex_loop lf F_impl_pointsOf_L0 S
theorem w_impl_TermOk_0 (S : LS) : ex lf F_impl_TermOk_W0 S = match ex lf F_impl_TermOk_L0 S with | some (.normal,S1) => ex lf F_impl_TermOk_W0 S1 | r => r := ex_loop lf F_impl_TermOk_L0 S
theorem w_spec_l6Checks_0 (S : LS) : ex lf F_spec_l6Checks_W0 S = match ex lf F_spec_l6Checks_L0 S with | some (.normal,S1) => ex lf F_spec_l6Checks_W0 S1 | r => r := ex_loop lf F_spec_l6Checks_L0 S
theorem w_spec_l6Once_1 (S : LS) : ex lf F_spec_l6Once_W1 S = match ex lf F_spec_l6Once_L1 S with | some (.normal,S1) => ex lf F_spec_l6Once_W1 S1 | r => r := ex_loop lf F_spec_l6Once_L1 S
theorem w_spec_l6Once_0 (S : LS) : ex lf F_spec_l6Once_W0 S = match ex lf F_spec_l6Once_L0 S with | some (.normal,S1) => ex lf F_spec_l6Once_W0 S1 | r => r := ex_loop lf F_spec_l6Once_L0 S
theorem w_spec_l3Forced_0 (S : LS) : ex lf F_spec_l3Forced_W0 S = match ex lf F_spec_l3Forced_L0 S with | some (.normal,S1) => ex lf F_spec_l3Forced_W0 S1 | r => r := ex_loop lf F_spec_l3Forced_L0 S
theorem w_impl_foldTerm_uint32_0 (S : LS) : ex lf F_impl_foldTerm_uint32_W0 S = match ex lf F_impl_foldTerm_uint32_L0 S with | some (.normal,S1) => ex lf F_impl_foldTerm_uint32_W0 S1 | r => r := ex_loop lf F_impl_foldTerm_uint32_L0 S
theorem w_spec_l1Agrees_0 (S : LS) : ex lf F_spec_l1Agrees_W0 S = match ex lf F_spec_l1Agrees_L0 S with | some (.normal,S1) => ex lf F_spec_l1Agrees_W0 S1 | r => r := ex_loop lf F_spec_l1Agrees_L0 S
theorem w_spec_l2Starts_0 (S : LS) : ex lf F_spec_l2Starts_W0 S = match ex lf F_spec_l2Starts_L0 S with | some (.normal,S1) => ex lf F_spec_l2Starts_W0 S1 | r => r := ex_loop lf F_spec_l2Starts_L0 S
end Zz
