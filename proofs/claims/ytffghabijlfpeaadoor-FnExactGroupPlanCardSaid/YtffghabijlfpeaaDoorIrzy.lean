/- The functions of the program, read as data. No conditions. -/
import Derived.Test.YtffghabijlfpeaaDoorLgEzy
set_option linter.unusedSectionVars false
set_option linter.unusedVariables false
set_option linter.unusedSimpArgs false
namespace Zz
open Go.Lg
abbrev oK (d:Nat) (k:K) (a:List Opd):LOp:=⟨some d, k, a, none⟩
abbrev oG (d:Nat) (k:K) (a:List Opd) (t:Nat) (b:Bool):LOp:=⟨some d, k, a, some (t, b)⟩
def n_laws_FnExactGroupPlan:Nat:=3
def n_laws_szTestS:Nat:=4
def n_laws_szIntSS:Nat:=5
def n_spec_GroupPlan:Nat:=6
def n_laws_toTestS:Nat:=7
def n_laws_toIntSS:Nat:=8
def n_impl_GroupPlan:Nat:=9
def n_laws_eqChoiceS:Nat:=10
def n_laws_eqTestS:Nat:=11
def n_laws_eqIntSS:Nat:=12
def n_laws_markTestS:Nat:=13
def n_laws_markIntSS:Nat:=14
def n_laws_markChoiceS:Nat:=15
def n_laws_heldChoiceS:Nat:=16
def n_laws_szIntS:Nat:=17
def n_spec_SortedGroups:Nat:=18
def n_spec_l7Grow:Nat:=19
def n_laws_toTest:Nat:=20
def n_laws_toIntS:Nat:=21
def n_impl_groupsByRatios:Nat:=22
def n_impl_planFrom:Nat:=23
def n_impl_startOf:Nat:=24
def n_impl_GroupTerm:Nat:=25
def n_impl_GroupPlan_1:Nat:=26
def n_impl_nextInGroups:Nat:=27
def n_laws_eqChoice:Nat:=28
def n_laws_eqTest:Nat:=29
def n_laws_eqIntS:Nat:=30
def n_laws_markIntS:Nat:=31
def n_spec_TestsOk:Nat:=32
def n_spec_GroupsOk:Nat:=33
def n_spec_l7Inside:Nat:=34
def n_spec_l7Cost:Nat:=35
def n_impl_TestsOk:Nat:=36
def n_impl_GroupsOk:Nat:=37
def n_impl_groupsByRatios_1:Nat:=38
def n_impl_ratio_isLess:Nat:=39
def n_impl_inserted_impl_askedGroup:Nat:=40
def n_impl_groupOf:Nat:=41
def n_impl_point_isForced:Nat:=42
def n_impl_point_answered:Nat:=43
def n_impl_laidOut:Nat:=44
def n_impl_trueStates:Nat:=45
def n_slices_IndexFunc_impl_askedGroup_impl_askedGroup:Nat:=46
def n_impl_nextInGroups_1:Nat:=47
def n_impl_valueAmong:Nat:=48
def n_impl_statesWithYes:Nat:=49
def n_slices_IndexFunc_int_int:Nat:=50
def n_impl_point_canAsk:Nat:=51
def n_spec_l1In:Nat:=52
def n_spec_l1Power:Nat:=53
def n_impl_manyOk:Nat:=54
def n_impl_isWithin:Nat:=55
def n_impl_OrderOk:Nat:=56
def n_slices_Insert_impl_askedGroup_impl_askedGroup:Nat:=57
def n_impl_RatioOrder:Nat:=58
def n_slices_Contains_int_int:Nat:=59
def n_impl_RowAverage:Nat:=60
def n_impl_WeightOf:Nat:=61
def n_impl_wholeOf:Nat:=62
def n_impl_point_value:Nat:=63
def n_impl_statesSaying:Nat:=64
def n_slices_Concat_impl_Choice_impl_Choice:Nat:=65
def n_impl_foldTerm_uint32:Nat:=66
def n_impl_statesOfPart:Nat:=67
def n_impl_hasTest:Nat:=68
def n_slices_rotateRight_impl_askedGroup:Nat:=70
def n_impl_rowOk:Nat:=71
def n_impl_RatioOrder_1:Nat:=72
def n_impl_ratioOf:Nat:=73
def n_impl_inserted_int:Nat:=74
def n_slices_Index_int_int:Nat:=75
def n_impl_endChance:Nat:=76
def n_impl_StateOk:Nat:=77
def n_impl_outcomeIn:Nat:=78
def n_slices_Grow_impl_Choice_impl_Choice:Nat:=79
def n_impl_partsTaken:Nat:=80
def n_slices_rotateLeft_impl_askedGroup:Nat:=81
def n_slices_Insert_int_int:Nat:=82
def n_impl_statesOf:Nat:=83
def n_slices_Reverse_impl_askedGroup_impl_askedGroup:Nat:=84
def n_slices_rotateRight_int:Nat:=86
def n_slices_rotateLeft_int:Nat:=87
def n_slices_Reverse_int_int:Nat:=88
def bkFs:List Nat:=[]
instance : GL := ⟨[(0,.st [.w (2863311530#32),.w (3435973836#32),.w (4042322160#32),.w (4278255360#32),.w (4294901760#32)])],[13,14,15,31],["l4_orders.go:82","l10_rounds.go:90"],[],[(19,[3]),(40,[0]),(57,[0,2]),(74,[0]),(79,[0]),(82,[0,2])],[(28,57,6),(28,82,6)],["l20_draw.go:447"],bkFs⟩
theorem gEnv_0:gEnv [0]=[(1048576,.adr (.st [.w (2863311530#32),.w (3435973836#32),.w (4042322160#32),.w (4278255360#32),.w (4294901760#32)]))]:=rfl
def F_laws_FnExactGroupPlan:LF :=
 { nparams:=2,results:=[.t 4],body :=
 (.seq
 (.region false [oK 4 .mv [.c (.b false)]] [4])
 (.seq
 (.region false [oK 5 .mv [.c (.i 1048576)]] [])
 (.seq
 (.region false [oK 17 .mv [.t 0],
 oK 18 .mv [.t 5],
 oK 19 (.call n_laws_szTestS 9728) [.t 17,.t 18],
 oK 5 .mv [.t 19]] [17,18,19])
 (.seq
 (.seq
 (.region false [oK 20 .mv [.t 5],
 oK 21 (.bin .lss) [.t 20,.c (.i 0)]] [20])
 (.cond (.t 21) [21]
 (.seq
 (.region false [oK 4 .mv [.c (.b true)]] [0,1,5])
 .ret)
 .skip))
 (.seq
 (.region false [oK 22 .mv [.t 1],
 oK 23 .mv [.t 5],
 oK 24 (.call n_laws_szIntSS 12288) [.t 22,.t 23],
 oK 5 .mv [.t 24]] [22,23,24])
 (.seq
 (.seq
 (.region false [oK 25 .mv [.t 5],
 oK 26 (.bin .lss) [.t 25,.c (.i 0)]] [5,25])
 (.cond (.t 26) [26]
 (.seq
 (.region false [oK 4 .mv [.c (.b true)]] [0,1])
 .ret)
 .skip))
 (.seq
 (.region false [oK 28 .mv [.t 0],
 oK 29 (.call n_laws_toTestS 14848) [.t 28],
 oK 30 .mv [.t 1],
 oK 31 (.call n_laws_toIntSS 15872) [.t 30],
 oK 32 (.call n_spec_GroupPlan 16384) [.t 29,.t 31],
 oK 27 .mv [.t 32],
 oK 33 (.ext 0) [.t 27],
 oK 34 (.ext 1) [.t 27],
 oK 6 .mv [.t 33],
 oK 7 .mv [.t 34]] [27,28,29,30,31,32,33,34])
 (.seq
 (.region false [oK 35 .mv [.t 0],
 oK 36 (.call n_laws_toTestS 18432) [.t 35],
 oK 8 .mv [.t 36]] [35,36])
 (.seq
 (.region false [oK 37 .mv [.t 1],
 oK 38 (.call n_laws_toIntSS 19456) [.t 37],
 oK 9 .mv [.t 38]] [37,38])
 (.seq
 (.region false [oK 40 .mv [.t 8],
 oK 41 .mv [.t 9],
 oK 42 (.call n_impl_GroupPlan 21504) [.t 40,.t 41],
 oK 39 .mv [.t 42],
 oK 43 (.ext 0) [.t 39],
 oK 44 (.ext 1) [.t 39],
 oK 10 .mv [.t 43],
 oK 11 .mv [.t 44]] [39,40,41,42,43,44])
 (.seq
 (.seq
 (.region false [oK 45 .mv [.t 10],
 oK 46 .mv [.t 6],
 oK 47 (.call n_laws_eqChoiceS 24064) [.t 45,.t 46],
 oK 48 (.un .not) [.t 47],
 oK 49 .mv [.t 48],
 oG 50 .mv [.t 11] 49 false,
 oG 51 .mv [.t 7] 49 false,
 oG 52 (.eqb true) [.t 50,.t 51] 49 false,
 oK 53 .pick [.t 49,.c (.b true),.t 52]] [45,46,47,48,49,50,51,52])
 (.cond (.t 53) [53]
 (.seq
 (.region false [oK 4 .mv [.c (.b false)]] [0,1,6,7,8,9,10,11])
 .ret)
 .skip))
 (.seq
 (.seq
 (.region false [oK 54 .mv [.t 8],
 oK 55 .mv [.t 0],
 oK 56 (.call n_laws_toTestS 28672) [.t 55],
 oK 57 (.call n_laws_eqTestS 29184) [.t 54,.t 56],
 oK 58 (.un .not) [.t 57]] [54,55,56,57])
 (.cond (.t 58) [58]
 (.seq
 (.region false [oK 4 .mv [.c (.b false)]] [0,1,6,7,8,9,10,11])
 .ret)
 .skip))
 (.seq
 (.seq
 (.region false [oK 59 .mv [.t 9],
 oK 60 .mv [.t 1],
 oK 61 (.call n_laws_toIntSS 31232) [.t 60],
 oK 62 (.call n_laws_eqIntSS 31744) [.t 59,.t 61],
 oK 63 (.un .not) [.t 62]] [59,60,61,62])
 (.cond (.t 63) [63]
 (.seq
 (.region false [oK 4 .mv [.c (.b false)]] [0,1,6,7,8,9,10,11])
 .ret)
 .skip))
 (.seq
 (.region false [oK 12 .mv [.c (.i 1)]] [])
 (.seq
 (.region false [oK 64 .mv [.t 8],
 oK 65 .mv [.t 12],
 oK 66 (.call n_laws_markTestS 33796) [.t 64,.t 65],
 oK 12 .mv [.t 66]] [8,64,65,66])
 (.seq
 (.region false [oK 67 .mv [.t 9],
 oK 68 .mv [.t 12],
 oK 69 (.call n_laws_markIntSS 35332) [.t 67,.t 68],
 oK 12 .mv [.t 69]] [9,67,68,69])
 (.seq
 (.seq
 (.region false [oK 70 .mv [.t 12],
 oK 71 (.bin .lss) [.t 70,.c (.i 0)],
 oK 72 .mv [.t 71],
 oG 73 .mv [.t 10] 72 false,
 oG 74 .mv [.t 6] 72 false,
 oG 75 (.call n_laws_eqChoiceS 38400) [.t 73,.t 74] 72 false,
 oG 76 (.un .not) [.t 75] 72 false,
 oK 77 .pick [.t 72,.c (.b true),.t 76],
 oK 78 .mv [.t 77],
 oG 79 .mv [.t 11] 78 false,
 oG 80 .mv [.t 7] 78 false,
 oG 81 (.eqb true) [.t 79,.t 80] 78 false,
 oK 82 .pick [.t 78,.c (.b true),.t 81]] [11,12,70,71,72,73,74,75,76,77,78,79,80,81])
 (.cond (.t 82) [82]
 (.seq
 (.region false [oK 4 .mv [.c (.b false)]] [0,1,6,7,10])
 .ret)
 .skip))
 (.seq
 (.region false [oK 13 .mv [.c (.i 1)]] [])
 (.seq
 (.region false [oK 83 .mv [.t 10],
 oK 84 .mv [.t 13],
 oK 85 (.call n_laws_markChoiceS 43524) [.t 83,.t 84],
 oK 13 .mv [.t 85]] [83,84,85])
 (.seq
 (.region false [oK 14 .mv [.c (.i 1)]] [])
 (.seq
 (.region false [oK 86 .mv [.t 10],
 oK 87 .mv [.t 14],
 oK 88 (.call n_laws_heldChoiceS 45056) [.t 86,.t 87],
 oK 14 .mv [.t 88]] [86,87,88])
 (.seq
 (.seq
 (.region false [oK 89 .mv [.t 14],
 oK 90 (.bin .lss) [.t 89,.c (.i 0)]] [89])
 (.cond (.t 90) [90]
 (.seq
 (.region false [oK 4 .mv [.c (.b false)]] [0,1,6,7,10,13,14])
 .ret)
 .skip))
 (.seq
 (.seq
 (.region false [oK 91 .mv [.t 14],
 oK 92 .mv [.t 13],
 oK 93 (.bin .neq) [.t 91,.t 92]] [14,91,92])
 (.cond (.t 93) [93]
 (.seq
 (.region false [oK 4 .mv [.c (.b false)]] [0,1,6,7,10,13])
 .ret)
 .skip))
 (.seq
 (.region false [oK 95 .mv [.t 0],
 oK 96 (.call n_laws_toTestS 49152) [.t 95],
 oK 97 .mv [.t 1],
 oK 98 (.call n_laws_toIntSS 50176) [.t 97],
 oK 99 (.call n_impl_GroupPlan 50688) [.t 96,.t 98],
 oK 94 .mv [.t 99],
 oK 100 (.ext 0) [.t 94],
 oK 101 (.ext 1) [.t 94],
 oK 15 .mv [.t 100],
 oK 16 .mv [.t 101]] [0,1,94,95,96,97,98,99,100,101])
 (.seq
 (.seq
 (.region false [oK 102 .mv [.t 15],
 oK 103 .mv [.t 6],
 oK 104 (.call n_laws_eqChoiceS 53248) [.t 102,.t 103],
 oK 105 (.un .not) [.t 104],
 oK 106 .mv [.t 105],
 oG 107 .mv [.t 16] 106 false,
 oG 108 .mv [.t 7] 106 false,
 oG 109 (.eqb true) [.t 107,.t 108] 106 false,
 oK 110 .pick [.t 106,.c (.b true),.t 109]] [6,7,15,16,102,103,104,105,106,107,108,109])
 (.cond (.t 110) [110]
 (.seq
 (.region false [oK 4 .mv [.c (.b false)]] [10,13])
 .ret)
 .skip))
 (.seq
 (.region false [oK 14 .mv [.c (.i 1)]] [])
 (.seq
 (.region false [oK 111 .mv [.t 10],
 oK 112 .mv [.t 14],
 oK 113 (.call n_laws_heldChoiceS 57856) [.t 111,.t 112],
 oK 14 .mv [.t 113]] [10,111,112,113])
 (.seq
 (.seq
 (.region false [oK 114 .mv [.t 14],
 oK 115 (.bin .lss) [.t 114,.c (.i 0)]] [114])
 (.cond (.t 115) [115]
 (.seq
 (.region false [oK 4 .mv [.c (.b false)]] [13,14])
 .ret)
 .skip))
 (.seq
 (.seq
 (.region false [oK 116 .mv [.t 14],
 oK 117 .mv [.t 13],
 oK 118 (.bin .neq) [.t 116,.t 117]] [13,14,116,117])
 (.cond (.t 118) [118]
 (.seq
 (.region false [oK 4 .mv [.c (.b false)]] [])
 .ret)
 .skip))
 (.seq
 (.region false [oK 4 .mv [.c (.b true)]] [])
 .ret)))))))))))))))))))))))))))))) }
def F_laws_szTestS:LF :=
 { nparams:=2,results:=[.t 4],body :=
 (.seq
 (.region false [oK 4 .mv [.c (.i 0)]] [4])
 (.seq
 (.region false [oK 5 .mv [.t 1],
 oK 6 .mv [.t 0],
 oK 7 .len [.t 6],
 oK 8 (.bin .sub) [.t 5,.t 7],
 oK 1 .mv [.t 8]] [0,5,6,7,8])
 (.seq
 (.seq
 (.region false [oK 9 .mv [.t 1],
 oK 10 (.bin .lss) [.t 9,.c (.i 0)]] [9])
 (.cond (.t 10) [10]
 (.seq
 (.region false [oK 4 .mv [.c (.i (-1))]] [1])
 .ret)
 .skip))
 (.seq
 (.region false [oK 11 .mv [.t 1],
 oK 4 .mv [.t 11]] [1,11])
 .ret)))) }
def F_laws_szIntSS_L0:LC :=
 (.seq
 (.seq
 (.region false [oK 12 .mv [.t 5],
 oK 13 .mv [.t 0],
 oK 14 .len [.t 13],
 oK 15 (.bin .lss) [.t 12,.t 14]] [12,13,14])
 (.cond (.t 15) [15]
 .skip
 (.exit 0)))
 (.seq
 (.block 1
 (.seq
 (.region false [oK 18 .mv [.t 0],
 oK 19 .mv [.t 5],
 oK 20 (.idxa 1) [.t 18,.t 19],
 oK 21 (.load 1 false) [.t 20],
 oK 22 .mv [.t 1],
 oK 23 (.call n_laws_szIntS 11776) [.t 21,.t 22],
 oK 1 .mv [.t 23]] [18,19,20,21,22,23])
 (.seq
 (.region false [oK 24 .mv [.t 1],
 oK 25 (.bin .lss) [.t 24,.c (.i 0)]] [24])
 (.cond (.t 25) [25]
 (.seq
 (.region false [oK 4 .mv [.c (.i (-1))]] [0,1,5])
 .ret)
 .skip))))
 (.region false [oK 16 .mv [.t 5],
 oK 17 (.bin .add) [.t 16,.c (.i 1)],
 oK 5 .mv [.t 17]] [16,17])))
def F_laws_szIntSS_W0:LC:=.loop F_laws_szIntSS_L0
def F_laws_szIntSS:LF :=
 { nparams:=2,results:=[.t 4],body :=
 (.seq
 (.region false [oK 4 .mv [.c (.i 0)]] [4])
 (.seq
 (.region false [oK 6 .mv [.t 1],
 oK 7 .mv [.t 0],
 oK 8 .len [.t 7],
 oK 9 (.bin .sub) [.t 6,.t 8],
 oK 1 .mv [.t 9]] [6,7,8,9])
 (.seq
 (.seq
 (.region false [oK 10 .mv [.t 1],
 oK 11 (.bin .lss) [.t 10,.c (.i 0)]] [10])
 (.cond (.t 11) [11]
 (.seq
 (.region false [oK 4 .mv [.c (.i (-1))]] [0,1])
 .ret)
 .skip))
 (.seq
 (.seq
 (.region false [oK 5 .mv [.c (.i 0)]] [])
 (.block 0
 F_laws_szIntSS_W0))
 (.seq
 (.region false [oK 26 .mv [.t 1],
 oK 4 .mv [.t 26]] [0,1,5,26])
 .ret))))) }
def F_spec_GroupPlan:LF :=
 { nparams:=2,results:=[.t 4,.t 5],body :=
 (.seq
 (.region false [oK 4 (.newnil 2072) [],
 oK 5 .mv [.c (.b false)]] [4,5])
 (.seq
 (.region false [oK 9 .mv [.t 0],
 oK 10 .mv [.t 1],
 oK 11 (.call n_spec_SortedGroups 5632) [.t 9,.t 10],
 oK 6 .mv [.t 11]] [0,1,9,10,11])
 (.seq
 (.seq
 (.region false [oK 12 .mv [.t 6],
 oK 13 .len [.t 12],
 oK 14 (.bin .eql) [.t 13,.c (.i 0)]] [12,13])
 (.cond (.t 14) [14]
 (.seq
 (.region false [oK 15 (.bslice 7704 0 3 (.st [.i 0,.i 0,.i 0]) []) [],
 oK 4 .mv [.t 15],
 oK 5 .mv [.c (.b false)]] [6,15])
 .ret)
 .skip))
 (.seq
 (.region false [oK 17 .mv [.t 6],
 oK 18 (.bslice 9240 0 3 (.st [.i 0,.i 0,.i 0]) []) [],
 oK 19 (.callm n_spec_l7Grow [3] 9728) [.t 17,.c (.i 0),.c (.i 0),.t 18],
 oK 16 .mv [.t 19],
 oK 20 (.ext 0) [.t 16],
 oK 21 (.ext 1) [.t 16],
 oK 7 .mv [.t 20],
 oK 8 .mv [.t 21]] [6,8,16,17,18,19,20,21])
 (.seq
 (.region false [oK 22 .mv [.t 7],
 oK 4 .mv [.t 22],
 oK 5 .mv [.c (.b true)]] [7,22])
 .ret))))) }
def F_laws_toTestS_L0:LC :=
 (.seq
 (.seq
 (.region false [oK 8 .mv [.t 4],
 oK 9 .mv [.t 0],
 oK 10 .len [.t 9],
 oK 11 (.bin .lss) [.t 8,.t 10]] [8,9,10])
 (.cond (.t 11) [11]
 .skip
 (.exit 0)))
 (.seq
 (.block 1
 (.region false [oK 14 .mv [.t 3],
 oK 15 .mv [.t 4],
 oK 16 .mv [.t 0],
 oK 17 .mv [.t 4],
 oK 18 (.idxa 2) [.t 16,.t 17],
 oK 19 (.load 2 true) [.t 18],
 oK 20 (.call n_laws_toTest 10240) [.t 19],
 oK 21 (.idxa 2) [.t 14,.t 15],
 ⟨none,.store 2,[.t 21,.t 20],none⟩] [14,15,16,17,18,19,20,21]))
 (.region false [oK 12 .mv [.t 4],
 oK 13 (.bin .add) [.t 12,.c (.i 1)],
 oK 4 .mv [.t 13]] [12,13])))
def F_laws_toTestS_W0:LC:=.loop F_laws_toTestS_L0
def F_laws_toTestS:LF :=
 { nparams:=1,results:=[.t 2],body :=
 (.seq
 (.region false [oK 2 (.newnil 1040) []] [2])
 (.seq
 (.region false [oK 5 .mv [.t 0],
 oK 6 .len [.t 5],
 oK 7 (.make 3600 2 (.st [.i 0,.i 0])) [.t 6,.t 6],
 oK 3 .mv [.t 7]] [5,6,7])
 (.seq
 (.seq
 (.region false [oK 4 .mv [.c (.i 0)]] [])
 (.block 0
 F_laws_toTestS_W0))
 (.seq
 (.region false [oK 22 .mv [.t 3],
 oK 2 .mv [.t 22]] [0,3,4,22])
 .ret)))) }
def F_laws_toIntSS_L0:LC :=
 (.seq
 (.seq
 (.region false [oK 8 .mv [.t 4],
 oK 9 .mv [.t 0],
 oK 10 .len [.t 9],
 oK 11 (.bin .lss) [.t 8,.t 10]] [8,9,10])
 (.cond (.t 11) [11]
 .skip
 (.exit 0)))
 (.seq
 (.block 1
 (.region false [oK 14 .mv [.t 3],
 oK 15 .mv [.t 4],
 oK 16 .mv [.t 0],
 oK 17 .mv [.t 4],
 oK 18 (.idxa 1) [.t 16,.t 17],
 oK 19 (.load 1 false) [.t 18],
 oK 20 (.call n_laws_toIntS 10240) [.t 19],
 oK 21 (.idxa 1) [.t 14,.t 15],
 ⟨none,.store 1,[.t 21,.t 20],none⟩] [14,15,16,17,18,19,20,21]))
 (.region false [oK 12 .mv [.t 4],
 oK 13 (.bin .add) [.t 12,.c (.i 1)],
 oK 4 .mv [.t 13]] [12,13])))
def F_laws_toIntSS_W0:LC:=.loop F_laws_toIntSS_L0
def F_laws_toIntSS:LF :=
 { nparams:=1,results:=[.t 2],body :=
 (.seq
 (.region false [oK 2 (.newnil 1032) []] [2])
 (.seq
 (.region false [oK 5 .mv [.t 0],
 oK 6 .len [.t 5],
 oK 7 (.make 3592 1 (.sl 1 [])) [.t 6,.t 6],
 oK 3 .mv [.t 7]] [5,6,7])
 (.seq
 (.seq
 (.region false [oK 4 .mv [.c (.i 0)]] [])
 (.block 0
 F_laws_toIntSS_W0))
 (.seq
 (.region false [oK 22 .mv [.t 3],
 oK 2 .mv [.t 22]] [0,3,4,22])
 .ret)))) }
def F_impl_GroupPlan:LF :=
 { nparams:=2,results:=[.t 4,.t 5],body :=
 (.seq
 (.region false [oK 4 (.newnil 2072) [],
 oK 5 .mv [.c (.b false)]] [4,5])
 (.seq
 (.region false [oK 11 .mv [.t 0],
 oK 12 .mv [.t 1],
 oK 13 (.call n_impl_groupsByRatios 6656) [.t 11,.t 12],
 oK 10 .mv [.t 13],
 oK 14 (.ext 0) [.t 10],
 oK 15 (.ext 1) [.t 10],
 oK 6 (.alloc 3080 (.sl 1 [])) [],
 ⟨none,.store 1,[.t 6,.t 14],none⟩,
 oK 7 .mv [.t 15]] [10,11,12,13,14,15])
 (.seq
 (.seq
 (.region false [oK 16 .mv [.t 7],
 oK 17 (.un .not) [.t 16]] [7,16])
 (.cond (.t 17) [17]
 (.seq
 (.region false [oK 4 (.newnil 2072) [],
 oK 5 .mv [.c (.b false)]] [0,1,6])
 .ret)
 .skip))
 (.seq
 (.region false [oK 18 .mv [.t 0],
 oK 19 .len [.t 18],
 oK 8 .mv [.t 19]] [0,18,19])
 (.seq
 (.region false [oK 20 .mv [.t 8],
 oK 21 .mv [.t 8],
 oK 22 .mv [.t 1],
 oK 23 (.call n_impl_GroupTerm 11776) [.t 21,.t 22],
 oK 24 (.call n_impl_startOf 12288) [.t 20,.t 23],
 oK 25 (.mkfn (mkNo n_impl_GroupPlan_1 0)) [.t 6],
 oK 26 (.call n_impl_planFrom 13312) [.t 24,.c (.i 0),.t 25],
 oK 9 .mv [.t 26]] [1,6,8,20,21,22,23,24,25,26])
 (.seq
 (.region false [oK 27 .mv [.t 9],
 oK 4 .mv [.t 27],
 oK 5 .mv [.c (.b true)]] [9,27])
 .ret)))))) }
def F_laws_eqChoiceS_L0:LC :=
 (.seq
 (.seq
 (.region false [oK 11 .mv [.t 5],
 oK 12 .mv [.t 0],
 oK 13 .len [.t 12],
 oK 14 (.bin .lss) [.t 11,.t 13]] [11,12,13])
 (.cond (.t 14) [14]
 .skip
 (.exit 0)))
 (.seq
 (.block 1
 (.seq
 (.region true [oK 17 .mv [.t 0],
 oK 18 .mv [.t 5],
 oK 19 (.idxa 3) [.t 17,.t 18],
 oK 20 (.load 3 true) [.t 19],
 oK 21 .mv [.t 1],
 oK 22 .mv [.t 5],
 oK 23 (.idxa 3) [.t 21,.t 22],
 oK 24 (.load 3 true) [.t 23],
 oK 25 (.call n_laws_eqChoice 12800) [.t 20,.t 24],
 oK 26 (.un .not) [.t 25]] [17,18,19,20,21,22,23,24,25])
 (.cond (.t 26) [26]
 (.seq
 (.region false [oK 4 .mv [.c (.b false)]] [0,1,5])
 .ret)
 .skip)))
 (.region false [oK 15 .mv [.t 5],
 oK 16 (.bin .add) [.t 15,.c (.i 1)],
 oK 5 .mv [.t 16]] [15,16])))
def F_laws_eqChoiceS_W0:LC:=.loop F_laws_eqChoiceS_L0
def F_laws_eqChoiceS:LF :=
 { nparams:=2,results:=[.t 4],body :=
 (.seq
 (.region false [oK 4 .mv [.c (.b false)]] [4])
 (.seq
 (.seq
 (.region false [oK 6 .mv [.t 0],
 oK 7 .len [.t 6],
 oK 8 .mv [.t 1],
 oK 9 .len [.t 8],
 oK 10 (.bin .neq) [.t 7,.t 9]] [6,7,8,9])
 (.cond (.t 10) [10]
 (.seq
 (.region false [oK 4 .mv [.c (.b false)]] [0,1])
 .ret)
 .skip))
 (.seq
 (.seq
 (.region false [oK 5 .mv [.c (.i 0)]] [])
 (.block 0
 F_laws_eqChoiceS_W0))
 (.seq
 (.region false [oK 4 .mv [.c (.b true)]] [0,1,5])
 .ret)))) }
def F_laws_eqTestS_L0:LC :=
 (.seq
 (.seq
 (.region false [oK 11 .mv [.t 5],
 oK 12 .mv [.t 0],
 oK 13 .len [.t 12],
 oK 14 (.bin .lss) [.t 11,.t 13]] [11,12,13])
 (.cond (.t 14) [14]
 .skip
 (.exit 0)))
 (.seq
 (.block 1
 (.seq
 (.region true [oK 17 .mv [.t 0],
 oK 18 .mv [.t 5],
 oK 19 (.idxa 2) [.t 17,.t 18],
 oK 20 (.load 2 true) [.t 19],
 oK 21 .mv [.t 1],
 oK 22 .mv [.t 5],
 oK 23 (.idxa 2) [.t 21,.t 22],
 oK 24 (.load 2 true) [.t 23],
 oK 25 (.call n_laws_eqTest 12800) [.t 20,.t 24],
 oK 26 (.un .not) [.t 25]] [17,18,19,20,21,22,23,24,25])
 (.cond (.t 26) [26]
 (.seq
 (.region false [oK 4 .mv [.c (.b false)]] [0,1,5])
 .ret)
 .skip)))
 (.region false [oK 15 .mv [.t 5],
 oK 16 (.bin .add) [.t 15,.c (.i 1)],
 oK 5 .mv [.t 16]] [15,16])))
def F_laws_eqTestS_W0:LC:=.loop F_laws_eqTestS_L0
def F_laws_eqTestS:LF :=
 { nparams:=2,results:=[.t 4],body :=
 (.seq
 (.region false [oK 4 .mv [.c (.b false)]] [4])
 (.seq
 (.seq
 (.region false [oK 6 .mv [.t 0],
 oK 7 .len [.t 6],
 oK 8 .mv [.t 1],
 oK 9 .len [.t 8],
 oK 10 (.bin .neq) [.t 7,.t 9]] [6,7,8,9])
 (.cond (.t 10) [10]
 (.seq
 (.region false [oK 4 .mv [.c (.b false)]] [0,1])
 .ret)
 .skip))
 (.seq
 (.seq
 (.region false [oK 5 .mv [.c (.i 0)]] [])
 (.block 0
 F_laws_eqTestS_W0))
 (.seq
 (.region false [oK 4 .mv [.c (.b true)]] [0,1,5])
 .ret)))) }
def F_laws_eqIntSS_L0:LC :=
 (.seq
 (.seq
 (.region false [oK 11 .mv [.t 5],
 oK 12 .mv [.t 0],
 oK 13 .len [.t 12],
 oK 14 (.bin .lss) [.t 11,.t 13]] [11,12,13])
 (.cond (.t 14) [14]
 .skip
 (.exit 0)))
 (.seq
 (.block 1
 (.seq
 (.region true [oK 17 .mv [.t 0],
 oK 18 .mv [.t 5],
 oK 19 (.idxa 1) [.t 17,.t 18],
 oK 20 (.load 1 false) [.t 19],
 oK 21 .mv [.t 1],
 oK 22 .mv [.t 5],
 oK 23 (.idxa 1) [.t 21,.t 22],
 oK 24 (.load 1 false) [.t 23],
 oK 25 (.call n_laws_eqIntS 12800) [.t 20,.t 24],
 oK 26 (.un .not) [.t 25]] [17,18,19,20,21,22,23,24,25])
 (.cond (.t 26) [26]
 (.seq
 (.region false [oK 4 .mv [.c (.b false)]] [0,1,5])
 .ret)
 .skip)))
 (.region false [oK 15 .mv [.t 5],
 oK 16 (.bin .add) [.t 15,.c (.i 1)],
 oK 5 .mv [.t 16]] [15,16])))
def F_laws_eqIntSS_W0:LC:=.loop F_laws_eqIntSS_L0
def F_laws_eqIntSS:LF :=
 { nparams:=2,results:=[.t 4],body :=
 (.seq
 (.region false [oK 4 .mv [.c (.b false)]] [4])
 (.seq
 (.seq
 (.region false [oK 6 .mv [.t 0],
 oK 7 .len [.t 6],
 oK 8 .mv [.t 1],
 oK 9 .len [.t 8],
 oK 10 (.bin .neq) [.t 7,.t 9]] [6,7,8,9])
 (.cond (.t 10) [10]
 (.seq
 (.region false [oK 4 .mv [.c (.b false)]] [0,1])
 .ret)
 .skip))
 (.seq
 (.seq
 (.region false [oK 5 .mv [.c (.i 0)]] [])
 (.block 0
 F_laws_eqIntSS_W0))
 (.seq
 (.region false [oK 4 .mv [.c (.b true)]] [0,1,5])
 .ret)))) }
def F_laws_markTestS_L0:LC :=
 (.seq
 (.seq
 (.region false [oK 6 .mv [.t 5],
 oK 7 .mv [.t 0],
 oK 8 .len [.t 7],
 oK 9 (.bin .lss) [.t 6,.t 8]] [6,7,8])
 (.cond (.t 9) [9]
 .skip
 (.exit 0)))
 (.seq
 (.block 1
 (.seq
 (.region false [oK 12 .mv [.t 0],
 oK 13 .mv [.t 5],
 oK 14 .mv [.t 1],
 oK 15 (.idxa 2) [.t 12,.t 13],
 oK 16 (.fld 0 1 false) [.t 15],
 ⟨none,.store 1,[.t 16,.t 14],none⟩] [12,13,14,15,16])
 (.seq
 (.region false [oK 17 .mv [.t 1],
 oK 18 (.bin .add) [.t 17,.c (.i 1)],
 oK 1 .mv [.t 18]] [17,18])
 (.seq
 (.region false [oK 19 .mv [.t 0],
 oK 20 .mv [.t 5],
 oK 21 .mv [.t 1],
 oK 22 (.idxa 2) [.t 19,.t 20],
 oK 23 (.fld 1 1 false) [.t 22],
 ⟨none,.store 1,[.t 23,.t 21],none⟩] [19,20,21,22,23])
 (.region false [oK 24 .mv [.t 1],
 oK 25 (.bin .add) [.t 24,.c (.i 1)],
 oK 1 .mv [.t 25]] [24,25])))))
 (.region false [oK 10 .mv [.t 5],
 oK 11 (.bin .add) [.t 10,.c (.i 1)],
 oK 5 .mv [.t 11]] [10,11])))
def F_laws_markTestS_W0:LC:=.loop F_laws_markTestS_L0
def F_laws_markTestS:LF :=
 { nparams:=2,results:=[.t 4],body :=
 (.seq
 (.region false [oK 4 .mv [.c (.i 0)]] [4])
 (.seq
 (.seq
 (.region false [oK 5 .mv [.c (.i 0)]] [])
 (.block 0
 F_laws_markTestS_W0))
 (.seq
 (.region false [oK 26 .mv [.t 1],
 oK 4 .mv [.t 26]] [1,5,26])
 .ret))) }
def F_laws_markIntSS_L0:LC :=
 (.seq
 (.seq
 (.region false [oK 6 .mv [.t 5],
 oK 7 .mv [.t 0],
 oK 8 .len [.t 7],
 oK 9 (.bin .lss) [.t 6,.t 8]] [6,7,8])
 (.cond (.t 9) [9]
 .skip
 (.exit 0)))
 (.seq
 (.block 1
 (.region false [oK 12 .mv [.t 0],
 oK 13 .mv [.t 5],
 oK 14 (.idxa 1) [.t 12,.t 13],
 oK 15 (.load 1 false) [.t 14],
 oK 16 .mv [.t 1],
 oK 17 (.call n_laws_markIntS 8708) [.t 15,.t 16],
 oK 1 .mv [.t 17]] [12,13,14,15,16,17]))
 (.region false [oK 10 .mv [.t 5],
 oK 11 (.bin .add) [.t 10,.c (.i 1)],
 oK 5 .mv [.t 11]] [10,11])))
def F_laws_markIntSS_W0:LC:=.loop F_laws_markIntSS_L0
def F_laws_markIntSS:LF :=
 { nparams:=2,results:=[.t 4],body :=
 (.seq
 (.region false [oK 4 .mv [.c (.i 0)]] [4])
 (.seq
 (.seq
 (.region false [oK 5 .mv [.c (.i 0)]] [])
 (.block 0
 F_laws_markIntSS_W0))
 (.seq
 (.region false [oK 18 .mv [.t 1],
 oK 4 .mv [.t 18]] [1,5,18])
 .ret))) }
def F_laws_markChoiceS_L0:LC :=
 (.seq
 (.seq
 (.region false [oK 6 .mv [.t 5],
 oK 7 .mv [.t 0],
 oK 8 .len [.t 7],
 oK 9 (.bin .lss) [.t 6,.t 8]] [6,7,8])
 (.cond (.t 9) [9]
 .skip
 (.exit 0)))
 (.seq
 (.block 1
 (.seq
 (.region false [oK 12 .mv [.t 0],
 oK 13 .mv [.t 5],
 oK 14 .mv [.t 1],
 oK 15 (.idxa 3) [.t 12,.t 13],
 oK 16 (.fld 0 1 false) [.t 15],
 ⟨none,.store 1,[.t 16,.t 14],none⟩] [12,13,14,15,16])
 (.seq
 (.region false [oK 17 .mv [.t 1],
 oK 18 (.bin .add) [.t 17,.c (.i 1)],
 oK 1 .mv [.t 18]] [17,18])
 (.seq
 (.region false [oK 19 .mv [.t 0],
 oK 20 .mv [.t 5],
 oK 21 .mv [.t 1],
 oK 22 (.idxa 3) [.t 19,.t 20],
 oK 23 (.fld 1 1 false) [.t 22],
 ⟨none,.store 1,[.t 23,.t 21],none⟩] [19,20,21,22,23])
 (.seq
 (.region false [oK 24 .mv [.t 1],
 oK 25 (.bin .add) [.t 24,.c (.i 1)],
 oK 1 .mv [.t 25]] [24,25])
 (.seq
 (.region false [oK 26 .mv [.t 0],
 oK 27 .mv [.t 5],
 oK 28 .mv [.t 1],
 oK 29 (.idxa 3) [.t 26,.t 27],
 oK 30 (.fld 2 1 false) [.t 29],
 ⟨none,.store 1,[.t 30,.t 28],none⟩] [26,27,28,29,30])
 (.region false [oK 31 .mv [.t 1],
 oK 32 (.bin .add) [.t 31,.c (.i 1)],
 oK 1 .mv [.t 32]] [31,32])))))))
 (.region false [oK 10 .mv [.t 5],
 oK 11 (.bin .add) [.t 10,.c (.i 1)],
 oK 5 .mv [.t 11]] [10,11])))
def F_laws_markChoiceS_W0:LC:=.loop F_laws_markChoiceS_L0
def F_laws_markChoiceS:LF :=
 { nparams:=2,results:=[.t 4],body :=
 (.seq
 (.region false [oK 4 .mv [.c (.i 0)]] [4])
 (.seq
 (.seq
 (.region false [oK 5 .mv [.c (.i 0)]] [])
 (.block 0
 F_laws_markChoiceS_W0))
 (.seq
 (.region false [oK 33 .mv [.t 1],
 oK 4 .mv [.t 33]] [1,5,33])
 .ret))) }
def F_laws_heldChoiceS_L0:LC :=
 (.seq
 (.seq
 (.region false [oK 6 .mv [.t 5],
 oK 7 .mv [.t 0],
 oK 8 .len [.t 7],
 oK 9 (.bin .lss) [.t 6,.t 8]] [6,7,8])
 (.cond (.t 9) [9]
 .skip
 (.exit 0)))
 (.seq
 (.block 1
 (.seq
 (.seq
 (.region false [oK 12 .mv [.t 0],
 oK 13 .mv [.t 5],
 oK 14 (.idxa 3) [.t 12,.t 13],
 oK 15 (.fld 0 1 false) [.t 14],
 oK 16 (.load 1 false) [.t 15],
 oK 17 .mv [.t 1],
 oK 18 (.bin .neq) [.t 16,.t 17]] [12,13,14,15,16,17])
 (.cond (.t 18) [18]
 (.seq
 (.region false [oK 4 .mv [.c (.i (-1))]] [0,1,5])
 .ret)
 .skip))
 (.seq
 (.region false [oK 19 .mv [.t 1],
 oK 20 (.bin .add) [.t 19,.c (.i 1)],
 oK 1 .mv [.t 20]] [19,20])
 (.seq
 (.seq
 (.region false [oK 21 .mv [.t 0],
 oK 22 .mv [.t 5],
 oK 23 (.idxa 3) [.t 21,.t 22],
 oK 24 (.fld 1 1 false) [.t 23],
 oK 25 (.load 1 false) [.t 24],
 oK 26 .mv [.t 1],
 oK 27 (.bin .neq) [.t 25,.t 26]] [21,22,23,24,25,26])
 (.cond (.t 27) [27]
 (.seq
 (.region false [oK 4 .mv [.c (.i (-1))]] [0,1,5])
 .ret)
 .skip))
 (.seq
 (.region false [oK 28 .mv [.t 1],
 oK 29 (.bin .add) [.t 28,.c (.i 1)],
 oK 1 .mv [.t 29]] [28,29])
 (.seq
 (.seq
 (.region false [oK 30 .mv [.t 0],
 oK 31 .mv [.t 5],
 oK 32 (.idxa 3) [.t 30,.t 31],
 oK 33 (.fld 2 1 false) [.t 32],
 oK 34 (.load 1 false) [.t 33],
 oK 35 .mv [.t 1],
 oK 36 (.bin .neq) [.t 34,.t 35]] [30,31,32,33,34,35])
 (.cond (.t 36) [36]
 (.seq
 (.region false [oK 4 .mv [.c (.i (-1))]] [0,1,5])
 .ret)
 .skip))
 (.region false [oK 37 .mv [.t 1],
 oK 38 (.bin .add) [.t 37,.c (.i 1)],
 oK 1 .mv [.t 38]] [37,38])))))))
 (.region false [oK 10 .mv [.t 5],
 oK 11 (.bin .add) [.t 10,.c (.i 1)],
 oK 5 .mv [.t 11]] [10,11])))
def F_laws_heldChoiceS_W0:LC:=.loop F_laws_heldChoiceS_L0
def F_laws_heldChoiceS:LF :=
 { nparams:=2,results:=[.t 4],body :=
 (.seq
 (.region false [oK 4 .mv [.c (.i 0)]] [4])
 (.seq
 (.seq
 (.region false [oK 5 .mv [.c (.i 0)]] [])
 (.block 0
 F_laws_heldChoiceS_W0))
 (.seq
 (.region false [oK 39 .mv [.t 1],
 oK 4 .mv [.t 39]] [0,1,5,39])
 .ret))) }
def F_laws_szIntS:LF :=
 { nparams:=2,results:=[.t 4],body :=
 (.seq
 (.region false [oK 4 .mv [.c (.i 0)]] [4])
 (.seq
 (.region false [oK 5 .mv [.t 1],
 oK 6 .mv [.t 0],
 oK 7 .len [.t 6],
 oK 8 (.bin .sub) [.t 5,.t 7],
 oK 1 .mv [.t 8]] [0,5,6,7,8])
 (.seq
 (.seq
 (.region false [oK 9 .mv [.t 1],
 oK 10 (.bin .lss) [.t 9,.c (.i 0)]] [9])
 (.cond (.t 10) [10]
 (.seq
 (.region false [oK 4 .mv [.c (.i (-1))]] [1])
 .ret)
 .skip))
 (.seq
 (.region false [oK 11 .mv [.t 1],
 oK 4 .mv [.t 11]] [1,11])
 .ret)))) }
def F_spec_SortedGroups_L1:LC :=
 (.seq
 (.seq
 (.region false [oK 43 .mv [.t 10],
 oK 44 .mv [.t 5],
 oK 45 .len [.t 44],
 oK 46 (.bin .lss) [.t 43,.t 45]] [43,44,45])
 (.cond (.t 46) [46]
 .skip
 (.exit 2)))
 (.block 3
 (.seq
 (.region false [oK 48 .mv [.t 0],
 oK 49 .mv [.t 5],
 oK 50 .mv [.t 10],
 oK 51 (.idxa 1) [.t 49,.t 50],
 oK 52 (.load 1 false) [.t 51],
 oK 53 (.call n_spec_l7Cost 27136) [.t 48,.t 52],
 oK 47 .mv [.t 53],
 oK 54 (.ext 0) [.t 47],
 oK 55 (.ext 1) [.t 47],
 oK 11 .mv [.t 54],
 oK 12 .mv [.t 55]] [47,48,49,50,51,52,53,54,55])
 (.seq
 (.seq
 (.region false [oK 56 .mv [.t 11],
 oK 57 .mv [.t 9],
 oK 58 (.bin .mul) [.t 56,.t 57],
 oK 59 .mv [.t 8],
 oK 60 .mv [.t 12],
 oK 61 (.bin .mul) [.t 59,.t 60],
 oK 62 (.bin .gtr) [.t 58,.t 61]] [11,12,56,57,58,59,60,61])
 (.cond (.t 62) [62]
 (.exit 2)
 .skip))
 (.region false [oK 63 .mv [.t 10],
 oK 64 (.bin .add) [.t 63,.c (.i 1)],
 oK 10 .mv [.t 64]] [63,64])))))
def F_spec_SortedGroups_W1:LC:=.loop F_spec_SortedGroups_L1
def F_spec_SortedGroups_L0:LC :=
 (.ghost (.rename 5 7176)
 (.seq
 (.seq
 (.region false [oK 15 .mv [.t 6],
 oK 16 .mv [.t 1],
 oK 17 .len [.t 16],
 oK 18 (.bin .lss) [.t 15,.t 17],
 oK 19 .mv [.t 18],
 oG 20 .mv [.t 0] 19 true,
 oG 21 (.call n_spec_TestsOk 10752) [.t 20] 19 true,
 oK 22 .pick [.t 19,.t 21,.c (.b false)],
 oK 23 .mv [.t 22],
 oG 24 .mv [.t 0] 23 true,
 oG 25 .len [.t 24] 23 true,
 oG 26 .mv [.t 1] 23 true,
 oG 27 (.call n_spec_GroupsOk 13824) [.t 25,.t 26] 23 true,
 oK 28 .pick [.t 23,.t 27,.c (.b false)]] [15,16,17,18,19,20,21,22,23,24,25,26,27])
 (.cond (.t 28) [28]
 .skip
 (.exit 0)))
 (.seq
 (.block 1
 (.seq
 (.region false [oK 31 .mv [.t 0],
 oK 32 .mv [.t 1],
 oK 33 .mv [.t 6],
 oK 34 (.idxa 1) [.t 32,.t 33],
 oK 35 (.load 1 false) [.t 34],
 oK 36 (.call n_spec_l7Inside 18432) [.t 31,.t 35],
 oK 7 .mv [.t 36]] [31,32,33,34,35,36])
 (.seq
 (.region false [oK 38 .mv [.t 0],
 oK 39 .mv [.t 7],
 oK 40 (.call n_spec_l7Cost 20480) [.t 38,.t 39],
 oK 37 .mv [.t 40],
 oK 41 (.ext 0) [.t 37],
 oK 42 (.ext 1) [.t 37],
 oK 8 .mv [.t 41],
 oK 9 .mv [.t 42]] [37,38,39,40,41,42])
 (.seq
 (.region false [oK 10 .mv [.c (.i 0)]] [])
 (.seq
 (.block 2
 F_spec_SortedGroups_W1)
 (.seq
 (.region false [oK 65 (.bslice 33288 0 1 (.sl 1 []) []) [],
 oK 66 .mv [.t 5],
 oK 67 .mv [.t 10],
 oK 68 (.slice false true 1) [.t 66,.t 67],
 oK 69 (.app 35336 1) [.t 65,.t 68],
 oK 13 .mv [.t 69]] [8,9,65,66,67,68,69])
 (.seq
 (.region false [oK 70 .mv [.t 13],
 oK 71 .mv [.t 7],
 oK 72 (.bslice 36872 1 1 (.sl 1 []) [0]) [.t 71],
 oK 73 (.app 37384 1) [.t 70,.t 72],
 oK 13 .mv [.t 73]] [7,70,71,72,73])
 (.region false [oK 74 .mv [.t 13],
 oK 75 .mv [.t 5],
 oK 76 .mv [.t 10],
 oK 77 (.slice true false 1) [.t 75,.t 76],
 oK 78 (.app 39944 1) [.t 74,.t 77],
 oK 5 .mv [.t 78]] [10,13,74,75,76,77,78]))))))))
 (.region false [oK 29 .mv [.t 6],
 oK 30 (.bin .add) [.t 29,.c (.i 1)],
 oK 6 .mv [.t 30]] [29,30]))))
def F_spec_SortedGroups_W0:LC:=.loop F_spec_SortedGroups_L0
def F_spec_SortedGroups:LF :=
 { nparams:=2,results:=[.t 4],body :=
 (.seq
 (.region false [oK 4 (.newnil 2056) []] [4])
 (.seq
 (.region false [oK 14 (.bslice 7176 0 1 (.sl 1 []) []) [],
 oK 5 .mv [.t 14]] [14])
 (.seq
 (.seq
 (.region false [oK 6 .mv [.c (.i 0)]] [])
 (.block 0
 F_spec_SortedGroups_W0))
 (.seq
 (.region false [oK 79 .mv [.t 5],
 oK 4 .mv [.t 79]] [0,1,5,6,79])
 .ret)))) }
def F_spec_l7Grow:LF :=
 { nparams:=4,results:=[.t 8,.t 9],body :=
 (.seq
 (.region false [oK 8 (.newnil 4120) [],
 oK 9 .mv [.c (.i 0)]] [8,9])
 (.seq
 (.seq
 (.region false [oK 13 .mv [.t 1],
 oK 14 .mv [.t 0],
 oK 15 .len [.t 14],
 oK 16 (.bin .eql) [.t 13,.t 15],
 oK 17 .mv [.t 16],
 oG 18 .mv [.t 2] 17 false,
 oG 19 .mv [.t 0] 17 false,
 oG 20 .mv [.t 1] 17 false,
 oG 21 (.idxa 1) [.t 19,.t 20] 17 false,
 oG 22 (.load 1 false) [.t 21] 17 false,
 oG 23 .len [.t 22] 17 false,
 oG 24 (.bin .eql) [.t 18,.t 23] 17 false,
 oK 25 .pick [.t 17,.c (.b true),.t 24]] [13,14,15,16,17,18,19,20,21,22,23,24])
 (.cond (.t 25) [25]
 (.seq
 (.region false [oK 26 .mv [.t 3],
 oK 8 .mv [.t 26],
 oK 9 .mv [.c (.i (-1))]] [0,1,2,3,26])
 .ret)
 .skip))
 (.seq
 (.region false [oK 27 .mv [.t 3],
 oK 28 .len [.t 27],
 oK 10 .mv [.t 28]] [27,28])
 (.seq
 (.region true [oK 29 (.bslice 14872 0 3 (.st [.i 0,.i 0,.i 0]) []) [],
 oK 30 .mv [.t 3],
 oK 31 (.app 15896 3) [.t 29,.t 30],
 oK 32 .mv [.t 0],
 oK 33 .mv [.t 1],
 oK 34 (.idxa 1) [.t 32,.t 33],
 oK 35 (.load 1 false) [.t 34],
 oK 36 .mv [.t 2],
 oK 37 (.idxa 1) [.t 35,.t 36],
 oK 38 (.load 1 false) [.t 37],
 oK 39 (.build [.i 0,.i 0,.i 0] [(0,1),(1,1),(2,1)]) [.t 38,.c (.i (-1)),.c (.i (-1))],
 oK 40 (.bslice 20504 1 3 (.st [.i 0,.i 0,.i 0]) [0]) [.t 39],
 oK 41 (.app 21016 3) [.t 31,.t 40],
 oK 3 .mv [.t 41]] [29,30,31,32,33,34,35,36,37,38,39,40,41])
 (.seq
 (.region false [oK 43 .mv [.t 0],
 oK 44 .mv [.t 1],
 oK 45 .mv [.t 2],
 oK 46 (.bin .add) [.t 45,.c (.i 1)],
 oK 47 .mv [.t 3],
 oK 48 (.callm n_spec_l7Grow [3] 24576) [.t 43,.t 44,.t 46,.t 47],
 oK 42 .mv [.t 48],
 oK 49 (.ext 0) [.t 42],
 oK 50 (.ext 1) [.t 42],
 oK 3 .mv [.t 49],
 oK 11 .mv [.t 50]] [42,43,44,45,46,47,48,49,50])
 (.seq
 (.region false [oK 52 .mv [.t 0],
 oK 53 .mv [.t 1],
 oK 54 (.bin .add) [.t 53,.c (.i 1)],
 oK 55 .mv [.t 3],
 oK 56 (.callm n_spec_l7Grow [3] 28672) [.t 52,.t 54,.c (.i 0),.t 55],
 oK 51 .mv [.t 56],
 oK 57 (.ext 0) [.t 51],
 oK 58 (.ext 1) [.t 51],
 oK 3 .mv [.t 57],
 oK 12 .mv [.t 58]] [51,52,53,54,55,56,57,58])
 (.seq
 (.region false [oK 59 .mv [.t 3],
 oK 60 .mv [.t 10],
 oK 61 .mv [.t 0],
 oK 62 .mv [.t 1],
 oK 63 (.idxa 1) [.t 61,.t 62],
 oK 64 (.load 1 false) [.t 63],
 oK 65 .mv [.t 2],
 oK 66 (.idxa 1) [.t 64,.t 65],
 oK 67 (.load 1 false) [.t 66],
 oK 68 .mv [.t 11],
 oK 69 .mv [.t 12],
 oK 70 (.build [.i 0,.i 0,.i 0] [(0,1),(1,1),(2,1)]) [.t 67,.t 68,.t 69],
 oK 71 (.idxa 3) [.t 59,.t 60],
 ⟨none,.store 3,[.t 71,.t 70],none⟩] [0,1,2,11,12,59,60,61,62,63,64,65,66,67,68,69,70,71])
 (.seq
 (.region false [oK 72 .mv [.t 3],
 oK 73 .mv [.t 10],
 oK 8 .mv [.t 72],
 oK 9 .mv [.t 73]] [3,10,72,73])
 .ret)))))))) }
def F_laws_toTest:LF :=
 { nparams:=1,results:=[.c 2 2 true],body :=
 (.seq
 (.region false [oK 1 (.box 528) [.t 0],
 oK 2 (.alloc 1040 (.st [.i 0,.i 0])) []] [0])
 (.seq
 (.region false [oK 3 (.alloc 1552 (.st [.i 0,.i 0])) []] [])
 (.seq
 (.region false [oK 4 (.fld 0 1 false) [.t 1],
 oK 5 (.load 1 false) [.t 4],
 oK 6 (.fld 0 1 false) [.t 3],
 ⟨none,.store 1,[.t 6,.t 5],none⟩] [4,5,6])
 (.seq
 (.region false [oK 7 (.fld 1 1 false) [.t 1],
 oK 8 (.load 1 false) [.t 7],
 oK 9 (.fld 1 1 false) [.t 3],
 ⟨none,.store 1,[.t 9,.t 8],none⟩] [1,7,8,9])
 (.seq
 (.region false [oK 10 (.load 2 true) [.t 3],
 ⟨none,.store 2,[.t 2,.t 10],none⟩] [3,10])
 .ret))))) }
def F_laws_toIntS_L0:LC :=
 (.seq
 (.seq
 (.region false [oK 8 .mv [.t 4],
 oK 9 .mv [.t 0],
 oK 10 .len [.t 9],
 oK 11 (.bin .lss) [.t 8,.t 10]] [8,9,10])
 (.cond (.t 11) [11]
 .skip
 (.exit 0)))
 (.seq
 (.block 1
 (.region false [oK 14 .mv [.t 3],
 oK 15 .mv [.t 4],
 oK 16 .mv [.t 0],
 oK 17 .mv [.t 4],
 oK 18 (.idxa 1) [.t 16,.t 17],
 oK 19 (.load 1 false) [.t 18],
 oK 20 (.idxa 1) [.t 14,.t 15],
 ⟨none,.store 1,[.t 20,.t 19],none⟩] [14,15,16,17,18,19,20]))
 (.region false [oK 12 .mv [.t 4],
 oK 13 (.bin .add) [.t 12,.c (.i 1)],
 oK 4 .mv [.t 13]] [12,13])))
def F_laws_toIntS_W0:LC:=.loop F_laws_toIntS_L0
def F_laws_toIntS:LF :=
 { nparams:=1,results:=[.t 2],body :=
 (.seq
 (.region false [oK 2 (.newnil 1032) []] [2])
 (.seq
 (.region false [oK 5 .mv [.t 0],
 oK 6 .len [.t 5],
 oK 7 (.make 3592 1 (.i 0)) [.t 6,.t 6],
 oK 3 .mv [.t 7]] [5,6,7])
 (.seq
 (.seq
 (.region false [oK 4 .mv [.c (.i 0)]] [])
 (.block 0
 F_laws_toIntS_W0))
 (.seq
 (.region false [oK 21 .mv [.t 3],
 oK 2 .mv [.t 21]] [0,3,4,21])
 .ret)))) }
def F_impl_groupsByRatios_L0:LC :=
 (.ghost (.rename 7 3616)
 (.seq
 (.region false [oK 23 (.bin .lss) [.t 22,.t 21]] [])
 (.seq
 (.cond (.t 23) [23]
 .skip
 (.exit 0))
 (.seq
 (.block 1
 (.seq
 (.region false [oK 24 (.idxa 1) [.t 20,.t 22],
 oK 25 (.load 1 false) [.t 24],
 oK 9 .mv [.t 25]] [24,25])
 (.region false [oK 26 .mv [.t 7],
 oK 27 .mv [.t 0],
 oK 28 .mv [.t 9],
 oK 29 (.call n_impl_groupOf 14848) [.t 27,.t 28],
 oK 30 .mv [.t 6],
 oK 31 (.callm n_impl_inserted_impl_askedGroup [0] 15872) [.t 26,.t 29,.t 30],
 oK 7 .mv [.t 31]] [9,26,27,28,29,30,31])))
 (.region false [oK 32 (.bin .add) [.t 22,.c (.i 1)],
 oK 22 .mv [.t 32]] [32])))))
def F_impl_groupsByRatios_W0:LC:=.loop F_impl_groupsByRatios_L0
def F_impl_groupsByRatios:LF :=
 { nparams:=2,results:=[.t 4,.t 5],body :=
 (.seq
 (.region false [oK 4 (.newnil 2080) [],
 oK 5 .mv [.c (.b false)]] [4,5])
 (.seq
 (.seq
 (.region false [oK 10 .mv [.t 0],
 oK 11 (.call n_impl_TestsOk 5632) [.t 10],
 oK 12 (.un .not) [.t 11],
 oK 13 .mv [.t 12],
 oG 14 .mv [.t 0] 13 false,
 oG 15 .len [.t 14] 13 false,
 oG 16 .mv [.t 1] 13 false,
 oG 17 (.call n_impl_GroupsOk 8704) [.t 15,.t 16] 13 false,
 oG 18 (.un .not) [.t 17] 13 false,
 oK 19 .pick [.t 13,.c (.b true),.t 18]] [10,11,12,13,14,15,16,17,18])
 (.cond (.t 19) [19]
 (.seq
 (.region false [oK 4 (.newnil 2080) [],
 oK 5 .mv [.c (.b false)]] [0,1])
 .ret)
 .skip))
 (.seq
 (.region false [oK 6 .mv [.c (.fn n_impl_groupsByRatios_1 [])]] [])
 (.seq
 (.region false [oK 7 (.newnil 3616) []] [])
 (.seq
 (.seq
 (.region false [oK 20 .mv [.t 1],
 oK 21 .len [.t 20],
 oK 22 .mv [.c (.i 0)]] [1])
 (.block 0
 F_impl_groupsByRatios_W0))
 (.seq
 (.region false [oK 33 .mv [.t 7],
 oK 4 .mv [.t 33],
 oK 5 .mv [.c (.b true)]] [0,6,7,20,21,22,33])
 .ret)))))) }
def F_impl_planFrom:LF :=
 { nparams:=3,results:=[.t 6],body :=
 (.seq
 (.region false [oK 3 (.box 1568) [.t 0],
 oK 6 (.newnil 3096) []] [0,6])
 (.seq
 (.seq
 (.region false [oK 10 (.load 4 true) [.t 3],
 oK 11 (.call n_impl_point_isForced 5632) [.t 10]] [10])
 (.cond (.t 11) [11]
 (.seq
 (.region false [oK 6 (.newnil 3096) []] [1,2,3])
 .ret)
 .skip))
 (.seq
 (.region false [oK 12 .mv [.t 2],
 oK 13 (.load 4 true) [.t 3],
 oK 14 (.calld 7168) [.t 12,.t 13],
 oK 7 .mv [.t 14]] [12,13,14])
 (.seq
 (.region false [oK 15 (.load 4 true) [.t 3],
 oK 16 .mv [.t 7],
 oK 17 (.call n_impl_point_answered 8704) [.t 15,.t 16,.c (.i 0)],
 oK 18 .mv [.t 1],
 oK 19 (.bin .add) [.t 18,.c (.i 1)],
 oK 20 .mv [.t 2],
 oK 21 (.call n_impl_planFrom 10752) [.t 17,.t 19,.t 20],
 oK 8 .mv [.t 21]] [15,16,17,18,19,20,21])
 (.seq
 (.region false [oK 22 (.load 4 true) [.t 3],
 oK 23 .mv [.t 7],
 oK 24 (.call n_impl_point_answered 12288) [.t 22,.t 23,.c (.i 1)],
 oK 25 .mv [.t 1],
 oK 26 (.bin .add) [.t 25,.c (.i 1)],
 oK 27 .mv [.t 8],
 oK 28 .len [.t 27],
 oK 29 (.bin .add) [.t 26,.t 28],
 oK 30 .mv [.t 2],
 oK 31 (.call n_impl_planFrom 15872) [.t 24,.t 29,.t 30],
 oK 9 .mv [.t 31]] [2,3,22,23,24,25,26,27,28,29,30,31])
 (.seq
 (.region false [oK 32 .mv [.t 7],
 oK 33 .mv [.t 1],
 oK 34 .mv [.t 8],
 oK 35 .mv [.t 9],
 oK 36 (.call n_impl_laidOut 18432) [.t 32,.t 33,.t 34,.t 35],
 oK 6 .mv [.t 36]] [1,7,8,9,32,33,34,35,36])
 .ret)))))) }
def F_impl_startOf:LF :=
 { nparams:=2,results:=[.c 4 4 true],body :=
 (.seq
 (.region false [oK 4 (.alloc 2080 (.st [.i 0,.i 0,.w (0#32),.w (0#32)])) []] [])
 (.seq
 (.region false [oK 5 .mv [.t 0],
 oK 6 .mv [.t 1],
 oK 7 (.call n_impl_trueStates 3584) [.t 6],
 oK 8 (.build [.i 0,.i 0,.w (0#32),.w (0#32)] [(0,1),(2,1),(3,1)]) [.t 5,.c (.w (4294967295#32)),.t 7],
 ⟨none,.store 4,[.t 4,.t 8],none⟩] [0,1,5,6,7,8])
 .ret)) }
def F_impl_GroupTerm_L1:LC :=
 (.seq
 (.region false [oK 24 (.bin .lss) [.t 23,.t 22]] [])
 (.seq
 (.cond (.t 24) [24]
 .skip
 (.exit 2))
 (.seq
 (.block 3
 (.seq
 (.region false [oK 25 .mv [.t 23],
 oK 26 (.idxa 1) [.t 21,.t 23],
 oK 27 (.load 1 false) [.t 26],
 oK 8 .mv [.t 25],
 oK 9 .mv [.t 27]] [25,26,27])
 (.seq
 (.region false [oK 28 .mv [.t 5],
 oK 29 .mv [.t 9],
 oK 30 (.build [.i 0,.i 0] [(0,1),(1,1)]) [.c (.i 0),.t 29],
 oK 31 (.bslice 15888 1 2 (.st [.i 0,.i 0]) [0]) [.t 30],
 oK 32 (.app 16400 2) [.t 28,.t 31],
 oK 5 .mv [.t 32]] [9,28,29,30,31,32])
 (.seq
 (.region false [oK 33 .mv [.t 8],
 oK 34 (.bin .gtr) [.t 33,.c (.i 0)]] [8,33])
 (.cond (.t 34) [34]
 (.region false [oK 35 .mv [.t 5],
 oK 36 (.build [.i 0,.i 0] [(0,1)]) [.c (.i 3)],
 oK 37 (.bslice 18960 1 2 (.st [.i 0,.i 0]) [0]) [.t 36],
 oK 38 (.app 19472 2) [.t 35,.t 37],
 oK 5 .mv [.t 38]] [35,36,37,38])
 .skip)))))
 (.region false [oK 39 (.bin .add) [.t 23,.c (.i 1)],
 oK 23 .mv [.t 39]] [39]))))
def F_impl_GroupTerm_W1:LC:=.loop F_impl_GroupTerm_L1
def F_impl_GroupTerm_L0:LC :=
 (.seq
 (.region false [oK 17 (.bin .lss) [.t 16,.t 15]] [])
 (.seq
 (.cond (.t 17) [17]
 .skip
 (.exit 0))
 (.seq
 (.block 1
 (.seq
 (.region false [oK 18 .mv [.t 16],
 oK 19 (.idxa 1) [.t 14,.t 16],
 oK 20 (.load 1 false) [.t 19],
 oK 6 .mv [.t 18],
 oK 7 .mv [.t 20]] [18,19,20])
 (.seq
 (.seq
 (.region false [oK 21 .mv [.t 7],
 oK 22 .len [.t 21],
 oK 23 .mv [.c (.i 0)]] [7])
 (.block 2
 F_impl_GroupTerm_W1))
 (.seq
 (.region false [oK 40 .mv [.t 6],
 oK 41 (.bin .gtr) [.t 40,.c (.i 0)]] [6,21,22,23,40])
 (.cond (.t 41) [41]
 (.region false [oK 42 .mv [.t 5],
 oK 43 (.build [.i 0,.i 0] [(0,1)]) [.c (.i 2)],
 oK 44 (.bslice 22544 1 2 (.st [.i 0,.i 0]) [0]) [.t 43],
 oK 45 (.app 23056 2) [.t 42,.t 44],
 oK 5 .mv [.t 45]] [42,43,44,45])
 .skip)))))
 (.region false [oK 46 (.bin .add) [.t 16,.c (.i 1)],
 oK 16 .mv [.t 46]] [46]))))
def F_impl_GroupTerm_W0:LC:=.loop F_impl_GroupTerm_L0
def F_impl_GroupTerm:LF :=
 { nparams:=2,results:=[.t 4],body :=
 (.seq
 (.region false [oK 4 (.newnil 2064) []] [4])
 (.seq
 (.seq
 (.region false [oK 10 .mv [.t 0],
 oK 11 .mv [.t 1],
 oK 12 (.call n_impl_GroupsOk 6144) [.t 10,.t 11],
 oK 13 (.un .not) [.t 12]] [0,10,11,12])
 (.cond (.t 13) [13]
 (.seq
 (.region false [oK 4 (.newnil 2064) []] [1])
 .ret)
 .skip))
 (.seq
 (.region false [oK 5 (.newnil 2576) []] [])
 (.seq
 (.seq
 (.region false [oK 14 .mv [.t 1],
 oK 15 .len [.t 14],
 oK 16 .mv [.c (.i 0)]] [1])
 (.block 0
 F_impl_GroupTerm_W0))
 (.seq
 (.region false [oK 47 .mv [.t 5],
 oK 4 .mv [.t 47]] [5,14,15,16,47])
 .ret))))) }
def F_impl_GroupPlan_1:LF :=
 { nparams:=2,results:=[.t 3],body :=
 (.seq
 (.region false [oK 2 (.box 1056) [.t 0],
 oK 3 .mv [.c (.i 0)]] [0,3])
 (.seq
 (.region false [oK 4 (.load 1 false) [.t 1],
 oK 5 (.load 4 true) [.t 2],
 oK 6 (.call n_impl_nextInGroups 3072) [.t 4,.t 5],
 oK 3 .mv [.t 6]] [1,2,4,5,6])
 .ret)) }
def F_impl_nextInGroups:LF :=
 { nparams:=2,results:=[.t 4],body :=
 (.seq
 (.region false [oK 3 (.box 1568) [.t 1],
 oK 4 .mv [.c (.i 0)]] [1,4])
 (.ghost (.close_ 3)
 (.seq
 (.region false [oK 7 .mv [.t 0],
 oK 8 (.mkfn (mkNo n_impl_nextInGroups_1 0)) [.t 3],
 oK 9 (.call n_slices_IndexFunc_impl_askedGroup_impl_askedGroup 4608) [.t 7,.t 8],
 oK 5 .mv [.t 9]] [7,8,9])
 (.seq
 (.region true [oK 10 .mv [.t 0],
 oK 11 .mv [.t 5],
 oK 12 (.idxa 4) [.t 10,.t 11],
 oK 13 (.fld 2 1 false) [.t 12],
 oK 14 (.load 1 false) [.t 13],
 oK 15 (.load 4 true) [.t 3],
 oK 16 (.mkfn (mkNo n_impl_point_canAsk 1)) [.t 15],
 oK 17 (.call n_slices_IndexFunc_int_int 8704) [.t 14,.t 16],
 oK 6 .mv [.t 17]] [3,10,11,12,13,14,15,16,17])
 (.seq
 (.region false [oK 18 .mv [.t 0],
 oK 19 .mv [.t 5],
 oK 20 (.idxa 4) [.t 18,.t 19],
 oK 21 (.fld 2 1 false) [.t 20],
 oK 22 (.load 1 false) [.t 21],
 oK 23 .mv [.t 6],
 oK 24 (.idxa 1) [.t 22,.t 23],
 oK 25 (.load 1 false) [.t 24],
 oK 4 .mv [.t 25]] [0,5,6,18,19,20,21,22,23,24,25])
 .ret))))) }
def F_laws_eqChoice:LF :=
 { nparams:=2,results:=[.t 4],body :=
 (.seq
 (.region false [oK 2 (.box 1048) [.t 0],
 oK 3 (.box 1560) [.t 1],
 oK 4 .mv [.c (.b false)]] [0,1,4])
 (.seq
 (.seq
 (.region false [oK 5 (.fld 0 1 false) [.t 2],
 oK 6 (.load 1 false) [.t 5],
 oK 7 (.fld 0 1 false) [.t 3],
 oK 8 (.load 1 false) [.t 7],
 oK 9 (.bin .neq) [.t 6,.t 8]] [5,6,7,8])
 (.cond (.t 9) [9]
 (.seq
 (.region false [oK 4 .mv [.c (.b false)]] [2,3])
 .ret)
 .skip))
 (.seq
 (.seq
 (.region false [oK 10 (.fld 1 1 false) [.t 2],
 oK 11 (.load 1 false) [.t 10],
 oK 12 (.fld 1 1 false) [.t 3],
 oK 13 (.load 1 false) [.t 12],
 oK 14 (.bin .neq) [.t 11,.t 13]] [10,11,12,13])
 (.cond (.t 14) [14]
 (.seq
 (.region false [oK 4 .mv [.c (.b false)]] [2,3])
 .ret)
 .skip))
 (.seq
 (.seq
 (.region false [oK 15 (.fld 2 1 false) [.t 2],
 oK 16 (.load 1 false) [.t 15],
 oK 17 (.fld 2 1 false) [.t 3],
 oK 18 (.load 1 false) [.t 17],
 oK 19 (.bin .neq) [.t 16,.t 18]] [2,3,15,16,17,18])
 (.cond (.t 19) [19]
 (.seq
 (.region false [oK 4 .mv [.c (.b false)]] [])
 .ret)
 .skip))
 (.seq
 (.region false [oK 4 .mv [.c (.b true)]] [])
 .ret))))) }
def F_laws_eqTest:LF :=
 { nparams:=2,results:=[.t 4],body :=
 (.seq
 (.region false [oK 2 (.box 1040) [.t 0],
 oK 3 (.box 1552) [.t 1],
 oK 4 .mv [.c (.b false)]] [0,1,4])
 (.seq
 (.seq
 (.region false [oK 5 (.fld 0 1 false) [.t 2],
 oK 6 (.load 1 false) [.t 5],
 oK 7 (.fld 0 1 false) [.t 3],
 oK 8 (.load 1 false) [.t 7],
 oK 9 (.bin .neq) [.t 6,.t 8]] [5,6,7,8])
 (.cond (.t 9) [9]
 (.seq
 (.region false [oK 4 .mv [.c (.b false)]] [2,3])
 .ret)
 .skip))
 (.seq
 (.seq
 (.region false [oK 10 (.fld 1 1 false) [.t 2],
 oK 11 (.load 1 false) [.t 10],
 oK 12 (.fld 1 1 false) [.t 3],
 oK 13 (.load 1 false) [.t 12],
 oK 14 (.bin .neq) [.t 11,.t 13]] [2,3,10,11,12,13])
 (.cond (.t 14) [14]
 (.seq
 (.region false [oK 4 .mv [.c (.b false)]] [])
 .ret)
 .skip))
 (.seq
 (.region false [oK 4 .mv [.c (.b true)]] [])
 .ret)))) }
def F_laws_eqIntS_L0:LC :=
 (.seq
 (.seq
 (.region false [oK 11 .mv [.t 5],
 oK 12 .mv [.t 0],
 oK 13 .len [.t 12],
 oK 14 (.bin .lss) [.t 11,.t 13]] [11,12,13])
 (.cond (.t 14) [14]
 .skip
 (.exit 0)))
 (.seq
 (.block 1
 (.seq
 (.region true [oK 17 .mv [.t 0],
 oK 18 .mv [.t 5],
 oK 19 (.idxa 1) [.t 17,.t 18],
 oK 20 (.load 1 false) [.t 19],
 oK 21 .mv [.t 1],
 oK 22 .mv [.t 5],
 oK 23 (.idxa 1) [.t 21,.t 22],
 oK 24 (.load 1 false) [.t 23],
 oK 25 (.bin .neq) [.t 20,.t 24]] [17,18,19,20,21,22,23,24])
 (.cond (.t 25) [25]
 (.seq
 (.region false [oK 4 .mv [.c (.b false)]] [0,1,5])
 .ret)
 .skip)))
 (.region false [oK 15 .mv [.t 5],
 oK 16 (.bin .add) [.t 15,.c (.i 1)],
 oK 5 .mv [.t 16]] [15,16])))
def F_laws_eqIntS_W0:LC:=.loop F_laws_eqIntS_L0
def F_laws_eqIntS:LF :=
 { nparams:=2,results:=[.t 4],body :=
 (.seq
 (.region false [oK 4 .mv [.c (.b false)]] [4])
 (.seq
 (.seq
 (.region false [oK 6 .mv [.t 0],
 oK 7 .len [.t 6],
 oK 8 .mv [.t 1],
 oK 9 .len [.t 8],
 oK 10 (.bin .neq) [.t 7,.t 9]] [6,7,8,9])
 (.cond (.t 10) [10]
 (.seq
 (.region false [oK 4 .mv [.c (.b false)]] [0,1])
 .ret)
 .skip))
 (.seq
 (.seq
 (.region false [oK 5 .mv [.c (.i 0)]] [])
 (.block 0
 F_laws_eqIntS_W0))
 (.seq
 (.region false [oK 4 .mv [.c (.b true)]] [0,1,5])
 .ret)))) }
def F_laws_markIntS_L0:LC :=
 (.seq
 (.seq
 (.region false [oK 6 .mv [.t 5],
 oK 7 .mv [.t 0],
 oK 8 .len [.t 7],
 oK 9 (.bin .lss) [.t 6,.t 8]] [6,7,8])
 (.cond (.t 9) [9]
 .skip
 (.exit 0)))
 (.seq
 (.block 1
 (.seq
 (.region false [oK 12 .mv [.t 0],
 oK 13 .mv [.t 5],
 oK 14 .mv [.t 1],
 oK 15 (.idxa 1) [.t 12,.t 13],
 ⟨none,.store 1,[.t 15,.t 14],none⟩] [12,13,14,15])
 (.region false [oK 16 .mv [.t 1],
 oK 17 (.bin .add) [.t 16,.c (.i 1)],
 oK 1 .mv [.t 17]] [16,17])))
 (.region false [oK 10 .mv [.t 5],
 oK 11 (.bin .add) [.t 10,.c (.i 1)],
 oK 5 .mv [.t 11]] [10,11])))
def F_laws_markIntS_W0:LC:=.loop F_laws_markIntS_L0
def F_laws_markIntS:LF :=
 { nparams:=2,results:=[.t 4],body :=
 (.seq
 (.region false [oK 4 .mv [.c (.i 0)]] [4])
 (.seq
 (.seq
 (.region false [oK 5 .mv [.c (.i 0)]] [])
 (.block 0
 F_laws_markIntS_W0))
 (.seq
 (.region false [oK 18 .mv [.t 1],
 oK 4 .mv [.t 18]] [1,5,18])
 .ret))) }
def F_spec_TestsOk_L0:LC :=
 (.seq
 (.seq
 (.region false [oK 4 .mv [.t 3],
 oK 5 .mv [.t 0],
 oK 6 .len [.t 5],
 oK 7 (.bin .lss) [.t 4,.t 6]] [4,5,6])
 (.cond (.t 7) [7]
 .skip
 (.exit 0)))
 (.seq
 (.block 1
 (.seq
 (.region false [oK 10 .mv [.t 0],
 oK 11 .mv [.t 3],
 oK 12 (.idxa 2) [.t 10,.t 11],
 oK 13 (.fld 0 1 false) [.t 12],
 oK 14 (.load 1 false) [.t 13],
 oK 15 (.call n_spec_l1In 7680) [.t 14,.c (.i 1),.c (.i 9)],
 oK 16 (.un .not) [.t 15],
 oK 17 .mv [.t 16],
 oG 18 .mv [.t 0] 17 false,
 oG 19 .mv [.t 3] 17 false,
 oG 20 (.idxa 2) [.t 18,.t 19] 17 false,
 oG 21 (.fld 1 1 false) [.t 20] 17 false,
 oG 22 (.load 1 false) [.t 21] 17 false,
 oG 23 (.call n_spec_l1In 11776) [.t 22,.c (.i 1),.c (.i 5)] 17 false,
 oG 24 (.un .not) [.t 23] 17 false,
 oK 25 .pick [.t 17,.c (.b true),.t 24]] [10,11,12,13,14,15,16,17,18,19,20,21,22,23,24])
 (.cond (.t 25) [25]
 (.seq
 (.region false [oK 2 .mv [.c (.b false)]] [0,3])
 .ret)
 .skip)))
 (.region false [oK 8 .mv [.t 3],
 oK 9 (.bin .add) [.t 8,.c (.i 1)],
 oK 3 .mv [.t 9]] [8,9])))
def F_spec_TestsOk_W0:LC:=.loop F_spec_TestsOk_L0
def F_spec_TestsOk:LF :=
 { nparams:=1,results:=[.t 2],body :=
 (.seq
 (.region false [oK 2 .mv [.c (.b false)]] [2])
 (.seq
 (.seq
 (.region false [oK 3 .mv [.c (.i 0)]] [])
 (.block 0
 F_spec_TestsOk_W0))
 (.seq
 (.region false [oK 26 .mv [.t 0],
 oK 27 .len [.t 26],
 oK 28 (.call n_spec_l1In 14336) [.t 27,.c (.i 1),.c (.i 5)],
 oK 2 .mv [.t 28]] [0,3,26,27,28])
 .ret))) }
def F_spec_GroupsOk_L1:LC :=
 (.seq
 (.seq
 (.region false [oK 22 .mv [.t 8],
 oK 23 .mv [.t 1],
 oK 24 .mv [.t 7],
 oK 25 (.idxa 1) [.t 23,.t 24],
 oK 26 (.load 1 false) [.t 25],
 oK 27 .len [.t 26],
 oK 28 (.bin .lss) [.t 22,.t 27]] [22,23,24,25,26,27])
 (.cond (.t 28) [28]
 .skip
 (.exit 2)))
 (.seq
 (.block 3
 (.seq
 (.region false [oK 31 .mv [.t 1],
 oK 32 .mv [.t 7],
 oK 33 (.idxa 1) [.t 31,.t 32],
 oK 34 (.load 1 false) [.t 33],
 oK 35 .mv [.t 8],
 oK 36 (.idxa 1) [.t 34,.t 35],
 oK 37 (.load 1 false) [.t 36],
 oK 9 .mv [.t 37]] [31,32,33,34,35,36,37])
 (.seq
 (.seq
 (.region false [oK 38 .mv [.t 9],
 oK 39 (.bin .lss) [.t 38,.c (.i 0)],
 oK 40 .mv [.t 39],
 oG 41 .mv [.t 9] 40 false,
 oG 42 .mv [.t 0] 40 false,
 oG 43 (.bin .geq) [.t 41,.t 42] 40 false,
 oK 44 .pick [.t 40,.c (.b true),.t 43],
 oK 45 .mv [.t 44],
 oG 46 .mv [.t 9] 45 false,
 oG 47 (.bin .geq) [.t 46,.c (.i 5)] 45 false,
 oK 48 .pick [.t 45,.c (.b true),.t 47],
 oK 49 .mv [.t 48],
 oG 50 .mv [.t 5] 49 false,
 oG 51 .mv [.t 9] 49 false,
 oG 52 (.bin .shr) [.t 50,.t 51] 49 false,
 oG 53 (.bin .rem) [.t 52,.c (.i 2)] 49 false,
 oG 54 (.bin .eql) [.t 53,.c (.i 1)] 49 false,
 oK 55 .pick [.t 49,.c (.b true),.t 54]] [38,39,40,41,42,43,44,45,46,47,48,49,50,51,52,53,54])
 (.cond (.t 55) [55]
 (.seq
 (.region false [oK 4 .mv [.c (.b false)]] [0,1,5,6,7,8,9])
 .ret)
 .skip))
 (.seq
 (.region false [oK 56 .mv [.t 5],
 oK 57 .mv [.t 9],
 oK 58 (.bin .shl) [.c (.i 1),.t 57],
 oK 59 (.bin .or) [.t 56,.t 58],
 oK 5 .mv [.t 59]] [9,56,57,58,59])
 (.region false [oK 60 .mv [.t 6],
 oK 61 (.bin .add) [.t 60,.c (.i 1)],
 oK 6 .mv [.t 61]] [60,61])))))
 (.region false [oK 29 .mv [.t 8],
 oK 30 (.bin .add) [.t 29,.c (.i 1)],
 oK 8 .mv [.t 30]] [29,30])))
def F_spec_GroupsOk_W1:LC:=.loop F_spec_GroupsOk_L1
def F_spec_GroupsOk_L0:LC :=
 (.seq
 (.seq
 (.region false [oK 10 .mv [.t 7],
 oK 11 .mv [.t 1],
 oK 12 .len [.t 11],
 oK 13 (.bin .lss) [.t 10,.t 12]] [10,11,12])
 (.cond (.t 13) [13]
 .skip
 (.exit 0)))
 (.seq
 (.block 1
 (.seq
 (.seq
 (.region false [oK 16 .mv [.t 1],
 oK 17 .mv [.t 7],
 oK 18 (.idxa 1) [.t 16,.t 17],
 oK 19 (.load 1 false) [.t 18],
 oK 20 .len [.t 19],
 oK 21 (.bin .eql) [.t 20,.c (.i 0)]] [16,17,18,19,20])
 (.cond (.t 21) [21]
 (.seq
 (.region false [oK 4 .mv [.c (.b false)]] [0,1,5,6,7])
 .ret)
 .skip))
 (.seq
 (.region false [oK 8 .mv [.c (.i 0)]] [])
 (.block 2
 F_spec_GroupsOk_W1))))
 (.region false [oK 14 .mv [.t 7],
 oK 15 (.bin .add) [.t 14,.c (.i 1)],
 oK 7 .mv [.t 15]] [8,14,15])))
def F_spec_GroupsOk_W0:LC:=.loop F_spec_GroupsOk_L0
def F_spec_GroupsOk:LF :=
 { nparams:=2,results:=[.t 4],body :=
 (.seq
 (.region false [oK 4 .mv [.c (.b false)]] [4])
 (.seq
 (.region false [oK 5 .mv [.c (.i 0)]] [])
 (.seq
 (.region false [oK 6 .mv [.c (.i 0)]] [])
 (.seq
 (.seq
 (.region false [oK 7 .mv [.c (.i 0)]] [])
 (.block 0
 F_spec_GroupsOk_W0))
 (.seq
 (.region false [oK 62 .mv [.t 0],
 oK 63 (.call n_spec_l1In 32256) [.t 62,.c (.i 1),.c (.i 5)],
 oK 64 .mv [.t 63],
 oG 65 .mv [.t 6] 64 true,
 oG 66 .mv [.t 0] 64 true,
 oG 67 (.bin .eql) [.t 65,.t 66] 64 true,
 oK 68 .pick [.t 64,.t 67,.c (.b false)],
 oK 4 .mv [.t 68]] [0,1,5,6,7,62,63,64,65,66,67,68])
 .ret))))) }
def F_spec_l7Inside_L1:LC :=
 (.seq
 (.seq
 (.region false [oK 18 .mv [.t 7],
 oK 19 .mv [.t 5],
 oK 20 .len [.t 19],
 oK 21 (.bin .lss) [.t 18,.t 20]] [18,19,20])
 (.cond (.t 21) [21]
 .skip
 (.exit 2)))
 (.block 3
 (.seq
 (.region false [oK 22 .mv [.t 0],
 oK 23 .mv [.t 5],
 oK 24 .mv [.t 7],
 oK 25 (.idxa 1) [.t 23,.t 24],
 oK 26 (.load 1 false) [.t 25],
 oK 27 (.idxa 2) [.t 22,.t 26],
 oK 28 (.load 2 true) [.t 27],
 oK 8 (.alloc 4112 (.st [.i 0,.i 0])) [],
 ⟨none,.store 2,[.t 8,.t 28],none⟩] [22,23,24,25,26,27,28])
 (.seq
 (.region false [oK 29 .mv [.t 0],
 oK 30 .mv [.t 1],
 oK 31 .mv [.t 6],
 oK 32 (.idxa 1) [.t 30,.t 31],
 oK 33 (.load 1 false) [.t 32],
 oK 34 (.idxa 2) [.t 29,.t 33],
 oK 35 (.load 2 true) [.t 34],
 oK 9 (.alloc 4624 (.st [.i 0,.i 0])) [],
 ⟨none,.store 2,[.t 9,.t 35],none⟩] [29,30,31,32,33,34,35])
 (.seq
 (.seq
 (.region true [oK 36 (.fld 0 1 false) [.t 8],
 oK 37 (.load 1 false) [.t 36],
 oK 38 (.fld 1 1 false) [.t 9],
 oK 39 (.load 1 false) [.t 38],
 oK 40 (.bin .mul) [.t 37,.t 39],
 oK 41 (.fld 0 1 false) [.t 9],
 oK 42 (.load 1 false) [.t 41],
 oK 43 (.fld 1 1 false) [.t 8],
 oK 44 (.load 1 false) [.t 43],
 oK 45 (.bin .mul) [.t 42,.t 44],
 oK 46 (.bin .gtr) [.t 40,.t 45],
 oK 47 .mv [.t 46],
 oG 48 (.fld 0 1 false) [.t 8] 47 false,
 oG 49 (.load 1 false) [.t 48] 47 false,
 oG 50 (.fld 1 1 false) [.t 9] 47 false,
 oG 51 (.load 1 false) [.t 50] 47 false,
 oG 52 (.bin .mul) [.t 49,.t 51] 47 false,
 oG 53 (.fld 0 1 false) [.t 9] 47 false,
 oG 54 (.load 1 false) [.t 53] 47 false,
 oG 55 (.fld 1 1 false) [.t 8] 47 false,
 oG 56 (.load 1 false) [.t 55] 47 false,
 oG 57 (.bin .mul) [.t 54,.t 56] 47 false,
 oG 58 (.bin .eql) [.t 52,.t 57] 47 false,
 oG 59 .mv [.t 58] 47 false,
 oG 60 .mv [.t 5] 59 true,
 oG 61 .mv [.t 7] 59 true,
 oG 62 (.idxa 1) [.t 60,.t 61] 59 true,
 oG 63 (.load 1 false) [.t 62] 59 true,
 oG 64 .mv [.t 1] 59 true,
 oG 65 .mv [.t 6] 59 true,
 oG 66 (.idxa 1) [.t 64,.t 65] 59 true,
 oG 67 (.load 1 false) [.t 66] 59 true,
 oG 68 (.bin .gtr) [.t 63,.t 67] 59 true,
 oG 69 .pick [.t 59,.t 68,.c (.b false)] 47 false,
 oK 70 .pick [.t 47,.c (.b true),.t 69]] [8,9,36,37,38,39,40,41,42,43,44,45,46,47,48,49,50,51,52,53,54,55,56,57,58,59,60,61,62,63,64,65,66,67,68,69])
 (.cond (.t 70) [70]
 (.exit 2)
 .skip))
 (.region false [oK 71 .mv [.t 7],
 oK 72 (.bin .add) [.t 71,.c (.i 1)],
 oK 7 .mv [.t 72]] [71,72]))))))
def F_spec_l7Inside_W1:LC:=.loop F_spec_l7Inside_L1
def F_spec_l7Inside_L0:LC :=
 (.ghost (.rename 5 5640)
 (.seq
 (.seq
 (.region false [oK 12 .mv [.t 6],
 oK 13 .mv [.t 1],
 oK 14 .len [.t 13],
 oK 15 (.bin .lss) [.t 12,.t 14]] [12,13,14])
 (.cond (.t 15) [15]
 .skip
 (.exit 0)))
 (.seq
 (.block 1
 (.seq
 (.region false [oK 7 .mv [.c (.i 0)]] [])
 (.seq
 (.block 2
 F_spec_l7Inside_W1)
 (.seq
 (.region false [oK 73 (.bslice 37384 0 1 (.i 0) []) [],
 oK 74 .mv [.t 5],
 oK 75 .mv [.t 7],
 oK 76 (.slice false true 1) [.t 74,.t 75],
 oK 77 (.app 39432 1) [.t 73,.t 76],
 oK 10 .mv [.t 77]] [73,74,75,76,77])
 (.seq
 (.region false [oK 78 .mv [.t 10],
 oK 79 .mv [.t 1],
 oK 80 .mv [.t 6],
 oK 81 (.idxa 1) [.t 79,.t 80],
 oK 82 (.load 1 false) [.t 81],
 oK 83 (.bslice 42504 1 1 (.i 0) [0]) [.t 82],
 oK 84 (.app 43016 1) [.t 78,.t 83],
 oK 10 .mv [.t 84]] [78,79,80,81,82,83,84])
 (.region false [oK 85 .mv [.t 10],
 oK 86 .mv [.t 5],
 oK 87 .mv [.t 7],
 oK 88 (.slice true false 1) [.t 86,.t 87],
 oK 89 (.app 45576 1) [.t 85,.t 88],
 oK 5 .mv [.t 89]] [7,10,85,86,87,88,89]))))))
 (.region false [oK 16 .mv [.t 6],
 oK 17 (.bin .add) [.t 16,.c (.i 1)],
 oK 6 .mv [.t 17]] [16,17]))))
def F_spec_l7Inside_W0:LC:=.loop F_spec_l7Inside_L0
def F_spec_l7Inside:LF :=
 { nparams:=2,results:=[.t 4],body :=
 (.seq
 (.region false [oK 4 (.newnil 2056) []] [4])
 (.seq
 (.region false [oK 11 (.bslice 5640 0 1 (.i 0) []) [],
 oK 5 .mv [.t 11]] [11])
 (.seq
 (.seq
 (.region false [oK 6 .mv [.c (.i 0)]] [])
 (.block 0
 F_spec_l7Inside_W0))
 (.seq
 (.region false [oK 90 .mv [.t 5],
 oK 4 .mv [.t 90]] [0,1,5,6,90])
 .ret)))) }
def F_spec_l7Cost_L0:LC :=
 (.seq
 (.seq
 (.region false [oK 9 .mv [.t 8],
 oK 10 .mv [.t 1],
 oK 11 .len [.t 10],
 oK 12 (.bin .lss) [.t 9,.t 11]] [9,10,11])
 (.cond (.t 12) [12]
 .skip
 (.exit 0)))
 (.seq
 (.block 1
 (.seq
 (.region true [oK 15 .mv [.t 6],
 oK 16 .mv [.t 0],
 oK 17 .mv [.t 1],
 oK 18 .mv [.t 8],
 oK 19 (.idxa 1) [.t 17,.t 18],
 oK 20 (.load 1 false) [.t 19],
 oK 21 (.idxa 2) [.t 16,.t 20],
 oK 22 (.fld 0 1 false) [.t 21],
 oK 23 (.load 1 false) [.t 22],
 oK 24 .mv [.t 7],
 oK 25 (.bin .mul) [.t 23,.t 24],
 oK 26 .mv [.t 1],
 oK 27 .len [.t 26],
 oK 28 .mv [.t 8],
 oK 29 (.bin .sub) [.t 27,.t 28],
 oK 30 (.call n_spec_l1Power 15360) [.t 29],
 oK 31 (.bin .mul) [.t 25,.t 30],
 oK 32 (.bin .add) [.t 15,.t 31],
 oK 6 .mv [.t 32]] [15,16,17,18,19,20,21,22,23,24,25,26,27,28,29,30,31,32])
 (.region false [oK 33 .mv [.t 7],
 oK 34 .mv [.t 0],
 oK 35 .mv [.t 1],
 oK 36 .mv [.t 8],
 oK 37 (.idxa 1) [.t 35,.t 36],
 oK 38 (.load 1 false) [.t 37],
 oK 39 (.idxa 2) [.t 34,.t 38],
 oK 40 (.fld 1 1 false) [.t 39],
 oK 41 (.load 1 false) [.t 40],
 oK 42 (.bin .sub) [.c (.i 6),.t 41],
 oK 43 (.bin .mul) [.t 33,.t 42],
 oK 7 .mv [.t 43]] [33,34,35,36,37,38,39,40,41,42,43])))
 (.region false [oK 13 .mv [.t 8],
 oK 14 (.bin .add) [.t 13,.c (.i 1)],
 oK 8 .mv [.t 14]] [13,14])))
def F_spec_l7Cost_W0:LC:=.loop F_spec_l7Cost_L0
def F_spec_l7Cost:LF :=
 { nparams:=2,results:=[.t 4,.t 5],body :=
 (.seq
 (.region false [oK 4 .mv [.c (.i 0)],
 oK 5 .mv [.c (.i 0)]] [4,5])
 (.seq
 (.region false [oK 6 .mv [.c (.i 0)]] [])
 (.seq
 (.region false [oK 7 .mv [.c (.i 1)]] [])
 (.seq
 (.seq
 (.region false [oK 8 .mv [.c (.i 0)]] [])
 (.block 0
 F_spec_l7Cost_W0))
 (.seq
 (.region false [oK 44 .mv [.t 6],
 oK 45 .mv [.t 7],
 oK 4 .mv [.t 44],
 oK 5 .mv [.t 45]] [0,1,6,7,8,44,45])
 .ret))))) }
def F_impl_TestsOk_L0:LC :=
 (.seq
 (.region false [oK 12 (.bin .lss) [.t 11,.t 10]] [])
 (.seq
 (.cond (.t 12) [12]
 .skip
 (.exit 0))
 (.seq
 (.block 1
 (.seq
 (.region false [oK 13 (.idxa 2) [.t 9,.t 11],
 oK 14 (.load 2 true) [.t 13],
 oK 4 (.alloc 2064 (.st [.i 0,.i 0])) [],
 ⟨none,.store 2,[.t 4,.t 14],none⟩] [13,14])
 (.seq
 (.region false [oK 15 (.fld 0 1 false) [.t 4],
 oK 16 (.load 1 false) [.t 15],
 oK 17 (.call n_impl_isWithin 8704) [.t 16,.c (.i 1),.c (.i 9)],
 oK 18 (.un .not) [.t 17],
 oK 19 .mv [.t 18],
 oG 20 (.fld 1 1 false) [.t 4] 19 false,
 oG 21 (.load 1 false) [.t 20] 19 false,
 oG 22 (.call n_impl_isWithin 11264) [.t 21,.c (.i 1),.c (.i 5)] 19 false,
 oG 23 (.un .not) [.t 22] 19 false,
 oK 24 .pick [.t 19,.c (.b true),.t 23]] [4,15,16,17,18,19,20,21,22,23])
 (.cond (.t 24) [24]
 (.seq
 (.region false [oK 2 .mv [.c (.b false)]] [9,10,11])
 .ret)
 .skip))))
 (.region false [oK 25 (.bin .add) [.t 11,.c (.i 1)],
 oK 11 .mv [.t 25]] [25]))))
def F_impl_TestsOk_W0:LC:=.loop F_impl_TestsOk_L0
def F_impl_TestsOk:LF :=
 { nparams:=1,results:=[.t 2],body :=
 (.seq
 (.region false [oK 2 .mv [.c (.b false)]] [2])
 (.seq
 (.seq
 (.region false [oK 5 .mv [.t 0],
 oK 6 .len [.t 5],
 oK 7 (.call n_impl_manyOk 3584) [.t 6],
 oK 8 (.un .not) [.t 7]] [5,6,7])
 (.cond (.t 8) [8]
 (.seq
 (.region false [oK 2 .mv [.c (.b false)]] [0])
 .ret)
 .skip))
 (.seq
 (.seq
 (.region false [oK 9 .mv [.t 0],
 oK 10 .len [.t 9],
 oK 11 .mv [.c (.i 0)]] [0])
 (.block 0
 F_impl_TestsOk_W0))
 (.seq
 (.region false [oK 2 .mv [.c (.b true)]] [9,10,11])
 .ret)))) }
def F_impl_GroupsOk_L0:LC :=
 (.seq
 (.region false [oK 14 (.bin .lss) [.t 13,.t 12]] [])
 (.seq
 (.cond (.t 14) [14]
 .skip
 (.exit 0))
 (.seq
 (.block 1
 (.seq
 (.region false [oK 15 (.idxa 1) [.t 11,.t 13],
 oK 16 (.load 1 false) [.t 15],
 oK 7 .mv [.t 16]] [15,16])
 (.seq
 (.seq
 (.region false [oK 17 .mv [.t 7],
 oK 18 .len [.t 17],
 oK 19 .mv [.t 0],
 oK 20 .mv [.t 5],
 oK 21 .len [.t 20],
 oK 22 (.bin .sub) [.t 19,.t 21],
 oK 23 (.call n_impl_isWithin 11776) [.t 18,.c (.i 1),.t 22],
 oK 24 (.un .not) [.t 23]] [17,18,19,20,21,22,23])
 (.cond (.t 24) [24]
 (.seq
 (.region false [oK 4 .mv [.c (.b false)]] [0,5,7,11,12,13])
 .ret)
 .skip))
 (.region false [oK 25 .mv [.t 5],
 oK 26 .mv [.t 7],
 oK 27 (.app 13832 1) [.t 25,.t 26],
 oK 5 .mv [.t 27]] [7,25,26,27]))))
 (.region false [oK 28 (.bin .add) [.t 13,.c (.i 1)],
 oK 13 .mv [.t 28]] [28]))))
def F_impl_GroupsOk_W0:LC:=.loop F_impl_GroupsOk_L0
def F_impl_GroupsOk:LF :=
 { nparams:=2,results:=[.t 4],body :=
 (.seq
 (.region false [oK 4 .mv [.c (.b false)]] [4])
 (.seq
 (.seq
 (.region false [oK 8 .mv [.t 0],
 oK 9 (.call n_impl_manyOk 4608) [.t 8],
 oK 10 (.un .not) [.t 9]] [8,9])
 (.cond (.t 10) [10]
 (.seq
 (.region false [oK 4 .mv [.c (.b false)]] [0,1])
 .ret)
 .skip))
 (.seq
 (.region false [oK 5 (.newnil 2568) []] [])
 (.seq
 (.seq
 (.region false [oK 11 .mv [.t 1],
 oK 12 .len [.t 11],
 oK 13 .mv [.c (.i 0)]] [1])
 (.block 0
 F_impl_GroupsOk_W0))
 (.seq
 (.region false [oK 29 .mv [.t 0],
 oK 30 .mv [.t 5],
 oK 31 (.call n_impl_OrderOk 15872) [.t 29,.t 30],
 oK 4 .mv [.t 31]] [0,5,11,12,13,29,30,31])
 .ret))))) }
def F_impl_groupsByRatios_1:LF :=
 { nparams:=2,results:=[.t 4],body :=
 (.seq
 (.region false [oK 2 (.box 1056) [.t 0],
 oK 3 (.box 1568) [.t 1],
 oK 4 .mv [.c (.b false)]] [0,1,4])
 (.seq
 (.region false [oK 5 (.fld 0 2 true) [.t 2],
 oK 6 (.load 2 true) [.t 5],
 oK 7 (.fld 0 2 true) [.t 3],
 oK 8 (.load 2 true) [.t 7],
 oK 9 (.call n_impl_ratio_isLess 4608) [.t 6,.t 8],
 oK 4 .mv [.t 9]] [2,3,5,6,7,8,9])
 .ret)) }
def F_impl_ratio_isLess:LF :=
 { nparams:=2,results:=[.t 4],body :=
 (.seq
 (.region false [oK 2 (.box 1040) [.t 0],
 oK 3 (.box 1552) [.t 1],
 oK 4 .mv [.c (.b false)]] [0,1,4])
 (.seq
 (.region false [oK 5 (.fld 0 1 false) [.t 2],
 oK 6 (.load 1 false) [.t 5],
 oK 7 (.fld 1 1 false) [.t 3],
 oK 8 (.load 1 false) [.t 7],
 oK 9 (.bin .mul) [.t 6,.t 8],
 oK 10 (.fld 0 1 false) [.t 3],
 oK 11 (.load 1 false) [.t 10],
 oK 12 (.fld 1 1 false) [.t 2],
 oK 13 (.load 1 false) [.t 12],
 oK 14 (.bin .mul) [.t 11,.t 13],
 oK 15 (.bin .lss) [.t 9,.t 14],
 oK 4 .mv [.t 15]] [2,3,5,6,7,8,9,10,11,12,13,14,15])
 .ret)) }
def F_impl_inserted_impl_askedGroup_L0:LC :=
 (.seq
 (.seq
 (.region true [oK 10 .mv [.t 7],
 oK 11 (.bin .gtr) [.t 10,.c (.i 0)],
 oK 12 .mv [.t 11],
 oG 13 .mv [.t 2] 12 true,
 oG 14 (.load 4 true) [.t 4] 12 true,
 oG 15 .mv [.t 0] 12 true,
 oG 16 .mv [.t 7] 12 true,
 oG 17 (.bin .sub) [.t 16,.c (.i 1)] 12 true,
 oG 18 (.idxa 4) [.t 15,.t 17] 12 true,
 oG 19 (.load 4 true) [.t 18] 12 true,
 oG 20 (.calld 10240) [.t 13,.t 14,.t 19] 12 true,
 oK 21 .pick [.t 12,.t 20,.c (.b false)]] [10,11,12,13,14,15,16,17,18,19,20])
 (.cond (.t 21) [21]
 .skip
 (.exit 0)))
 (.block 1
 (.region false [oK 22 .mv [.t 7],
 oK 23 (.bin .sub) [.t 22,.c (.i 1)],
 oK 7 .mv [.t 23]] [22,23])))
def F_impl_inserted_impl_askedGroup_W0:LC:=.loop F_impl_inserted_impl_askedGroup_L0
def F_impl_inserted_impl_askedGroup:LF :=
 { nparams:=3,results:=[.t 6],body :=
 (.seq
 (.region false [oK 4 (.box 2080) [.t 1],
 oK 6 (.newnil 3104) []] [1,6])
 (.seq
 (.region false [oK 8 .mv [.t 0],
 oK 9 .len [.t 8],
 oK 7 .mv [.t 9]] [8,9])
 (.seq
 (.block 0
 F_impl_inserted_impl_askedGroup_W0)
 (.seq
 (.region false [oK 24 .mv [.t 0],
 oK 25 .mv [.t 7],
 oK 26 (.load 4 true) [.t 4],
 oK 27 (.bslice 13856 1 4 (.st [.i 0,.i 0,.sl 1 [],.i 0]) [0]) [.t 26],
 oK 28 (.callm n_slices_Insert_impl_askedGroup_impl_askedGroup [0,2] 14342) [.t 24,.t 25,.t 27],
 oK 6 .mv [.t 28]] [0,2,4,7,24,25,26,27,28])
 .ret)))) }
def F_impl_groupOf_L0:LC :=
 (.seq
 (.region false [oK 15 (.bin .lss) [.t 14,.t 13]] [])
 (.seq
 (.cond (.t 15) [15]
 .skip
 (.exit 0))
 (.seq
 (.block 1
 (.seq
 (.region false [oK 16 (.idxa 1) [.t 12,.t 14],
 oK 17 (.load 1 false) [.t 16],
 oK 8 .mv [.t 17]] [16,17])
 (.seq
 (.region false [oK 18 .mv [.t 1],
 oK 19 .mv [.t 8],
 oK 20 (.call n_slices_Contains_int_int 10240) [.t 18,.t 19]] [18,19])
 (.cond (.t 20) [20]
 (.seq
 (.region false [oK 21 .mv [.t 5],
 oK 22 .mv [.t 8],
 oK 23 (.bslice 11784 1 1 (.i 0) [0]) [.t 22],
 oK 24 (.app 12296 1) [.t 21,.t 23],
 oK 5 .mv [.t 24]] [21,22,23,24])
 (.region false [oK 25 .mv [.t 6],
 oK 26 .mv [.t 0],
 oK 27 .mv [.t 8],
 oK 28 (.idxa 2) [.t 26,.t 27],
 oK 29 (.load 2 true) [.t 28],
 oK 30 (.bslice 15376 1 2 (.st [.i 0,.i 0]) [0]) [.t 29],
 oK 31 (.app 15888 2) [.t 25,.t 30],
 oK 6 .mv [.t 31]] [8,25,26,27,28,29,30,31]))
 .skip))))
 (.region false [oK 32 (.bin .add) [.t 14,.c (.i 1)],
 oK 14 .mv [.t 32]] [8,32]))))
def F_impl_groupOf_W0:LC:=.loop F_impl_groupOf_L0
def F_impl_groupOf:LF :=
 { nparams:=2,results:=[.c 4 4 true],body :=
 (.seq
 (.region false [oK 4 (.alloc 2080 (.st [.i 0,.i 0,.sl 1 [],.i 0])) []] [])
 (.seq
 (.region false [oK 5 (.newnil 2568) []] [])
 (.seq
 (.region false [oK 6 (.newnil 3088) []] [])
 (.seq
 (.seq
 (.region false [oK 11 .mv [.t 0],
 oK 12 (.call n_impl_RatioOrder 6144) [.t 11,.c (.i 1)],
 oK 13 .len [.t 12],
 oK 14 .mv [.c (.i 0)]] [11])
 (.block 0
 F_impl_groupOf_W0))
 (.seq
 (.region false [oK 33 .mv [.t 6],
 oK 34 .mv [.t 6],
 oK 35 (.call n_impl_RatioOrder 17920) [.t 34,.c (.i 1)],
 oK 36 (.call n_impl_RowAverage 18432) [.t 33,.t 35,.c (.i 1)],
 oK 9 .mv [.t 36]] [0,1,12,13,14,33,34,35,36])
 (.seq
 (.region false [oK 37 .mv [.t 6],
 oK 38 (.call n_impl_WeightOf 19456) [.t 37,.c (.i 0)],
 oK 10 .mv [.t 38]] [6,37,38])
 (.seq
 (.region false [oK 39 .mv [.t 9],
 oK 40 .mv [.t 10],
 oK 41 (.build [.i 0,.i 0] [(0,1),(1,1)]) [.t 39,.t 40],
 oK 42 .mv [.t 5],
 oK 43 .mv [.t 5],
 oK 44 .len [.t 43],
 oK 45 (.call n_impl_wholeOf 23040) [.t 44],
 oK 46 (.build [.i 0,.i 0,.sl 1 [],.i 0] [(0,2),(2,1),(3,1)]) [.t 41,.t 42,.t 45],
 ⟨none,.store 4,[.t 4,.t 46],none⟩] [5,9,10,39,40,41,42,43,44,45,46])
 .ret))))))) }
def F_impl_point_isForced:LF :=
 { nparams:=1,results:=[.t 2],body :=
 (.seq
 (.region false [oK 1 (.box 544) [.t 0],
 oK 2 .mv [.c (.b false)]] [0,2])
 (.seq
 (.region false [oK 3 (.load 4 true) [.t 1],
 oK 4 (.call n_impl_point_value 2048) [.t 3],
 oK 5 (.bin .neq) [.t 4,.c (.i (-1))],
 oK 2 .mv [.t 5]] [1,3,4,5])
 .ret)) }
def F_impl_point_answered:LF :=
 { nparams:=3,results:=[.c 6 4 true],body :=
 (.seq
 (.region false [oK 3 (.box 1568) [.t 0],
 oK 6 (.alloc 3104 (.st [.i 0,.i 0,.w (0#32),.w (0#32)])) []] [0])
 (.seq
 (.region true [oK 7 (.fld 1 1 false) [.t 3],
 oK 8 (.load 1 false) [.t 7],
 oK 9 .mv [.t 1],
 oK 10 (.bin .shl) [.c (.i 1),.t 9],
 oK 11 (.bin .or) [.t 8,.t 10],
 oK 12 (.fld 1 1 false) [.t 3],
 ⟨none,.store 1,[.t 12,.t 11],none⟩] [7,8,9,10,11,12])
 (.seq
 (.region true [oK 13 (.fld 2 1 false) [.t 3],
 oK 14 (.load 1 false) [.t 13],
 oK 15 .mv [.t 1],
 oK 16 .mv [.t 2],
 oK 17 (.call n_impl_statesSaying 8704) [.t 15,.t 16],
 oK 18 (.bin .and) [.t 14,.t 17],
 oK 19 (.fld 2 1 false) [.t 3],
 ⟨none,.store 1,[.t 19,.t 18],none⟩] [1,2,13,14,15,16,17,18,19])
 (.seq
 (.region false [oK 20 (.load 4 true) [.t 3],
 ⟨none,.store 4,[.t 6,.t 20],none⟩] [3,20])
 .ret)))) }
def F_impl_laidOut:LF :=
 { nparams:=4,results:=[.t 8],body :=
 (.seq
 (.region false [oK 8 (.newnil 4120) []] [8])
 (.seq
 (.region false [oK 10 .mv [.t 0],
 oK 11 (.build [.i 0,.i 0,.i 0] [(0,1),(1,1),(2,1)]) [.t 10,.c (.i (-1)),.c (.i (-1))],
 oK 9 (.alloc 4632 (.st [.i 0,.i 0,.i 0])) [],
 ⟨none,.store 3,[.t 9,.t 11],none⟩] [0,10,11])
 (.seq
 (.seq
 (.region false [oK 12 .mv [.t 2],
 oK 13 .len [.t 12],
 oK 14 (.bin .gtr) [.t 13,.c (.i 0)]] [12,13])
 (.cond (.t 14) [14]
 (.region false [oK 15 .mv [.t 1],
 oK 16 (.bin .add) [.t 15,.c (.i 1)],
 oK 17 (.fld 1 1 false) [.t 9],
 ⟨none,.store 1,[.t 17,.t 16],none⟩] [15,16,17])
 .skip))
 (.seq
 (.seq
 (.region false [oK 18 .mv [.t 3],
 oK 19 .len [.t 18],
 oK 20 (.bin .gtr) [.t 19,.c (.i 0)]] [18,19])
 (.cond (.t 20) [20]
 (.region false [oK 21 .mv [.t 1],
 oK 22 (.bin .add) [.t 21,.c (.i 1)],
 oK 23 .mv [.t 2],
 oK 24 .len [.t 23],
 oK 25 (.bin .add) [.t 22,.t 24],
 oK 26 (.fld 2 1 false) [.t 9],
 ⟨none,.store 1,[.t 26,.t 25],none⟩] [1,21,22,23,24,25,26])
 .skip))
 (.seq
 (.region false [oK 27 (.load 3 true) [.t 9],
 oK 28 (.bslice 14360 1 3 (.st [.i 0,.i 0,.i 0]) [0]) [.t 27],
 oK 29 .mv [.t 2],
 oK 30 .mv [.t 3],
 oK 31 (.bslice 15880 3 1 (.sl 1 []) [0,1,2]) [.t 28,.t 29,.t 30],
 oK 32 (.call n_slices_Concat_impl_Choice_impl_Choice 16384) [.t 31],
 oK 8 .mv [.t 32]] [1,2,3,9,27,28,29,30,31,32])
 .ret))))) }
def F_impl_trueStates:LF :=
 { nparams:=1,results:=[.t 2],body :=
 (.seq
 (.region false [oK 2 .mv [.c (.w (0#32))]] [2])
 (.seq
 (.region false [oK 3 .mv [.t 0],
 oK 4 (.call n_impl_foldTerm_uint32 2048) [.t 3,.c (.fn n_impl_statesOfPart [])],
 oK 2 .mv [.t 4]] [0,3,4])
 .ret)) }
def F_slices_IndexFunc_impl_askedGroup_impl_askedGroup_L0:LC :=
 (.seq
 (.region false [oK 9 (.bin .lss) [.t 8,.t 7]] [])
 (.seq
 (.cond (.t 9) [9]
 .skip
 (.exit 0))
 (.seq
 (.block 1
 (.seq
 (.region false [oK 10 .mv [.t 8],
 oK 5 .mv [.t 10]] [10])
 (.seq
 (.region false [oK 11 .mv [.t 1],
 oK 12 .mv [.t 0],
 oK 13 .mv [.t 5],
 oK 14 (.idxa 4) [.t 12,.t 13],
 oK 15 (.load 4 true) [.t 14],
 oK 16 (.calld 8192) [.t 11,.t 15]] [11,12,13,14,15])
 (.cond (.t 16) [16]
 (.seq
 (.region false [oK 17 .mv [.t 5],
 oK 4 .mv [.t 17]] [0,1,5,7,8,17])
 .ret)
 .skip))))
 (.region false [oK 18 (.bin .add) [.t 8,.c (.i 1)],
 oK 8 .mv [.t 18]] [5,18]))))
def F_slices_IndexFunc_impl_askedGroup_impl_askedGroup_W0:LC:=.loop F_slices_IndexFunc_impl_askedGroup_impl_askedGroup_L0
def F_slices_IndexFunc_impl_askedGroup_impl_askedGroup:LF :=
 { nparams:=2,results:=[.t 4],body :=
 (.seq
 (.region false [oK 4 .mv [.c (.i 0)]] [4])
 (.seq
 (.seq
 (.region false [oK 6 .mv [.t 0],
 oK 7 .len [.t 6],
 oK 8 .mv [.c (.i 0)]] [6])
 (.block 0
 F_slices_IndexFunc_impl_askedGroup_impl_askedGroup_W0))
 (.seq
 (.region false [oK 4 .mv [.c (.i (-1))]] [0,1,7,8])
 .ret))) }
def F_impl_nextInGroups_1:LF :=
 { nparams:=2,results:=[.t 3],body :=
 (.seq
 (.region false [oK 2 (.box 1056) [.t 0],
 oK 3 .mv [.c (.b false)]] [0,3])
 (.seq
 (.region true [oK 4 (.fld 2 1 false) [.t 2],
 oK 5 (.load 1 false) [.t 4],
 oK 6 (.call n_impl_statesWithYes 3072) [.t 5],
 oK 7 (.fld 2 1 false) [.t 1],
 oK 8 (.load 1 false) [.t 7],
 oK 9 (.call n_impl_valueAmong 4608) [.t 6,.t 8],
 oK 10 (.bin .eql) [.t 9,.c (.i (-1))],
 oK 3 .mv [.t 10]] [1,2,4,5,6,7,8,9,10])
 .ret)) }
def F_impl_valueAmong:LF :=
 { nparams:=2,results:=[.t 4],body :=
 (.seq
 (.region false [oK 4 .mv [.c (.i 0)]] [4])
 (.seq
 (.seq
 (.region false [oK 5 .mv [.t 0],
 oK 6 .mv [.t 1],
 oK 7 (.bin .and) [.t 5,.t 6]] [0,5,6])
 (.block 0
 (.seq
 (.region false [oK 9 .mv [.t 1],
 oK 10 (.bin .eql) [.t 7,.t 9],
 oK 8 .mv [.t 10]] [1,9,10])
 (.cond (.t 8) [8]
 (.seq
 (.region false [oK 4 .mv [.c (.i 1)]] [7])
 .ret)
 (.seq
 (.region false [oK 12 (.bin .eql) [.t 7,.c (.w (0#32))],
 oK 11 .mv [.t 12]] [7,12])
 (.cond (.t 11) [11]
 (.seq
 (.region false [oK 4 .mv [.c (.i 0)]] [])
 .ret)
 .skip))))))
 (.seq
 (.region false [oK 4 .mv [.c (.i (-1))]] [])
 .ret))) }
def F_impl_statesWithYes_L0:LC :=
 (.seq
 (.region false [oK 9 (.bin .lss) [.t 8,.t 7]] [])
 (.seq
 (.cond (.t 9) [9]
 .skip
 (.exit 0))
 (.seq
 (.block 1
 (.seq
 (.region false [oK 10 (.idxa 1) [.t 6,.t 8],
 oK 11 (.load 1 false) [.t 10],
 oK 5 .mv [.t 11]] [10,11])
 (.region false [oK 12 .mv [.t 3],
 oK 13 .mv [.t 5],
 oK 14 (.idxp 5 1) [.t 1048576,.t 13],
 oK 15 (.load 1 false) [.t 14],
 oK 16 (.bin .or) [.t 12,.t 15],
 oK 3 .mv [.t 16]] [5,12,13,14,15,16])))
 (.region false [oK 17 (.bin .add) [.t 8,.c (.i 1)],
 oK 8 .mv [.t 17]] [17]))))
def F_impl_statesWithYes_W0:LC:=.loop F_impl_statesWithYes_L0
def F_impl_statesWithYes:LF :=
 { gl:=[0],nparams:=1,results:=[.t 2],body :=
 (.seq
 (.region false [oK 2 .mv [.c (.w (0#32))]] [2])
 (.seq
 (.region false [oK 3 .mv [.c (.w (0#32))]] [])
 (.seq
 (.seq
 (.region false [oK 6 .mv [.t 0],
 oK 7 .len [.t 6],
 oK 8 .mv [.c (.i 0)]] [0])
 (.block 0
 F_impl_statesWithYes_W0))
 (.seq
 (.region false [oK 18 .mv [.t 3],
 oK 2 .mv [.t 18]] [3,6,7,8,18])
 .ret)))) }
def F_slices_IndexFunc_int_int_L0:LC :=
 (.seq
 (.region false [oK 9 (.bin .lss) [.t 8,.t 7]] [])
 (.seq
 (.cond (.t 9) [9]
 .skip
 (.exit 0))
 (.seq
 (.block 1
 (.seq
 (.region false [oK 10 .mv [.t 8],
 oK 5 .mv [.t 10]] [10])
 (.seq
 (.region false [oK 11 .mv [.t 1],
 oK 12 .mv [.t 0],
 oK 13 .mv [.t 5],
 oK 14 (.idxa 1) [.t 12,.t 13],
 oK 15 (.load 1 false) [.t 14],
 oK 16 (.calld 8192) [.t 11,.t 15]] [11,12,13,14,15])
 (.cond (.t 16) [16]
 (.seq
 (.region false [oK 17 .mv [.t 5],
 oK 4 .mv [.t 17]] [0,1,5,7,8,17])
 .ret)
 .skip))))
 (.region false [oK 18 (.bin .add) [.t 8,.c (.i 1)],
 oK 8 .mv [.t 18]] [5,18]))))
def F_slices_IndexFunc_int_int_W0:LC:=.loop F_slices_IndexFunc_int_int_L0
def F_slices_IndexFunc_int_int:LF :=
 { nparams:=2,results:=[.t 4],body :=
 (.seq
 (.region false [oK 4 .mv [.c (.i 0)]] [4])
 (.seq
 (.seq
 (.region false [oK 6 .mv [.t 0],
 oK 7 .len [.t 6],
 oK 8 .mv [.c (.i 0)]] [6])
 (.block 0
 F_slices_IndexFunc_int_int_W0))
 (.seq
 (.region false [oK 4 .mv [.c (.i (-1))]] [0,1,7,8])
 .ret))) }
def F_impl_point_canAsk:LF :=
 { nparams:=2,results:=[.t 4],body :=
 (.seq
 (.region false [oK 2 (.box 1056) [.t 0],
 oK 4 .mv [.c (.b false)]] [0,4])
 (.seq
 (.region false [oK 5 .mv [.t 1],
 oK 6 (.fld 0 1 false) [.t 2],
 oK 7 (.load 1 false) [.t 6],
 oK 8 (.bin .sub) [.t 7,.c (.i 1)],
 oK 9 (.call n_impl_isWithin 4608) [.t 5,.c (.i 0),.t 8],
 oK 10 .mv [.t 9],
 oG 11 (.fld 1 1 false) [.t 2] 10 true,
 oG 12 (.load 1 false) [.t 11] 10 true,
 oG 13 .mv [.t 1] 10 true,
 oG 14 (.call n_impl_hasTest 7168) [.t 12,.t 13] 10 true,
 oG 15 (.un .not) [.t 14] 10 true,
 oK 16 .pick [.t 10,.t 15,.c (.b false)],
 oK 4 .mv [.t 16]] [1,2,5,6,7,8,9,10,11,12,13,14,15,16])
 .ret)) }
def F_spec_l1In:LF :=
 { nparams:=3,results:=[.t 6],body :=
 (.seq
 (.region false [oK 6 .mv [.c (.b false)]] [6])
 (.seq
 (.region false [oK 7 .mv [.t 0],
 oK 8 .mv [.t 1],
 oK 9 (.bin .geq) [.t 7,.t 8],
 oK 10 .mv [.t 9],
 oG 11 .mv [.t 0] 10 true,
 oG 12 .mv [.t 2] 10 true,
 oG 13 (.bin .leq) [.t 11,.t 12] 10 true,
 oK 14 .pick [.t 10,.t 13,.c (.b false)],
 oK 6 .mv [.t 14]] [0,1,2,7,8,9,10,11,12,13,14])
 .ret)) }
def F_spec_l1Power_L0:LC :=
 (.seq
 (.seq
 (.region false [oK 5 .mv [.t 4],
 oK 6 .mv [.t 0],
 oK 7 (.bin .lss) [.t 5,.t 6]] [5,6])
 (.cond (.t 7) [7]
 .skip
 (.exit 0)))
 (.seq
 (.block 1
 (.region false [oK 10 .mv [.t 3],
 oK 11 (.bin .mul) [.t 10,.c (.i 6)],
 oK 3 .mv [.t 11]] [10,11]))
 (.region false [oK 8 .mv [.t 4],
 oK 9 (.bin .add) [.t 8,.c (.i 1)],
 oK 4 .mv [.t 9]] [8,9])))
def F_spec_l1Power_W0:LC:=.loop F_spec_l1Power_L0
def F_spec_l1Power:LF :=
 { nparams:=1,results:=[.t 2],body :=
 (.seq
 (.region false [oK 2 .mv [.c (.i 0)]] [2])
 (.seq
 (.region false [oK 3 .mv [.c (.i 1)]] [])
 (.seq
 (.seq
 (.region false [oK 4 .mv [.c (.i 0)]] [])
 (.block 0
 F_spec_l1Power_W0))
 (.seq
 (.region false [oK 12 .mv [.t 3],
 oK 2 .mv [.t 12]] [0,3,4,12])
 .ret)))) }
def F_impl_manyOk:LF :=
 { nparams:=1,results:=[.t 2],body :=
 (.seq
 (.region false [oK 2 .mv [.c (.b false)]] [2])
 (.seq
 (.region false [oK 3 .mv [.t 0],
 oK 4 (.call n_impl_isWithin 2048) [.t 3,.c (.i 1),.c (.i 5)],
 oK 2 .mv [.t 4]] [0,3,4])
 .ret)) }
def F_impl_isWithin:LF :=
 { nparams:=3,results:=[.t 6],body :=
 (.seq
 (.region false [oK 6 .mv [.c (.b false)]] [6])
 (.seq
 (.region false [oK 7 .mv [.t 1],
 oK 8 .mv [.t 0],
 oK 9 (.bin .leq) [.t 7,.t 8],
 oK 10 .mv [.t 9],
 oG 11 .mv [.t 0] 10 true,
 oG 12 .mv [.t 2] 10 true,
 oG 13 (.bin .leq) [.t 11,.t 12] 10 true,
 oK 14 .pick [.t 10,.t 13,.c (.b false)],
 oK 6 .mv [.t 14]] [0,1,2,7,8,9,10,11,12,13,14])
 .ret)) }
def F_impl_OrderOk_L0:LC :=
 (.seq
 (.region false [oK 20 (.bin .lss) [.t 19,.t 18]] [])
 (.seq
 (.cond (.t 20) [20]
 .skip
 (.exit 0))
 (.seq
 (.block 1
 (.seq
 (.region false [oK 21 (.idxa 1) [.t 17,.t 19],
 oK 22 (.load 1 false) [.t 21],
 oK 7 .mv [.t 22]] [21,22])
 (.seq
 (.seq
 (.region false [oK 23 .mv [.t 7],
 oK 24 .mv [.t 0],
 oK 25 (.bin .sub) [.t 24,.c (.i 1)],
 oK 26 (.call n_impl_isWithin 13312) [.t 23,.c (.i 0),.t 25],
 oK 27 (.un .not) [.t 26],
 oK 28 .mv [.t 27],
 oG 29 .mv [.t 5] 28 false,
 oG 30 .mv [.t 7] 28 false,
 oG 31 (.call n_impl_hasTest 15872) [.t 29,.t 30] 28 false,
 oK 32 .pick [.t 28,.c (.b true),.t 31]] [23,24,25,26,27,28,29,30,31])
 (.cond (.t 32) [32]
 (.seq
 (.region false [oK 4 .mv [.c (.b false)]] [0,5,7,17,18,19])
 .ret)
 .skip))
 (.region false [oK 33 .mv [.t 5],
 oK 34 .mv [.t 7],
 oK 35 (.bin .shl) [.c (.i 1),.t 34],
 oK 36 (.bin .or) [.t 33,.t 35],
 oK 5 .mv [.t 36]] [7,33,34,35,36]))))
 (.region false [oK 37 (.bin .add) [.t 19,.c (.i 1)],
 oK 19 .mv [.t 37]] [37]))))
def F_impl_OrderOk_W0:LC:=.loop F_impl_OrderOk_L0
def F_impl_OrderOk:LF :=
 { nparams:=2,results:=[.t 4],body :=
 (.seq
 (.region false [oK 4 .mv [.c (.b false)]] [4])
 (.seq
 (.seq
 (.region false [oK 8 .mv [.t 0],
 oK 9 (.call n_impl_manyOk 4608) [.t 8],
 oK 10 (.un .not) [.t 9],
 oK 11 .mv [.t 10],
 oG 12 .mv [.t 1] 11 false,
 oG 13 .len [.t 12] 11 false,
 oG 14 .mv [.t 0] 11 false,
 oG 15 (.bin .neq) [.t 13,.t 14] 11 false,
 oK 16 .pick [.t 11,.c (.b true),.t 15]] [8,9,10,11,12,13,14,15])
 (.cond (.t 16) [16]
 (.seq
 (.region false [oK 4 .mv [.c (.b false)]] [0,1])
 .ret)
 .skip))
 (.seq
 (.region false [oK 5 .mv [.c (.i 0)]] [])
 (.seq
 (.seq
 (.region false [oK 17 .mv [.t 1],
 oK 18 .len [.t 17],
 oK 19 .mv [.c (.i 0)]] [1])
 (.block 0
 F_impl_OrderOk_W0))
 (.seq
 (.region false [oK 4 .mv [.c (.b true)]] [0,5,17,18,19])
 .ret))))) }
def F_slices_Insert_impl_askedGroup_impl_askedGroup:LF :=
 { nparams:=3,results:=[],body:=.skip,prim:=some (insPS 4) }
def F_impl_RatioOrder_L0:LC :=
 (.ghost (.rename 6 3080)
 (.seq
 (.region false [oK 20 (.bin .lss) [.t 19,.t 18]] [])
 (.seq
 (.cond (.t 20) [20]
 .skip
 (.exit 0))
 (.seq
 (.block 1
 (.seq
 (.region false [oK 21 .mv [.t 19],
 oK 7 .mv [.t 21]] [21])
 (.region false [oK 22 .mv [.t 6],
 oK 23 .mv [.t 7],
 oK 24 .mv [.t 5],
 oK 25 (.callm n_impl_inserted_int [0] 12800) [.t 22,.t 23,.t 24],
 oK 6 .mv [.t 25]] [7,22,23,24,25])))
 (.region false [oK 26 (.bin .add) [.t 19,.c (.i 1)],
 oK 19 .mv [.t 26]] [26])))))
def F_impl_RatioOrder_W0:LC:=.loop F_impl_RatioOrder_L0
def F_impl_RatioOrder:LF :=
 { nparams:=2,results:=[.t 4],body :=
 (.seq
 (.region false [oK 2 (.box 1032) [.t 0],
 oK 3 (.box 1544) [.t 1],
 oK 4 (.newnil 2056) []] [0,1,4])
 (.ghost (.close_ 2)
(.ghost (.close_ 3)
 (.seq
 (.seq
 (.region false [oK 8 (.load 1 false) [.t 2],
 oK 9 (.call n_impl_TestsOk 4608) [.t 8],
 oK 10 (.un .not) [.t 9],
 oK 11 .mv [.t 10],
 oG 12 (.load 1 false) [.t 3] 11 false,
 oG 13 (.call n_impl_rowOk 6656) [.t 12] 11 false,
 oG 14 (.un .not) [.t 13] 11 false,
 oK 15 .pick [.t 11,.c (.b true),.t 14]] [8,9,10,11,12,13,14])
 (.cond (.t 15) [15]
 (.seq
 (.region false [oK 4 (.newnil 2056) []] [2,3])
 .ret)
 .skip))
 (.seq
 (.region false [oK 16 (.mkfn (mkNo n_impl_RatioOrder_1 0)) [.t 2,.t 3],
 oK 5 .mv [.t 16]] [3,16])
 (.seq
 (.region false [oK 6 (.newnil 3080) []] [])
 (.seq
 (.seq
 (.region false [oK 17 (.load 1 false) [.t 2],
 oK 18 .len [.t 17],
 oK 19 .mv [.c (.i 0)]] [2,17])
 (.block 0
 F_impl_RatioOrder_W0))
 (.seq
 (.region false [oK 27 .mv [.t 6],
 oK 4 .mv [.t 27]] [5,6,18,19,27])
 .ret)))))))) }
def F_slices_Contains_int_int:LF :=
 { nparams:=2,results:=[.t 4],body :=
 (.seq
 (.region false [oK 4 .mv [.c (.b false)]] [4])
 (.seq
 (.region false [oK 5 .mv [.t 0],
 oK 6 .mv [.t 1],
 oK 7 (.call n_slices_Index_int_int 3584) [.t 5,.t 6],
 oK 8 (.bin .geq) [.t 7,.c (.i 0)],
 oK 4 .mv [.t 8]] [0,1,5,6,7,8])
 .ret)) }
def F_impl_RowAverage_L0:LC :=
 (.seq
 (.region false [oK 33 (.bin .lss) [.t 32,.t 31]] [])
 (.seq
 (.cond (.t 33) [33]
 .skip
 (.exit 0))
 (.seq
 (.block 1
 (.seq
 (.region false [oK 34 (.idxa 1) [.t 30,.t 32],
 oK 35 (.load 1 false) [.t 34],
 oK 11 .mv [.t 35]] [34,35])
 (.seq
 (.region false [oK 36 .mv [.t 8],
 oK 37 .mv [.t 0],
 oK 38 .mv [.t 11],
 oK 39 (.idxa 2) [.t 37,.t 38],
 oK 40 (.fld 0 1 false) [.t 39],
 oK 41 (.load 1 false) [.t 40],
 oK 42 .mv [.t 9],
 oK 43 (.bin .mul) [.t 41,.t 42],
 oK 44 (.bin .add) [.t 36,.t 43],
 oK 8 .mv [.t 44]] [36,37,38,39,40,41,42,43,44])
 (.region false [oK 45 .mv [.t 9],
 oK 46 (.bin .quo) [.t 45,.c (.i 6)],
 oK 47 .mv [.t 0],
 oK 48 .mv [.t 11],
 oK 49 (.idxa 2) [.t 47,.t 48],
 oK 50 (.load 2 true) [.t 49],
 oK 51 .mv [.t 2],
 oK 52 (.call n_impl_endChance 26624) [.t 50,.t 51],
 oK 53 (.bin .sub) [.c (.i 6),.t 52],
 oK 54 (.bin .mul) [.t 46,.t 53],
 oK 9 .mv [.t 54]] [11,45,46,47,48,49,50,51,52,53,54]))))
 (.region false [oK 55 (.bin .add) [.t 32,.c (.i 1)],
 oK 32 .mv [.t 55]] [55]))))
def F_impl_RowAverage_W0:LC:=.loop F_impl_RowAverage_L0
def F_impl_RowAverage:LF :=
 { nparams:=3,results:=[.t 6],body :=
 (.seq
 (.region false [oK 6 .mv [.c (.i 0)]] [6])
 (.seq
 (.region false [oK 12 .mv [.t 0],
 oK 13 .len [.t 12],
 oK 7 .mv [.t 13]] [12,13])
 (.seq
 (.seq
 (.region false [oK 14 .mv [.t 0],
 oK 15 (.call n_impl_TestsOk 7680) [.t 14],
 oK 16 (.un .not) [.t 15],
 oK 17 .mv [.t 16],
 oG 18 .mv [.t 7] 17 false,
 oG 19 .mv [.t 1] 17 false,
 oG 20 (.call n_impl_OrderOk 10240) [.t 18,.t 19] 17 false,
 oG 21 (.un .not) [.t 20] 17 false,
 oK 22 .pick [.t 17,.c (.b true),.t 21],
 oK 23 .mv [.t 22],
 oG 24 .mv [.t 2] 23 false,
 oG 25 (.call n_impl_rowOk 12800) [.t 24] 23 false,
 oG 26 (.un .not) [.t 25] 23 false,
 oK 27 .pick [.t 23,.c (.b true),.t 26]] [14,15,16,17,18,19,20,21,22,23,24,25,26])
 (.cond (.t 27) [27]
 (.seq
 (.region false [oK 6 .mv [.c (.i (-1))]] [0,1,2,7])
 .ret)
 .skip))
 (.seq
 (.region false [oK 28 .mv [.t 7],
 oK 29 (.call n_impl_wholeOf 14848) [.t 28],
 oK 8 .mv [.c (.i 0)],
 oK 9 .mv [.t 29]] [7,28,29])
 (.seq
 (.seq
 (.region false [oK 30 .mv [.t 1],
 oK 31 .len [.t 30],
 oK 32 .mv [.c (.i 0)]] [1])
 (.block 0
 F_impl_RowAverage_W0))
 (.seq
 (.region false [oK 56 .mv [.t 8],
 oK 6 .mv [.t 56]] [0,2,8,9,30,31,32,56])
 .ret)))))) }
def F_impl_WeightOf_L0:LC :=
 (.seq
 (.region false [oK 21 (.bin .lss) [.t 20,.t 19]] [])
 (.seq
 (.cond (.t 21) [21]
 .skip
 (.exit 0))
 (.seq
 (.block 1
 (.seq
 (.region false [oK 22 .mv [.t 20],
 oK 23 (.idxa 2) [.t 18,.t 20],
 oK 24 (.load 2 true) [.t 23],
 oK 7 (.alloc 3600 (.st [.i 0,.i 0])) [],
 oK 6 .mv [.t 22],
 ⟨none,.store 2,[.t 7,.t 24],none⟩] [22,23,24])
 (.seq
 (.region false [oK 25 .mv [.t 1],
 oK 26 .mv [.t 6],
 oK 27 (.call n_impl_outcomeIn 13824) [.t 25,.t 26],
 oK 28 (.bin .eql) [.t 27,.c (.i 1)]] [6,25,26,27])
 (.cond (.t 28) [28]
 (.region false [oK 29 .mv [.t 5],
 oK 30 (.fld 1 1 false) [.t 7],
 oK 31 (.load 1 false) [.t 30],
 oK 32 (.bin .mul) [.t 29,.t 31],
 oK 5 .mv [.t 32]] [7,29,30,31,32])
 (.region false [oK 33 .mv [.t 5],
 oK 34 (.fld 1 1 false) [.t 7],
 oK 35 (.load 1 false) [.t 34],
 oK 36 (.bin .sub) [.c (.i 6),.t 35],
 oK 37 (.bin .mul) [.t 33,.t 36],
 oK 5 .mv [.t 37]] [7,33,34,35,36,37])))))
 (.region false [oK 38 (.bin .add) [.t 20,.c (.i 1)],
 oK 20 .mv [.t 38]] [38]))))
def F_impl_WeightOf_W0:LC:=.loop F_impl_WeightOf_L0
def F_impl_WeightOf:LF :=
 { nparams:=2,results:=[.t 4],body :=
 (.seq
 (.region false [oK 4 .mv [.c (.i 0)]] [4])
 (.seq
 (.seq
 (.region false [oK 8 .mv [.t 0],
 oK 9 (.call n_impl_TestsOk 4608) [.t 8],
 oK 10 (.un .not) [.t 9],
 oK 11 .mv [.t 10],
 oG 12 .mv [.t 0] 11 false,
 oG 13 .len [.t 12] 11 false,
 oG 14 .mv [.t 1] 11 false,
 oG 15 (.call n_impl_StateOk 7680) [.t 13,.t 14] 11 false,
 oG 16 (.un .not) [.t 15] 11 false,
 oK 17 .pick [.t 11,.c (.b true),.t 16]] [8,9,10,11,12,13,14,15,16])
 (.cond (.t 17) [17]
 (.seq
 (.region false [oK 4 .mv [.c (.i (-1))]] [0,1])
 .ret)
 .skip))
 (.seq
 (.region false [oK 5 .mv [.c (.i 1)]] [])
 (.seq
 (.seq
 (.region false [oK 18 .mv [.t 0],
 oK 19 .len [.t 18],
 oK 20 .mv [.c (.i 0)]] [0])
 (.block 0
 F_impl_WeightOf_W0))
 (.seq
 (.region false [oK 39 .mv [.t 5],
 oK 4 .mv [.t 39]] [1,5,18,19,20,39])
 .ret))))) }
def F_impl_wholeOf_L0:LC :=
 (.seq
 (.region false [oK 6 (.bin .lss) [.t 5,.t 4]] [])
 (.seq
 (.cond (.t 6) [6]
 .skip
 (.exit 0))
 (.seq
 (.block 1
 (.region false [oK 7 .mv [.t 3],
 oK 8 (.bin .mul) [.t 7,.c (.i 6)],
 oK 3 .mv [.t 8]] [7,8]))
 (.region false [oK 9 (.bin .add) [.t 5,.c (.i 1)],
 oK 5 .mv [.t 9]] [9]))))
def F_impl_wholeOf_W0:LC:=.loop F_impl_wholeOf_L0
def F_impl_wholeOf:LF :=
 { nparams:=1,results:=[.t 2],body :=
 (.seq
 (.region false [oK 2 .mv [.c (.i 0)]] [2])
 (.seq
 (.region false [oK 3 .mv [.c (.i 1)]] [])
 (.seq
 (.seq
 (.region false [oK 4 .mv [.t 0],
 oK 5 .mv [.c (.i 0)]] [0])
 (.block 0
 F_impl_wholeOf_W0))
 (.seq
 (.region false [oK 10 .mv [.t 3],
 oK 2 .mv [.t 10]] [3,4,5,10])
 .ret)))) }
def F_impl_point_value:LF :=
 { nparams:=1,results:=[.t 2],body :=
 (.seq
 (.region false [oK 1 (.box 544) [.t 0],
 oK 2 .mv [.c (.i 0)]] [0,2])
 (.seq
 (.region false [oK 3 (.fld 3 1 false) [.t 1],
 oK 4 (.load 1 false) [.t 3],
 oK 5 (.fld 2 1 false) [.t 1],
 oK 6 (.load 1 false) [.t 5],
 oK 7 (.call n_impl_valueAmong 3584) [.t 4,.t 6],
 oK 2 .mv [.t 7]] [1,3,4,5,6,7])
 .ret)) }
def F_impl_statesSaying:LF :=
 { gl:=[0],nparams:=2,results:=[.t 4],body :=
 (.seq
 (.region false [oK 4 .mv [.c (.w (0#32))]] [4])
 (.seq
 (.seq
 (.region false [oK 5 .mv [.t 1],
 oK 6 (.bin .eql) [.t 5,.c (.i 1)]] [1,5])
 (.cond (.t 6) [6]
 (.seq
 (.region false [oK 7 .mv [.t 0],
 oK 8 (.idxp 5 1) [.t 1048576,.t 7],
 oK 9 (.load 1 false) [.t 8],
 oK 4 .mv [.t 9]] [0,7,8,9])
 .ret)
 .skip))
 (.seq
 (.region false [oK 10 .mv [.t 0],
 oK 11 (.idxp 5 1) [.t 1048576,.t 10],
 oK 12 (.load 1 false) [.t 11],
 oK 13 (.un .xor) [.t 12],
 oK 4 .mv [.t 13]] [0,10,11,12,13])
 .ret))) }
def F_slices_Concat_impl_Choice_impl_Choice_L0:LC :=
 (.seq
 (.region false [oK 12 (.bin .lss) [.t 11,.t 10]] [])
 (.seq
 (.cond (.t 12) [12]
 .skip
 (.exit 0))
 (.seq
 (.block 1
 (.seq
 (.region false [oK 13 (.idxa 1) [.t 9,.t 11],
 oK 14 (.load 1 false) [.t 13],
 oK 5 .mv [.t 14]] [13,14])
 (.seq
 (.region false [oK 15 .mv [.t 3],
 oK 16 .mv [.t 5],
 oK 17 .len [.t 16],
 oK 18 (.bin .add) [.t 15,.t 17],
 oK 3 .mv [.t 18]] [5,15,16,17,18])
 (.seq
 (.region false [oK 19 .mv [.t 3],
 oK 20 (.bin .lss) [.t 19,.c (.i 0)]] [19])
 (.cond (.t 20) [20]
 .void
 .skip)))))
 (.region false [oK 22 (.bin .add) [.t 11,.c (.i 1)],
 oK 11 .mv [.t 22]] [22]))))
def F_slices_Concat_impl_Choice_impl_Choice_W0:LC:=.loop F_slices_Concat_impl_Choice_impl_Choice_L0
def F_slices_Concat_impl_Choice_impl_Choice_L1:LC :=
 (.seq
 (.region false [oK 28 (.bin .lss) [.t 27,.t 26]] [])
 (.seq
 (.cond (.t 28) [28]
 .skip
 (.exit 2))
 (.seq
 (.block 3
 (.seq
 (.region false [oK 29 (.idxa 1) [.t 25,.t 27],
 oK 30 (.load 1 false) [.t 29],
 oK 8 .mv [.t 30]] [29,30])
 (.region false [oK 31 .mv [.t 6],
 oK 32 .mv [.t 8],
 oK 33 (.app 16920 3) [.t 31,.t 32],
 oK 6 .mv [.t 33]] [8,31,32,33])))
 (.region false [oK 34 (.bin .add) [.t 27,.c (.i 1)],
 oK 27 .mv [.t 34]] [34]))))
def F_slices_Concat_impl_Choice_impl_Choice_W1:LC:=.loop F_slices_Concat_impl_Choice_impl_Choice_L1
def F_slices_Concat_impl_Choice_impl_Choice:LF :=
 { nparams:=1,results:=[.t 2],body :=
 (.seq
 (.region false [oK 2 (.newnil 1048) []] [2])
 (.seq
 (.region false [oK 3 .mv [.c (.i 0)]] [])
 (.seq
 (.seq
 (.region false [oK 9 .mv [.t 0],
 oK 10 .len [.t 9],
 oK 11 .mv [.c (.i 0)]] [])
 (.block 0
 F_slices_Concat_impl_Choice_impl_Choice_W0))
 (.seq
 (.region false [oK 23 .mv [.t 3],
 oK 24 (.callm n_slices_Grow_impl_Choice_impl_Choice [0] 12288) [.c (.nil),.t 23],
 oK 6 .mv [.t 24]] [3,9,10,11,23,24])
 (.seq
 (.seq
 (.region false [oK 25 .mv [.t 0],
 oK 26 .len [.t 25],
 oK 27 .mv [.c (.i 0)]] [0])
 (.block 2
 F_slices_Concat_impl_Choice_impl_Choice_W1))
 (.seq
 (.region false [oK 35 .mv [.t 6],
 oK 2 .mv [.t 35]] [6,25,26,27,35])
 .ret)))))) }
def F_impl_foldTerm_uint32_L0:LC :=
 (.seq
 (.region false [oK 13 (.bin .lss) [.t 12,.t 11]] [])
 (.seq
 (.cond (.t 13) [13]
 .skip
 (.exit 0))
 (.seq
 (.block 1
 (.seq
 (.region false [oK 14 (.idxa 2) [.t 10,.t 12],
 oK 15 (.load 2 true) [.t 14],
 oK 7 (.alloc 3600 (.st [.i 0,.i 0])) [],
 ⟨none,.store 2,[.t 7,.t 15],none⟩] [14,15])
 (.seq
 (.region false [oK 16 .mv [.t 5],
 oK 17 .len [.t 16],
 oK 18 (.fld 0 1 false) [.t 7],
 oK 19 (.load 1 false) [.t 18],
 oK 20 (.call n_impl_partsTaken 10240) [.t 19],
 oK 21 (.bin .sub) [.t 17,.t 20],
 oK 8 .mv [.t 21]] [16,17,18,19,20,21])
 (.seq
 (.region true [oK 22 .mv [.t 1],
 oK 23 (.load 2 true) [.t 7],
 oK 24 .mv [.t 5],
 oK 25 .mv [.t 8],
 oK 26 (.slice true false 1) [.t 24,.t 25],
 oK 27 (.calld 13824) [.t 22,.t 23,.t 26],
 oK 9 .mv [.t 27]] [7,22,23,24,25,26,27])
 (.region false [oK 28 .mv [.t 5],
 oK 29 .mv [.t 8],
 oK 30 (.slice false true 1) [.t 28,.t 29],
 oK 31 .mv [.t 9],
 oK 32 (.bslice 16392 1 1 (.w (0#32)) [0]) [.t 31],
 oK 33 (.app 16904 1) [.t 30,.t 32],
 oK 5 .mv [.t 33]] [8,9,28,29,30,31,32,33])))))
 (.region false [oK 34 (.bin .add) [.t 12,.c (.i 1)],
 oK 12 .mv [.t 34]] [34]))))
def F_impl_foldTerm_uint32_W0:LC:=.loop F_impl_foldTerm_uint32_L0
def F_impl_foldTerm_uint32:LF :=
 { nparams:=2,results:=[.t 4],body :=
 (.seq
 (.region false [oK 4 .mv [.c (.w (0#32))]] [4])
 (.seq
 (.region false [oK 5 (.newnil 2568) []] [])
 (.seq
 (.seq
 (.region false [oK 10 .mv [.t 0],
 oK 11 .len [.t 10],
 oK 12 .mv [.c (.i 0)]] [0])
 (.block 0
 F_impl_foldTerm_uint32_W0))
 (.seq
 (.region false [oK 35 .mv [.t 5],
 oK 36 (.idxa 1) [.t 35,.c (.i 0)],
 oK 37 (.load 1 false) [.t 36],
 oK 4 .mv [.t 37]] [1,5,10,11,12,35,36,37])
 .ret)))) }
def F_impl_statesOfPart:LF :=
 { gl:=[0],nparams:=2,results:=[.t 4],body :=
 (.seq
 (.region false [oK 2 (.box 1040) [.t 0],
 oK 4 .mv [.c (.w (0#32))]] [0,4])
 (.seq
 (.seq
 (.region false [oK 5 (.fld 0 1 false) [.t 2],
 oK 6 (.load 1 false) [.t 5]] [5])
 (.block 0
 (.seq
 (.region false [oK 8 (.bin .eql) [.t 6,.c (.i 0)],
 oK 7 .mv [.t 8]] [8])
 (.cond (.t 7) [7]
 (.seq
 (.region false [oK 9 (.fld 1 1 false) [.t 2],
 oK 10 (.load 1 false) [.t 9],
 oK 11 (.idxp 5 1) [.t 1048576,.t 10],
 oK 12 (.load 1 false) [.t 11],
 oK 4 .mv [.t 12]] [1,2,6,9,10,11,12])
 .ret)
 (.seq
 (.region false [oK 14 (.bin .eql) [.t 6,.c (.i 1)],
 oK 13 .mv [.t 14]] [2,14])
 (.cond (.t 13) [13]
 (.seq
 (.region false [oK 15 .mv [.t 1],
 oK 16 (.idxa 1) [.t 15,.c (.i 0)],
 oK 17 (.load 1 false) [.t 16],
 oK 18 (.un .xor) [.t 17],
 oK 4 .mv [.t 18]] [1,6,15,16,17,18])
 .ret)
 (.seq
 (.region false [oK 20 (.bin .eql) [.t 6,.c (.i 2)],
 oK 19 .mv [.t 20]] [6,20])
 (.cond (.t 19) [19]
 (.seq
 (.region true [oK 21 .mv [.t 1],
 oK 22 (.idxa 1) [.t 21,.c (.i 0)],
 oK 23 (.load 1 false) [.t 22],
 oK 24 .mv [.t 1],
 oK 25 (.idxa 1) [.t 24,.c (.i 1)],
 oK 26 (.load 1 false) [.t 25],
 oK 27 (.bin .and) [.t 23,.t 26],
 oK 4 .mv [.t 27]] [1,21,22,23,24,25,26,27])
 .ret)
 .skip))))))))
 (.seq
 (.region true [oK 28 .mv [.t 1],
 oK 29 (.idxa 1) [.t 28,.c (.i 0)],
 oK 30 (.load 1 false) [.t 29],
 oK 31 .mv [.t 1],
 oK 32 (.idxa 1) [.t 31,.c (.i 1)],
 oK 33 (.load 1 false) [.t 32],
 oK 34 (.bin .or) [.t 30,.t 33],
 oK 4 .mv [.t 34]] [1,28,29,30,31,32,33,34])
 .ret))) }
def F_impl_hasTest:LF :=
 { nparams:=2,results:=[.t 4],body :=
 (.seq
 (.region false [oK 4 .mv [.c (.b false)]] [4])
 (.seq
 (.region false [oK 5 .mv [.t 0],
 oK 6 .mv [.t 1],
 oK 7 (.bin .shr) [.t 5,.t 6],
 oK 8 (.bin .and) [.t 7,.c (.i 1)],
 oK 9 (.bin .eql) [.t 8,.c (.i 1)],
 oK 4 .mv [.t 9]] [0,1,5,6,7,8,9])
 .ret)) }
def F_slices_rotateRight_impl_askedGroup:LF :=
 { nparams:=2,results:=[],body :=
 (.region false [oK 4 .mv [.t 0],
 oK 5 .mv [.t 0],
 oK 6 .len [.t 5],
 oK 7 .mv [.t 1],
 oK 8 (.bin .sub) [.t 6,.t 7],
 oK 9 (.call n_slices_rotateLeft_impl_askedGroup 4608) [.t 4,.t 8]] [0,1,4,5,6,7,8,9]) }
def F_impl_rowOk:LF :=
 { nparams:=1,results:=[.t 2],body :=
 (.seq
 (.region false [oK 2 .mv [.c (.b false)]] [2])
 (.seq
 (.region false [oK 3 .mv [.t 0],
 oK 4 (.bin .eql) [.t 3,.c (.i 0)],
 oK 5 .mv [.t 4],
 oG 6 .mv [.t 0] 5 false,
 oG 7 (.bin .eql) [.t 6,.c (.i 1)] 5 false,
 oK 8 .pick [.t 5,.c (.b true),.t 7],
 oK 2 .mv [.t 8]] [0,3,4,5,6,7,8])
 .ret)) }
def F_impl_RatioOrder_1:LF :=
 { nparams:=4,results:=[.t 6],body :=
 (.seq
 (.region false [oK 6 .mv [.c (.b false)]] [6])
 (.seq
 (.region true [oK 7 (.load 1 false) [.t 2],
 oK 8 .mv [.t 0],
 oK 9 (.idxa 2) [.t 7,.t 8],
 oK 10 (.load 2 true) [.t 9],
 oK 11 (.load 1 false) [.t 3],
 oK 12 (.call n_impl_ratioOf 6144) [.t 10,.t 11],
 oK 13 (.load 1 false) [.t 2],
 oK 14 .mv [.t 1],
 oK 15 (.idxa 2) [.t 13,.t 14],
 oK 16 (.load 2 true) [.t 15],
 oK 17 (.load 1 false) [.t 3],
 oK 18 (.call n_impl_ratioOf 9216) [.t 16,.t 17],
 oK 19 (.call n_impl_ratio_isLess 9728) [.t 12,.t 18],
 oK 6 .mv [.t 19]] [0,1,2,3,7,8,9,10,11,12,13,14,15,16,17,18,19])
 .ret)) }
def F_impl_ratioOf:LF :=
 { nparams:=2,results:=[.c 4 2 true],body :=
 (.seq
 (.region false [oK 2 (.box 1040) [.t 0],
 oK 4 (.alloc 2064 (.st [.i 0,.i 0])) []] [0])
 (.seq
 (.region true [oK 5 (.fld 0 1 false) [.t 2],
 oK 6 (.load 1 false) [.t 5],
 oK 7 (.load 2 true) [.t 2],
 oK 8 .mv [.t 1],
 oK 9 (.call n_impl_endChance 4608) [.t 7,.t 8],
 oK 10 (.build [.i 0,.i 0] [(0,1),(1,1)]) [.t 6,.t 9],
 ⟨none,.store 2,[.t 4,.t 10],none⟩] [1,2,5,6,7,8,9,10])
 .ret)) }
def F_impl_inserted_int_L0:LC :=
 (.seq
 (.seq
 (.region false [oK 10 .mv [.t 7],
 oK 11 (.bin .gtr) [.t 10,.c (.i 0)],
 oK 12 .mv [.t 11],
 oG 13 .mv [.t 2] 12 true,
 oG 14 .mv [.t 1] 12 true,
 oG 15 .mv [.t 0] 12 true,
 oG 16 .mv [.t 7] 12 true,
 oG 17 (.bin .sub) [.t 16,.c (.i 1)] 12 true,
 oG 18 (.idxa 1) [.t 15,.t 17] 12 true,
 oG 19 (.load 1 false) [.t 18] 12 true,
 oG 20 (.calld 10240) [.t 13,.t 14,.t 19] 12 true,
 oK 21 .pick [.t 12,.t 20,.c (.b false)]] [10,11,12,13,14,15,16,17,18,19,20])
 (.cond (.t 21) [21]
 .skip
 (.exit 0)))
 (.block 1
 (.region false [oK 22 .mv [.t 7],
 oK 23 (.bin .sub) [.t 22,.c (.i 1)],
 oK 7 .mv [.t 23]] [22,23])))
def F_impl_inserted_int_W0:LC:=.loop F_impl_inserted_int_L0
def F_impl_inserted_int:LF :=
 { nparams:=3,results:=[.t 6],body :=
 (.seq
 (.region false [oK 6 (.newnil 3080) []] [6])
 (.seq
 (.region false [oK 8 .mv [.t 0],
 oK 9 .len [.t 8],
 oK 7 .mv [.t 9]] [8,9])
 (.seq
 (.block 0
 F_impl_inserted_int_W0)
 (.seq
 (.region false [oK 24 .mv [.t 0],
 oK 25 .mv [.t 7],
 oK 26 .mv [.t 1],
 oK 27 (.bslice 13832 1 1 (.i 0) [0]) [.t 26],
 oK 28 (.callm n_slices_Insert_int_int [0,2] 14342) [.t 24,.t 25,.t 27],
 oK 6 .mv [.t 28]] [0,1,2,7,24,25,26,27,28])
 .ret)))) }
def F_slices_Index_int_int_L0:LC :=
 (.seq
 (.region false [oK 9 (.bin .lss) [.t 8,.t 7]] [])
 (.seq
 (.cond (.t 9) [9]
 .skip
 (.exit 0))
 (.seq
 (.block 1
 (.seq
 (.region false [oK 10 .mv [.t 8],
 oK 5 .mv [.t 10]] [10])
 (.seq
 (.region false [oK 11 .mv [.t 1],
 oK 12 .mv [.t 0],
 oK 13 .mv [.t 5],
 oK 14 (.idxa 1) [.t 12,.t 13],
 oK 15 (.load 1 false) [.t 14],
 oK 16 (.bin .eql) [.t 11,.t 15]] [11,12,13,14,15])
 (.cond (.t 16) [16]
 (.seq
 (.region false [oK 17 .mv [.t 5],
 oK 4 .mv [.t 17]] [0,1,5,7,8,17])
 .ret)
 .skip))))
 (.region false [oK 18 (.bin .add) [.t 8,.c (.i 1)],
 oK 8 .mv [.t 18]] [5,18]))))
def F_slices_Index_int_int_W0:LC:=.loop F_slices_Index_int_int_L0
def F_slices_Index_int_int:LF :=
 { nparams:=2,results:=[.t 4],body :=
 (.seq
 (.region false [oK 4 .mv [.c (.i 0)]] [4])
 (.seq
 (.seq
 (.region false [oK 6 .mv [.t 0],
 oK 7 .len [.t 6],
 oK 8 .mv [.c (.i 0)]] [6])
 (.block 0
 F_slices_Index_int_int_W0))
 (.seq
 (.region false [oK 4 .mv [.c (.i (-1))]] [0,1,7,8])
 .ret))) }
def F_impl_endChance:LF :=
 { nparams:=2,results:=[.t 4],body :=
 (.seq
 (.region false [oK 2 (.box 1040) [.t 0],
 oK 4 .mv [.c (.i 0)]] [0,4])
 (.seq
 (.seq
 (.region false [oK 5 .mv [.t 1],
 oK 6 (.bin .eql) [.t 5,.c (.i 0)]] [1,5])
 (.cond (.t 6) [6]
 (.seq
 (.region false [oK 7 (.fld 1 1 false) [.t 2],
 oK 8 (.load 1 false) [.t 7],
 oK 9 (.bin .sub) [.c (.i 6),.t 8],
 oK 4 .mv [.t 9]] [2,7,8,9])
 .ret)
 .skip))
 (.seq
 (.region false [oK 10 (.fld 1 1 false) [.t 2],
 oK 11 (.load 1 false) [.t 10],
 oK 4 .mv [.t 11]] [2,10,11])
 .ret))) }
def F_impl_StateOk:LF :=
 { nparams:=2,results:=[.t 4],body :=
 (.seq
 (.region false [oK 4 .mv [.c (.b false)]] [4])
 (.seq
 (.region false [oK 5 .mv [.t 0],
 oK 6 (.call n_impl_manyOk 3072) [.t 5],
 oK 7 .mv [.t 6],
 oG 8 .mv [.t 1] 7 true,
 oG 9 .mv [.t 0] 7 true,
 oG 10 (.call n_impl_statesOf 5120) [.t 9] 7 true,
 oG 11 (.bin .sub) [.t 10,.c (.i 1)] 7 true,
 oG 12 (.call n_impl_isWithin 6144) [.t 8,.c (.i 0),.t 11] 7 true,
 oK 13 .pick [.t 7,.t 12,.c (.b false)],
 oK 4 .mv [.t 13]] [0,1,5,6,7,8,9,10,11,12,13])
 .ret)) }
def F_impl_outcomeIn:LF :=
 { nparams:=2,results:=[.t 4],body :=
 (.seq
 (.region false [oK 4 .mv [.c (.i 0)]] [4])
 (.seq
 (.region false [oK 5 .mv [.t 0],
 oK 6 .mv [.t 1],
 oK 7 (.bin .shr) [.t 5,.t 6],
 oK 8 (.bin .and) [.t 7,.c (.i 1)],
 oK 4 .mv [.t 8]] [0,1,5,6,7,8])
 .ret)) }
def F_slices_Grow_impl_Choice_impl_Choice:LF :=
 { nparams:=2,results:=[],body:=.skip,prim:=some (growP 3) }
def F_impl_partsTaken:LF :=
 { nparams:=1,results:=[.t 2],body :=
 (.seq
 (.region false [oK 2 .mv [.c (.i 0)]] [2])
 (.seq
 (.seq
 (.region false [oK 3 .mv [.t 0]] [0])
 (.block 0
 (.seq
 (.region false [oK 5 (.bin .eql) [.t 3,.c (.i 0)],
 oK 4 .mv [.t 5]] [5])
 (.cond (.t 4) [4]
 (.seq
 (.region false [oK 2 .mv [.c (.i 0)]] [3])
 .ret)
 (.seq
 (.region false [oK 7 (.bin .eql) [.t 3,.c (.i 1)],
 oK 6 .mv [.t 7]] [3,7])
 (.cond (.t 6) [6]
 (.seq
 (.region false [oK 2 .mv [.c (.i 1)]] [])
 .ret)
 .skip))))))
 (.seq
 (.region false [oK 2 .mv [.c (.i 2)]] [])
 .ret))) }
def F_slices_rotateLeft_impl_askedGroup:LF :=
 { nparams:=2,results:=[],body :=
 (.seq
 (.region false [oK 4 .mv [.t 0],
 oK 5 .mv [.t 1],
 oK 6 (.slice false true 4) [.t 4,.t 5],
 oK 7 (.call n_slices_Reverse_impl_askedGroup_impl_askedGroup 3584) [.t 6]] [4,5,6,7])
 (.seq
 (.region false [oK 8 .mv [.t 0],
 oK 9 .mv [.t 1],
 oK 10 (.slice true false 4) [.t 8,.t 9],
 oK 11 (.call n_slices_Reverse_impl_askedGroup_impl_askedGroup 5632) [.t 10]] [1,8,9,10,11])
 (.region false [oK 12 .mv [.t 0],
 oK 13 (.call n_slices_Reverse_impl_askedGroup_impl_askedGroup 6656) [.t 12]] [0,12,13]))) }
def F_slices_Insert_int_int:LF :=
 { nparams:=3,results:=[],body:=.skip,prim:=some insP }
def F_impl_statesOf:LF :=
 { nparams:=1,results:=[.t 2],body :=
 (.seq
 (.region false [oK 2 .mv [.c (.i 0)]] [2])
 (.seq
 (.region false [oK 3 .mv [.t 0],
 oK 4 (.bin .shl) [.c (.i 1),.t 3],
 oK 2 .mv [.t 4]] [0,3,4])
 .ret)) }
def F_slices_Reverse_impl_askedGroup_impl_askedGroup_L0:LC :=
 (.seq
 (.seq
 (.region false [oK 7 .mv [.t 2],
 oK 8 .mv [.t 3],
 oK 9 (.bin .lss) [.t 7,.t 8]] [7,8])
 (.cond (.t 9) [9]
 .skip
 (.exit 0)))
 (.seq
 (.block 1
 (.region true [oK 14 .mv [.t 0],
 oK 15 .mv [.t 2],
 oK 16 .mv [.t 0],
 oK 17 .mv [.t 3],
 oK 18 .mv [.t 0],
 oK 19 .mv [.t 3],
 oK 20 (.idxa 4) [.t 18,.t 19],
 oK 21 (.load 4 true) [.t 20],
 oK 22 .mv [.t 0],
 oK 23 .mv [.t 2],
 oK 24 (.idxa 4) [.t 22,.t 23],
 oK 25 (.load 4 true) [.t 24],
 oK 26 (.idxa 4) [.t 14,.t 15],
 ⟨none,.store 4,[.t 26,.t 21],none⟩,
 oK 27 (.idxa 4) [.t 16,.t 17],
 ⟨none,.store 4,[.t 27,.t 25],none⟩] [14,15,16,17,18,19,20,21,22,23,24,25,26,27]))
 (.region false [oK 10 .mv [.t 2],
 oK 11 (.bin .add) [.t 10,.c (.i 1)],
 oK 12 .mv [.t 3],
 oK 13 (.bin .sub) [.t 12,.c (.i 1)],
 oK 2 .mv [.t 11],
 oK 3 .mv [.t 13]] [10,11,12,13])))
def F_slices_Reverse_impl_askedGroup_impl_askedGroup_W0:LC:=.loop F_slices_Reverse_impl_askedGroup_impl_askedGroup_L0
def F_slices_Reverse_impl_askedGroup_impl_askedGroup:LF :=
 { nparams:=1,results:=[],body :=
 (.seq
 (.region false [oK 4 .mv [.t 0],
 oK 5 .len [.t 4],
 oK 6 (.bin .sub) [.t 5,.c (.i 1)],
 oK 2 .mv [.c (.i 0)],
 oK 3 .mv [.t 6]] [4,5,6])
 (.block 0
 F_slices_Reverse_impl_askedGroup_impl_askedGroup_W0)) }
def F_slices_rotateRight_int:LF :=
 { nparams:=2,results:=[],body :=
 (.region false [oK 4 .mv [.t 0],
 oK 5 .mv [.t 0],
 oK 6 .len [.t 5],
 oK 7 .mv [.t 1],
 oK 8 (.bin .sub) [.t 6,.t 7],
 oK 9 (.call n_slices_rotateLeft_int 4608) [.t 4,.t 8]] [0,1,4,5,6,7,8,9]) }
def F_slices_rotateLeft_int:LF :=
 { nparams:=2,results:=[],body :=
 (.seq
 (.region false [oK 4 .mv [.t 0],
 oK 5 .mv [.t 1],
 oK 6 (.slice false true 1) [.t 4,.t 5],
 oK 7 (.call n_slices_Reverse_int_int 3584) [.t 6]] [4,5,6,7])
 (.seq
 (.region false [oK 8 .mv [.t 0],
 oK 9 .mv [.t 1],
 oK 10 (.slice true false 1) [.t 8,.t 9],
 oK 11 (.call n_slices_Reverse_int_int 5632) [.t 10]] [1,8,9,10,11])
 (.region false [oK 12 .mv [.t 0],
 oK 13 (.call n_slices_Reverse_int_int 6656) [.t 12]] [0,12,13]))) }
def F_slices_Reverse_int_int_L0:LC :=
 (.seq
 (.seq
 (.region false [oK 7 .mv [.t 2],
 oK 8 .mv [.t 3],
 oK 9 (.bin .lss) [.t 7,.t 8]] [7,8])
 (.cond (.t 9) [9]
 .skip
 (.exit 0)))
 (.seq
 (.block 1
 (.region true [oK 14 .mv [.t 0],
 oK 15 .mv [.t 2],
 oK 16 .mv [.t 0],
 oK 17 .mv [.t 3],
 oK 18 .mv [.t 0],
 oK 19 .mv [.t 3],
 oK 20 (.idxa 1) [.t 18,.t 19],
 oK 21 (.load 1 false) [.t 20],
 oK 22 .mv [.t 0],
 oK 23 .mv [.t 2],
 oK 24 (.idxa 1) [.t 22,.t 23],
 oK 25 (.load 1 false) [.t 24],
 oK 26 (.idxa 1) [.t 14,.t 15],
 ⟨none,.store 1,[.t 26,.t 21],none⟩,
 oK 27 (.idxa 1) [.t 16,.t 17],
 ⟨none,.store 1,[.t 27,.t 25],none⟩] [14,15,16,17,18,19,20,21,22,23,24,25,26,27]))
 (.region false [oK 10 .mv [.t 2],
 oK 11 (.bin .add) [.t 10,.c (.i 1)],
 oK 12 .mv [.t 3],
 oK 13 (.bin .sub) [.t 12,.c (.i 1)],
 oK 2 .mv [.t 11],
 oK 3 .mv [.t 13]] [10,11,12,13])))
def F_slices_Reverse_int_int_W0:LC:=.loop F_slices_Reverse_int_int_L0
def F_slices_Reverse_int_int:LF :=
 { nparams:=1,results:=[],body :=
 (.seq
 (.region false [oK 4 .mv [.t 0],
 oK 5 .len [.t 4],
 oK 6 (.bin .sub) [.t 5,.c (.i 1)],
 oK 2 .mv [.c (.i 0)],
 oK 3 .mv [.t 6]] [4,5,6])
 (.block 0
 F_slices_Reverse_int_int_W0)) }
def lf:Nat→Option LF
 | 3=>some F_laws_FnExactGroupPlan
 | 4=>some F_laws_szTestS
 | 5=>some F_laws_szIntSS
 | 6=>some F_spec_GroupPlan
 | 7=>some F_laws_toTestS
 | 8=>some F_laws_toIntSS
 | 9=>some F_impl_GroupPlan
 | 10=>some F_laws_eqChoiceS
 | 11=>some F_laws_eqTestS
 | 12=>some F_laws_eqIntSS
 | 13=>some F_laws_markTestS
 | 14=>some F_laws_markIntSS
 | 15=>some F_laws_markChoiceS
 | 16=>some F_laws_heldChoiceS
 | 17=>some F_laws_szIntS
 | 18=>some F_spec_SortedGroups
 | 19=>some F_spec_l7Grow
 | 20=>some F_laws_toTest
 | 21=>some F_laws_toIntS
 | 22=>some F_impl_groupsByRatios
 | 23=>some F_impl_planFrom
 | 24=>some F_impl_startOf
 | 25=>some F_impl_GroupTerm
 | 26=>some F_impl_GroupPlan_1
 | 27=>some F_impl_nextInGroups
 | 28=>some F_laws_eqChoice
 | 29=>some F_laws_eqTest
 | 30=>some F_laws_eqIntS
 | 31=>some F_laws_markIntS
 | 32=>some F_spec_TestsOk
 | 33=>some F_spec_GroupsOk
 | 34=>some F_spec_l7Inside
 | 35=>some F_spec_l7Cost
 | 36=>some F_impl_TestsOk
 | 37=>some F_impl_GroupsOk
 | 38=>some F_impl_groupsByRatios_1
 | 39=>some F_impl_ratio_isLess
 | 40=>some F_impl_inserted_impl_askedGroup
 | 41=>some F_impl_groupOf
 | 42=>some F_impl_point_isForced
 | 43=>some F_impl_point_answered
 | 44=>some F_impl_laidOut
 | 45=>some F_impl_trueStates
 | 46=>some F_slices_IndexFunc_impl_askedGroup_impl_askedGroup
 | 47=>some F_impl_nextInGroups_1
 | 48=>some F_impl_valueAmong
 | 49=>some F_impl_statesWithYes
 | 50=>some F_slices_IndexFunc_int_int
 | 51=>some F_impl_point_canAsk
 | 52=>some F_spec_l1In
 | 53=>some F_spec_l1Power
 | 54=>some F_impl_manyOk
 | 55=>some F_impl_isWithin
 | 56=>some F_impl_OrderOk
 | 57=>some F_slices_Insert_impl_askedGroup_impl_askedGroup
 | 58=>some F_impl_RatioOrder
 | 59=>some F_slices_Contains_int_int
 | 60=>some F_impl_RowAverage
 | 61=>some F_impl_WeightOf
 | 62=>some F_impl_wholeOf
 | 63=>some F_impl_point_value
 | 64=>some F_impl_statesSaying
 | 65=>some F_slices_Concat_impl_Choice_impl_Choice
 | 66=>some F_impl_foldTerm_uint32
 | 67=>some F_impl_statesOfPart
 | 68=>some F_impl_hasTest
 | 70=>some F_slices_rotateRight_impl_askedGroup
 | 71=>some F_impl_rowOk
 | 72=>some F_impl_RatioOrder_1
 | 73=>some F_impl_ratioOf
 | 74=>some F_impl_inserted_int
 | 75=>some F_slices_Index_int_int
 | 76=>some F_impl_endChance
 | 77=>some F_impl_StateOk
 | 78=>some F_impl_outcomeIn
 | 79=>some F_slices_Grow_impl_Choice_impl_Choice
 | 80=>some F_impl_partsTaken
 | 81=>some F_slices_rotateLeft_impl_askedGroup
 | 82=>some F_slices_Insert_int_int
 | 83=>some F_impl_statesOf
 | 84=>some F_slices_Reverse_impl_askedGroup_impl_askedGroup
 | 86=>some F_slices_rotateRight_int
 | 87=>some F_slices_rotateLeft_int
 | 88=>some F_slices_Reverse_int_int
 | _=>none
theorem w_laws_szIntSS_0 (S:LS):ex lf F_laws_szIntSS_W0 S=match ex lf F_laws_szIntSS_L0 S with | some (.normal,S1)=>ex lf F_laws_szIntSS_W0 S1 | r=>r:=ex_loop lf F_laws_szIntSS_L0 S
theorem w_laws_toTestS_0 (S:LS):ex lf F_laws_toTestS_W0 S=match ex lf F_laws_toTestS_L0 S with | some (.normal,S1)=>ex lf F_laws_toTestS_W0 S1 | r=>r:=ex_loop lf F_laws_toTestS_L0 S
theorem w_laws_toIntSS_0 (S:LS):ex lf F_laws_toIntSS_W0 S=match ex lf F_laws_toIntSS_L0 S with | some (.normal,S1)=>ex lf F_laws_toIntSS_W0 S1 | r=>r:=ex_loop lf F_laws_toIntSS_L0 S
theorem w_laws_eqChoiceS_0 (S:LS):ex lf F_laws_eqChoiceS_W0 S=match ex lf F_laws_eqChoiceS_L0 S with | some (.normal,S1)=>ex lf F_laws_eqChoiceS_W0 S1 | r=>r:=ex_loop lf F_laws_eqChoiceS_L0 S
theorem w_laws_eqTestS_0 (S:LS):ex lf F_laws_eqTestS_W0 S=match ex lf F_laws_eqTestS_L0 S with | some (.normal,S1)=>ex lf F_laws_eqTestS_W0 S1 | r=>r:=ex_loop lf F_laws_eqTestS_L0 S
theorem w_laws_eqIntSS_0 (S:LS):ex lf F_laws_eqIntSS_W0 S=match ex lf F_laws_eqIntSS_L0 S with | some (.normal,S1)=>ex lf F_laws_eqIntSS_W0 S1 | r=>r:=ex_loop lf F_laws_eqIntSS_L0 S
theorem w_laws_markTestS_0 (S:LS):ex lf F_laws_markTestS_W0 S=match ex lf F_laws_markTestS_L0 S with | some (.normal,S1)=>ex lf F_laws_markTestS_W0 S1 | r=>r:=ex_loop lf F_laws_markTestS_L0 S
theorem w_laws_markIntSS_0 (S:LS):ex lf F_laws_markIntSS_W0 S=match ex lf F_laws_markIntSS_L0 S with | some (.normal,S1)=>ex lf F_laws_markIntSS_W0 S1 | r=>r:=ex_loop lf F_laws_markIntSS_L0 S
theorem w_laws_markChoiceS_0 (S:LS):ex lf F_laws_markChoiceS_W0 S=match ex lf F_laws_markChoiceS_L0 S with | some (.normal,S1)=>ex lf F_laws_markChoiceS_W0 S1 | r=>r:=ex_loop lf F_laws_markChoiceS_L0 S
theorem w_laws_heldChoiceS_0 (S:LS):ex lf F_laws_heldChoiceS_W0 S=match ex lf F_laws_heldChoiceS_L0 S with | some (.normal,S1)=>ex lf F_laws_heldChoiceS_W0 S1 | r=>r:=ex_loop lf F_laws_heldChoiceS_L0 S
theorem w_spec_SortedGroups_1 (S:LS):ex lf F_spec_SortedGroups_W1 S=match ex lf F_spec_SortedGroups_L1 S with | some (.normal,S1)=>ex lf F_spec_SortedGroups_W1 S1 | r=>r:=ex_loop lf F_spec_SortedGroups_L1 S
theorem w_spec_SortedGroups_0 (S:LS):ex lf F_spec_SortedGroups_W0 S=match ex lf F_spec_SortedGroups_L0 S with | some (.normal,S1)=>ex lf F_spec_SortedGroups_W0 S1 | r=>r:=ex_loop lf F_spec_SortedGroups_L0 S
theorem w_laws_toIntS_0 (S:LS):ex lf F_laws_toIntS_W0 S=match ex lf F_laws_toIntS_L0 S with | some (.normal,S1)=>ex lf F_laws_toIntS_W0 S1 | r=>r:=ex_loop lf F_laws_toIntS_L0 S
theorem w_impl_groupsByRatios_0 (S:LS):ex lf F_impl_groupsByRatios_W0 S=match ex lf F_impl_groupsByRatios_L0 S with | some (.normal,S1)=>ex lf F_impl_groupsByRatios_W0 S1 | r=>r:=ex_loop lf F_impl_groupsByRatios_L0 S
theorem w_impl_GroupTerm_1 (S:LS):ex lf F_impl_GroupTerm_W1 S=match ex lf F_impl_GroupTerm_L1 S with | some (.normal,S1)=>ex lf F_impl_GroupTerm_W1 S1 | r=>r:=ex_loop lf F_impl_GroupTerm_L1 S
theorem w_impl_GroupTerm_0 (S:LS):ex lf F_impl_GroupTerm_W0 S=match ex lf F_impl_GroupTerm_L0 S with | some (.normal,S1)=>ex lf F_impl_GroupTerm_W0 S1 | r=>r:=ex_loop lf F_impl_GroupTerm_L0 S
theorem w_laws_eqIntS_0 (S:LS):ex lf F_laws_eqIntS_W0 S=match ex lf F_laws_eqIntS_L0 S with | some (.normal,S1)=>ex lf F_laws_eqIntS_W0 S1 | r=>r:=ex_loop lf F_laws_eqIntS_L0 S
theorem w_laws_markIntS_0 (S:LS):ex lf F_laws_markIntS_W0 S=match ex lf F_laws_markIntS_L0 S with | some (.normal,S1)=>ex lf F_laws_markIntS_W0 S1 | r=>r:=ex_loop lf F_laws_markIntS_L0 S
theorem w_spec_TestsOk_0 (S:LS):ex lf F_spec_TestsOk_W0 S=match ex lf F_spec_TestsOk_L0 S with | some (.normal,S1)=>ex lf F_spec_TestsOk_W0 S1 | r=>r:=ex_loop lf F_spec_TestsOk_L0 S
theorem w_spec_GroupsOk_1 (S:LS):ex lf F_spec_GroupsOk_W1 S=match ex lf F_spec_GroupsOk_L1 S with | some (.normal,S1)=>ex lf F_spec_GroupsOk_W1 S1 | r=>r:=ex_loop lf F_spec_GroupsOk_L1 S
theorem w_spec_GroupsOk_0 (S:LS):ex lf F_spec_GroupsOk_W0 S=match ex lf F_spec_GroupsOk_L0 S with | some (.normal,S1)=>ex lf F_spec_GroupsOk_W0 S1 | r=>r:=ex_loop lf F_spec_GroupsOk_L0 S
theorem w_spec_l7Inside_1 (S:LS):ex lf F_spec_l7Inside_W1 S=match ex lf F_spec_l7Inside_L1 S with | some (.normal,S1)=>ex lf F_spec_l7Inside_W1 S1 | r=>r:=ex_loop lf F_spec_l7Inside_L1 S
theorem w_spec_l7Inside_0 (S:LS):ex lf F_spec_l7Inside_W0 S=match ex lf F_spec_l7Inside_L0 S with | some (.normal,S1)=>ex lf F_spec_l7Inside_W0 S1 | r=>r:=ex_loop lf F_spec_l7Inside_L0 S
theorem w_spec_l7Cost_0 (S:LS):ex lf F_spec_l7Cost_W0 S=match ex lf F_spec_l7Cost_L0 S with | some (.normal,S1)=>ex lf F_spec_l7Cost_W0 S1 | r=>r:=ex_loop lf F_spec_l7Cost_L0 S
theorem w_impl_TestsOk_0 (S:LS):ex lf F_impl_TestsOk_W0 S=match ex lf F_impl_TestsOk_L0 S with | some (.normal,S1)=>ex lf F_impl_TestsOk_W0 S1 | r=>r:=ex_loop lf F_impl_TestsOk_L0 S
theorem w_impl_GroupsOk_0 (S:LS):ex lf F_impl_GroupsOk_W0 S=match ex lf F_impl_GroupsOk_L0 S with | some (.normal,S1)=>ex lf F_impl_GroupsOk_W0 S1 | r=>r:=ex_loop lf F_impl_GroupsOk_L0 S
theorem w_impl_inserted_impl_askedGroup_0 (S:LS):ex lf F_impl_inserted_impl_askedGroup_W0 S=match ex lf F_impl_inserted_impl_askedGroup_L0 S with | some (.normal,S1)=>ex lf F_impl_inserted_impl_askedGroup_W0 S1 | r=>r:=ex_loop lf F_impl_inserted_impl_askedGroup_L0 S
theorem w_impl_groupOf_0 (S:LS):ex lf F_impl_groupOf_W0 S=match ex lf F_impl_groupOf_L0 S with | some (.normal,S1)=>ex lf F_impl_groupOf_W0 S1 | r=>r:=ex_loop lf F_impl_groupOf_L0 S
theorem w_slices_IndexFunc_impl_askedGroup_impl_askedGroup_0 (S:LS):ex lf F_slices_IndexFunc_impl_askedGroup_impl_askedGroup_W0 S=match ex lf F_slices_IndexFunc_impl_askedGroup_impl_askedGroup_L0 S with | some (.normal,S1)=>ex lf F_slices_IndexFunc_impl_askedGroup_impl_askedGroup_W0 S1 | r=>r:=ex_loop lf F_slices_IndexFunc_impl_askedGroup_impl_askedGroup_L0 S
theorem w_impl_statesWithYes_0 (S:LS):ex lf F_impl_statesWithYes_W0 S=match ex lf F_impl_statesWithYes_L0 S with | some (.normal,S1)=>ex lf F_impl_statesWithYes_W0 S1 | r=>r:=ex_loop lf F_impl_statesWithYes_L0 S
theorem w_slices_IndexFunc_int_int_0 (S:LS):ex lf F_slices_IndexFunc_int_int_W0 S=match ex lf F_slices_IndexFunc_int_int_L0 S with | some (.normal,S1)=>ex lf F_slices_IndexFunc_int_int_W0 S1 | r=>r:=ex_loop lf F_slices_IndexFunc_int_int_L0 S
theorem w_spec_l1Power_0 (S:LS):ex lf F_spec_l1Power_W0 S=match ex lf F_spec_l1Power_L0 S with | some (.normal,S1)=>ex lf F_spec_l1Power_W0 S1 | r=>r:=ex_loop lf F_spec_l1Power_L0 S
theorem w_impl_OrderOk_0 (S:LS):ex lf F_impl_OrderOk_W0 S=match ex lf F_impl_OrderOk_L0 S with | some (.normal,S1)=>ex lf F_impl_OrderOk_W0 S1 | r=>r:=ex_loop lf F_impl_OrderOk_L0 S
theorem w_impl_RatioOrder_0 (S:LS):ex lf F_impl_RatioOrder_W0 S=match ex lf F_impl_RatioOrder_L0 S with | some (.normal,S1)=>ex lf F_impl_RatioOrder_W0 S1 | r=>r:=ex_loop lf F_impl_RatioOrder_L0 S
theorem w_impl_RowAverage_0 (S:LS):ex lf F_impl_RowAverage_W0 S=match ex lf F_impl_RowAverage_L0 S with | some (.normal,S1)=>ex lf F_impl_RowAverage_W0 S1 | r=>r:=ex_loop lf F_impl_RowAverage_L0 S
theorem w_impl_WeightOf_0 (S:LS):ex lf F_impl_WeightOf_W0 S=match ex lf F_impl_WeightOf_L0 S with | some (.normal,S1)=>ex lf F_impl_WeightOf_W0 S1 | r=>r:=ex_loop lf F_impl_WeightOf_L0 S
theorem w_impl_wholeOf_0 (S:LS):ex lf F_impl_wholeOf_W0 S=match ex lf F_impl_wholeOf_L0 S with | some (.normal,S1)=>ex lf F_impl_wholeOf_W0 S1 | r=>r:=ex_loop lf F_impl_wholeOf_L0 S
theorem w_slices_Concat_impl_Choice_impl_Choice_0 (S:LS):ex lf F_slices_Concat_impl_Choice_impl_Choice_W0 S=match ex lf F_slices_Concat_impl_Choice_impl_Choice_L0 S with | some (.normal,S1)=>ex lf F_slices_Concat_impl_Choice_impl_Choice_W0 S1 | r=>r:=ex_loop lf F_slices_Concat_impl_Choice_impl_Choice_L0 S
theorem w_slices_Concat_impl_Choice_impl_Choice_1 (S:LS):ex lf F_slices_Concat_impl_Choice_impl_Choice_W1 S=match ex lf F_slices_Concat_impl_Choice_impl_Choice_L1 S with | some (.normal,S1)=>ex lf F_slices_Concat_impl_Choice_impl_Choice_W1 S1 | r=>r:=ex_loop lf F_slices_Concat_impl_Choice_impl_Choice_L1 S
theorem w_impl_foldTerm_uint32_0 (S:LS):ex lf F_impl_foldTerm_uint32_W0 S=match ex lf F_impl_foldTerm_uint32_L0 S with | some (.normal,S1)=>ex lf F_impl_foldTerm_uint32_W0 S1 | r=>r:=ex_loop lf F_impl_foldTerm_uint32_L0 S
theorem w_impl_inserted_int_0 (S:LS):ex lf F_impl_inserted_int_W0 S=match ex lf F_impl_inserted_int_L0 S with | some (.normal,S1)=>ex lf F_impl_inserted_int_W0 S1 | r=>r:=ex_loop lf F_impl_inserted_int_L0 S
theorem w_slices_Index_int_int_0 (S:LS):ex lf F_slices_Index_int_int_W0 S=match ex lf F_slices_Index_int_int_L0 S with | some (.normal,S1)=>ex lf F_slices_Index_int_int_W0 S1 | r=>r:=ex_loop lf F_slices_Index_int_int_L0 S
theorem w_slices_Reverse_impl_askedGroup_impl_askedGroup_0 (S:LS):ex lf F_slices_Reverse_impl_askedGroup_impl_askedGroup_W0 S=match ex lf F_slices_Reverse_impl_askedGroup_impl_askedGroup_L0 S with | some (.normal,S1)=>ex lf F_slices_Reverse_impl_askedGroup_impl_askedGroup_W0 S1 | r=>r:=ex_loop lf F_slices_Reverse_impl_askedGroup_impl_askedGroup_L0 S
theorem w_slices_Reverse_int_int_0 (S:LS):ex lf F_slices_Reverse_int_int_W0 S=match ex lf F_slices_Reverse_int_int_L0 S with | some (.normal,S1)=>ex lf F_slices_Reverse_int_int_W0 S1 | r=>r:=ex_loop lf F_slices_Reverse_int_int_L0 S
end Zz
