/- The functions of the program, read as data. No conditions. -/
import Derived.Test.YtffghabijlfpeaaLgC
set_option linter.unusedSectionVars false
set_option linter.unusedVariables false
set_option linter.unusedSimpArgs false
namespace Zz
open Go.Lg
abbrev oK (d : Nat) (k : K) (a : List Opd) : LOp := ⟨some d, k, a, none⟩
abbrev oG (d : Nat) (k : K) (a : List Opd) (t : Nat) (b : Bool) : LOp := ⟨some d, k, a, some (t, b)⟩
def n_laws_FnExactChainOrder : Nat := 5
def n_laws_szIntSS : Nat := 8
def n_laws_toIntSS : Nat := 10
def n_laws_eqIntSS : Nat := 13
def n_laws_markIntSS : Nat := 14
def n_laws_szTestS : Nat := 17
def n_laws_toTestS : Nat := 19
def n_laws_eqTestS : Nat := 21
def n_laws_markTestS : Nat := 22
def n_spec_ChainOrder : Nat := 24
def n_impl_ChainOrder : Nat := 25
def n_laws_eqIntS : Nat := 26
def n_laws_markIntS : Nat := 27
def n_laws_heldIntS : Nat := 28
def n_laws_szIntS : Nat := 33
def n_spec_GroupsOk : Nat := 34
def n_laws_toIntS : Nat := 35
def n_impl_GroupsOk : Nat := 36
def n_spec_TestsOk : Nat := 38
def n_laws_toTest : Nat := 41
def n_laws_eqTest : Nat := 43
def n_spec_l9Ratio : Nat := 44
def n_impl_TestsOk : Nat := 45
def n_impl_leastPart : Nat := 46
def n_impl_behindPart : Nat := 47
def n_spec_l1In : Nat := 48
def n_spec_l1Power : Nat := 49
def n_impl_isWithin : Nat := 55
def n_impl_manyOk : Nat := 57
def n_impl_OrderOk : Nat := 58
def n_impl_ratio_isLess : Nat := 60
def n_impl_ratioOfPart : Nat := 63
def n_slices_Clone_int_int : Nat := 64
def n_impl_hasTest : Nat := 68
def n_impl_wholeOf : Nat := 74
def bkFs : List Nat := []
instance : GL := ⟨[],[14,15,22,27],["l4_orders.go:82","l10_rounds.go:90"],[],[(61,[0]),(69,[0,2]),(81,[0]),(89,[0,2])],[],["l20_draw.go:447"],bkFs⟩
/-- laws.FnExactChainOrder -/
def F_laws_FnExactChainOrder : LF :=
 { nparams := 2,results := [.t 4],body :=
 (.seq
 (.region false [oK 4 .mv [.c (.b false)]] [4])
 (.seq
 (.region false [oK 5 .mv [.c (.i 1048576)]] [])
 (.seq
 (.region false [oK 14 .mv [.t 0],
 oK 15 .mv [.t 5],
 oK 16 (.call n_laws_szTestS 8192) [.t 14,.t 15],
 oK 5 .mv [.t 16]] [14,15,16])
 (.seq
 (.seq
 (.region false [oK 17 .mv [.t 5],
 oK 18 (.bin .lss) [.t 17,.c (.i 0)]] [17])
 (.cond (.t 18) [18]
 (.seq
 (.region false [oK 4 .mv [.c (.b true)]] [0,1,5])
 .ret)
 .skip))
 (.seq
 (.region false [oK 19 .mv [.t 1],
 oK 20 .mv [.t 5],
 oK 21 (.call n_laws_szIntSS 10752) [.t 19,.t 20],
 oK 5 .mv [.t 21]] [19,20,21])
 (.seq
 (.seq
 (.region false [oK 22 .mv [.t 5],
 oK 23 (.bin .lss) [.t 22,.c (.i 0)]] [5,22])
 (.cond (.t 23) [23]
 (.seq
 (.region false [oK 4 .mv [.c (.b true)]] [0,1])
 .ret)
 .skip))
 (.seq
 (.region false [oK 24 .mv [.t 0],
 oK 25 (.call n_laws_toTestS 12800) [.t 24],
 oK 26 .mv [.t 1],
 oK 27 (.call n_laws_toIntSS 13824) [.t 26],
 oK 28 (.call n_spec_ChainOrder 14336) [.t 25,.t 27],
 oK 6 .mv [.t 28]] [24,25,26,27,28])
 (.seq
 (.region false [oK 29 .mv [.t 0],
 oK 30 (.call n_laws_toTestS 15360) [.t 29],
 oK 7 .mv [.t 30]] [29,30])
 (.seq
 (.region false [oK 31 .mv [.t 1],
 oK 32 (.call n_laws_toIntSS 16384) [.t 31],
 oK 8 .mv [.t 32]] [31,32])
 (.seq
 (.region false [oK 33 .mv [.t 7],
 oK 34 .mv [.t 8],
 oK 35 (.call n_impl_ChainOrder 17920) [.t 33,.t 34],
 oK 9 .mv [.t 35]] [33,34,35])
 (.seq
 (.seq
 (.region false [oK 36 .mv [.t 9],
 oK 37 .mv [.t 6],
 oK 38 (.call n_laws_eqIntS 19456) [.t 36,.t 37],
 oK 39 (.un .not) [.t 38]] [36,37,38])
 (.cond (.t 39) [39]
 (.seq
 (.region false [oK 4 .mv [.c (.b false)]] [0,1,6,7,8,9])
 .ret)
 .skip))
 (.seq
 (.seq
 (.region false [oK 40 .mv [.t 7],
 oK 41 .mv [.t 0],
 oK 42 (.call n_laws_toTestS 21504) [.t 41],
 oK 43 (.call n_laws_eqTestS 22016) [.t 40,.t 42],
 oK 44 (.un .not) [.t 43]] [40,41,42,43])
 (.cond (.t 44) [44]
 (.seq
 (.region false [oK 4 .mv [.c (.b false)]] [0,1,6,7,8,9])
 .ret)
 .skip))
 (.seq
 (.seq
 (.region false [oK 45 .mv [.t 8],
 oK 46 .mv [.t 1],
 oK 47 (.call n_laws_toIntSS 24064) [.t 46],
 oK 48 (.call n_laws_eqIntSS 24576) [.t 45,.t 47],
 oK 49 (.un .not) [.t 48]] [45,46,47,48])
 (.cond (.t 49) [49]
 (.seq
 (.region false [oK 4 .mv [.c (.b false)]] [0,1,6,7,8,9])
 .ret)
 .skip))
 (.seq
 (.region false [oK 10 .mv [.c (.i 1)]] [])
 (.seq
 (.region false [oK 50 .mv [.t 7],
 oK 51 .mv [.t 10],
 oK 52 (.call n_laws_markTestS 26628) [.t 50,.t 51],
 oK 10 .mv [.t 52]] [7,50,51,52])
 (.seq
 (.region false [oK 53 .mv [.t 8],
 oK 54 .mv [.t 10],
 oK 55 (.call n_laws_markIntSS 28164) [.t 53,.t 54],
 oK 10 .mv [.t 55]] [8,53,54,55])
 (.seq
 (.seq
 (.region false [oK 56 .mv [.t 10],
 oK 57 (.bin .lss) [.t 56,.c (.i 0)],
 oK 58 .mv [.t 57],
 oG 59 .mv [.t 9] 58 false,
 oG 60 .mv [.t 6] 58 false,
 oG 61 (.call n_laws_eqIntS 31232) [.t 59,.t 60] 58 false,
 oG 62 (.un .not) [.t 61] 58 false,
 oK 63 .pick [.t 58,.c (.b true),.t 62]] [10,56,57,58,59,60,61,62])
 (.cond (.t 63) [63]
 (.seq
 (.region false [oK 4 .mv [.c (.b false)]] [0,1,6,9])
 .ret)
 .skip))
 (.seq
 (.region false [oK 11 .mv [.c (.i 1)]] [])
 (.seq
 (.region false [oK 64 .mv [.t 9],
 oK 65 .mv [.t 11],
 oK 66 (.call n_laws_markIntS 33796) [.t 64,.t 65],
 oK 11 .mv [.t 66]] [64,65,66])
 (.seq
 (.region false [oK 12 .mv [.c (.i 1)]] [])
 (.seq
 (.region false [oK 67 .mv [.t 9],
 oK 68 .mv [.t 12],
 oK 69 (.call n_laws_heldIntS 35328) [.t 67,.t 68],
 oK 12 .mv [.t 69]] [67,68,69])
 (.seq
 (.seq
 (.region false [oK 70 .mv [.t 12],
 oK 71 (.bin .lss) [.t 70,.c (.i 0)]] [70])
 (.cond (.t 71) [71]
 (.seq
 (.region false [oK 4 .mv [.c (.b false)]] [0,1,6,9,11,12])
 .ret)
 .skip))
 (.seq
 (.seq
 (.region false [oK 72 .mv [.t 12],
 oK 73 .mv [.t 11],
 oK 74 (.bin .neq) [.t 72,.t 73]] [12,72,73])
 (.cond (.t 74) [74]
 (.seq
 (.region false [oK 4 .mv [.c (.b false)]] [0,1,6,9,11])
 .ret)
 .skip))
 (.seq
 (.region false [oK 75 .mv [.t 0],
 oK 76 (.call n_laws_toTestS 38912) [.t 75],
 oK 77 .mv [.t 1],
 oK 78 (.call n_laws_toIntSS 39936) [.t 77],
 oK 79 (.call n_impl_ChainOrder 40448) [.t 76,.t 78],
 oK 13 .mv [.t 79]] [0,1,75,76,77,78,79])
 (.seq
 (.seq
 (.region false [oK 80 .mv [.t 13],
 oK 81 .mv [.t 6],
 oK 82 (.call n_laws_eqIntS 41984) [.t 80,.t 81],
 oK 83 (.un .not) [.t 82]] [6,13,80,81,82])
 (.cond (.t 83) [83]
 (.seq
 (.region false [oK 4 .mv [.c (.b false)]] [9,11])
 .ret)
 .skip))
 (.seq
 (.region false [oK 12 .mv [.c (.i 1)]] [])
 (.seq
 (.region false [oK 84 .mv [.t 9],
 oK 85 .mv [.t 12],
 oK 86 (.call n_laws_heldIntS 44032) [.t 84,.t 85],
 oK 12 .mv [.t 86]] [9,84,85,86])
 (.seq
 (.seq
 (.region false [oK 87 .mv [.t 12],
 oK 88 (.bin .lss) [.t 87,.c (.i 0)]] [87])
 (.cond (.t 88) [88]
 (.seq
 (.region false [oK 4 .mv [.c (.b false)]] [11,12])
 .ret)
 .skip))
 (.seq
 (.seq
 (.region false [oK 89 .mv [.t 12],
 oK 90 .mv [.t 11],
 oK 91 (.bin .neq) [.t 89,.t 90]] [11,12,89,90])
 (.cond (.t 91) [91]
 (.seq
 (.region false [oK 4 .mv [.c (.b false)]] [])
 .ret)
 .skip))
 (.seq
 (.region false [oK 4 .mv [.c (.b true)]] [])
 .ret)))))))))))))))))))))))))))))) }
/-- laws.szIntSS -/
def F_laws_szIntSS_L0 : LC :=
 (.seq
 (.seq
 (.region false [oK 12 .mv [.t 5],
 oK 13 .mv [.t 0],
 oK 14 .len [.t 13],
 oK 15 (.bin .lss) [.t 12,.t 14]] [12,13,14])
 (.cond (.t 15) [15]
 .skip
 (.exit 0)))
 (.seq
 (.block 1
 (.seq
 (.region false [oK 18 .mv [.t 0],
 oK 19 .mv [.t 5],
 oK 20 (.idxa 1) [.t 18,.t 19],
 oK 21 (.load 1 false) [.t 20],
 oK 22 .mv [.t 1],
 oK 23 (.call n_laws_szIntS 11776) [.t 21,.t 22],
 oK 1 .mv [.t 23]] [18,19,20,21,22,23])
 (.seq
 (.region false [oK 24 .mv [.t 1],
 oK 25 (.bin .lss) [.t 24,.c (.i 0)]] [24])
 (.cond (.t 25) [25]
 (.seq
 (.region false [oK 4 .mv [.c (.i (-1))]] [0,1,5])
 .ret)
 .skip))))
 (.region false [oK 16 .mv [.t 5],
 oK 17 (.bin .add) [.t 16,.c (.i 1)],
 oK 5 .mv [.t 17]] [16,17])))
def F_laws_szIntSS_W0 : LC := .loop F_laws_szIntSS_L0
def F_laws_szIntSS : LF :=
 { nparams := 2,results := [.t 4],body :=
 (.seq
 (.region false [oK 4 .mv [.c (.i 0)]] [4])
 (.seq
 (.region false [oK 6 .mv [.t 1],
 oK 7 .mv [.t 0],
 oK 8 .len [.t 7],
 oK 9 (.bin .sub) [.t 6,.t 8],
 oK 1 .mv [.t 9]] [6,7,8,9])
 (.seq
 (.seq
 (.region false [oK 10 .mv [.t 1],
 oK 11 (.bin .lss) [.t 10,.c (.i 0)]] [10])
 (.cond (.t 11) [11]
 (.seq
 (.region false [oK 4 .mv [.c (.i (-1))]] [0,1])
 .ret)
 .skip))
 (.seq
 (.seq
 (.region false [oK 5 .mv [.c (.i 0)]] [])
 (.block 0
 F_laws_szIntSS_W0))
 (.seq
 (.region false [oK 26 .mv [.t 1],
 oK 4 .mv [.t 26]] [0,1,5,26])
 .ret))))) }
/-- laws.toIntSS -/
def F_laws_toIntSS_L0 : LC :=
 (.seq
 (.seq
 (.region false [oK 8 .mv [.t 4],
 oK 9 .mv [.t 0],
 oK 10 .len [.t 9],
 oK 11 (.bin .lss) [.t 8,.t 10]] [8,9,10])
 (.cond (.t 11) [11]
 .skip
 (.exit 0)))
 (.seq
 (.block 1
 (.region false [oK 14 .mv [.t 3],
 oK 15 .mv [.t 4],
 oK 16 .mv [.t 0],
 oK 17 .mv [.t 4],
 oK 18 (.idxa 1) [.t 16,.t 17],
 oK 19 (.load 1 false) [.t 18],
 oK 20 (.call n_laws_toIntS 10240) [.t 19],
 oK 21 (.idxa 1) [.t 14,.t 15],
 ⟨none,.store 1,[.t 21,.t 20],none⟩] [14,15,16,17,18,19,20,21]))
 (.region false [oK 12 .mv [.t 4],
 oK 13 (.bin .add) [.t 12,.c (.i 1)],
 oK 4 .mv [.t 13]] [12,13])))
def F_laws_toIntSS_W0 : LC := .loop F_laws_toIntSS_L0
def F_laws_toIntSS : LF :=
 { nparams := 1,results := [.t 2],body :=
 (.seq
 (.region false [oK 2 (.newnil 1032) []] [2])
 (.seq
 (.region false [oK 5 .mv [.t 0],
 oK 6 .len [.t 5],
 oK 7 (.make 3592 1 (.sl 1 [])) [.t 6,.t 6],
 oK 3 .mv [.t 7]] [5,6,7])
 (.seq
 (.seq
 (.region false [oK 4 .mv [.c (.i 0)]] [])
 (.block 0
 F_laws_toIntSS_W0))
 (.seq
 (.region false [oK 22 .mv [.t 3],
 oK 2 .mv [.t 22]] [0,3,4,22])
 .ret)))) }
/-- laws.eqIntSS -/
def F_laws_eqIntSS_L0 : LC :=
 (.seq
 (.seq
 (.region false [oK 11 .mv [.t 5],
 oK 12 .mv [.t 0],
 oK 13 .len [.t 12],
 oK 14 (.bin .lss) [.t 11,.t 13]] [11,12,13])
 (.cond (.t 14) [14]
 .skip
 (.exit 0)))
 (.seq
 (.block 1
 (.seq
 (.region true [oK 17 .mv [.t 0],
 oK 18 .mv [.t 5],
 oK 19 (.idxa 1) [.t 17,.t 18],
 oK 20 (.load 1 false) [.t 19],
 oK 21 .mv [.t 1],
 oK 22 .mv [.t 5],
 oK 23 (.idxa 1) [.t 21,.t 22],
 oK 24 (.load 1 false) [.t 23],
 oK 25 (.call n_laws_eqIntS 12800) [.t 20,.t 24],
 oK 26 (.un .not) [.t 25]] [17,18,19,20,21,22,23,24,25])
 (.cond (.t 26) [26]
 (.seq
 (.region false [oK 4 .mv [.c (.b false)]] [0,1,5])
 .ret)
 .skip)))
 (.region false [oK 15 .mv [.t 5],
 oK 16 (.bin .add) [.t 15,.c (.i 1)],
 oK 5 .mv [.t 16]] [15,16])))
def F_laws_eqIntSS_W0 : LC := .loop F_laws_eqIntSS_L0
def F_laws_eqIntSS : LF :=
 { nparams := 2,results := [.t 4],body :=
 (.seq
 (.region false [oK 4 .mv [.c (.b false)]] [4])
 (.seq
 (.seq
 (.region false [oK 6 .mv [.t 0],
 oK 7 .len [.t 6],
 oK 8 .mv [.t 1],
 oK 9 .len [.t 8],
 oK 10 (.bin .neq) [.t 7,.t 9]] [6,7,8,9])
 (.cond (.t 10) [10]
 (.seq
 (.region false [oK 4 .mv [.c (.b false)]] [0,1])
 .ret)
 .skip))
 (.seq
 (.seq
 (.region false [oK 5 .mv [.c (.i 0)]] [])
 (.block 0
 F_laws_eqIntSS_W0))
 (.seq
 (.region false [oK 4 .mv [.c (.b true)]] [0,1,5])
 .ret)))) }
/-- laws.markIntSS -/
def F_laws_markIntSS_L0 : LC :=
 (.seq
 (.seq
 (.region false [oK 6 .mv [.t 5],
 oK 7 .mv [.t 0],
 oK 8 .len [.t 7],
 oK 9 (.bin .lss) [.t 6,.t 8]] [6,7,8])
 (.cond (.t 9) [9]
 .skip
 (.exit 0)))
 (.seq
 (.block 1
 (.region false [oK 12 .mv [.t 0],
 oK 13 .mv [.t 5],
 oK 14 (.idxa 1) [.t 12,.t 13],
 oK 15 (.load 1 false) [.t 14],
 oK 16 .mv [.t 1],
 oK 17 (.call n_laws_markIntS 8708) [.t 15,.t 16],
 oK 1 .mv [.t 17]] [12,13,14,15,16,17]))
 (.region false [oK 10 .mv [.t 5],
 oK 11 (.bin .add) [.t 10,.c (.i 1)],
 oK 5 .mv [.t 11]] [10,11])))
def F_laws_markIntSS_W0 : LC := .loop F_laws_markIntSS_L0
def F_laws_markIntSS : LF :=
 { nparams := 2,results := [.t 4],body :=
 (.seq
 (.region false [oK 4 .mv [.c (.i 0)]] [4])
 (.seq
 (.seq
 (.region false [oK 5 .mv [.c (.i 0)]] [])
 (.block 0
 F_laws_markIntSS_W0))
 (.seq
 (.region false [oK 18 .mv [.t 1],
 oK 4 .mv [.t 18]] [1,5,18])
 .ret))) }
/-- laws.szTestS -/
def F_laws_szTestS : LF :=
 { nparams := 2,results := [.t 4],body :=
 (.seq
 (.region false [oK 4 .mv [.c (.i 0)]] [4])
 (.seq
 (.region false [oK 5 .mv [.t 1],
 oK 6 .mv [.t 0],
 oK 7 .len [.t 6],
 oK 8 (.bin .sub) [.t 5,.t 7],
 oK 1 .mv [.t 8]] [0,5,6,7,8])
 (.seq
 (.seq
 (.region false [oK 9 .mv [.t 1],
 oK 10 (.bin .lss) [.t 9,.c (.i 0)]] [9])
 (.cond (.t 10) [10]
 (.seq
 (.region false [oK 4 .mv [.c (.i (-1))]] [1])
 .ret)
 .skip))
 (.seq
 (.region false [oK 11 .mv [.t 1],
 oK 4 .mv [.t 11]] [1,11])
 .ret)))) }
/-- laws.toTestS -/
def F_laws_toTestS_L0 : LC :=
 (.seq
 (.seq
 (.region false [oK 8 .mv [.t 4],
 oK 9 .mv [.t 0],
 oK 10 .len [.t 9],
 oK 11 (.bin .lss) [.t 8,.t 10]] [8,9,10])
 (.cond (.t 11) [11]
 .skip
 (.exit 0)))
 (.seq
 (.block 1
 (.region false [oK 14 .mv [.t 3],
 oK 15 .mv [.t 4],
 oK 16 .mv [.t 0],
 oK 17 .mv [.t 4],
 oK 18 (.idxa 2) [.t 16,.t 17],
 oK 19 (.load 2 true) [.t 18],
 oK 20 (.call n_laws_toTest 10240) [.t 19],
 oK 21 (.idxa 2) [.t 14,.t 15],
 ⟨none,.store 2,[.t 21,.t 20],none⟩] [14,15,16,17,18,19,20,21]))
 (.region false [oK 12 .mv [.t 4],
 oK 13 (.bin .add) [.t 12,.c (.i 1)],
 oK 4 .mv [.t 13]] [12,13])))
def F_laws_toTestS_W0 : LC := .loop F_laws_toTestS_L0
def F_laws_toTestS : LF :=
 { nparams := 1,results := [.t 2],body :=
 (.seq
 (.region false [oK 2 (.newnil 1040) []] [2])
 (.seq
 (.region false [oK 5 .mv [.t 0],
 oK 6 .len [.t 5],
 oK 7 (.make 3600 2 (.st [.i 0,.i 0])) [.t 6,.t 6],
 oK 3 .mv [.t 7]] [5,6,7])
 (.seq
 (.seq
 (.region false [oK 4 .mv [.c (.i 0)]] [])
 (.block 0
 F_laws_toTestS_W0))
 (.seq
 (.region false [oK 22 .mv [.t 3],
 oK 2 .mv [.t 22]] [0,3,4,22])
 .ret)))) }
/-- laws.eqTestS -/
def F_laws_eqTestS_L0 : LC :=
 (.seq
 (.seq
 (.region false [oK 11 .mv [.t 5],
 oK 12 .mv [.t 0],
 oK 13 .len [.t 12],
 oK 14 (.bin .lss) [.t 11,.t 13]] [11,12,13])
 (.cond (.t 14) [14]
 .skip
 (.exit 0)))
 (.seq
 (.block 1
 (.seq
 (.region true [oK 17 .mv [.t 0],
 oK 18 .mv [.t 5],
 oK 19 (.idxa 2) [.t 17,.t 18],
 oK 20 (.load 2 true) [.t 19],
 oK 21 .mv [.t 1],
 oK 22 .mv [.t 5],
 oK 23 (.idxa 2) [.t 21,.t 22],
 oK 24 (.load 2 true) [.t 23],
 oK 25 (.call n_laws_eqTest 12800) [.t 20,.t 24],
 oK 26 (.un .not) [.t 25]] [17,18,19,20,21,22,23,24,25])
 (.cond (.t 26) [26]
 (.seq
 (.region false [oK 4 .mv [.c (.b false)]] [0,1,5])
 .ret)
 .skip)))
 (.region false [oK 15 .mv [.t 5],
 oK 16 (.bin .add) [.t 15,.c (.i 1)],
 oK 5 .mv [.t 16]] [15,16])))
def F_laws_eqTestS_W0 : LC := .loop F_laws_eqTestS_L0
def F_laws_eqTestS : LF :=
 { nparams := 2,results := [.t 4],body :=
 (.seq
 (.region false [oK 4 .mv [.c (.b false)]] [4])
 (.seq
 (.seq
 (.region false [oK 6 .mv [.t 0],
 oK 7 .len [.t 6],
 oK 8 .mv [.t 1],
 oK 9 .len [.t 8],
 oK 10 (.bin .neq) [.t 7,.t 9]] [6,7,8,9])
 (.cond (.t 10) [10]
 (.seq
 (.region false [oK 4 .mv [.c (.b false)]] [0,1])
 .ret)
 .skip))
 (.seq
 (.seq
 (.region false [oK 5 .mv [.c (.i 0)]] [])
 (.block 0
 F_laws_eqTestS_W0))
 (.seq
 (.region false [oK 4 .mv [.c (.b true)]] [0,1,5])
 .ret)))) }
/-- laws.markTestS -/
def F_laws_markTestS_L0 : LC :=
 (.seq
 (.seq
 (.region false [oK 6 .mv [.t 5],
 oK 7 .mv [.t 0],
 oK 8 .len [.t 7],
 oK 9 (.bin .lss) [.t 6,.t 8]] [6,7,8])
 (.cond (.t 9) [9]
 .skip
 (.exit 0)))
 (.seq
 (.block 1
 (.seq
 (.region false [oK 12 .mv [.t 0],
 oK 13 .mv [.t 5],
 oK 14 .mv [.t 1],
 oK 15 (.idxa 2) [.t 12,.t 13],
 oK 16 (.fld 0 1 false) [.t 15],
 ⟨none,.store 1,[.t 16,.t 14],none⟩] [12,13,14,15,16])
 (.seq
 (.region false [oK 17 .mv [.t 1],
 oK 18 (.bin .add) [.t 17,.c (.i 1)],
 oK 1 .mv [.t 18]] [17,18])
 (.seq
 (.region false [oK 19 .mv [.t 0],
 oK 20 .mv [.t 5],
 oK 21 .mv [.t 1],
 oK 22 (.idxa 2) [.t 19,.t 20],
 oK 23 (.fld 1 1 false) [.t 22],
 ⟨none,.store 1,[.t 23,.t 21],none⟩] [19,20,21,22,23])
 (.region false [oK 24 .mv [.t 1],
 oK 25 (.bin .add) [.t 24,.c (.i 1)],
 oK 1 .mv [.t 25]] [24,25])))))
 (.region false [oK 10 .mv [.t 5],
 oK 11 (.bin .add) [.t 10,.c (.i 1)],
 oK 5 .mv [.t 11]] [10,11])))
def F_laws_markTestS_W0 : LC := .loop F_laws_markTestS_L0
def F_laws_markTestS : LF :=
 { nparams := 2,results := [.t 4],body :=
 (.seq
 (.region false [oK 4 .mv [.c (.i 0)]] [4])
 (.seq
 (.seq
 (.region false [oK 5 .mv [.c (.i 0)]] [])
 (.block 0
 F_laws_markTestS_W0))
 (.seq
 (.region false [oK 26 .mv [.t 1],
 oK 4 .mv [.t 26]] [1,5,26])
 .ret))) }
/-- spec.ChainOrder -/
def F_spec_ChainOrder_L2 : LC :=
 (.seq
 (.seq
 (.region true [oK 41 .mv [.t 6],
 oK 42 .mv [.t 11],
 oK 43 (.idxa 1) [.t 41,.t 42],
 oK 44 (.load 1 false) [.t 43],
 oK 45 .mv [.t 12],
 oK 46 (.bin .add) [.t 44,.t 45],
 oK 47 .mv [.t 1],
 oK 48 .mv [.t 11],
 oK 49 (.idxa 1) [.t 47,.t 48],
 oK 50 (.load 1 false) [.t 49],
 oK 51 .len [.t 50],
 oK 52 (.bin .leq) [.t 46,.t 51]] [41,42,43,44,45,46,47,48,49,50,51])
 (.cond (.t 52) [52]
 .skip
 (.exit 4)))
 (.seq
 (.block 5
 (.seq
 (.region true [oK 56 .mv [.t 0],
 oK 57 .mv [.t 1],
 oK 58 .mv [.t 11],
 oK 59 (.idxa 1) [.t 57,.t 58],
 oK 60 (.load 1 false) [.t 59],
 oK 61 .mv [.t 6],
 oK 62 .mv [.t 11],
 oK 63 (.idxa 1) [.t 61,.t 62],
 oK 64 (.load 1 false) [.t 63],
 oK 65 .mv [.t 6],
 oK 66 .mv [.t 11],
 oK 67 (.idxa 1) [.t 65,.t 66],
 oK 68 (.load 1 false) [.t 67],
 oK 69 .mv [.t 12],
 oK 70 (.bin .add) [.t 68,.t 69],
 oK 71 (.slice true true 1) [.t 60,.t 64,.t 70],
 oK 72 (.call n_spec_l9Ratio 36864) [.t 56,.t 71],
 oK 55 .mv [.t 72],
 oK 73 (.ext 0) [.t 55],
 oK 74 (.ext 1) [.t 55],
 oK 13 .mv [.t 73],
 oK 14 .mv [.t 74]] [55,56,57,58,59,60,61,62,63,64,65,66,67,68,69,70,71,72,73,74])
 (.seq
 (.region false [oK 75 .mv [.t 7],
 oK 76 (.bin .lss) [.t 75,.c (.i 0)],
 oK 77 .mv [.t 76],
 oG 78 .mv [.t 13] 77 false,
 oG 79 .mv [.t 10] 77 false,
 oG 80 (.bin .mul) [.t 78,.t 79] 77 false,
 oG 81 .mv [.t 9] 77 false,
 oG 82 .mv [.t 14] 77 false,
 oG 83 (.bin .mul) [.t 81,.t 82] 77 false,
 oG 84 (.bin .lss) [.t 80,.t 83] 77 false,
 oK 85 .pick [.t 77,.c (.b true),.t 84]] [75,76,77,78,79,80,81,82,83,84])
 (.cond (.t 85) [85]
 (.seq
 (.region false [oK 86 .mv [.t 11],
 oK 7 .mv [.t 86]] [8,9,10,86])
 (.seq
 (.region false [oK 87 .mv [.t 12],
 oK 8 .mv [.t 87]] [87])
 (.seq
 (.region false [oK 88 .mv [.t 13],
 oK 9 .mv [.t 88]] [13,88])
 (.region false [oK 89 .mv [.t 14],
 oK 10 .mv [.t 89]] [14,89]))))
 .skip))))
 (.region false [oK 53 .mv [.t 12],
 oK 54 (.bin .add) [.t 53,.c (.i 1)],
 oK 12 .mv [.t 54]] [13,14,53,54])))
def F_spec_ChainOrder_W2 : LC := .loop F_spec_ChainOrder_L2
def F_spec_ChainOrder_L1 : LC :=
 (.seq
 (.seq
 (.region false [oK 35 .mv [.t 11],
 oK 36 .mv [.t 1],
 oK 37 .len [.t 36],
 oK 38 (.bin .lss) [.t 35,.t 37]] [35,36,37])
 (.cond (.t 38) [38]
 .skip
 (.exit 2)))
 (.seq
 (.block 3
 (.seq
 (.region false [oK 12 .mv [.c (.i 1)]] [])
 (.block 4
 F_spec_ChainOrder_W2)))
 (.region false [oK 39 .mv [.t 11],
 oK 40 (.bin .add) [.t 39,.c (.i 1)],
 oK 11 .mv [.t 40]] [12,39,40])))
def F_spec_ChainOrder_W1 : LC := .loop F_spec_ChainOrder_L1
def F_spec_ChainOrder_L0 : LC :=
 (.seq
 (.seq
 (.region false [oK 30 .mv [.t 5],
 oK 31 .len [.t 30],
 oK 32 .mv [.t 0],
 oK 33 .len [.t 32],
 oK 34 (.bin .lss) [.t 31,.t 33]] [30,31,32,33])
 (.cond (.t 34) [34]
 .skip
 (.exit 0)))
 (.block 1
 (.seq
 (.region false [oK 7 .mv [.c (.i (-1))]] [])
 (.seq
 (.region false [oK 8 .mv [.c (.i 0)]] [])
 (.seq
 (.region false [oK 9 .mv [.c (.i 0)]] [])
 (.seq
 (.region false [oK 10 .mv [.c (.i 1)]] [])
 (.seq
 (.seq
 (.region false [oK 11 .mv [.c (.i 0)]] [])
 (.block 2
 F_spec_ChainOrder_W1))
 (.seq
 (.region true [oK 90 .mv [.t 5],
 oK 91 .mv [.t 1],
 oK 92 .mv [.t 7],
 oK 93 (.idxa 1) [.t 91,.t 92],
 oK 94 (.load 1 false) [.t 93],
 oK 95 .mv [.t 6],
 oK 96 .mv [.t 7],
 oK 97 (.idxa 1) [.t 95,.t 96],
 oK 98 (.load 1 false) [.t 97],
 oK 99 .mv [.t 6],
 oK 100 .mv [.t 7],
 oK 101 (.idxa 1) [.t 99,.t 100],
 oK 102 (.load 1 false) [.t 101],
 oK 103 .mv [.t 8],
 oK 104 (.bin .add) [.t 102,.t 103],
 oK 105 (.slice true true 1) [.t 94,.t 98,.t 104],
 oK 106 (.app 54280 1) [.t 90,.t 105],
 oK 5 .mv [.t 106]] [9,10,11,90,91,92,93,94,95,96,97,98,99,100,101,102,103,104,105,106])
 (.region false [oK 107 .mv [.t 6],
 oK 108 .mv [.t 7],
 oK 109 .mv [.t 6],
 oK 110 .mv [.t 7],
 oK 111 (.idxa 1) [.t 109,.t 110],
 oK 112 (.load 1 false) [.t 111],
 oK 113 .mv [.t 8],
 oK 114 (.bin .add) [.t 112,.t 113],
 oK 115 (.idxa 1) [.t 107,.t 108],
 ⟨none,.store 1,[.t 115,.t 114],none⟩] [7,8,107,108,109,110,111,112,113,114,115])))))))))
def F_spec_ChainOrder_W0 : LC := .loop F_spec_ChainOrder_L0
def F_spec_ChainOrder : LF :=
 { nparams := 2,results := [.t 4],body :=
 (.seq
 (.region false [oK 4 (.newnil 2056) []] [4])
 (.seq
 (.region false [oK 15 (.bslice 7688 0 1 (.i 0) []) [],
 oK 5 .mv [.t 15]] [15])
 (.seq
 (.seq
 (.region false [oK 16 .mv [.t 0],
 oK 17 (.call n_spec_TestsOk 8704) [.t 16],
 oK 18 (.un .not) [.t 17],
 oK 19 .mv [.t 18],
 oG 20 .mv [.t 0] 19 false,
 oG 21 .len [.t 20] 19 false,
 oG 22 .mv [.t 1] 19 false,
 oG 23 (.call n_spec_GroupsOk 11776) [.t 21,.t 22] 19 false,
 oG 24 (.un .not) [.t 23] 19 false,
 oK 25 .pick [.t 19,.c (.b true),.t 24]] [16,17,18,19,20,21,22,23,24])
 (.cond (.t 25) [25]
 (.seq
 (.region false [oK 26 .mv [.t 5],
 oK 4 .mv [.t 26]] [0,1,5,26])
 .ret)
 .skip))
 (.seq
 (.region false [oK 27 .mv [.t 1],
 oK 28 .len [.t 27],
 oK 29 (.make 14856 1 (.i 0)) [.t 28,.t 28],
 oK 6 .mv [.t 29]] [27,28,29])
 (.seq
 (.block 0
 F_spec_ChainOrder_W0)
 (.seq
 (.region false [oK 116 .mv [.t 5],
 oK 4 .mv [.t 116]] [0,1,5,6,116])
 .ret)))))) }
/-- impl.ChainOrder -/
def F_impl_ChainOrder_L0 : LC :=
 (.seq
 (.seq
 (.region false [oK 19 .mv [.t 5],
 oK 20 .len [.t 19],
 oK 21 .mv [.t 0],
 oK 22 .len [.t 21],
 oK 23 (.bin .lss) [.t 20,.t 22]] [19,20,21,22])
 (.cond (.t 23) [23]
 .skip
 (.exit 0)))
 (.block 1
 (.seq
 (.region false [oK 24 .mv [.t 0],
 oK 25 .mv [.t 6],
 oK 26 (.call n_impl_leastPart 13312) [.t 24,.t 25],
 oK 7 (.alloc 3600 (.st [.i 0,.i 0])) [],
 ⟨none,.store 2,[.t 7,.t 26],none⟩] [24,25,26])
 (.seq
 (.region true [oK 27 .mv [.t 5],
 oK 28 .mv [.t 6],
 oK 29 (.fld 0 1 false) [.t 7],
 oK 30 (.load 1 false) [.t 29],
 oK 31 (.idxa 1) [.t 28,.t 30],
 oK 32 (.load 1 false) [.t 31],
 oK 33 (.fld 1 1 false) [.t 7],
 oK 34 (.load 1 false) [.t 33],
 oK 35 (.slice false true 1) [.t 32,.t 34],
 oK 36 (.app 18440 1) [.t 27,.t 35],
 oK 5 .mv [.t 36]] [27,28,29,30,31,32,33,34,35,36])
 (.region false [oK 37 .mv [.t 6],
 oK 38 (.load 2 true) [.t 7],
 oK 39 (.call n_impl_behindPart 19968) [.t 37,.t 38],
 oK 6 .mv [.t 39]] [7,37,38,39])))))
def F_impl_ChainOrder_W0 : LC := .loop F_impl_ChainOrder_L0
def F_impl_ChainOrder : LF :=
 { nparams := 2,results := [.t 4],body :=
 (.seq
 (.region false [oK 4 (.newnil 2056) []] [4])
 (.seq
 (.seq
 (.region false [oK 8 .mv [.t 0],
 oK 9 (.call n_impl_TestsOk 4608) [.t 8],
 oK 10 (.un .not) [.t 9],
 oK 11 .mv [.t 10],
 oG 12 .mv [.t 0] 11 false,
 oG 13 .len [.t 12] 11 false,
 oG 14 .mv [.t 1] 11 false,
 oG 15 (.call n_impl_GroupsOk 7680) [.t 13,.t 14] 11 false,
 oG 16 (.un .not) [.t 15] 11 false,
 oK 17 .pick [.t 11,.c (.b true),.t 16]] [8,9,10,11,12,13,14,15,16])
 (.cond (.t 17) [17]
 (.seq
 (.region false [oK 4 (.newnil 2056) []] [0,1])
 .ret)
 .skip))
 (.seq
 (.region false [oK 5 (.newnil 2568) []] [])
 (.seq
 (.region false [oK 18 .mv [.t 1],
 oK 6 .mv [.t 18]] [1,18])
 (.seq
 (.block 0
 F_impl_ChainOrder_W0)
 (.seq
 (.region false [oK 40 .mv [.t 5],
 oK 4 .mv [.t 40]] [0,5,6,40])
 .ret)))))) }
/-- laws.eqIntS -/
def F_laws_eqIntS_L0 : LC :=
 (.seq
 (.seq
 (.region false [oK 11 .mv [.t 5],
 oK 12 .mv [.t 0],
 oK 13 .len [.t 12],
 oK 14 (.bin .lss) [.t 11,.t 13]] [11,12,13])
 (.cond (.t 14) [14]
 .skip
 (.exit 0)))
 (.seq
 (.block 1
 (.seq
 (.region true [oK 17 .mv [.t 0],
 oK 18 .mv [.t 5],
 oK 19 (.idxa 1) [.t 17,.t 18],
 oK 20 (.load 1 false) [.t 19],
 oK 21 .mv [.t 1],
 oK 22 .mv [.t 5],
 oK 23 (.idxa 1) [.t 21,.t 22],
 oK 24 (.load 1 false) [.t 23],
 oK 25 (.bin .neq) [.t 20,.t 24]] [17,18,19,20,21,22,23,24])
 (.cond (.t 25) [25]
 (.seq
 (.region false [oK 4 .mv [.c (.b false)]] [0,1,5])
 .ret)
 .skip)))
 (.region false [oK 15 .mv [.t 5],
 oK 16 (.bin .add) [.t 15,.c (.i 1)],
 oK 5 .mv [.t 16]] [15,16])))
def F_laws_eqIntS_W0 : LC := .loop F_laws_eqIntS_L0
def F_laws_eqIntS : LF :=
 { nparams := 2,results := [.t 4],body :=
 (.seq
 (.region false [oK 4 .mv [.c (.b false)]] [4])
 (.seq
 (.seq
 (.region false [oK 6 .mv [.t 0],
 oK 7 .len [.t 6],
 oK 8 .mv [.t 1],
 oK 9 .len [.t 8],
 oK 10 (.bin .neq) [.t 7,.t 9]] [6,7,8,9])
 (.cond (.t 10) [10]
 (.seq
 (.region false [oK 4 .mv [.c (.b false)]] [0,1])
 .ret)
 .skip))
 (.seq
 (.seq
 (.region false [oK 5 .mv [.c (.i 0)]] [])
 (.block 0
 F_laws_eqIntS_W0))
 (.seq
 (.region false [oK 4 .mv [.c (.b true)]] [0,1,5])
 .ret)))) }
/-- laws.markIntS -/
def F_laws_markIntS_L0 : LC :=
 (.seq
 (.seq
 (.region false [oK 6 .mv [.t 5],
 oK 7 .mv [.t 0],
 oK 8 .len [.t 7],
 oK 9 (.bin .lss) [.t 6,.t 8]] [6,7,8])
 (.cond (.t 9) [9]
 .skip
 (.exit 0)))
 (.seq
 (.block 1
 (.seq
 (.region false [oK 12 .mv [.t 0],
 oK 13 .mv [.t 5],
 oK 14 .mv [.t 1],
 oK 15 (.idxa 1) [.t 12,.t 13],
 ⟨none,.store 1,[.t 15,.t 14],none⟩] [12,13,14,15])
 (.region false [oK 16 .mv [.t 1],
 oK 17 (.bin .add) [.t 16,.c (.i 1)],
 oK 1 .mv [.t 17]] [16,17])))
 (.region false [oK 10 .mv [.t 5],
 oK 11 (.bin .add) [.t 10,.c (.i 1)],
 oK 5 .mv [.t 11]] [10,11])))
def F_laws_markIntS_W0 : LC := .loop F_laws_markIntS_L0
def F_laws_markIntS : LF :=
 { nparams := 2,results := [.t 4],body :=
 (.seq
 (.region false [oK 4 .mv [.c (.i 0)]] [4])
 (.seq
 (.seq
 (.region false [oK 5 .mv [.c (.i 0)]] [])
 (.block 0
 F_laws_markIntS_W0))
 (.seq
 (.region false [oK 18 .mv [.t 1],
 oK 4 .mv [.t 18]] [1,5,18])
 .ret))) }
/-- laws.heldIntS -/
def F_laws_heldIntS_L0 : LC :=
 (.seq
 (.seq
 (.region false [oK 6 .mv [.t 5],
 oK 7 .mv [.t 0],
 oK 8 .len [.t 7],
 oK 9 (.bin .lss) [.t 6,.t 8]] [6,7,8])
 (.cond (.t 9) [9]
 .skip
 (.exit 0)))
 (.seq
 (.block 1
 (.seq
 (.seq
 (.region false [oK 12 .mv [.t 0],
 oK 13 .mv [.t 5],
 oK 14 (.idxa 1) [.t 12,.t 13],
 oK 15 (.load 1 false) [.t 14],
 oK 16 .mv [.t 1],
 oK 17 (.bin .neq) [.t 15,.t 16]] [12,13,14,15,16])
 (.cond (.t 17) [17]
 (.seq
 (.region false [oK 4 .mv [.c (.i (-1))]] [0,1,5])
 .ret)
 .skip))
 (.region false [oK 18 .mv [.t 1],
 oK 19 (.bin .add) [.t 18,.c (.i 1)],
 oK 1 .mv [.t 19]] [18,19])))
 (.region false [oK 10 .mv [.t 5],
 oK 11 (.bin .add) [.t 10,.c (.i 1)],
 oK 5 .mv [.t 11]] [10,11])))
def F_laws_heldIntS_W0 : LC := .loop F_laws_heldIntS_L0
def F_laws_heldIntS : LF :=
 { nparams := 2,results := [.t 4],body :=
 (.seq
 (.region false [oK 4 .mv [.c (.i 0)]] [4])
 (.seq
 (.seq
 (.region false [oK 5 .mv [.c (.i 0)]] [])
 (.block 0
 F_laws_heldIntS_W0))
 (.seq
 (.region false [oK 20 .mv [.t 1],
 oK 4 .mv [.t 20]] [0,1,5,20])
 .ret))) }
/-- laws.szIntS -/
def F_laws_szIntS : LF :=
 { nparams := 2,results := [.t 4],body :=
 (.seq
 (.region false [oK 4 .mv [.c (.i 0)]] [4])
 (.seq
 (.region false [oK 5 .mv [.t 1],
 oK 6 .mv [.t 0],
 oK 7 .len [.t 6],
 oK 8 (.bin .sub) [.t 5,.t 7],
 oK 1 .mv [.t 8]] [0,5,6,7,8])
 (.seq
 (.seq
 (.region false [oK 9 .mv [.t 1],
 oK 10 (.bin .lss) [.t 9,.c (.i 0)]] [9])
 (.cond (.t 10) [10]
 (.seq
 (.region false [oK 4 .mv [.c (.i (-1))]] [1])
 .ret)
 .skip))
 (.seq
 (.region false [oK 11 .mv [.t 1],
 oK 4 .mv [.t 11]] [1,11])
 .ret)))) }
/-- spec.GroupsOk -/
def F_spec_GroupsOk_L1 : LC :=
 (.seq
 (.seq
 (.region false [oK 22 .mv [.t 8],
 oK 23 .mv [.t 1],
 oK 24 .mv [.t 7],
 oK 25 (.idxa 1) [.t 23,.t 24],
 oK 26 (.load 1 false) [.t 25],
 oK 27 .len [.t 26],
 oK 28 (.bin .lss) [.t 22,.t 27]] [22,23,24,25,26,27])
 (.cond (.t 28) [28]
 .skip
 (.exit 2)))
 (.seq
 (.block 3
 (.seq
 (.region false [oK 31 .mv [.t 1],
 oK 32 .mv [.t 7],
 oK 33 (.idxa 1) [.t 31,.t 32],
 oK 34 (.load 1 false) [.t 33],
 oK 35 .mv [.t 8],
 oK 36 (.idxa 1) [.t 34,.t 35],
 oK 37 (.load 1 false) [.t 36],
 oK 9 .mv [.t 37]] [31,32,33,34,35,36,37])
 (.seq
 (.seq
 (.region false [oK 38 .mv [.t 9],
 oK 39 (.bin .lss) [.t 38,.c (.i 0)],
 oK 40 .mv [.t 39],
 oG 41 .mv [.t 9] 40 false,
 oG 42 .mv [.t 0] 40 false,
 oG 43 (.bin .geq) [.t 41,.t 42] 40 false,
 oK 44 .pick [.t 40,.c (.b true),.t 43],
 oK 45 .mv [.t 44],
 oG 46 .mv [.t 9] 45 false,
 oG 47 (.bin .geq) [.t 46,.c (.i 5)] 45 false,
 oK 48 .pick [.t 45,.c (.b true),.t 47],
 oK 49 .mv [.t 48],
 oG 50 .mv [.t 5] 49 false,
 oG 51 .mv [.t 9] 49 false,
 oG 52 (.bin .shr) [.t 50,.t 51] 49 false,
 oG 53 (.bin .rem) [.t 52,.c (.i 2)] 49 false,
 oG 54 (.bin .eql) [.t 53,.c (.i 1)] 49 false,
 oK 55 .pick [.t 49,.c (.b true),.t 54]] [38,39,40,41,42,43,44,45,46,47,48,49,50,51,52,53,54])
 (.cond (.t 55) [55]
 (.seq
 (.region false [oK 4 .mv [.c (.b false)]] [0,1,5,6,7,8,9])
 .ret)
 .skip))
 (.seq
 (.region false [oK 56 .mv [.t 5],
 oK 57 .mv [.t 9],
 oK 58 (.bin .shl) [.c (.i 1),.t 57],
 oK 59 (.bin .or) [.t 56,.t 58],
 oK 5 .mv [.t 59]] [9,56,57,58,59])
 (.region false [oK 60 .mv [.t 6],
 oK 61 (.bin .add) [.t 60,.c (.i 1)],
 oK 6 .mv [.t 61]] [60,61])))))
 (.region false [oK 29 .mv [.t 8],
 oK 30 (.bin .add) [.t 29,.c (.i 1)],
 oK 8 .mv [.t 30]] [29,30])))
def F_spec_GroupsOk_W1 : LC := .loop F_spec_GroupsOk_L1
def F_spec_GroupsOk_L0 : LC :=
 (.seq
 (.seq
 (.region false [oK 10 .mv [.t 7],
 oK 11 .mv [.t 1],
 oK 12 .len [.t 11],
 oK 13 (.bin .lss) [.t 10,.t 12]] [10,11,12])
 (.cond (.t 13) [13]
 .skip
 (.exit 0)))
 (.seq
 (.block 1
 (.seq
 (.seq
 (.region false [oK 16 .mv [.t 1],
 oK 17 .mv [.t 7],
 oK 18 (.idxa 1) [.t 16,.t 17],
 oK 19 (.load 1 false) [.t 18],
 oK 20 .len [.t 19],
 oK 21 (.bin .eql) [.t 20,.c (.i 0)]] [16,17,18,19,20])
 (.cond (.t 21) [21]
 (.seq
 (.region false [oK 4 .mv [.c (.b false)]] [0,1,5,6,7])
 .ret)
 .skip))
 (.seq
 (.region false [oK 8 .mv [.c (.i 0)]] [])
 (.block 2
 F_spec_GroupsOk_W1))))
 (.region false [oK 14 .mv [.t 7],
 oK 15 (.bin .add) [.t 14,.c (.i 1)],
 oK 7 .mv [.t 15]] [8,14,15])))
def F_spec_GroupsOk_W0 : LC := .loop F_spec_GroupsOk_L0
def F_spec_GroupsOk : LF :=
 { nparams := 2,results := [.t 4],body :=
 (.seq
 (.region false [oK 4 .mv [.c (.b false)]] [4])
 (.seq
 (.region false [oK 5 .mv [.c (.i 0)]] [])
 (.seq
 (.region false [oK 6 .mv [.c (.i 0)]] [])
 (.seq
 (.seq
 (.region false [oK 7 .mv [.c (.i 0)]] [])
 (.block 0
 F_spec_GroupsOk_W0))
 (.seq
 (.region false [oK 62 .mv [.t 0],
 oK 63 (.call n_spec_l1In 32256) [.t 62,.c (.i 1),.c (.i 5)],
 oK 64 .mv [.t 63],
 oG 65 .mv [.t 6] 64 true,
 oG 66 .mv [.t 0] 64 true,
 oG 67 (.bin .eql) [.t 65,.t 66] 64 true,
 oK 68 .pick [.t 64,.t 67,.c (.b false)],
 oK 4 .mv [.t 68]] [0,1,5,6,7,62,63,64,65,66,67,68])
 .ret))))) }
/-- laws.toIntS -/
def F_laws_toIntS_L0 : LC :=
 (.seq
 (.seq
 (.region false [oK 8 .mv [.t 4],
 oK 9 .mv [.t 0],
 oK 10 .len [.t 9],
 oK 11 (.bin .lss) [.t 8,.t 10]] [8,9,10])
 (.cond (.t 11) [11]
 .skip
 (.exit 0)))
 (.seq
 (.block 1
 (.region false [oK 14 .mv [.t 3],
 oK 15 .mv [.t 4],
 oK 16 .mv [.t 0],
 oK 17 .mv [.t 4],
 oK 18 (.idxa 1) [.t 16,.t 17],
 oK 19 (.load 1 false) [.t 18],
 oK 20 (.idxa 1) [.t 14,.t 15],
 ⟨none,.store 1,[.t 20,.t 19],none⟩] [14,15,16,17,18,19,20]))
 (.region false [oK 12 .mv [.t 4],
 oK 13 (.bin .add) [.t 12,.c (.i 1)],
 oK 4 .mv [.t 13]] [12,13])))
def F_laws_toIntS_W0 : LC := .loop F_laws_toIntS_L0
def F_laws_toIntS : LF :=
 { nparams := 1,results := [.t 2],body :=
 (.seq
 (.region false [oK 2 (.newnil 1032) []] [2])
 (.seq
 (.region false [oK 5 .mv [.t 0],
 oK 6 .len [.t 5],
 oK 7 (.make 3592 1 (.i 0)) [.t 6,.t 6],
 oK 3 .mv [.t 7]] [5,6,7])
 (.seq
 (.seq
 (.region false [oK 4 .mv [.c (.i 0)]] [])
 (.block 0
 F_laws_toIntS_W0))
 (.seq
 (.region false [oK 21 .mv [.t 3],
 oK 2 .mv [.t 21]] [0,3,4,21])
 .ret)))) }
/-- impl.GroupsOk -/
def F_impl_GroupsOk_L0 : LC :=
 (.seq
 (.region false [oK 14 (.bin .lss) [.t 13,.t 12]] [])
 (.seq
 (.cond (.t 14) [14]
 .skip
 (.exit 0))
 (.seq
 (.block 1
 (.seq
 (.region false [oK 15 (.idxa 1) [.t 11,.t 13],
 oK 16 (.load 1 false) [.t 15],
 oK 7 .mv [.t 16]] [15,16])
 (.seq
 (.seq
 (.region false [oK 17 .mv [.t 7],
 oK 18 .len [.t 17],
 oK 19 .mv [.t 0],
 oK 20 .mv [.t 5],
 oK 21 .len [.t 20],
 oK 22 (.bin .sub) [.t 19,.t 21],
 oK 23 (.call n_impl_isWithin 11776) [.t 18,.c (.i 1),.t 22],
 oK 24 (.un .not) [.t 23]] [17,18,19,20,21,22,23])
 (.cond (.t 24) [24]
 (.seq
 (.region false [oK 4 .mv [.c (.b false)]] [0,5,7,11,12,13])
 .ret)
 .skip))
 (.region false [oK 25 .mv [.t 5],
 oK 26 .mv [.t 7],
 oK 27 (.app 13832 1) [.t 25,.t 26],
 oK 5 .mv [.t 27]] [7,25,26,27]))))
 (.region false [oK 28 (.bin .add) [.t 13,.c (.i 1)],
 oK 13 .mv [.t 28]] [28]))))
def F_impl_GroupsOk_W0 : LC := .loop F_impl_GroupsOk_L0
def F_impl_GroupsOk : LF :=
 { nparams := 2,results := [.t 4],body :=
 (.seq
 (.region false [oK 4 .mv [.c (.b false)]] [4])
 (.seq
 (.seq
 (.region false [oK 8 .mv [.t 0],
 oK 9 (.call n_impl_manyOk 4608) [.t 8],
 oK 10 (.un .not) [.t 9]] [8,9])
 (.cond (.t 10) [10]
 (.seq
 (.region false [oK 4 .mv [.c (.b false)]] [0,1])
 .ret)
 .skip))
 (.seq
 (.region false [oK 5 (.newnil 2568) []] [])
 (.seq
 (.seq
 (.region false [oK 11 .mv [.t 1],
 oK 12 .len [.t 11],
 oK 13 .mv [.c (.i 0)]] [1])
 (.block 0
 F_impl_GroupsOk_W0))
 (.seq
 (.region false [oK 29 .mv [.t 0],
 oK 30 .mv [.t 5],
 oK 31 (.call n_impl_OrderOk 15872) [.t 29,.t 30],
 oK 4 .mv [.t 31]] [0,5,11,12,13,29,30,31])
 .ret))))) }
/-- spec.TestsOk -/
def F_spec_TestsOk_L0 : LC :=
 (.seq
 (.seq
 (.region false [oK 4 .mv [.t 3],
 oK 5 .mv [.t 0],
 oK 6 .len [.t 5],
 oK 7 (.bin .lss) [.t 4,.t 6]] [4,5,6])
 (.cond (.t 7) [7]
 .skip
 (.exit 0)))
 (.seq
 (.block 1
 (.seq
 (.region false [oK 10 .mv [.t 0],
 oK 11 .mv [.t 3],
 oK 12 (.idxa 2) [.t 10,.t 11],
 oK 13 (.fld 0 1 false) [.t 12],
 oK 14 (.load 1 false) [.t 13],
 oK 15 (.call n_spec_l1In 7680) [.t 14,.c (.i 1),.c (.i 9)],
 oK 16 (.un .not) [.t 15],
 oK 17 .mv [.t 16],
 oG 18 .mv [.t 0] 17 false,
 oG 19 .mv [.t 3] 17 false,
 oG 20 (.idxa 2) [.t 18,.t 19] 17 false,
 oG 21 (.fld 1 1 false) [.t 20] 17 false,
 oG 22 (.load 1 false) [.t 21] 17 false,
 oG 23 (.call n_spec_l1In 11776) [.t 22,.c (.i 1),.c (.i 5)] 17 false,
 oG 24 (.un .not) [.t 23] 17 false,
 oK 25 .pick [.t 17,.c (.b true),.t 24]] [10,11,12,13,14,15,16,17,18,19,20,21,22,23,24])
 (.cond (.t 25) [25]
 (.seq
 (.region false [oK 2 .mv [.c (.b false)]] [0,3])
 .ret)
 .skip)))
 (.region false [oK 8 .mv [.t 3],
 oK 9 (.bin .add) [.t 8,.c (.i 1)],
 oK 3 .mv [.t 9]] [8,9])))
def F_spec_TestsOk_W0 : LC := .loop F_spec_TestsOk_L0
def F_spec_TestsOk : LF :=
 { nparams := 1,results := [.t 2],body :=
 (.seq
 (.region false [oK 2 .mv [.c (.b false)]] [2])
 (.seq
 (.seq
 (.region false [oK 3 .mv [.c (.i 0)]] [])
 (.block 0
 F_spec_TestsOk_W0))
 (.seq
 (.region false [oK 26 .mv [.t 0],
 oK 27 .len [.t 26],
 oK 28 (.call n_spec_l1In 14336) [.t 27,.c (.i 1),.c (.i 5)],
 oK 2 .mv [.t 28]] [0,3,26,27,28])
 .ret))) }
/-- laws.toTest -/
def F_laws_toTest : LF :=
 { nparams := 1,results := [.c 2 2 true],body :=
 (.seq
 (.region false [oK 1 (.box 528) [.t 0],
 oK 2 (.alloc 1040 (.st [.i 0,.i 0])) []] [0])
 (.seq
 (.region false [oK 3 (.alloc 1552 (.st [.i 0,.i 0])) []] [])
 (.seq
 (.region false [oK 4 (.fld 0 1 false) [.t 1],
 oK 5 (.load 1 false) [.t 4],
 oK 6 (.fld 0 1 false) [.t 3],
 ⟨none,.store 1,[.t 6,.t 5],none⟩] [4,5,6])
 (.seq
 (.region false [oK 7 (.fld 1 1 false) [.t 1],
 oK 8 (.load 1 false) [.t 7],
 oK 9 (.fld 1 1 false) [.t 3],
 ⟨none,.store 1,[.t 9,.t 8],none⟩] [1,7,8,9])
 (.seq
 (.region false [oK 10 (.load 2 true) [.t 3],
 ⟨none,.store 2,[.t 2,.t 10],none⟩] [3,10])
 .ret))))) }
/-- laws.eqTest -/
def F_laws_eqTest : LF :=
 { nparams := 2,results := [.t 4],body :=
 (.seq
 (.region false [oK 2 (.box 1040) [.t 0],
 oK 3 (.box 1552) [.t 1],
 oK 4 .mv [.c (.b false)]] [0,1,4])
 (.seq
 (.seq
 (.region false [oK 5 (.fld 0 1 false) [.t 2],
 oK 6 (.load 1 false) [.t 5],
 oK 7 (.fld 0 1 false) [.t 3],
 oK 8 (.load 1 false) [.t 7],
 oK 9 (.bin .neq) [.t 6,.t 8]] [5,6,7,8])
 (.cond (.t 9) [9]
 (.seq
 (.region false [oK 4 .mv [.c (.b false)]] [2,3])
 .ret)
 .skip))
 (.seq
 (.seq
 (.region false [oK 10 (.fld 1 1 false) [.t 2],
 oK 11 (.load 1 false) [.t 10],
 oK 12 (.fld 1 1 false) [.t 3],
 oK 13 (.load 1 false) [.t 12],
 oK 14 (.bin .neq) [.t 11,.t 13]] [2,3,10,11,12,13])
 (.cond (.t 14) [14]
 (.seq
 (.region false [oK 4 .mv [.c (.b false)]] [])
 .ret)
 .skip))
 (.seq
 (.region false [oK 4 .mv [.c (.b true)]] [])
 .ret)))) }
/-- spec.l9Ratio -/
def F_spec_l9Ratio_L0 : LC :=
 (.seq
 (.seq
 (.region false [oK 9 .mv [.t 8],
 oK 10 .mv [.t 1],
 oK 11 .len [.t 10],
 oK 12 (.bin .lss) [.t 9,.t 11]] [9,10,11])
 (.cond (.t 12) [12]
 .skip
 (.exit 0)))
 (.seq
 (.block 1
 (.seq
 (.region true [oK 15 .mv [.t 6],
 oK 16 .mv [.t 0],
 oK 17 .mv [.t 1],
 oK 18 .mv [.t 8],
 oK 19 (.idxa 1) [.t 17,.t 18],
 oK 20 (.load 1 false) [.t 19],
 oK 21 (.idxa 2) [.t 16,.t 20],
 oK 22 (.fld 0 1 false) [.t 21],
 oK 23 (.load 1 false) [.t 22],
 oK 24 .mv [.t 7],
 oK 25 (.bin .mul) [.t 23,.t 24],
 oK 26 .mv [.t 1],
 oK 27 .len [.t 26],
 oK 28 .mv [.t 8],
 oK 29 (.bin .sub) [.t 27,.t 28],
 oK 30 (.call n_spec_l1Power 15360) [.t 29],
 oK 31 (.bin .mul) [.t 25,.t 30],
 oK 32 (.bin .add) [.t 15,.t 31],
 oK 6 .mv [.t 32]] [15,16,17,18,19,20,21,22,23,24,25,26,27,28,29,30,31,32])
 (.region false [oK 33 .mv [.t 7],
 oK 34 .mv [.t 0],
 oK 35 .mv [.t 1],
 oK 36 .mv [.t 8],
 oK 37 (.idxa 1) [.t 35,.t 36],
 oK 38 (.load 1 false) [.t 37],
 oK 39 (.idxa 2) [.t 34,.t 38],
 oK 40 (.fld 1 1 false) [.t 39],
 oK 41 (.load 1 false) [.t 40],
 oK 42 (.bin .mul) [.t 33,.t 41],
 oK 7 .mv [.t 42]] [33,34,35,36,37,38,39,40,41,42])))
 (.region false [oK 13 .mv [.t 8],
 oK 14 (.bin .add) [.t 13,.c (.i 1)],
 oK 8 .mv [.t 14]] [13,14])))
def F_spec_l9Ratio_W0 : LC := .loop F_spec_l9Ratio_L0
def F_spec_l9Ratio : LF :=
 { nparams := 2,results := [.t 4,.t 5],body :=
 (.seq
 (.region false [oK 4 .mv [.c (.i 0)],
 oK 5 .mv [.c (.i 0)]] [4,5])
 (.seq
 (.region false [oK 6 .mv [.c (.i 0)]] [])
 (.seq
 (.region false [oK 7 .mv [.c (.i 1)]] [])
 (.seq
 (.seq
 (.region false [oK 8 .mv [.c (.i 0)]] [])
 (.block 0
 F_spec_l9Ratio_W0))
 (.seq
 (.region false [oK 43 .mv [.t 6],
 oK 44 .mv [.t 1],
 oK 45 .len [.t 44],
 oK 46 (.call n_spec_l1Power 23552) [.t 45],
 oK 47 .mv [.t 7],
 oK 48 (.bin .sub) [.t 46,.t 47],
 oK 4 .mv [.t 43],
 oK 5 .mv [.t 48]] [0,1,6,7,8,43,44,45,46,47,48])
 .ret))))) }
/-- impl.TestsOk -/
def F_impl_TestsOk_L0 : LC :=
 (.seq
 (.region false [oK 12 (.bin .lss) [.t 11,.t 10]] [])
 (.seq
 (.cond (.t 12) [12]
 .skip
 (.exit 0))
 (.seq
 (.block 1
 (.seq
 (.region false [oK 13 (.idxa 2) [.t 9,.t 11],
 oK 14 (.load 2 true) [.t 13],
 oK 4 (.alloc 2064 (.st [.i 0,.i 0])) [],
 ⟨none,.store 2,[.t 4,.t 14],none⟩] [13,14])
 (.seq
 (.region false [oK 15 (.fld 0 1 false) [.t 4],
 oK 16 (.load 1 false) [.t 15],
 oK 17 (.call n_impl_isWithin 8704) [.t 16,.c (.i 1),.c (.i 9)],
 oK 18 (.un .not) [.t 17],
 oK 19 .mv [.t 18],
 oG 20 (.fld 1 1 false) [.t 4] 19 false,
 oG 21 (.load 1 false) [.t 20] 19 false,
 oG 22 (.call n_impl_isWithin 11264) [.t 21,.c (.i 1),.c (.i 5)] 19 false,
 oG 23 (.un .not) [.t 22] 19 false,
 oK 24 .pick [.t 19,.c (.b true),.t 23]] [4,15,16,17,18,19,20,21,22,23])
 (.cond (.t 24) [24]
 (.seq
 (.region false [oK 2 .mv [.c (.b false)]] [9,10,11])
 .ret)
 .skip))))
 (.region false [oK 25 (.bin .add) [.t 11,.c (.i 1)],
 oK 11 .mv [.t 25]] [25]))))
def F_impl_TestsOk_W0 : LC := .loop F_impl_TestsOk_L0
def F_impl_TestsOk : LF :=
 { nparams := 1,results := [.t 2],body :=
 (.seq
 (.region false [oK 2 .mv [.c (.b false)]] [2])
 (.seq
 (.seq
 (.region false [oK 5 .mv [.t 0],
 oK 6 .len [.t 5],
 oK 7 (.call n_impl_manyOk 3584) [.t 6],
 oK 8 (.un .not) [.t 7]] [5,6,7])
 (.cond (.t 8) [8]
 (.seq
 (.region false [oK 2 .mv [.c (.b false)]] [0])
 .ret)
 .skip))
 (.seq
 (.seq
 (.region false [oK 9 .mv [.t 0],
 oK 10 .len [.t 9],
 oK 11 .mv [.c (.i 0)]] [0])
 (.block 0
 F_impl_TestsOk_W0))
 (.seq
 (.region false [oK 2 .mv [.c (.b true)]] [9,10,11])
 .ret)))) }
/-- impl.leastPart -/
def F_impl_leastPart_L1 : LC :=
 (.seq
 (.seq
 (.region false [oK 18 .mv [.t 9],
 oK 19 .mv [.t 8],
 oK 20 .len [.t 19],
 oK 21 (.bin .leq) [.t 18,.t 20]] [18,19,20])
 (.cond (.t 21) [21]
 .skip
 (.exit 2)))
 (.seq
 (.block 3
 (.seq
 (.region false [oK 24 .mv [.t 0],
 oK 25 .mv [.t 8],
 oK 26 .mv [.t 9],
 oK 27 (.slice false true 1) [.t 25,.t 26],
 oK 28 (.call n_impl_ratioOfPart 14336) [.t 24,.t 27],
 oK 10 (.alloc 5136 (.st [.i 0,.i 0])) [],
 ⟨none,.store 2,[.t 10,.t 28],none⟩] [24,25,26,27,28])
 (.seq
 (.region false [oK 29 (.fld 1 1 false) [.t 5],
 oK 30 (.load 1 false) [.t 29],
 oK 31 (.bin .eql) [.t 30,.c (.i 0)],
 oK 32 .mv [.t 31],
 oG 33 (.load 2 true) [.t 10] 32 false,
 oG 34 (.load 2 true) [.t 6] 32 false,
 oG 35 (.call n_impl_ratio_isLess 17920) [.t 33,.t 34] 32 false,
 oK 36 .pick [.t 32,.c (.b true),.t 35]] [29,30,31,32,33,34,35])
 (.cond (.t 36) [36]
 (.region true [oK 37 .mv [.t 7],
 oK 38 .mv [.t 9],
 oK 39 (.build [.i 0,.i 0] [(0,1),(1,1)]) [.t 37,.t 38],
 oK 40 (.load 2 true) [.t 10],
 ⟨none,.store 2,[.t 5,.t 39],none⟩,
 ⟨none,.store 2,[.t 6,.t 40],none⟩] [10,37,38,39,40])
 .skip))))
 (.region false [oK 22 .mv [.t 9],
 oK 23 (.bin .add) [.t 22,.c (.i 1)],
 oK 9 .mv [.t 23]] [10,22,23])))
def F_impl_leastPart_W1 : LC := .loop F_impl_leastPart_L1
def F_impl_leastPart_L0 : LC :=
 (.seq
 (.region false [oK 14 (.bin .lss) [.t 13,.t 12]] [])
 (.seq
 (.cond (.t 14) [14]
 .skip
 (.exit 0))
 (.seq
 (.block 1
 (.seq
 (.region false [oK 15 .mv [.t 13],
 oK 16 (.idxa 1) [.t 11,.t 13],
 oK 17 (.load 1 false) [.t 16],
 oK 7 .mv [.t 15],
 oK 8 .mv [.t 17]] [15,16,17])
 (.seq
 (.region false [oK 9 .mv [.c (.i 1)]] [])
 (.block 2
 F_impl_leastPart_W1))))
 (.region false [oK 41 (.bin .add) [.t 13,.c (.i 1)],
 oK 13 .mv [.t 41]] [7,8,9,41]))))
def F_impl_leastPart_W0 : LC := .loop F_impl_leastPart_L0
def F_impl_leastPart : LF :=
 { nparams := 2,results := [.c 4 2 true],body :=
 (.seq
 (.region false [oK 4 (.alloc 2064 (.st [.i 0,.i 0])) []] [])
 (.seq
 (.region false [oK 5 (.alloc 2576 (.st [.i 0,.i 0])) []] [])
 (.seq
 (.region false [oK 6 (.alloc 3088 (.st [.i 0,.i 0])) []] [])
 (.seq
 (.seq
 (.region false [oK 11 .mv [.t 1],
 oK 12 .len [.t 11],
 oK 13 .mv [.c (.i 0)]] [1])
 (.block 0
 F_impl_leastPart_W0))
 (.seq
 (.region false [oK 42 (.load 2 true) [.t 5],
 ⟨none,.store 2,[.t 4,.t 42],none⟩] [0,5,6,11,12,13,42])
 .ret))))) }
/-- impl.behindPart -/
def F_impl_behindPart : LF :=
 { nparams := 2,results := [.t 4],body :=
 (.seq
 (.region false [oK 3 (.box 1552) [.t 1],
 oK 4 (.newnil 2056) []] [1,4])
 (.seq
 (.region false [oK 6 .mv [.t 0],
 oK 7 (.call n_slices_Clone_int_int 3584) [.t 6],
 oK 5 .mv [.t 7]] [0,6,7])
 (.seq
 (.region true [oK 8 .mv [.t 5],
 oK 9 (.fld 0 1 false) [.t 3],
 oK 10 (.load 1 false) [.t 9],
 oK 11 .mv [.t 5],
 oK 12 (.fld 0 1 false) [.t 3],
 oK 13 (.load 1 false) [.t 12],
 oK 14 (.idxa 1) [.t 11,.t 13],
 oK 15 (.load 1 false) [.t 14],
 oK 16 (.fld 1 1 false) [.t 3],
 oK 17 (.load 1 false) [.t 16],
 oK 18 (.slice true false 1) [.t 15,.t 17],
 oK 19 (.idxa 1) [.t 8,.t 10],
 ⟨none,.store 1,[.t 19,.t 18],none⟩] [3,8,9,10,11,12,13,14,15,16,17,18,19])
 (.seq
 (.ghost (.freeze 5)
 (.region false [oK 20 .mv [.t 5],
 oK 4 .mv [.t 20]] [5,20]))
 .ret)))) }
/-- spec.l1In -/
def F_spec_l1In : LF :=
 { nparams := 3,results := [.t 6],body :=
 (.seq
 (.region false [oK 6 .mv [.c (.b false)]] [6])
 (.seq
 (.region false [oK 7 .mv [.t 0],
 oK 8 .mv [.t 1],
 oK 9 (.bin .geq) [.t 7,.t 8],
 oK 10 .mv [.t 9],
 oG 11 .mv [.t 0] 10 true,
 oG 12 .mv [.t 2] 10 true,
 oG 13 (.bin .leq) [.t 11,.t 12] 10 true,
 oK 14 .pick [.t 10,.t 13,.c (.b false)],
 oK 6 .mv [.t 14]] [0,1,2,7,8,9,10,11,12,13,14])
 .ret)) }
/-- spec.l1Power -/
def F_spec_l1Power_L0 : LC :=
 (.seq
 (.seq
 (.region false [oK 5 .mv [.t 4],
 oK 6 .mv [.t 0],
 oK 7 (.bin .lss) [.t 5,.t 6]] [5,6])
 (.cond (.t 7) [7]
 .skip
 (.exit 0)))
 (.seq
 (.block 1
 (.region false [oK 10 .mv [.t 3],
 oK 11 (.bin .mul) [.t 10,.c (.i 6)],
 oK 3 .mv [.t 11]] [10,11]))
 (.region false [oK 8 .mv [.t 4],
 oK 9 (.bin .add) [.t 8,.c (.i 1)],
 oK 4 .mv [.t 9]] [8,9])))
def F_spec_l1Power_W0 : LC := .loop F_spec_l1Power_L0
def F_spec_l1Power : LF :=
 { nparams := 1,results := [.t 2],body :=
 (.seq
 (.region false [oK 2 .mv [.c (.i 0)]] [2])
 (.seq
 (.region false [oK 3 .mv [.c (.i 1)]] [])
 (.seq
 (.seq
 (.region false [oK 4 .mv [.c (.i 0)]] [])
 (.block 0
 F_spec_l1Power_W0))
 (.seq
 (.region false [oK 12 .mv [.t 3],
 oK 2 .mv [.t 12]] [0,3,4,12])
 .ret)))) }
/-- impl.isWithin -/
def F_impl_isWithin : LF :=
 { nparams := 3,results := [.t 6],body :=
 (.seq
 (.region false [oK 6 .mv [.c (.b false)]] [6])
 (.seq
 (.region false [oK 7 .mv [.t 1],
 oK 8 .mv [.t 0],
 oK 9 (.bin .leq) [.t 7,.t 8],
 oK 10 .mv [.t 9],
 oG 11 .mv [.t 0] 10 true,
 oG 12 .mv [.t 2] 10 true,
 oG 13 (.bin .leq) [.t 11,.t 12] 10 true,
 oK 14 .pick [.t 10,.t 13,.c (.b false)],
 oK 6 .mv [.t 14]] [0,1,2,7,8,9,10,11,12,13,14])
 .ret)) }
/-- impl.manyOk -/
def F_impl_manyOk : LF :=
 { nparams := 1,results := [.t 2],body :=
 (.seq
 (.region false [oK 2 .mv [.c (.b false)]] [2])
 (.seq
 (.region false [oK 3 .mv [.t 0],
 oK 4 (.call n_impl_isWithin 2048) [.t 3,.c (.i 1),.c (.i 5)],
 oK 2 .mv [.t 4]] [0,3,4])
 .ret)) }
/-- impl.OrderOk -/
def F_impl_OrderOk_L0 : LC :=
 (.seq
 (.region false [oK 20 (.bin .lss) [.t 19,.t 18]] [])
 (.seq
 (.cond (.t 20) [20]
 .skip
 (.exit 0))
 (.seq
 (.block 1
 (.seq
 (.region false [oK 21 (.idxa 1) [.t 17,.t 19],
 oK 22 (.load 1 false) [.t 21],
 oK 7 .mv [.t 22]] [21,22])
 (.seq
 (.seq
 (.region false [oK 23 .mv [.t 7],
 oK 24 .mv [.t 0],
 oK 25 (.bin .sub) [.t 24,.c (.i 1)],
 oK 26 (.call n_impl_isWithin 13312) [.t 23,.c (.i 0),.t 25],
 oK 27 (.un .not) [.t 26],
 oK 28 .mv [.t 27],
 oG 29 .mv [.t 5] 28 false,
 oG 30 .mv [.t 7] 28 false,
 oG 31 (.call n_impl_hasTest 15872) [.t 29,.t 30] 28 false,
 oK 32 .pick [.t 28,.c (.b true),.t 31]] [23,24,25,26,27,28,29,30,31])
 (.cond (.t 32) [32]
 (.seq
 (.region false [oK 4 .mv [.c (.b false)]] [0,5,7,17,18,19])
 .ret)
 .skip))
 (.region false [oK 33 .mv [.t 5],
 oK 34 .mv [.t 7],
 oK 35 (.bin .shl) [.c (.i 1),.t 34],
 oK 36 (.bin .or) [.t 33,.t 35],
 oK 5 .mv [.t 36]] [7,33,34,35,36]))))
 (.region false [oK 37 (.bin .add) [.t 19,.c (.i 1)],
 oK 19 .mv [.t 37]] [37]))))
def F_impl_OrderOk_W0 : LC := .loop F_impl_OrderOk_L0
def F_impl_OrderOk : LF :=
 { nparams := 2,results := [.t 4],body :=
 (.seq
 (.region false [oK 4 .mv [.c (.b false)]] [4])
 (.seq
 (.seq
 (.region false [oK 8 .mv [.t 0],
 oK 9 (.call n_impl_manyOk 4608) [.t 8],
 oK 10 (.un .not) [.t 9],
 oK 11 .mv [.t 10],
 oG 12 .mv [.t 1] 11 false,
 oG 13 .len [.t 12] 11 false,
 oG 14 .mv [.t 0] 11 false,
 oG 15 (.bin .neq) [.t 13,.t 14] 11 false,
 oK 16 .pick [.t 11,.c (.b true),.t 15]] [8,9,10,11,12,13,14,15])
 (.cond (.t 16) [16]
 (.seq
 (.region false [oK 4 .mv [.c (.b false)]] [0,1])
 .ret)
 .skip))
 (.seq
 (.region false [oK 5 .mv [.c (.i 0)]] [])
 (.seq
 (.seq
 (.region false [oK 17 .mv [.t 1],
 oK 18 .len [.t 17],
 oK 19 .mv [.c (.i 0)]] [1])
 (.block 0
 F_impl_OrderOk_W0))
 (.seq
 (.region false [oK 4 .mv [.c (.b true)]] [0,5,17,18,19])
 .ret))))) }
/-- impl.ratio).isLess -/
def F_impl_ratio_isLess : LF :=
 { nparams := 2,results := [.t 4],body :=
 (.seq
 (.region false [oK 2 (.box 1040) [.t 0],
 oK 3 (.box 1552) [.t 1],
 oK 4 .mv [.c (.b false)]] [0,1,4])
 (.seq
 (.region false [oK 5 (.fld 0 1 false) [.t 2],
 oK 6 (.load 1 false) [.t 5],
 oK 7 (.fld 1 1 false) [.t 3],
 oK 8 (.load 1 false) [.t 7],
 oK 9 (.bin .mul) [.t 6,.t 8],
 oK 10 (.fld 0 1 false) [.t 3],
 oK 11 (.load 1 false) [.t 10],
 oK 12 (.fld 1 1 false) [.t 2],
 oK 13 (.load 1 false) [.t 12],
 oK 14 (.bin .mul) [.t 11,.t 13],
 oK 15 (.bin .lss) [.t 9,.t 14],
 oK 4 .mv [.t 15]] [2,3,5,6,7,8,9,10,11,12,13,14,15])
 .ret)) }
/-- impl.ratioOfPart -/
def F_impl_ratioOfPart_L0 : LC :=
 (.seq
 (.region false [oK 12 (.bin .lss) [.t 11,.t 10]] [])
 (.seq
 (.cond (.t 12) [12]
 .skip
 (.exit 0))
 (.seq
 (.block 1
 (.seq
 (.region false [oK 13 (.idxa 1) [.t 9,.t 11],
 oK 14 (.load 1 false) [.t 13],
 oK 8 .mv [.t 14]] [13,14])
 (.seq
 (.region false [oK 15 .mv [.t 5],
 oK 16 .mv [.t 0],
 oK 17 .mv [.t 8],
 oK 18 (.idxa 2) [.t 16,.t 17],
 oK 19 (.fld 0 1 false) [.t 18],
 oK 20 (.load 1 false) [.t 19],
 oK 21 .mv [.t 6],
 oK 22 (.bin .mul) [.t 20,.t 21],
 oK 23 (.bin .add) [.t 15,.t 22],
 oK 24 (.bin .mul) [.c (.i 6),.t 23],
 oK 5 .mv [.t 24]] [15,16,17,18,19,20,21,22,23,24])
 (.region false [oK 25 .mv [.t 6],
 oK 26 .mv [.t 0],
 oK 27 .mv [.t 8],
 oK 28 (.idxa 2) [.t 26,.t 27],
 oK 29 (.fld 1 1 false) [.t 28],
 oK 30 (.load 1 false) [.t 29],
 oK 31 (.bin .mul) [.t 25,.t 30],
 oK 6 .mv [.t 31]] [8,25,26,27,28,29,30,31]))))
 (.region false [oK 32 (.bin .add) [.t 11,.c (.i 1)],
 oK 11 .mv [.t 32]] [32]))))
def F_impl_ratioOfPart_W0 : LC := .loop F_impl_ratioOfPart_L0
def F_impl_ratioOfPart : LF :=
 { nparams := 2,results := [.c 4 2 true],body :=
 (.seq
 (.region false [oK 4 (.alloc 2064 (.st [.i 0,.i 0])) []] [])
 (.seq
 (.region false [oK 5 .mv [.c (.i 0)],
 oK 6 .mv [.c (.i 1)]] [])
 (.seq
 (.seq
 (.region false [oK 9 .mv [.t 1],
 oK 10 .len [.t 9],
 oK 11 .mv [.c (.i 0)]] [])
 (.block 0
 F_impl_ratioOfPart_W0))
 (.seq
 (.region false [oK 33 .mv [.t 5],
 oK 34 .mv [.t 1],
 oK 35 .len [.t 34],
 oK 36 (.call n_impl_wholeOf 18432) [.t 35],
 oK 37 .mv [.t 6],
 oK 38 (.bin .sub) [.t 36,.t 37],
 oK 39 (.build [.i 0,.i 0] [(0,1),(1,1)]) [.t 33,.t 38],
 ⟨none,.store 2,[.t 4,.t 39],none⟩] [0,1,5,6,9,10,11,33,34,35,36,37,38,39])
 .ret)))) }
/-- slices.Clone[[][]int,[]int] -/
def F_slices_Clone_int_int : LF :=
 { nparams := 1,results := [.t 2],body :=
 (.seq
 (.region false [oK 2 (.newnil 1032) []] [2])
 (.seq
 (.seq
 (.region false [oK 3 .mv [.t 0],
 oK 4 (.eqn false) [.t 3]] [3])
 (.cond (.t 4) [4]
 (.seq
 (.region false [oK 2 (.newnil 1032) []] [0])
 .ret)
 .skip))
 (.seq
 (.region false [oK 5 (.bslice 2568 0 1 (.sl 1 []) []) [],
 oK 6 .mv [.t 0],
 oK 7 (.app 3592 1) [.t 5,.t 6],
 oK 2 .mv [.t 7]] [0,5,6,7])
 .ret))) }
/-- impl.hasTest -/
def F_impl_hasTest : LF :=
 { nparams := 2,results := [.t 4],body :=
 (.seq
 (.region false [oK 4 .mv [.c (.b false)]] [4])
 (.seq
 (.region false [oK 5 .mv [.t 0],
 oK 6 .mv [.t 1],
 oK 7 (.bin .shr) [.t 5,.t 6],
 oK 8 (.bin .and) [.t 7,.c (.i 1)],
 oK 9 (.bin .eql) [.t 8,.c (.i 1)],
 oK 4 .mv [.t 9]] [0,1,5,6,7,8,9])
 .ret)) }
/-- impl.wholeOf -/
def F_impl_wholeOf_L0 : LC :=
 (.seq
 (.region false [oK 6 (.bin .lss) [.t 5,.t 4]] [])
 (.seq
 (.cond (.t 6) [6]
 .skip
 (.exit 0))
 (.seq
 (.block 1
 (.region false [oK 7 .mv [.t 3],
 oK 8 (.bin .mul) [.t 7,.c (.i 6)],
 oK 3 .mv [.t 8]] [7,8]))
 (.region false [oK 9 (.bin .add) [.t 5,.c (.i 1)],
 oK 5 .mv [.t 9]] [9]))))
def F_impl_wholeOf_W0 : LC := .loop F_impl_wholeOf_L0
def F_impl_wholeOf : LF :=
 { nparams := 1,results := [.t 2],body :=
 (.seq
 (.region false [oK 2 .mv [.c (.i 0)]] [2])
 (.seq
 (.region false [oK 3 .mv [.c (.i 1)]] [])
 (.seq
 (.seq
 (.region false [oK 4 .mv [.t 0],
 oK 5 .mv [.c (.i 0)]] [0])
 (.block 0
 F_impl_wholeOf_W0))
 (.seq
 (.region false [oK 10 .mv [.t 3],
 oK 2 .mv [.t 10]] [3,4,5,10])
 .ret)))) }
def lf : Nat → Option LF
 | 5 => some F_laws_FnExactChainOrder
 | 8 => some F_laws_szIntSS
 | 10 => some F_laws_toIntSS
 | 13 => some F_laws_eqIntSS
 | 14 => some F_laws_markIntSS
 | 17 => some F_laws_szTestS
 | 19 => some F_laws_toTestS
 | 21 => some F_laws_eqTestS
 | 22 => some F_laws_markTestS
 | 24 => some F_spec_ChainOrder
 | 25 => some F_impl_ChainOrder
 | 26 => some F_laws_eqIntS
 | 27 => some F_laws_markIntS
 | 28 => some F_laws_heldIntS
 | 33 => some F_laws_szIntS
 | 34 => some F_spec_GroupsOk
 | 35 => some F_laws_toIntS
 | 36 => some F_impl_GroupsOk
 | 38 => some F_spec_TestsOk
 | 41 => some F_laws_toTest
 | 43 => some F_laws_eqTest
 | 44 => some F_spec_l9Ratio
 | 45 => some F_impl_TestsOk
 | 46 => some F_impl_leastPart
 | 47 => some F_impl_behindPart
 | 48 => some F_spec_l1In
 | 49 => some F_spec_l1Power
 | 55 => some F_impl_isWithin
 | 57 => some F_impl_manyOk
 | 58 => some F_impl_OrderOk
 | 60 => some F_impl_ratio_isLess
 | 63 => some F_impl_ratioOfPart
 | 64 => some F_slices_Clone_int_int
 | 68 => some F_impl_hasTest
 | 74 => some F_impl_wholeOf
 | _ => none
theorem w_laws_szIntSS_0 (S : LS) : ex lf F_laws_szIntSS_W0 S = match ex lf F_laws_szIntSS_L0 S with | some (.normal,S1) => ex lf F_laws_szIntSS_W0 S1 | r => r := ex_loop lf F_laws_szIntSS_L0 S
theorem w_laws_toIntSS_0 (S : LS) : ex lf F_laws_toIntSS_W0 S = match ex lf F_laws_toIntSS_L0 S with | some (.normal,S1) => ex lf F_laws_toIntSS_W0 S1 | r => r := ex_loop lf F_laws_toIntSS_L0 S
theorem w_laws_eqIntSS_0 (S : LS) : ex lf F_laws_eqIntSS_W0 S = match ex lf F_laws_eqIntSS_L0 S with | some (.normal,S1) => ex lf F_laws_eqIntSS_W0 S1 | r => r := ex_loop lf F_laws_eqIntSS_L0 S
theorem w_laws_markIntSS_0 (S : LS) : ex lf F_laws_markIntSS_W0 S = match ex lf F_laws_markIntSS_L0 S with | some (.normal,S1) => ex lf F_laws_markIntSS_W0 S1 | r => r := ex_loop lf F_laws_markIntSS_L0 S
theorem w_laws_toTestS_0 (S : LS) : ex lf F_laws_toTestS_W0 S = match ex lf F_laws_toTestS_L0 S with | some (.normal,S1) => ex lf F_laws_toTestS_W0 S1 | r => r := ex_loop lf F_laws_toTestS_L0 S
theorem w_laws_eqTestS_0 (S : LS) : ex lf F_laws_eqTestS_W0 S = match ex lf F_laws_eqTestS_L0 S with | some (.normal,S1) => ex lf F_laws_eqTestS_W0 S1 | r => r := ex_loop lf F_laws_eqTestS_L0 S
theorem w_laws_markTestS_0 (S : LS) : ex lf F_laws_markTestS_W0 S = match ex lf F_laws_markTestS_L0 S with | some (.normal,S1) => ex lf F_laws_markTestS_W0 S1 | r => r := ex_loop lf F_laws_markTestS_L0 S
theorem w_spec_ChainOrder_2 (S : LS) : ex lf F_spec_ChainOrder_W2 S = match ex lf F_spec_ChainOrder_L2 S with | some (.normal,S1) => ex lf F_spec_ChainOrder_W2 S1 | r => r := ex_loop lf F_spec_ChainOrder_L2 S
theorem w_spec_ChainOrder_1 (S : LS) : ex lf F_spec_ChainOrder_W1 S = match ex lf F_spec_ChainOrder_L1 S with | some (.normal,S1) => ex lf F_spec_ChainOrder_W1 S1 | r => r := ex_loop lf F_spec_ChainOrder_L1 S
theorem w_spec_ChainOrder_0 (S : LS) : ex lf F_spec_ChainOrder_W0 S = match ex lf F_spec_ChainOrder_L0 S with | some (.normal,S1) => ex lf F_spec_ChainOrder_W0 S1 | r => r := ex_loop lf F_spec_ChainOrder_L0 S
theorem w_impl_ChainOrder_0 (S : LS) : ex lf F_impl_ChainOrder_W0 S = match ex lf F_impl_ChainOrder_L0 S with | some (.normal,S1) => ex lf F_impl_ChainOrder_W0 S1 | r => r := ex_loop lf F_impl_ChainOrder_L0 S
theorem w_laws_eqIntS_0 (S : LS) : ex lf F_laws_eqIntS_W0 S = match ex lf F_laws_eqIntS_L0 S with | some (.normal,S1) => ex lf F_laws_eqIntS_W0 S1 | r => r := ex_loop lf F_laws_eqIntS_L0 S
theorem w_laws_markIntS_0 (S : LS) : ex lf F_laws_markIntS_W0 S = match ex lf F_laws_markIntS_L0 S with | some (.normal,S1) => ex lf F_laws_markIntS_W0 S1 | r => r := ex_loop lf F_laws_markIntS_L0 S
theorem w_laws_heldIntS_0 (S : LS) : ex lf F_laws_heldIntS_W0 S = match ex lf F_laws_heldIntS_L0 S with | some (.normal,S1) => ex lf F_laws_heldIntS_W0 S1 | r => r := ex_loop lf F_laws_heldIntS_L0 S
theorem w_spec_GroupsOk_1 (S : LS) : ex lf F_spec_GroupsOk_W1 S = match ex lf F_spec_GroupsOk_L1 S with | some (.normal,S1) => ex lf F_spec_GroupsOk_W1 S1 | r => r := ex_loop lf F_spec_GroupsOk_L1 S
theorem w_spec_GroupsOk_0 (S : LS) : ex lf F_spec_GroupsOk_W0 S = match ex lf F_spec_GroupsOk_L0 S with | some (.normal,S1) => ex lf F_spec_GroupsOk_W0 S1 | r => r := ex_loop lf F_spec_GroupsOk_L0 S
theorem w_laws_toIntS_0 (S : LS) : ex lf F_laws_toIntS_W0 S = match ex lf F_laws_toIntS_L0 S with | some (.normal,S1) => ex lf F_laws_toIntS_W0 S1 | r => r := ex_loop lf F_laws_toIntS_L0 S
theorem w_impl_GroupsOk_0 (S : LS) : ex lf F_impl_GroupsOk_W0 S = match ex lf F_impl_GroupsOk_L0 S with | some (.normal,S1) => ex lf F_impl_GroupsOk_W0 S1 | r => r := ex_loop lf F_impl_GroupsOk_L0 S
theorem w_spec_TestsOk_0 (S : LS) : ex lf F_spec_TestsOk_W0 S = match ex lf F_spec_TestsOk_L0 S with | some (.normal,S1) => ex lf F_spec_TestsOk_W0 S1 | r => r := ex_loop lf F_spec_TestsOk_L0 S
theorem w_spec_l9Ratio_0 (S : LS) : ex lf F_spec_l9Ratio_W0 S = match ex lf F_spec_l9Ratio_L0 S with | some (.normal,S1) => ex lf F_spec_l9Ratio_W0 S1 | r => r := ex_loop lf F_spec_l9Ratio_L0 S
theorem w_impl_TestsOk_0 (S : LS) : ex lf F_impl_TestsOk_W0 S = match ex lf F_impl_TestsOk_L0 S with | some (.normal,S1) => ex lf F_impl_TestsOk_W0 S1 | r => r := ex_loop lf F_impl_TestsOk_L0 S
theorem w_impl_leastPart_1 (S : LS) : ex lf F_impl_leastPart_W1 S = match ex lf F_impl_leastPart_L1 S with | some (.normal,S1) => ex lf F_impl_leastPart_W1 S1 | r => r := ex_loop lf F_impl_leastPart_L1 S
theorem w_impl_leastPart_0 (S : LS) : ex lf F_impl_leastPart_W0 S = match ex lf F_impl_leastPart_L0 S with | some (.normal,S1) => ex lf F_impl_leastPart_W0 S1 | r => r := ex_loop lf F_impl_leastPart_L0 S
theorem w_spec_l1Power_0 (S : LS) : ex lf F_spec_l1Power_W0 S = match ex lf F_spec_l1Power_L0 S with | some (.normal,S1) => ex lf F_spec_l1Power_W0 S1 | r => r := ex_loop lf F_spec_l1Power_L0 S
theorem w_impl_OrderOk_0 (S : LS) : ex lf F_impl_OrderOk_W0 S = match ex lf F_impl_OrderOk_L0 S with | some (.normal,S1) => ex lf F_impl_OrderOk_W0 S1 | r => r := ex_loop lf F_impl_OrderOk_L0 S
theorem w_impl_ratioOfPart_0 (S : LS) : ex lf F_impl_ratioOfPart_W0 S = match ex lf F_impl_ratioOfPart_L0 S with | some (.normal,S1) => ex lf F_impl_ratioOfPart_W0 S1 | r => r := ex_loop lf F_impl_ratioOfPart_L0 S
theorem w_impl_wholeOf_0 (S : LS) : ex lf F_impl_wholeOf_W0 S = match ex lf F_impl_wholeOf_L0 S with | some (.normal,S1) => ex lf F_impl_wholeOf_W0 S1 | r => r := ex_loop lf F_impl_wholeOf_L0 S
end Zz
