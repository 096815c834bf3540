/- The functions of the program, read as data. No conditions. -/
import Derived.Test.YtffghabijlfpeaaLgC
set_option linter.unusedSectionVars false
set_option linter.unusedVariables false
set_option linter.unusedSimpArgs false
namespace Zz
open Go.Lg
abbrev oK (d : Nat) (k : K) (a : List Opd) : LOp := ⟨some d, k, a, none⟩
abbrev oG (d : Nat) (k : K) (a : List Opd) (t : Nat) (b : Bool) : LOp := ⟨some d, k, a, some (t, b)⟩
def n_laws_FnExactBestRounds : Nat := 6
def n_laws_eqIntSS : Nat := 13
def n_laws_markIntSS : Nat := 14
def n_laws_szTestS : Nat := 17
def n_laws_toTestS : Nat := 19
def n_laws_eqTestS : Nat := 21
def n_laws_markTestS : Nat := 22
def n_laws_heldIntSS : Nat := 23
def n_laws_eqIntS : Nat := 26
def n_laws_markIntS : Nat := 27
def n_laws_heldIntS : Nat := 28
def n_spec_BestRounds : Nat := 29
def n_impl_BestRounds : Nat := 30
def n_spec_TestsOk : Nat := 38
def n_laws_toTest : Nat := 41
def n_laws_eqTest : Nat := 43
def n_impl_TestsOk : Nat := 45
def n_spec_l1In : Nat := 48
def n_spec_l1Power : Nat := 49
def n_spec_l10Best : Nat := 50
def n_impl_feeOk : Nat := 51
def n_impl_bestRoundsOf : Nat := 52
def n_impl_allOf : Nat := 53
def n_impl_rowOf : Nat := 54
def n_impl_isWithin : Nat := 55
def n_impl_manyOk : Nat := 57
def n_impl_averageOfRound : Nat := 65
def n_impl_sizeOf : Nat := 66
def n_impl_statesOf : Nat := 67
def n_impl_hasTest : Nat := 68
def n_impl_wholeOf : Nat := 74
def n_math_bits_OnesCount : Nat := 75
def n_math_bits_OnesCount32 : Nat := 86
def n_math_bits_OnesCount64 : Nat := 87
def bkFs : List Nat := []
instance : GL := ⟨[],[14,15,22,27],["l4_orders.go:82","l10_rounds.go:90"],[],[(61,[0]),(69,[0,2]),(81,[0]),(89,[0,2])],[],["l20_draw.go:447"],bkFs⟩
/-- laws.FnExactBestRounds -/
def F_laws_FnExactBestRounds : LF :=
 { nparams := 2,results := [.t 4],body :=
 (.seq
 (.region false [oK 4 .mv [.c (.b false)]] [4])
 (.seq
 (.region false [oK 5 .mv [.c (.i 1048576)]] [])
 (.seq
 (.region false [oK 16 .mv [.t 0],
 oK 17 .mv [.t 5],
 oK 18 (.call n_laws_szTestS 9216) [.t 16,.t 17],
 oK 5 .mv [.t 18]] [16,17,18])
 (.seq
 (.seq
 (.region false [oK 19 .mv [.t 5],
 oK 20 (.bin .lss) [.t 19,.c (.i 0)]] [5,19])
 (.cond (.t 20) [20]
 (.seq
 (.region false [oK 4 .mv [.c (.b true)]] [0,1])
 .ret)
 .skip))
 (.seq
 (.region false [oK 22 .mv [.t 0],
 oK 23 (.call n_laws_toTestS 11776) [.t 22],
 oK 24 .mv [.t 1],
 oK 25 (.call n_spec_BestRounds 12800) [.t 23,.t 24],
 oK 21 .mv [.t 25],
 oK 26 (.ext 0) [.t 21],
 oK 27 (.ext 1) [.t 21],
 oK 6 .mv [.t 26],
 oK 7 .mv [.t 27]] [21,22,23,24,25,26,27])
 (.seq
 (.region false [oK 28 .mv [.t 0],
 oK 29 (.call n_laws_toTestS 14848) [.t 28],
 oK 8 .mv [.t 29]] [28,29])
 (.seq
 (.region false [oK 31 .mv [.t 8],
 oK 32 .mv [.t 1],
 oK 33 (.call n_impl_BestRounds 16896) [.t 31,.t 32],
 oK 30 .mv [.t 33],
 oK 34 (.ext 0) [.t 30],
 oK 35 (.ext 1) [.t 30],
 oK 9 .mv [.t 34],
 oK 10 .mv [.t 35]] [30,31,32,33,34,35])
 (.seq
 (.seq
 (.region false [oK 36 .mv [.t 9],
 oK 37 .mv [.t 6],
 oK 38 (.call n_laws_eqIntSS 19456) [.t 36,.t 37],
 oK 39 (.un .not) [.t 38],
 oK 40 .mv [.t 39],
 oG 41 .mv [.t 10] 40 false,
 oG 42 .mv [.t 7] 40 false,
 oG 43 (.bin .neq) [.t 41,.t 42] 40 false,
 oK 44 .pick [.t 40,.c (.b true),.t 43]] [36,37,38,39,40,41,42,43])
 (.cond (.t 44) [44]
 (.seq
 (.region false [oK 4 .mv [.c (.b false)]] [0,1,6,7,8,9,10])
 .ret)
 .skip))
 (.seq
 (.seq
 (.region false [oK 45 .mv [.t 8],
 oK 46 .mv [.t 0],
 oK 47 (.call n_laws_toTestS 24064) [.t 46],
 oK 48 (.call n_laws_eqTestS 24576) [.t 45,.t 47],
 oK 49 (.un .not) [.t 48]] [45,46,47,48])
 (.cond (.t 49) [49]
 (.seq
 (.region false [oK 4 .mv [.c (.b false)]] [0,1,6,7,8,9,10])
 .ret)
 .skip))
 (.seq
 (.region false [oK 11 .mv [.c (.i 1)]] [])
 (.seq
 (.region false [oK 50 .mv [.t 8],
 oK 51 .mv [.t 11],
 oK 52 (.call n_laws_markTestS 26628) [.t 50,.t 51],
 oK 11 .mv [.t 52]] [8,50,51,52])
 (.seq
 (.seq
 (.region false [oK 53 .mv [.t 11],
 oK 54 (.bin .lss) [.t 53,.c (.i 0)],
 oK 55 .mv [.t 54],
 oG 56 .mv [.t 9] 55 false,
 oG 57 .mv [.t 6] 55 false,
 oG 58 (.call n_laws_eqIntSS 29696) [.t 56,.t 57] 55 false,
 oG 59 (.un .not) [.t 58] 55 false,
 oK 60 .pick [.t 55,.c (.b true),.t 59],
 oK 61 .mv [.t 60],
 oG 62 .mv [.t 10] 61 false,
 oG 63 .mv [.t 7] 61 false,
 oG 64 (.bin .neq) [.t 62,.t 63] 61 false,
 oK 65 .pick [.t 61,.c (.b true),.t 64]] [10,11,53,54,55,56,57,58,59,60,61,62,63,64])
 (.cond (.t 65) [65]
 (.seq
 (.region false [oK 4 .mv [.c (.b false)]] [0,1,6,7,9])
 .ret)
 .skip))
 (.seq
 (.region false [oK 12 .mv [.c (.i 1)]] [])
 (.seq
 (.region false [oK 66 .mv [.t 9],
 oK 67 .mv [.t 12],
 oK 68 (.call n_laws_markIntSS 34820) [.t 66,.t 67],
 oK 12 .mv [.t 68]] [66,67,68])
 (.seq
 (.region false [oK 13 .mv [.c (.i 1)]] [])
 (.seq
 (.region false [oK 69 .mv [.t 9],
 oK 70 .mv [.t 13],
 oK 71 (.call n_laws_heldIntSS 36352) [.t 69,.t 70],
 oK 13 .mv [.t 71]] [69,70,71])
 (.seq
 (.seq
 (.region false [oK 72 .mv [.t 13],
 oK 73 (.bin .lss) [.t 72,.c (.i 0)]] [72])
 (.cond (.t 73) [73]
 (.seq
 (.region false [oK 4 .mv [.c (.b false)]] [0,1,6,7,9,12,13])
 .ret)
 .skip))
 (.seq
 (.seq
 (.region false [oK 74 .mv [.t 13],
 oK 75 .mv [.t 12],
 oK 76 (.bin .neq) [.t 74,.t 75]] [13,74,75])
 (.cond (.t 76) [76]
 (.seq
 (.region false [oK 4 .mv [.c (.b false)]] [0,1,6,7,9,12])
 .ret)
 .skip))
 (.seq
 (.region false [oK 78 .mv [.t 0],
 oK 79 (.call n_laws_toTestS 40448) [.t 78],
 oK 80 .mv [.t 1],
 oK 81 (.call n_impl_BestRounds 41472) [.t 79,.t 80],
 oK 77 .mv [.t 81],
 oK 82 (.ext 0) [.t 77],
 oK 83 (.ext 1) [.t 77],
 oK 14 .mv [.t 82],
 oK 15 .mv [.t 83]] [0,1,77,78,79,80,81,82,83])
 (.seq
 (.seq
 (.region false [oK 84 .mv [.t 14],
 oK 85 .mv [.t 6],
 oK 86 (.call n_laws_eqIntSS 44032) [.t 84,.t 85],
 oK 87 (.un .not) [.t 86],
 oK 88 .mv [.t 87],
 oG 89 .mv [.t 15] 88 false,
 oG 90 .mv [.t 7] 88 false,
 oG 91 (.bin .neq) [.t 89,.t 90] 88 false,
 oK 92 .pick [.t 88,.c (.b true),.t 91]] [6,7,14,15,84,85,86,87,88,89,90,91])
 (.cond (.t 92) [92]
 (.seq
 (.region false [oK 4 .mv [.c (.b false)]] [9,12])
 .ret)
 .skip))
 (.seq
 (.region false [oK 13 .mv [.c (.i 1)]] [])
 (.seq
 (.region false [oK 93 .mv [.t 9],
 oK 94 .mv [.t 13],
 oK 95 (.call n_laws_heldIntSS 48640) [.t 93,.t 94],
 oK 13 .mv [.t 95]] [9,93,94,95])
 (.seq
 (.seq
 (.region false [oK 96 .mv [.t 13],
 oK 97 (.bin .lss) [.t 96,.c (.i 0)]] [96])
 (.cond (.t 97) [97]
 (.seq
 (.region false [oK 4 .mv [.c (.b false)]] [12,13])
 .ret)
 .skip))
 (.seq
 (.seq
 (.region false [oK 98 .mv [.t 13],
 oK 99 .mv [.t 12],
 oK 100 (.bin .neq) [.t 98,.t 99]] [12,13,98,99])
 (.cond (.t 100) [100]
 (.seq
 (.region false [oK 4 .mv [.c (.b false)]] [])
 .ret)
 .skip))
 (.seq
 (.region false [oK 4 .mv [.c (.b true)]] [])
 .ret))))))))))))))))))))))))) }
/-- laws.eqIntSS -/
def F_laws_eqIntSS_L0 : LC :=
 (.seq
 (.seq
 (.region false [oK 11 .mv [.t 5],
 oK 12 .mv [.t 0],
 oK 13 .len [.t 12],
 oK 14 (.bin .lss) [.t 11,.t 13]] [11,12,13])
 (.cond (.t 14) [14]
 .skip
 (.exit 0)))
 (.seq
 (.block 1
 (.seq
 (.region true [oK 17 .mv [.t 0],
 oK 18 .mv [.t 5],
 oK 19 (.idxa 1) [.t 17,.t 18],
 oK 20 (.load 1 false) [.t 19],
 oK 21 .mv [.t 1],
 oK 22 .mv [.t 5],
 oK 23 (.idxa 1) [.t 21,.t 22],
 oK 24 (.load 1 false) [.t 23],
 oK 25 (.call n_laws_eqIntS 12800) [.t 20,.t 24],
 oK 26 (.un .not) [.t 25]] [17,18,19,20,21,22,23,24,25])
 (.cond (.t 26) [26]
 (.seq
 (.region false [oK 4 .mv [.c (.b false)]] [0,1,5])
 .ret)
 .skip)))
 (.region false [oK 15 .mv [.t 5],
 oK 16 (.bin .add) [.t 15,.c (.i 1)],
 oK 5 .mv [.t 16]] [15,16])))
def F_laws_eqIntSS_W0 : LC := .loop F_laws_eqIntSS_L0
def F_laws_eqIntSS : LF :=
 { nparams := 2,results := [.t 4],body :=
 (.seq
 (.region false [oK 4 .mv [.c (.b false)]] [4])
 (.seq
 (.seq
 (.region false [oK 6 .mv [.t 0],
 oK 7 .len [.t 6],
 oK 8 .mv [.t 1],
 oK 9 .len [.t 8],
 oK 10 (.bin .neq) [.t 7,.t 9]] [6,7,8,9])
 (.cond (.t 10) [10]
 (.seq
 (.region false [oK 4 .mv [.c (.b false)]] [0,1])
 .ret)
 .skip))
 (.seq
 (.seq
 (.region false [oK 5 .mv [.c (.i 0)]] [])
 (.block 0
 F_laws_eqIntSS_W0))
 (.seq
 (.region false [oK 4 .mv [.c (.b true)]] [0,1,5])
 .ret)))) }
/-- laws.markIntSS -/
def F_laws_markIntSS_L0 : LC :=
 (.seq
 (.seq
 (.region false [oK 6 .mv [.t 5],
 oK 7 .mv [.t 0],
 oK 8 .len [.t 7],
 oK 9 (.bin .lss) [.t 6,.t 8]] [6,7,8])
 (.cond (.t 9) [9]
 .skip
 (.exit 0)))
 (.seq
 (.block 1
 (.region false [oK 12 .mv [.t 0],
 oK 13 .mv [.t 5],
 oK 14 (.idxa 1) [.t 12,.t 13],
 oK 15 (.load 1 false) [.t 14],
 oK 16 .mv [.t 1],
 oK 17 (.call n_laws_markIntS 8708) [.t 15,.t 16],
 oK 1 .mv [.t 17]] [12,13,14,15,16,17]))
 (.region false [oK 10 .mv [.t 5],
 oK 11 (.bin .add) [.t 10,.c (.i 1)],
 oK 5 .mv [.t 11]] [10,11])))
def F_laws_markIntSS_W0 : LC := .loop F_laws_markIntSS_L0
def F_laws_markIntSS : LF :=
 { nparams := 2,results := [.t 4],body :=
 (.seq
 (.region false [oK 4 .mv [.c (.i 0)]] [4])
 (.seq
 (.seq
 (.region false [oK 5 .mv [.c (.i 0)]] [])
 (.block 0
 F_laws_markIntSS_W0))
 (.seq
 (.region false [oK 18 .mv [.t 1],
 oK 4 .mv [.t 18]] [1,5,18])
 .ret))) }
/-- laws.szTestS -/
def F_laws_szTestS : LF :=
 { nparams := 2,results := [.t 4],body :=
 (.seq
 (.region false [oK 4 .mv [.c (.i 0)]] [4])
 (.seq
 (.region false [oK 5 .mv [.t 1],
 oK 6 .mv [.t 0],
 oK 7 .len [.t 6],
 oK 8 (.bin .sub) [.t 5,.t 7],
 oK 1 .mv [.t 8]] [0,5,6,7,8])
 (.seq
 (.seq
 (.region false [oK 9 .mv [.t 1],
 oK 10 (.bin .lss) [.t 9,.c (.i 0)]] [9])
 (.cond (.t 10) [10]
 (.seq
 (.region false [oK 4 .mv [.c (.i (-1))]] [1])
 .ret)
 .skip))
 (.seq
 (.region false [oK 11 .mv [.t 1],
 oK 4 .mv [.t 11]] [1,11])
 .ret)))) }
/-- laws.toTestS -/
def F_laws_toTestS_L0 : LC :=
 (.seq
 (.seq
 (.region false [oK 8 .mv [.t 4],
 oK 9 .mv [.t 0],
 oK 10 .len [.t 9],
 oK 11 (.bin .lss) [.t 8,.t 10]] [8,9,10])
 (.cond (.t 11) [11]
 .skip
 (.exit 0)))
 (.seq
 (.block 1
 (.region false [oK 14 .mv [.t 3],
 oK 15 .mv [.t 4],
 oK 16 .mv [.t 0],
 oK 17 .mv [.t 4],
 oK 18 (.idxa 2) [.t 16,.t 17],
 oK 19 (.load 2 true) [.t 18],
 oK 20 (.call n_laws_toTest 10240) [.t 19],
 oK 21 (.idxa 2) [.t 14,.t 15],
 ⟨none,.store 2,[.t 21,.t 20],none⟩] [14,15,16,17,18,19,20,21]))
 (.region false [oK 12 .mv [.t 4],
 oK 13 (.bin .add) [.t 12,.c (.i 1)],
 oK 4 .mv [.t 13]] [12,13])))
def F_laws_toTestS_W0 : LC := .loop F_laws_toTestS_L0
def F_laws_toTestS : LF :=
 { nparams := 1,results := [.t 2],body :=
 (.seq
 (.region false [oK 2 (.newnil 1040) []] [2])
 (.seq
 (.region false [oK 5 .mv [.t 0],
 oK 6 .len [.t 5],
 oK 7 (.make 3600 2 (.st [.i 0,.i 0])) [.t 6,.t 6],
 oK 3 .mv [.t 7]] [5,6,7])
 (.seq
 (.seq
 (.region false [oK 4 .mv [.c (.i 0)]] [])
 (.block 0
 F_laws_toTestS_W0))
 (.seq
 (.region false [oK 22 .mv [.t 3],
 oK 2 .mv [.t 22]] [0,3,4,22])
 .ret)))) }
/-- laws.eqTestS -/
def F_laws_eqTestS_L0 : LC :=
 (.seq
 (.seq
 (.region false [oK 11 .mv [.t 5],
 oK 12 .mv [.t 0],
 oK 13 .len [.t 12],
 oK 14 (.bin .lss) [.t 11,.t 13]] [11,12,13])
 (.cond (.t 14) [14]
 .skip
 (.exit 0)))
 (.seq
 (.block 1
 (.seq
 (.region true [oK 17 .mv [.t 0],
 oK 18 .mv [.t 5],
 oK 19 (.idxa 2) [.t 17,.t 18],
 oK 20 (.load 2 true) [.t 19],
 oK 21 .mv [.t 1],
 oK 22 .mv [.t 5],
 oK 23 (.idxa 2) [.t 21,.t 22],
 oK 24 (.load 2 true) [.t 23],
 oK 25 (.call n_laws_eqTest 12800) [.t 20,.t 24],
 oK 26 (.un .not) [.t 25]] [17,18,19,20,21,22,23,24,25])
 (.cond (.t 26) [26]
 (.seq
 (.region false [oK 4 .mv [.c (.b false)]] [0,1,5])
 .ret)
 .skip)))
 (.region false [oK 15 .mv [.t 5],
 oK 16 (.bin .add) [.t 15,.c (.i 1)],
 oK 5 .mv [.t 16]] [15,16])))
def F_laws_eqTestS_W0 : LC := .loop F_laws_eqTestS_L0
def F_laws_eqTestS : LF :=
 { nparams := 2,results := [.t 4],body :=
 (.seq
 (.region false [oK 4 .mv [.c (.b false)]] [4])
 (.seq
 (.seq
 (.region false [oK 6 .mv [.t 0],
 oK 7 .len [.t 6],
 oK 8 .mv [.t 1],
 oK 9 .len [.t 8],
 oK 10 (.bin .neq) [.t 7,.t 9]] [6,7,8,9])
 (.cond (.t 10) [10]
 (.seq
 (.region false [oK 4 .mv [.c (.b false)]] [0,1])
 .ret)
 .skip))
 (.seq
 (.seq
 (.region false [oK 5 .mv [.c (.i 0)]] [])
 (.block 0
 F_laws_eqTestS_W0))
 (.seq
 (.region false [oK 4 .mv [.c (.b true)]] [0,1,5])
 .ret)))) }
/-- laws.markTestS -/
def F_laws_markTestS_L0 : LC :=
 (.seq
 (.seq
 (.region false [oK 6 .mv [.t 5],
 oK 7 .mv [.t 0],
 oK 8 .len [.t 7],
 oK 9 (.bin .lss) [.t 6,.t 8]] [6,7,8])
 (.cond (.t 9) [9]
 .skip
 (.exit 0)))
 (.seq
 (.block 1
 (.seq
 (.region false [oK 12 .mv [.t 0],
 oK 13 .mv [.t 5],
 oK 14 .mv [.t 1],
 oK 15 (.idxa 2) [.t 12,.t 13],
 oK 16 (.fld 0 1 false) [.t 15],
 ⟨none,.store 1,[.t 16,.t 14],none⟩] [12,13,14,15,16])
 (.seq
 (.region false [oK 17 .mv [.t 1],
 oK 18 (.bin .add) [.t 17,.c (.i 1)],
 oK 1 .mv [.t 18]] [17,18])
 (.seq
 (.region false [oK 19 .mv [.t 0],
 oK 20 .mv [.t 5],
 oK 21 .mv [.t 1],
 oK 22 (.idxa 2) [.t 19,.t 20],
 oK 23 (.fld 1 1 false) [.t 22],
 ⟨none,.store 1,[.t 23,.t 21],none⟩] [19,20,21,22,23])
 (.region false [oK 24 .mv [.t 1],
 oK 25 (.bin .add) [.t 24,.c (.i 1)],
 oK 1 .mv [.t 25]] [24,25])))))
 (.region false [oK 10 .mv [.t 5],
 oK 11 (.bin .add) [.t 10,.c (.i 1)],
 oK 5 .mv [.t 11]] [10,11])))
def F_laws_markTestS_W0 : LC := .loop F_laws_markTestS_L0
def F_laws_markTestS : LF :=
 { nparams := 2,results := [.t 4],body :=
 (.seq
 (.region false [oK 4 .mv [.c (.i 0)]] [4])
 (.seq
 (.seq
 (.region false [oK 5 .mv [.c (.i 0)]] [])
 (.block 0
 F_laws_markTestS_W0))
 (.seq
 (.region false [oK 26 .mv [.t 1],
 oK 4 .mv [.t 26]] [1,5,26])
 .ret))) }
/-- laws.heldIntSS -/
def F_laws_heldIntSS_L0 : LC :=
 (.seq
 (.seq
 (.region false [oK 6 .mv [.t 5],
 oK 7 .mv [.t 0],
 oK 8 .len [.t 7],
 oK 9 (.bin .lss) [.t 6,.t 8]] [6,7,8])
 (.cond (.t 9) [9]
 .skip
 (.exit 0)))
 (.seq
 (.block 1
 (.seq
 (.region false [oK 12 .mv [.t 0],
 oK 13 .mv [.t 5],
 oK 14 (.idxa 1) [.t 12,.t 13],
 oK 15 (.load 1 false) [.t 14],
 oK 16 .mv [.t 1],
 oK 17 (.call n_laws_heldIntS 8704) [.t 15,.t 16],
 oK 1 .mv [.t 17]] [12,13,14,15,16,17])
 (.seq
 (.region false [oK 18 .mv [.t 1],
 oK 19 (.bin .lss) [.t 18,.c (.i 0)]] [18])
 (.cond (.t 19) [19]
 (.seq
 (.region false [oK 4 .mv [.c (.i (-1))]] [0,1,5])
 .ret)
 .skip))))
 (.region false [oK 10 .mv [.t 5],
 oK 11 (.bin .add) [.t 10,.c (.i 1)],
 oK 5 .mv [.t 11]] [10,11])))
def F_laws_heldIntSS_W0 : LC := .loop F_laws_heldIntSS_L0
def F_laws_heldIntSS : LF :=
 { nparams := 2,results := [.t 4],body :=
 (.seq
 (.region false [oK 4 .mv [.c (.i 0)]] [4])
 (.seq
 (.seq
 (.region false [oK 5 .mv [.c (.i 0)]] [])
 (.block 0
 F_laws_heldIntSS_W0))
 (.seq
 (.region false [oK 20 .mv [.t 1],
 oK 4 .mv [.t 20]] [0,1,5,20])
 .ret))) }
/-- laws.eqIntS -/
def F_laws_eqIntS_L0 : LC :=
 (.seq
 (.seq
 (.region false [oK 11 .mv [.t 5],
 oK 12 .mv [.t 0],
 oK 13 .len [.t 12],
 oK 14 (.bin .lss) [.t 11,.t 13]] [11,12,13])
 (.cond (.t 14) [14]
 .skip
 (.exit 0)))
 (.seq
 (.block 1
 (.seq
 (.region true [oK 17 .mv [.t 0],
 oK 18 .mv [.t 5],
 oK 19 (.idxa 1) [.t 17,.t 18],
 oK 20 (.load 1 false) [.t 19],
 oK 21 .mv [.t 1],
 oK 22 .mv [.t 5],
 oK 23 (.idxa 1) [.t 21,.t 22],
 oK 24 (.load 1 false) [.t 23],
 oK 25 (.bin .neq) [.t 20,.t 24]] [17,18,19,20,21,22,23,24])
 (.cond (.t 25) [25]
 (.seq
 (.region false [oK 4 .mv [.c (.b false)]] [0,1,5])
 .ret)
 .skip)))
 (.region false [oK 15 .mv [.t 5],
 oK 16 (.bin .add) [.t 15,.c (.i 1)],
 oK 5 .mv [.t 16]] [15,16])))
def F_laws_eqIntS_W0 : LC := .loop F_laws_eqIntS_L0
def F_laws_eqIntS : LF :=
 { nparams := 2,results := [.t 4],body :=
 (.seq
 (.region false [oK 4 .mv [.c (.b false)]] [4])
 (.seq
 (.seq
 (.region false [oK 6 .mv [.t 0],
 oK 7 .len [.t 6],
 oK 8 .mv [.t 1],
 oK 9 .len [.t 8],
 oK 10 (.bin .neq) [.t 7,.t 9]] [6,7,8,9])
 (.cond (.t 10) [10]
 (.seq
 (.region false [oK 4 .mv [.c (.b false)]] [0,1])
 .ret)
 .skip))
 (.seq
 (.seq
 (.region false [oK 5 .mv [.c (.i 0)]] [])
 (.block 0
 F_laws_eqIntS_W0))
 (.seq
 (.region false [oK 4 .mv [.c (.b true)]] [0,1,5])
 .ret)))) }
/-- laws.markIntS -/
def F_laws_markIntS_L0 : LC :=
 (.seq
 (.seq
 (.region false [oK 6 .mv [.t 5],
 oK 7 .mv [.t 0],
 oK 8 .len [.t 7],
 oK 9 (.bin .lss) [.t 6,.t 8]] [6,7,8])
 (.cond (.t 9) [9]
 .skip
 (.exit 0)))
 (.seq
 (.block 1
 (.seq
 (.region false [oK 12 .mv [.t 0],
 oK 13 .mv [.t 5],
 oK 14 .mv [.t 1],
 oK 15 (.idxa 1) [.t 12,.t 13],
 ⟨none,.store 1,[.t 15,.t 14],none⟩] [12,13,14,15])
 (.region false [oK 16 .mv [.t 1],
 oK 17 (.bin .add) [.t 16,.c (.i 1)],
 oK 1 .mv [.t 17]] [16,17])))
 (.region false [oK 10 .mv [.t 5],
 oK 11 (.bin .add) [.t 10,.c (.i 1)],
 oK 5 .mv [.t 11]] [10,11])))
def F_laws_markIntS_W0 : LC := .loop F_laws_markIntS_L0
def F_laws_markIntS : LF :=
 { nparams := 2,results := [.t 4],body :=
 (.seq
 (.region false [oK 4 .mv [.c (.i 0)]] [4])
 (.seq
 (.seq
 (.region false [oK 5 .mv [.c (.i 0)]] [])
 (.block 0
 F_laws_markIntS_W0))
 (.seq
 (.region false [oK 18 .mv [.t 1],
 oK 4 .mv [.t 18]] [1,5,18])
 .ret))) }
/-- laws.heldIntS -/
def F_laws_heldIntS_L0 : LC :=
 (.seq
 (.seq
 (.region false [oK 6 .mv [.t 5],
 oK 7 .mv [.t 0],
 oK 8 .len [.t 7],
 oK 9 (.bin .lss) [.t 6,.t 8]] [6,7,8])
 (.cond (.t 9) [9]
 .skip
 (.exit 0)))
 (.seq
 (.block 1
 (.seq
 (.seq
 (.region false [oK 12 .mv [.t 0],
 oK 13 .mv [.t 5],
 oK 14 (.idxa 1) [.t 12,.t 13],
 oK 15 (.load 1 false) [.t 14],
 oK 16 .mv [.t 1],
 oK 17 (.bin .neq) [.t 15,.t 16]] [12,13,14,15,16])
 (.cond (.t 17) [17]
 (.seq
 (.region false [oK 4 .mv [.c (.i (-1))]] [0,1,5])
 .ret)
 .skip))
 (.region false [oK 18 .mv [.t 1],
 oK 19 (.bin .add) [.t 18,.c (.i 1)],
 oK 1 .mv [.t 19]] [18,19])))
 (.region false [oK 10 .mv [.t 5],
 oK 11 (.bin .add) [.t 10,.c (.i 1)],
 oK 5 .mv [.t 11]] [10,11])))
def F_laws_heldIntS_W0 : LC := .loop F_laws_heldIntS_L0
def F_laws_heldIntS : LF :=
 { nparams := 2,results := [.t 4],body :=
 (.seq
 (.region false [oK 4 .mv [.c (.i 0)]] [4])
 (.seq
 (.seq
 (.region false [oK 5 .mv [.c (.i 0)]] [])
 (.block 0
 F_laws_heldIntS_W0))
 (.seq
 (.region false [oK 20 .mv [.t 1],
 oK 4 .mv [.t 20]] [0,1,5,20])
 .ret))) }
/-- spec.BestRounds -/
def F_spec_BestRounds_L1 : LC :=
 (.seq
 (.seq
 (.region false [oK 51 .mv [.t 14],
 oK 52 .mv [.t 0],
 oK 53 .len [.t 52],
 oK 54 (.bin .lss) [.t 51,.t 53]] [51,52,53])
 (.cond (.t 54) [54]
 .skip
 (.exit 2)))
 (.seq
 (.block 3
 (.seq
 (.region false [oK 57 .mv [.t 12],
 oK 58 .mv [.t 14],
 oK 59 (.bin .shr) [.t 57,.t 58],
 oK 60 (.bin .rem) [.t 59,.c (.i 2)],
 oK 61 (.bin .eql) [.t 60,.c (.i 1)]] [57,58,59,60])
 (.cond (.t 61) [61]
 (.seq
 (.region false [oK 62 .mv [.t 13],
 oK 63 .mv [.t 14],
 oK 64 (.bslice 32776 1 1 (.i 0) [0]) [.t 63],
 oK 65 (.app 33288 1) [.t 62,.t 64],
 oK 13 .mv [.t 65]] [62,63,64,65])
 (.region false [oK 66 .mv [.t 8],
 oK 67 (.bin .quo) [.t 66,.c (.i 6)],
 oK 68 .mv [.t 0],
 oK 69 .mv [.t 14],
 oK 70 (.idxa 2) [.t 68,.t 69],
 oK 71 (.fld 1 1 false) [.t 70],
 oK 72 (.load 1 false) [.t 71],
 oK 73 (.bin .mul) [.t 67,.t 72],
 oK 8 .mv [.t 73]] [66,67,68,69,70,71,72,73]))
 .skip)))
 (.region false [oK 55 .mv [.t 14],
 oK 56 (.bin .add) [.t 55,.c (.i 1)],
 oK 14 .mv [.t 56]] [55,56])))
def F_spec_BestRounds_W1 : LC := .loop F_spec_BestRounds_L1
def F_spec_BestRounds_L0 : LC :=
 (.seq
 (.seq
 (.region false [oK 40 .mv [.t 7],
 oK 41 (.bin .gtr) [.t 40,.c (.i 0)]] [40])
 (.cond (.t 41) [41]
 .skip
 (.exit 0)))
 (.block 1
 (.seq
 (.region false [oK 43 .mv [.t 0],
 oK 44 .mv [.t 7],
 oK 45 .mv [.t 1],
 oK 46 .mv [.t 8],
 oK 47 (.call n_spec_l10Best 24064) [.t 43,.t 44,.t 45,.t 46],
 oK 42 .mv [.t 47],
 oK 48 (.ext 0) [.t 42],
 oK 49 (.ext 1) [.t 42],
 oK 11 .mv [.t 48],
 oK 12 .mv [.t 49]] [11,42,43,44,45,46,47,48,49])
 (.seq
 (.region false [oK 50 (.bslice 25608 0 1 (.i 0) []) [],
 oK 13 .mv [.t 50]] [50])
 (.seq
 (.seq
 (.region false [oK 14 .mv [.c (.i 0)]] [])
 (.block 2
 F_spec_BestRounds_W1))
 (.seq
 (.region false [oK 74 .mv [.t 6],
 oK 75 .mv [.t 13],
 oK 76 (.bslice 38920 1 1 (.sl 1 []) [0]) [.t 75],
 oK 77 (.app 39432 1) [.t 74,.t 76],
 oK 6 .mv [.t 77]] [13,14,74,75,76,77])
 (.region false [oK 78 .mv [.t 7],
 oK 79 .mv [.t 12],
 oK 80 (.bin .sub) [.t 78,.t 79],
 oK 7 .mv [.t 80]] [12,78,79,80])))))))
def F_spec_BestRounds_W0 : LC := .loop F_spec_BestRounds_L0
def F_spec_BestRounds : LF :=
 { nparams := 2,results := [.t 4,.t 5],body :=
 (.seq
 (.region false [oK 4 (.newnil 2056) [],
 oK 5 .mv [.c (.i 0)]] [4,5])
 (.seq
 (.seq
 (.region false [oK 15 .mv [.t 0],
 oK 16 (.call n_spec_TestsOk 8192) [.t 15],
 oK 17 (.un .not) [.t 16],
 oK 18 .mv [.t 17],
 oG 19 .mv [.t 1] 18 false,
 oG 20 (.call n_spec_l1In 10240) [.t 19,.c (.i 0),.c (.i 20)] 18 false,
 oG 21 (.un .not) [.t 20] 18 false,
 oK 22 .pick [.t 18,.c (.b true),.t 21]] [15,16,17,18,19,20,21])
 (.cond (.t 22) [22]
 (.seq
 (.region false [oK 23 (.bslice 11784 0 1 (.sl 1 []) []) [],
 oK 4 .mv [.t 23],
 oK 5 .mv [.c (.i (-1))]] [0,1,23])
 .ret)
 .skip))
 (.seq
 (.region false [oK 24 (.bslice 12296 0 1 (.sl 1 []) []) [],
 oK 6 .mv [.t 24]] [24])
 (.seq
 (.region false [oK 25 .mv [.t 0],
 oK 26 .len [.t 25],
 oK 27 (.bin .shl) [.c (.i 1),.t 26],
 oK 28 (.bin .sub) [.t 27,.c (.i 1)],
 oK 7 .mv [.t 28]] [25,26,27,28])
 (.seq
 (.region false [oK 29 .mv [.t 0],
 oK 30 .len [.t 29],
 oK 31 (.call n_spec_l1Power 15872) [.t 30],
 oK 8 .mv [.t 31]] [29,30,31])
 (.seq
 (.region false [oK 33 .mv [.t 0],
 oK 34 .mv [.t 7],
 oK 35 .mv [.t 1],
 oK 36 .mv [.t 8],
 oK 37 (.call n_spec_l10Best 18944) [.t 33,.t 34,.t 35,.t 36],
 oK 32 .mv [.t 37],
 oK 38 (.ext 0) [.t 32],
 oK 39 (.ext 1) [.t 32],
 oK 9 .mv [.t 38],
 oK 10 .mv [.t 39]] [10,32,33,34,35,36,37,38,39])
 (.seq
 (.block 0
 F_spec_BestRounds_W0)
 (.seq
 (.region false [oK 81 .mv [.t 6],
 oK 82 .mv [.t 9],
 oK 4 .mv [.t 81],
 oK 5 .mv [.t 82]] [0,1,6,7,8,9,81,82])
 .ret)))))))) }
/-- impl.BestRounds -/
def F_impl_BestRounds_L0 : LC :=
 (.seq
 (.region false [oK 30 (.bin .lss) [.t 29,.t 28]] [])
 (.seq
 (.cond (.t 30) [30]
 .skip
 (.exit 0))
 (.seq
 (.block 1
 (.seq
 (.region false [oK 31 (.idxa 1) [.t 27,.t 29],
 oK 32 (.load 1 false) [.t 31],
 oK 10 .mv [.t 32]] [31,32])
 (.region false [oK 33 .mv [.t 8],
 oK 34 .mv [.t 10],
 oK 35 (.call n_impl_rowOf 17920) [.t 34],
 oK 36 (.bslice 18440 1 1 (.sl 1 []) [0]) [.t 35],
 oK 37 (.app 18952 1) [.t 33,.t 36],
 oK 8 .mv [.t 37]] [10,33,34,35,36,37])))
 (.region false [oK 38 (.bin .add) [.t 29,.c (.i 1)],
 oK 29 .mv [.t 38]] [38]))))
def F_impl_BestRounds_W0 : LC := .loop F_impl_BestRounds_L0
def F_impl_BestRounds : LF :=
 { nparams := 2,results := [.t 4,.t 5],body :=
 (.seq
 (.region false [oK 4 (.newnil 2056) [],
 oK 5 .mv [.c (.i 0)]] [4,5])
 (.seq
 (.seq
 (.region false [oK 11 .mv [.t 0],
 oK 12 (.call n_impl_TestsOk 6144) [.t 11],
 oK 13 (.un .not) [.t 12],
 oK 14 .mv [.t 13],
 oG 15 .mv [.t 1] 14 false,
 oG 16 (.call n_impl_feeOk 8192) [.t 15] 14 false,
 oG 17 (.un .not) [.t 16] 14 false,
 oK 18 .pick [.t 14,.c (.b true),.t 17]] [11,12,13,14,15,16,17])
 (.cond (.t 18) [18]
 (.seq
 (.region false [oK 4 (.newnil 2056) [],
 oK 5 .mv [.c (.i (-1))]] [0,1])
 .ret)
 .skip))
 (.seq
 (.region false [oK 20 .mv [.t 0],
 oK 21 .mv [.t 0],
 oK 22 (.call n_impl_allOf 11264) [.t 21],
 oK 23 .mv [.t 1],
 oK 24 (.call n_impl_bestRoundsOf 12288) [.t 20,.t 22,.t 23],
 oK 19 .mv [.t 24],
 oK 25 (.ext 0) [.t 19],
 oK 26 (.ext 1) [.t 19],
 oK 6 .mv [.t 25],
 oK 7 .mv [.t 26]] [0,1,19,20,21,22,23,24,25,26])
 (.seq
 (.region false [oK 8 (.newnil 4104) []] [])
 (.seq
 (.seq
 (.region false [oK 27 .mv [.t 6],
 oK 28 .len [.t 27],
 oK 29 .mv [.c (.i 0)]] [6])
 (.block 0
 F_impl_BestRounds_W0))
 (.seq
 (.region false [oK 39 .mv [.t 8],
 oK 40 .mv [.t 7],
 oK 4 .mv [.t 39],
 oK 5 .mv [.t 40]] [7,8,27,28,29,39,40])
 .ret)))))) }
/-- spec.TestsOk -/
def F_spec_TestsOk_L0 : LC :=
 (.seq
 (.seq
 (.region false [oK 4 .mv [.t 3],
 oK 5 .mv [.t 0],
 oK 6 .len [.t 5],
 oK 7 (.bin .lss) [.t 4,.t 6]] [4,5,6])
 (.cond (.t 7) [7]
 .skip
 (.exit 0)))
 (.seq
 (.block 1
 (.seq
 (.region false [oK 10 .mv [.t 0],
 oK 11 .mv [.t 3],
 oK 12 (.idxa 2) [.t 10,.t 11],
 oK 13 (.fld 0 1 false) [.t 12],
 oK 14 (.load 1 false) [.t 13],
 oK 15 (.call n_spec_l1In 7680) [.t 14,.c (.i 1),.c (.i 9)],
 oK 16 (.un .not) [.t 15],
 oK 17 .mv [.t 16],
 oG 18 .mv [.t 0] 17 false,
 oG 19 .mv [.t 3] 17 false,
 oG 20 (.idxa 2) [.t 18,.t 19] 17 false,
 oG 21 (.fld 1 1 false) [.t 20] 17 false,
 oG 22 (.load 1 false) [.t 21] 17 false,
 oG 23 (.call n_spec_l1In 11776) [.t 22,.c (.i 1),.c (.i 5)] 17 false,
 oG 24 (.un .not) [.t 23] 17 false,
 oK 25 .pick [.t 17,.c (.b true),.t 24]] [10,11,12,13,14,15,16,17,18,19,20,21,22,23,24])
 (.cond (.t 25) [25]
 (.seq
 (.region false [oK 2 .mv [.c (.b false)]] [0,3])
 .ret)
 .skip)))
 (.region false [oK 8 .mv [.t 3],
 oK 9 (.bin .add) [.t 8,.c (.i 1)],
 oK 3 .mv [.t 9]] [8,9])))
def F_spec_TestsOk_W0 : LC := .loop F_spec_TestsOk_L0
def F_spec_TestsOk : LF :=
 { nparams := 1,results := [.t 2],body :=
 (.seq
 (.region false [oK 2 .mv [.c (.b false)]] [2])
 (.seq
 (.seq
 (.region false [oK 3 .mv [.c (.i 0)]] [])
 (.block 0
 F_spec_TestsOk_W0))
 (.seq
 (.region false [oK 26 .mv [.t 0],
 oK 27 .len [.t 26],
 oK 28 (.call n_spec_l1In 14336) [.t 27,.c (.i 1),.c (.i 5)],
 oK 2 .mv [.t 28]] [0,3,26,27,28])
 .ret))) }
/-- laws.toTest -/
def F_laws_toTest : LF :=
 { nparams := 1,results := [.c 2 2 true],body :=
 (.seq
 (.region false [oK 1 (.box 528) [.t 0],
 oK 2 (.alloc 1040 (.st [.i 0,.i 0])) []] [0])
 (.seq
 (.region false [oK 3 (.alloc 1552 (.st [.i 0,.i 0])) []] [])
 (.seq
 (.region false [oK 4 (.fld 0 1 false) [.t 1],
 oK 5 (.load 1 false) [.t 4],
 oK 6 (.fld 0 1 false) [.t 3],
 ⟨none,.store 1,[.t 6,.t 5],none⟩] [4,5,6])
 (.seq
 (.region false [oK 7 (.fld 1 1 false) [.t 1],
 oK 8 (.load 1 false) [.t 7],
 oK 9 (.fld 1 1 false) [.t 3],
 ⟨none,.store 1,[.t 9,.t 8],none⟩] [1,7,8,9])
 (.seq
 (.region false [oK 10 (.load 2 true) [.t 3],
 ⟨none,.store 2,[.t 2,.t 10],none⟩] [3,10])
 .ret))))) }
/-- laws.eqTest -/
def F_laws_eqTest : LF :=
 { nparams := 2,results := [.t 4],body :=
 (.seq
 (.region false [oK 2 (.box 1040) [.t 0],
 oK 3 (.box 1552) [.t 1],
 oK 4 .mv [.c (.b false)]] [0,1,4])
 (.seq
 (.seq
 (.region false [oK 5 (.fld 0 1 false) [.t 2],
 oK 6 (.load 1 false) [.t 5],
 oK 7 (.fld 0 1 false) [.t 3],
 oK 8 (.load 1 false) [.t 7],
 oK 9 (.bin .neq) [.t 6,.t 8]] [5,6,7,8])
 (.cond (.t 9) [9]
 (.seq
 (.region false [oK 4 .mv [.c (.b false)]] [2,3])
 .ret)
 .skip))
 (.seq
 (.seq
 (.region false [oK 10 (.fld 1 1 false) [.t 2],
 oK 11 (.load 1 false) [.t 10],
 oK 12 (.fld 1 1 false) [.t 3],
 oK 13 (.load 1 false) [.t 12],
 oK 14 (.bin .neq) [.t 11,.t 13]] [2,3,10,11,12,13])
 (.cond (.t 14) [14]
 (.seq
 (.region false [oK 4 .mv [.c (.b false)]] [])
 .ret)
 .skip))
 (.seq
 (.region false [oK 4 .mv [.c (.b true)]] [])
 .ret)))) }
/-- impl.TestsOk -/
def F_impl_TestsOk_L0 : LC :=
 (.seq
 (.region false [oK 12 (.bin .lss) [.t 11,.t 10]] [])
 (.seq
 (.cond (.t 12) [12]
 .skip
 (.exit 0))
 (.seq
 (.block 1
 (.seq
 (.region false [oK 13 (.idxa 2) [.t 9,.t 11],
 oK 14 (.load 2 true) [.t 13],
 oK 4 (.alloc 2064 (.st [.i 0,.i 0])) [],
 ⟨none,.store 2,[.t 4,.t 14],none⟩] [13,14])
 (.seq
 (.region false [oK 15 (.fld 0 1 false) [.t 4],
 oK 16 (.load 1 false) [.t 15],
 oK 17 (.call n_impl_isWithin 8704) [.t 16,.c (.i 1),.c (.i 9)],
 oK 18 (.un .not) [.t 17],
 oK 19 .mv [.t 18],
 oG 20 (.fld 1 1 false) [.t 4] 19 false,
 oG 21 (.load 1 false) [.t 20] 19 false,
 oG 22 (.call n_impl_isWithin 11264) [.t 21,.c (.i 1),.c (.i 5)] 19 false,
 oG 23 (.un .not) [.t 22] 19 false,
 oK 24 .pick [.t 19,.c (.b true),.t 23]] [4,15,16,17,18,19,20,21,22,23])
 (.cond (.t 24) [24]
 (.seq
 (.region false [oK 2 .mv [.c (.b false)]] [9,10,11])
 .ret)
 .skip))))
 (.region false [oK 25 (.bin .add) [.t 11,.c (.i 1)],
 oK 11 .mv [.t 25]] [25]))))
def F_impl_TestsOk_W0 : LC := .loop F_impl_TestsOk_L0
def F_impl_TestsOk : LF :=
 { nparams := 1,results := [.t 2],body :=
 (.seq
 (.region false [oK 2 .mv [.c (.b false)]] [2])
 (.seq
 (.seq
 (.region false [oK 5 .mv [.t 0],
 oK 6 .len [.t 5],
 oK 7 (.call n_impl_manyOk 3584) [.t 6],
 oK 8 (.un .not) [.t 7]] [5,6,7])
 (.cond (.t 8) [8]
 (.seq
 (.region false [oK 2 .mv [.c (.b false)]] [0])
 .ret)
 .skip))
 (.seq
 (.seq
 (.region false [oK 9 .mv [.t 0],
 oK 10 .len [.t 9],
 oK 11 .mv [.c (.i 0)]] [0])
 (.block 0
 F_impl_TestsOk_W0))
 (.seq
 (.region false [oK 2 .mv [.c (.b true)]] [9,10,11])
 .ret)))) }
/-- spec.l1In -/
def F_spec_l1In : LF :=
 { nparams := 3,results := [.t 6],body :=
 (.seq
 (.region false [oK 6 .mv [.c (.b false)]] [6])
 (.seq
 (.region false [oK 7 .mv [.t 0],
 oK 8 .mv [.t 1],
 oK 9 (.bin .geq) [.t 7,.t 8],
 oK 10 .mv [.t 9],
 oG 11 .mv [.t 0] 10 true,
 oG 12 .mv [.t 2] 10 true,
 oG 13 (.bin .leq) [.t 11,.t 12] 10 true,
 oK 14 .pick [.t 10,.t 13,.c (.b false)],
 oK 6 .mv [.t 14]] [0,1,2,7,8,9,10,11,12,13,14])
 .ret)) }
/-- spec.l1Power -/
def F_spec_l1Power_L0 : LC :=
 (.seq
 (.seq
 (.region false [oK 5 .mv [.t 4],
 oK 6 .mv [.t 0],
 oK 7 (.bin .lss) [.t 5,.t 6]] [5,6])
 (.cond (.t 7) [7]
 .skip
 (.exit 0)))
 (.seq
 (.block 1
 (.region false [oK 10 .mv [.t 3],
 oK 11 (.bin .mul) [.t 10,.c (.i 6)],
 oK 3 .mv [.t 11]] [10,11]))
 (.region false [oK 8 .mv [.t 4],
 oK 9 (.bin .add) [.t 8,.c (.i 1)],
 oK 4 .mv [.t 9]] [8,9])))
def F_spec_l1Power_W0 : LC := .loop F_spec_l1Power_L0
def F_spec_l1Power : LF :=
 { nparams := 1,results := [.t 2],body :=
 (.seq
 (.region false [oK 2 .mv [.c (.i 0)]] [2])
 (.seq
 (.region false [oK 3 .mv [.c (.i 1)]] [])
 (.seq
 (.seq
 (.region false [oK 4 .mv [.c (.i 0)]] [])
 (.block 0
 F_spec_l1Power_W0))
 (.seq
 (.region false [oK 12 .mv [.t 3],
 oK 2 .mv [.t 12]] [0,3,4,12])
 .ret)))) }
/-- spec.l10Best -/
def F_spec_l10Best_L1 : LC :=
 (.seq
 (.seq
 (.region false [oK 32 .mv [.t 15],
 oK 33 .mv [.t 0],
 oK 34 .len [.t 33],
 oK 35 (.bin .lss) [.t 32,.t 34]] [32,33,34])
 (.cond (.t 35) [35]
 .skip
 (.exit 2)))
 (.seq
 (.block 3
 (.seq
 (.region false [oK 38 .mv [.t 12],
 oK 39 .mv [.t 15],
 oK 40 (.bin .shr) [.t 38,.t 39],
 oK 41 (.bin .rem) [.t 40,.c (.i 2)],
 oK 42 (.bin .eql) [.t 41,.c (.i 1)]] [38,39,40,41])
 (.cond (.t 42) [42]
 (.seq
 (.region false [oK 43 .mv [.t 13],
 oK 44 .mv [.t 0],
 oK 45 .mv [.t 15],
 oK 46 (.idxa 2) [.t 44,.t 45],
 oK 47 (.fld 0 1 false) [.t 46],
 oK 48 (.load 1 false) [.t 47],
 oK 49 (.bin .add) [.t 43,.t 48],
 oK 13 .mv [.t 49]] [43,44,45,46,47,48,49])
 (.region false [oK 50 .mv [.t 14],
 oK 51 (.bin .quo) [.t 50,.c (.i 6)],
 oK 52 .mv [.t 0],
 oK 53 .mv [.t 15],
 oK 54 (.idxa 2) [.t 52,.t 53],
 oK 55 (.fld 1 1 false) [.t 54],
 oK 56 (.load 1 false) [.t 55],
 oK 57 (.bin .mul) [.t 51,.t 56],
 oK 14 .mv [.t 57]] [50,51,52,53,54,55,56,57]))
 .skip)))
 (.region false [oK 36 .mv [.t 15],
 oK 37 (.bin .add) [.t 36,.c (.i 1)],
 oK 15 .mv [.t 37]] [36,37])))
def F_spec_l10Best_W1 : LC := .loop F_spec_l10Best_L1
def F_spec_l10Best_L0 : LC :=
 (.seq
 (.seq
 (.region false [oK 20 .mv [.t 12],
 oK 21 .mv [.t 1],
 oK 22 (.bin .leq) [.t 20,.t 21]] [20,21])
 (.cond (.t 22) [22]
 .skip
 (.exit 0)))
 (.seq
 (.block 1
 (.seq
 (.seq
 (.region false [oK 25 .mv [.t 12],
 oK 26 .mv [.t 1],
 oK 27 (.bin .and) [.t 25,.t 26],
 oK 28 .mv [.t 12],
 oK 29 (.bin .neq) [.t 27,.t 28]] [25,26,27,28])
 (.cond (.t 29) [29]
 (.exit 1)
 .skip))
 (.seq
 (.region false [oK 30 .mv [.t 2],
 oK 13 .mv [.t 30]] [30])
 (.seq
 (.region false [oK 31 .mv [.t 3],
 oK 14 .mv [.t 31]] [31])
 (.seq
 (.seq
 (.region false [oK 15 .mv [.c (.i 0)]] [])
 (.block 2
 F_spec_l10Best_W1))
 (.seq
 (.region false [oK 59 .mv [.t 0],
 oK 60 .mv [.t 1],
 oK 61 .mv [.t 12],
 oK 62 (.bin .sub) [.t 60,.t 61],
 oK 63 .mv [.t 2],
 oK 64 .mv [.t 14],
 oK 65 (.call n_spec_l10Best 33280) [.t 59,.t 62,.t 63,.t 64],
 oK 58 .mv [.t 65],
 oK 66 (.ext 0) [.t 58],
 oK 67 (.ext 1) [.t 58],
 oK 16 .mv [.t 66],
 oK 17 .mv [.t 67]] [14,15,17,58,59,60,61,62,63,64,65,66,67])
 (.seq
 (.region false [oK 68 .mv [.t 10],
 oK 69 (.bin .lss) [.t 68,.c (.i 0)],
 oK 70 .mv [.t 69],
 oG 71 .mv [.t 13] 70 false,
 oG 72 .mv [.t 3] 70 false,
 oG 73 (.bin .mul) [.t 71,.t 72] 70 false,
 oG 74 .mv [.t 16] 70 false,
 oG 75 (.bin .add) [.t 73,.t 74] 70 false,
 oG 76 .mv [.t 10] 70 false,
 oG 77 (.bin .lss) [.t 75,.t 76] 70 false,
 oK 78 .pick [.t 70,.c (.b true),.t 77]] [68,69,70,71,72,73,74,75,76,77])
 (.cond (.t 78) [78]
 (.seq
 (.region false [oK 79 .mv [.t 13],
 oK 80 .mv [.t 3],
 oK 81 (.bin .mul) [.t 79,.t 80],
 oK 82 .mv [.t 16],
 oK 83 (.bin .add) [.t 81,.t 82],
 oK 10 .mv [.t 83]] [11,13,16,79,80,81,82,83])
 (.region false [oK 84 .mv [.t 12],
 oK 11 .mv [.t 84]] [84]))
 .skip))))))))
 (.region false [oK 23 .mv [.t 12],
 oK 24 (.bin .add) [.t 23,.c (.i 1)],
 oK 12 .mv [.t 24]] [13,16,23,24])))
def F_spec_l10Best_W0 : LC := .loop F_spec_l10Best_L0
def F_spec_l10Best : LF :=
 { nparams := 4,results := [.t 8,.t 9],body :=
 (.seq
 (.region false [oK 8 .mv [.c (.i 0)],
 oK 9 .mv [.c (.i 0)]] [8,9])
 (.seq
 (.seq
 (.region false [oK 18 .mv [.t 1],
 oK 19 (.bin .eql) [.t 18,.c (.i 0)]] [18])
 (.cond (.t 19) [19]
 (.seq
 (.region false [oK 8 .mv [.c (.i 0)],
 oK 9 .mv [.c (.i 0)]] [0,1,2,3])
 .ret)
 .skip))
 (.seq
 (.region false [oK 10 .mv [.c (.i (-1))]] [])
 (.seq
 (.region false [oK 11 .mv [.c (.i 0)]] [])
 (.seq
 (.seq
 (.region false [oK 12 .mv [.c (.i 1)]] [])
 (.block 0
 F_spec_l10Best_W0))
 (.seq
 (.region false [oK 85 .mv [.t 10],
 oK 86 .mv [.t 11],
 oK 8 .mv [.t 85],
 oK 9 .mv [.t 86]] [0,1,2,3,10,11,12,85,86])
 .ret)))))) }
/-- impl.feeOk -/
def F_impl_feeOk : LF :=
 { nparams := 1,results := [.t 2],body :=
 (.seq
 (.region false [oK 2 .mv [.c (.b false)]] [2])
 (.seq
 (.region false [oK 3 .mv [.t 0],
 oK 4 (.call n_impl_isWithin 2048) [.t 3,.c (.i 0),.c (.i 20)],
 oK 2 .mv [.t 4]] [0,3,4])
 .ret)) }
/-- impl.bestRoundsOf -/
def F_impl_bestRoundsOf_L0 : LC :=
 (.ghost (.rename 8 4104)
 (.seq
 (.seq
 (.region false [oK 14 .mv [.t 10],
 oK 15 .mv [.t 1],
 oK 16 (.bin .leq) [.t 14,.t 15]] [14,15])
 (.cond (.t 16) [16]
 .skip
 (.exit 0)))
 (.seq
 (.block 1
 (.seq
 (.seq
 (.region false [oK 19 .mv [.t 10],
 oK 20 .mv [.t 1],
 oK 21 (.bin .andNot) [.t 19,.t 20],
 oK 22 (.bin .neq) [.t 21,.c (.i 0)]] [19,20,21])
 (.cond (.t 22) [22]
 (.exit 1)
 .skip))
 (.seq
 (.region false [oK 24 .mv [.t 0],
 oK 25 .mv [.t 1],
 oK 26 .mv [.t 10],
 oK 27 (.bin .andNot) [.t 25,.t 26],
 oK 28 .mv [.t 2],
 oK 29 (.call n_impl_bestRoundsOf 14848) [.t 24,.t 27,.t 28],
 oK 23 .mv [.t 29],
 oK 30 (.ext 0) [.t 23],
 oK 31 (.ext 1) [.t 23],
 oK 11 .mv [.t 30],
 oK 12 .mv [.t 31]] [23,24,25,26,27,28,29,30,31])
 (.seq
 (.region false [oK 32 .mv [.t 0],
 oK 33 .mv [.t 10],
 oK 34 .mv [.t 2],
 oK 35 .mv [.t 1],
 oK 36 (.call n_impl_sizeOf 18432) [.t 35],
 oK 37 .mv [.t 12],
 oK 38 (.call n_impl_averageOfRound 19456) [.t 32,.t 33,.t 34,.t 36,.t 37],
 oK 13 .mv [.t 38]] [12,32,33,34,35,36,37,38])
 (.seq
 (.region false [oK 39 .mv [.t 8],
 oK 40 (.eqn false) [.t 39],
 oK 41 .mv [.t 40],
 oG 42 .mv [.t 13] 41 false,
 oG 43 .mv [.t 9] 41 false,
 oG 44 (.bin .lss) [.t 42,.t 43] 41 false,
 oK 45 .pick [.t 41,.c (.b true),.t 44]] [39,40,41,42,43,44])
 (.cond (.t 45) [45]
 (.region false [oK 46 .mv [.t 10],
 oK 47 (.bslice 24072 1 1 (.i 0) [0]) [.t 46],
 oK 48 .mv [.t 11],
 oK 49 (.app 25096 1) [.t 47,.t 48],
 oK 50 .mv [.t 13],
 oK 8 .mv [.t 49],
 oK 9 .mv [.t 50]] [11,13,46,47,48,49,50])
 .skip))))))
 (.region false [oK 17 .mv [.t 10],
 oK 18 (.bin .add) [.t 17,.c (.i 1)],
 oK 10 .mv [.t 18]] [11,13,17,18]))))
def F_impl_bestRoundsOf_W0 : LC := .loop F_impl_bestRoundsOf_L0
def F_impl_bestRoundsOf : LF :=
 { nparams := 3,results := [.t 6,.t 7],body :=
 (.seq
 (.region false [oK 6 (.newnil 3080) [],
 oK 7 .mv [.c (.i 0)]] [6,7])
 (.seq
 (.region false [oK 8 .mv [.c (.nil)]] [])
 (.seq
 (.region false [oK 9 .mv [.c (.i 0)]] [])
 (.seq
 (.seq
 (.region false [oK 10 .mv [.c (.i 1)]] [])
 (.block 0
 F_impl_bestRoundsOf_W0))
 (.seq
 (.region false [oK 51 .mv [.t 8],
 oK 52 .mv [.t 9],
 oK 6 .mv [.t 51],
 oK 7 .mv [.t 52]] [0,1,2,8,9,10,51,52])
 .ret))))) }
/-- impl.allOf -/
def F_impl_allOf : LF :=
 { nparams := 1,results := [.t 2],body :=
 (.seq
 (.region false [oK 2 .mv [.c (.i 0)]] [2])
 (.seq
 (.region false [oK 3 .mv [.t 0],
 oK 4 .len [.t 3],
 oK 5 (.call n_impl_statesOf 2560) [.t 4],
 oK 6 (.bin .sub) [.t 5,.c (.i 1)],
 oK 2 .mv [.t 6]] [0,3,4,5,6])
 .ret)) }
/-- impl.rowOf -/
def F_impl_rowOf_L0 : LC :=
 (.seq
 (.region false [oK 6 (.bin .lss) [.t 5,.c (.i 5)]] [])
 (.seq
 (.cond (.t 6) [6]
 .skip
 (.exit 0))
 (.seq
 (.block 1
 (.seq
 (.region false [oK 7 .mv [.t 5],
 oK 4 .mv [.t 7]] [7])
 (.seq
 (.region false [oK 8 .mv [.t 0],
 oK 9 .mv [.t 4],
 oK 10 (.call n_impl_hasTest 5120) [.t 8,.t 9]] [8,9])
 (.cond (.t 10) [10]
 (.region false [oK 11 .mv [.t 3],
 oK 12 .mv [.t 4],
 oK 13 (.bslice 6664 1 1 (.i 0) [0]) [.t 12],
 oK 14 (.app 7176 1) [.t 11,.t 13],
 oK 3 .mv [.t 14]] [4,11,12,13,14])
 .skip))))
 (.region false [oK 15 (.bin .add) [.t 5,.c (.i 1)],
 oK 5 .mv [.t 15]] [4,15]))))
def F_impl_rowOf_W0 : LC := .loop F_impl_rowOf_L0
def F_impl_rowOf : LF :=
 { nparams := 1,results := [.t 2],body :=
 (.seq
 (.region false [oK 2 (.newnil 1032) []] [2])
 (.seq
 (.region false [oK 3 (.newnil 1544) []] [])
 (.seq
 (.seq
 (.region false [oK 5 .mv [.c (.i 0)]] [])
 (.block 0
 F_impl_rowOf_W0))
 (.seq
 (.region false [oK 16 .mv [.t 3],
 oK 2 .mv [.t 16]] [0,3,5,16])
 .ret)))) }
/-- impl.isWithin -/
def F_impl_isWithin : LF :=
 { nparams := 3,results := [.t 6],body :=
 (.seq
 (.region false [oK 6 .mv [.c (.b false)]] [6])
 (.seq
 (.region false [oK 7 .mv [.t 1],
 oK 8 .mv [.t 0],
 oK 9 (.bin .leq) [.t 7,.t 8],
 oK 10 .mv [.t 9],
 oG 11 .mv [.t 0] 10 true,
 oG 12 .mv [.t 2] 10 true,
 oG 13 (.bin .leq) [.t 11,.t 12] 10 true,
 oK 14 .pick [.t 10,.t 13,.c (.b false)],
 oK 6 .mv [.t 14]] [0,1,2,7,8,9,10,11,12,13,14])
 .ret)) }
/-- impl.manyOk -/
def F_impl_manyOk : LF :=
 { nparams := 1,results := [.t 2],body :=
 (.seq
 (.region false [oK 2 .mv [.c (.b false)]] [2])
 (.seq
 (.region false [oK 3 .mv [.t 0],
 oK 4 (.call n_impl_isWithin 2048) [.t 3,.c (.i 1),.c (.i 5)],
 oK 2 .mv [.t 4]] [0,3,4])
 .ret)) }
/-- impl.averageOfRound -/
def F_impl_averageOfRound_L0 : LC :=
 (.seq
 (.region false [oK 19 (.bin .lss) [.t 18,.t 17]] [])
 (.seq
 (.cond (.t 19) [19]
 .skip
 (.exit 0))
 (.seq
 (.block 1
 (.seq
 (.region false [oK 20 .mv [.t 18],
 oK 21 (.idxa 2) [.t 16,.t 18],
 oK 22 (.load 2 true) [.t 21],
 oK 14 (.alloc 7184 (.st [.i 0,.i 0])) [],
 oK 13 .mv [.t 20],
 ⟨none,.store 2,[.t 14,.t 22],none⟩] [20,21,22])
 (.seq
 (.region false [oK 23 .mv [.t 1],
 oK 24 .mv [.t 13],
 oK 25 (.call n_impl_hasTest 12800) [.t 23,.t 24]] [13,23,24])
 (.cond (.t 25) [25]
 (.seq
 (.region false [oK 26 .mv [.t 11],
 oK 27 (.fld 0 1 false) [.t 14],
 oK 28 (.load 1 false) [.t 27],
 oK 29 (.bin .add) [.t 26,.t 28],
 oK 11 .mv [.t 29]] [26,27,28,29])
 (.region false [oK 30 .mv [.t 12],
 oK 31 (.fld 1 1 false) [.t 14],
 oK 32 (.load 1 false) [.t 31],
 oK 33 (.bin .mul) [.t 30,.t 32],
 oK 12 .mv [.t 33]] [14,30,31,32,33]))
 .skip))))
 (.region false [oK 34 (.bin .add) [.t 18,.c (.i 1)],
 oK 18 .mv [.t 34]] [14,34]))))
def F_impl_averageOfRound_W0 : LC := .loop F_impl_averageOfRound_L0
def F_impl_averageOfRound : LF :=
 { nparams := 5,results := [.t 10],body :=
 (.seq
 (.region false [oK 10 .mv [.c (.i 0)]] [10])
 (.seq
 (.region false [oK 15 .mv [.t 2],
 oK 11 .mv [.t 15],
 oK 12 .mv [.c (.i 1)]] [2,15])
 (.seq
 (.seq
 (.region false [oK 16 .mv [.t 0],
 oK 17 .len [.t 16],
 oK 18 .mv [.c (.i 0)]] [0])
 (.block 0
 F_impl_averageOfRound_W0))
 (.seq
 (.region false [oK 35 .mv [.t 11],
 oK 36 .mv [.t 3],
 oK 37 (.call n_impl_wholeOf 18944) [.t 36],
 oK 38 (.bin .mul) [.t 35,.t 37],
 oK 39 .mv [.t 12],
 oK 40 .mv [.t 4],
 oK 41 (.bin .mul) [.t 39,.t 40],
 oK 42 (.bin .add) [.t 38,.t 41],
 oK 10 .mv [.t 42]] [1,3,4,11,12,16,17,18,35,36,37,38,39,40,41,42])
 .ret)))) }
/-- impl.sizeOf -/
def F_impl_sizeOf : LF :=
 { nparams := 1,results := [.t 2],body :=
 (.seq
 (.region false [oK 2 .mv [.c (.i 0)]] [2])
 (.seq
 (.region false [oK 3 .mv [.t 0],
 oK 4 (.conv .i2q 2048) [.t 3],
 oK 5 (.call n_math_bits_OnesCount 2560) [.t 4],
 oK 2 .mv [.t 5]] [0,3,4,5])
 .ret)) }
/-- impl.statesOf -/
def F_impl_statesOf : LF :=
 { nparams := 1,results := [.t 2],body :=
 (.seq
 (.region false [oK 2 .mv [.c (.i 0)]] [2])
 (.seq
 (.region false [oK 3 .mv [.t 0],
 oK 4 (.bin .shl) [.c (.i 1),.t 3],
 oK 2 .mv [.t 4]] [0,3,4])
 .ret)) }
/-- impl.hasTest -/
def F_impl_hasTest : LF :=
 { nparams := 2,results := [.t 4],body :=
 (.seq
 (.region false [oK 4 .mv [.c (.b false)]] [4])
 (.seq
 (.region false [oK 5 .mv [.t 0],
 oK 6 .mv [.t 1],
 oK 7 (.bin .shr) [.t 5,.t 6],
 oK 8 (.bin .and) [.t 7,.c (.i 1)],
 oK 9 (.bin .eql) [.t 8,.c (.i 1)],
 oK 4 .mv [.t 9]] [0,1,5,6,7,8,9])
 .ret)) }
/-- impl.wholeOf -/
def F_impl_wholeOf_L0 : LC :=
 (.seq
 (.region false [oK 6 (.bin .lss) [.t 5,.t 4]] [])
 (.seq
 (.cond (.t 6) [6]
 .skip
 (.exit 0))
 (.seq
 (.block 1
 (.region false [oK 7 .mv [.t 3],
 oK 8 (.bin .mul) [.t 7,.c (.i 6)],
 oK 3 .mv [.t 8]] [7,8]))
 (.region false [oK 9 (.bin .add) [.t 5,.c (.i 1)],
 oK 5 .mv [.t 9]] [9]))))
def F_impl_wholeOf_W0 : LC := .loop F_impl_wholeOf_L0
def F_impl_wholeOf : LF :=
 { nparams := 1,results := [.t 2],body :=
 (.seq
 (.region false [oK 2 .mv [.c (.i 0)]] [2])
 (.seq
 (.region false [oK 3 .mv [.c (.i 1)]] [])
 (.seq
 (.seq
 (.region false [oK 4 .mv [.t 0],
 oK 5 .mv [.c (.i 0)]] [0])
 (.block 0
 F_impl_wholeOf_W0))
 (.seq
 (.region false [oK 10 .mv [.t 3],
 oK 2 .mv [.t 10]] [3,4,5,10])
 .ret)))) }
/-- bits.OnesCount -/
def F_math_bits_OnesCount : LF :=
 { nparams := 1,results := [.t 2],body :=
 (.seq
 (.region false [oK 2 .mv [.c (.i 0)]] [2])
 (.seq
 (.cond (.c (.b false)) []
 (.seq
 .void
 .ret)
 .skip)
 (.seq
 (.region false [oK 6 .mv [.t 0],
 oK 7 (.call n_math_bits_OnesCount64 3584) [.t 6],
 oK 2 .mv [.t 7]] [0,6,7])
 .ret))) }
/-- bits.OnesCount64 -/
def F_math_bits_OnesCount64 : LF :=
 { nparams := 1,results := [.t 2],body :=
 (.seq
 (.region false [oK 2 .mv [.c (.i 0)]] [2])
 (.seq
 (.region false [oK 3 .mv [.t 0],
 oK 4 (.bin .shr) [.t 3,.c (.q 1)],
 oK 5 (.bin .and) [.t 4,.c (.q 6148914691236517205)],
 oK 6 .mv [.t 0],
 oK 7 (.bin .and) [.t 6,.c (.q 6148914691236517205)],
 oK 8 (.bin .add) [.t 5,.t 7],
 oK 0 .mv [.t 8]] [3,4,5,6,7,8])
 (.seq
 (.region false [oK 9 .mv [.t 0],
 oK 10 (.bin .shr) [.t 9,.c (.q 2)],
 oK 11 (.bin .and) [.t 10,.c (.q 3689348814741910323)],
 oK 12 .mv [.t 0],
 oK 13 (.bin .and) [.t 12,.c (.q 3689348814741910323)],
 oK 14 (.bin .add) [.t 11,.t 13],
 oK 0 .mv [.t 14]] [9,10,11,12,13,14])
 (.seq
 (.region false [oK 15 .mv [.t 0],
 oK 16 (.bin .shr) [.t 15,.c (.q 4)],
 oK 17 .mv [.t 0],
 oK 18 (.bin .add) [.t 16,.t 17],
 oK 19 (.bin .and) [.t 18,.c (.q 1085102592571150095)],
 oK 0 .mv [.t 19]] [15,16,17,18,19])
 (.seq
 (.region false [oK 20 .mv [.t 0],
 oK 21 .mv [.t 0],
 oK 22 (.bin .shr) [.t 21,.c (.q 8)],
 oK 23 (.bin .add) [.t 20,.t 22],
 oK 0 .mv [.t 23]] [20,21,22,23])
 (.seq
 (.region false [oK 24 .mv [.t 0],
 oK 25 .mv [.t 0],
 oK 26 (.bin .shr) [.t 25,.c (.q 16)],
 oK 27 (.bin .add) [.t 24,.t 26],
 oK 0 .mv [.t 27]] [24,25,26,27])
 (.seq
 (.region false [oK 28 .mv [.t 0],
 oK 29 .mv [.t 0],
 oK 30 (.bin .shr) [.t 29,.c (.q 32)],
 oK 31 (.bin .add) [.t 28,.t 30],
 oK 0 .mv [.t 31]] [28,29,30,31])
 (.seq
 (.region false [oK 32 .mv [.t 0],
 oK 33 (.conv .q2i 16896) [.t 32],
 oK 34 (.bin .and) [.t 33,.c (.i 127)],
 oK 2 .mv [.t 34]] [0,32,33,34])
 .ret)))))))) }
def lf : Nat → Option LF
 | 6 => some F_laws_FnExactBestRounds
 | 13 => some F_laws_eqIntSS
 | 14 => some F_laws_markIntSS
 | 17 => some F_laws_szTestS
 | 19 => some F_laws_toTestS
 | 21 => some F_laws_eqTestS
 | 22 => some F_laws_markTestS
 | 23 => some F_laws_heldIntSS
 | 26 => some F_laws_eqIntS
 | 27 => some F_laws_markIntS
 | 28 => some F_laws_heldIntS
 | 29 => some F_spec_BestRounds
 | 30 => some F_impl_BestRounds
 | 38 => some F_spec_TestsOk
 | 41 => some F_laws_toTest
 | 43 => some F_laws_eqTest
 | 45 => some F_impl_TestsOk
 | 48 => some F_spec_l1In
 | 49 => some F_spec_l1Power
 | 50 => some F_spec_l10Best
 | 51 => some F_impl_feeOk
 | 52 => some F_impl_bestRoundsOf
 | 53 => some F_impl_allOf
 | 54 => some F_impl_rowOf
 | 55 => some F_impl_isWithin
 | 57 => some F_impl_manyOk
 | 65 => some F_impl_averageOfRound
 | 66 => some F_impl_sizeOf
 | 67 => some F_impl_statesOf
 | 68 => some F_impl_hasTest
 | 74 => some F_impl_wholeOf
 | 75 => some F_math_bits_OnesCount
 | 87 => some F_math_bits_OnesCount64
 | _ => none
theorem w_laws_eqIntSS_0 (S : LS) : ex lf F_laws_eqIntSS_W0 S = match ex lf F_laws_eqIntSS_L0 S with | some (.normal,S1) => ex lf F_laws_eqIntSS_W0 S1 | r => r := ex_loop lf F_laws_eqIntSS_L0 S
theorem w_laws_markIntSS_0 (S : LS) : ex lf F_laws_markIntSS_W0 S = match ex lf F_laws_markIntSS_L0 S with | some (.normal,S1) => ex lf F_laws_markIntSS_W0 S1 | r => r := ex_loop lf F_laws_markIntSS_L0 S
theorem w_laws_toTestS_0 (S : LS) : ex lf F_laws_toTestS_W0 S = match ex lf F_laws_toTestS_L0 S with | some (.normal,S1) => ex lf F_laws_toTestS_W0 S1 | r => r := ex_loop lf F_laws_toTestS_L0 S
theorem w_laws_eqTestS_0 (S : LS) : ex lf F_laws_eqTestS_W0 S = match ex lf F_laws_eqTestS_L0 S with | some (.normal,S1) => ex lf F_laws_eqTestS_W0 S1 | r => r := ex_loop lf F_laws_eqTestS_L0 S
theorem w_laws_markTestS_0 (S : LS) : ex lf F_laws_markTestS_W0 S = match ex lf F_laws_markTestS_L0 S with | some (.normal,S1) => ex lf F_laws_markTestS_W0 S1 | r => r := ex_loop lf F_laws_markTestS_L0 S
theorem w_laws_heldIntSS_0 (S : LS) : ex lf F_laws_heldIntSS_W0 S = match ex lf F_laws_heldIntSS_L0 S with | some (.normal,S1) => ex lf F_laws_heldIntSS_W0 S1 | r => r := ex_loop lf F_laws_heldIntSS_L0 S
theorem w_laws_eqIntS_0 (S : LS) : ex lf F_laws_eqIntS_W0 S = match ex lf F_laws_eqIntS_L0 S with | some (.normal,S1) => ex lf F_laws_eqIntS_W0 S1 | r => r := ex_loop lf F_laws_eqIntS_L0 S
theorem w_laws_markIntS_0 (S : LS) : ex lf F_laws_markIntS_W0 S = match ex lf F_laws_markIntS_L0 S with | some (.normal,S1) => ex lf F_laws_markIntS_W0 S1 | r => r := ex_loop lf F_laws_markIntS_L0 S
theorem w_laws_heldIntS_0 (S : LS) : ex lf F_laws_heldIntS_W0 S = match ex lf F_laws_heldIntS_L0 S with | some (.normal,S1) => ex lf F_laws_heldIntS_W0 S1 | r => r := ex_loop lf F_laws_heldIntS_L0 S
theorem w_spec_BestRounds_1 (S : LS) : ex lf F_spec_BestRounds_W1 S = match ex lf F_spec_BestRounds_L1 S with | some (.normal,S1) => ex lf F_spec_BestRounds_W1 S1 | r => r := ex_loop lf F_spec_BestRounds_L1 S
theorem w_spec_BestRounds_0 (S : LS) : ex lf F_spec_BestRounds_W0 S = match ex lf F_spec_BestRounds_L0 S with | some (.normal,S1) => ex lf F_spec_BestRounds_W0 S1 | r => r := ex_loop lf F_spec_BestRounds_L0 S
theorem w_impl_BestRounds_0 (S : LS) : ex lf F_impl_BestRounds_W0 S = match ex lf F_impl_BestRounds_L0 S with | some (.normal,S1) => ex lf F_impl_BestRounds_W0 S1 | r => r := ex_loop lf F_impl_BestRounds_L0 S
theorem w_spec_TestsOk_0 (S : LS) : ex lf F_spec_TestsOk_W0 S = match ex lf F_spec_TestsOk_L0 S with | some (.normal,S1) => ex lf F_spec_TestsOk_W0 S1 | r => r := ex_loop lf F_spec_TestsOk_L0 S
theorem w_impl_TestsOk_0 (S : LS) : ex lf F_impl_TestsOk_W0 S = match ex lf F_impl_TestsOk_L0 S with | some (.normal,S1) => ex lf F_impl_TestsOk_W0 S1 | r => r := ex_loop lf F_impl_TestsOk_L0 S
theorem w_spec_l1Power_0 (S : LS) : ex lf F_spec_l1Power_W0 S = match ex lf F_spec_l1Power_L0 S with | some (.normal,S1) => ex lf F_spec_l1Power_W0 S1 | r => r := ex_loop lf F_spec_l1Power_L0 S
theorem w_spec_l10Best_1 (S : LS) : ex lf F_spec_l10Best_W1 S = match ex lf F_spec_l10Best_L1 S with | some (.normal,S1) => ex lf F_spec_l10Best_W1 S1 | r => r := ex_loop lf F_spec_l10Best_L1 S
theorem w_spec_l10Best_0 (S : LS) : ex lf F_spec_l10Best_W0 S = match ex lf F_spec_l10Best_L0 S with | some (.normal,S1) => ex lf F_spec_l10Best_W0 S1 | r => r := ex_loop lf F_spec_l10Best_L0 S
theorem w_impl_bestRoundsOf_0 (S : LS) : ex lf F_impl_bestRoundsOf_W0 S = match ex lf F_impl_bestRoundsOf_L0 S with | some (.normal,S1) => ex lf F_impl_bestRoundsOf_W0 S1 | r => r := ex_loop lf F_impl_bestRoundsOf_L0 S
theorem w_impl_rowOf_0 (S : LS) : ex lf F_impl_rowOf_W0 S = match ex lf F_impl_rowOf_L0 S with | some (.normal,S1) => ex lf F_impl_rowOf_W0 S1 | r => r := ex_loop lf F_impl_rowOf_L0 S
theorem w_impl_averageOfRound_0 (S : LS) : ex lf F_impl_averageOfRound_W0 S = match ex lf F_impl_averageOfRound_L0 S with | some (.normal,S1) => ex lf F_impl_averageOfRound_W0 S1 | r => r := ex_loop lf F_impl_averageOfRound_L0 S
theorem w_impl_wholeOf_0 (S : LS) : ex lf F_impl_wholeOf_W0 S = match ex lf F_impl_wholeOf_L0 S with | some (.normal,S1) => ex lf F_impl_wholeOf_W0 S1 | r => r := ex_loop lf F_impl_wholeOf_L0 S
end Zz
