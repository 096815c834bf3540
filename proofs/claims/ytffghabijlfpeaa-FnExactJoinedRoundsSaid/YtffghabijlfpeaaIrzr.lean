/- The functions of the program, read as data. No conditions. -/
import Derived.Test.YtffghabijlfpeaaLgC
set_option linter.unusedSectionVars false
set_option linter.unusedVariables false
set_option linter.unusedSimpArgs false
namespace Zz
open Go.Lg
abbrev oK (d : Nat) (k : K) (a : List Opd) : LOp := ⟨some d, k, a, none⟩
abbrev oG (d : Nat) (k : K) (a : List Opd) (t : Nat) (b : Bool) : LOp := ⟨some d, k, a, some (t, b)⟩
def n_laws_FnExactJoinedRounds : Nat := 7
def n_laws_szIntSS : Nat := 8
def n_laws_toIntSS : Nat := 10
def n_laws_eqIntSS : Nat := 13
def n_laws_markIntSS : Nat := 14
def n_laws_heldIntSS : Nat := 23
def n_laws_eqIntS : Nat := 26
def n_laws_markIntS : Nat := 27
def n_laws_heldIntS : Nat := 28
def n_spec_JoinedRounds : Nat := 31
def n_impl_JoinedRounds : Nat := 32
def n_laws_szIntS : Nat := 33
def n_spec_GroupsOk : Nat := 34
def n_laws_toIntS : Nat := 35
def n_impl_GroupsOk : Nat := 36
def n_spec_l1In : Nat := 48
def n_impl_isWithin : Nat := 55
def n_slices_Clone_int_int : Nat := 56
def n_impl_manyOk : Nat := 57
def n_impl_OrderOk : Nat := 58
def n_impl_hasTest : Nat := 68
def bkFs : List Nat := []
instance : GL := ⟨[],[14,15,22,27],["l4_orders.go:82","l10_rounds.go:90"],[],[(61,[0]),(69,[0,2]),(81,[0]),(89,[0,2])],[],["l20_draw.go:447"],bkFs⟩
/-- laws.FnExactJoinedRounds -/
def F_laws_FnExactJoinedRounds : LF :=
 { nparams := 3,results := [.t 6],body :=
 (.seq
 (.region false [oK 6 .mv [.c (.b false)]] [6])
 (.seq
 (.region false [oK 7 .mv [.c (.i 1048576)]] [])
 (.seq
 (.region false [oK 18 .mv [.t 1],
 oK 19 .mv [.t 7],
 oK 20 (.call n_laws_szIntSS 10240) [.t 18,.t 19],
 oK 7 .mv [.t 20]] [18,19,20])
 (.seq
 (.seq
 (.region false [oK 21 .mv [.t 7],
 oK 22 (.bin .lss) [.t 21,.c (.i 0)]] [7,21])
 (.cond (.t 22) [22]
 (.seq
 (.region false [oK 6 .mv [.c (.b true)]] [0,1,2])
 .ret)
 .skip))
 (.seq
 (.region false [oK 24 .mv [.t 0],
 oK 25 .mv [.t 1],
 oK 26 (.call n_laws_toIntSS 13312) [.t 25],
 oK 27 .mv [.t 2],
 oK 28 (.call n_spec_JoinedRounds 14336) [.t 24,.t 26,.t 27],
 oK 23 .mv [.t 28],
 oK 29 (.ext 0) [.t 23],
 oK 30 (.ext 1) [.t 23],
 oK 8 .mv [.t 29],
 oK 9 .mv [.t 30]] [23,24,25,26,27,28,29,30])
 (.seq
 (.region false [oK 31 .mv [.t 1],
 oK 32 (.call n_laws_toIntSS 16384) [.t 31],
 oK 10 .mv [.t 32]] [31,32])
 (.seq
 (.region false [oK 34 .mv [.t 0],
 oK 35 .mv [.t 10],
 oK 36 .mv [.t 2],
 oK 37 (.call n_impl_JoinedRounds 18944) [.t 34,.t 35,.t 36],
 oK 33 .mv [.t 37],
 oK 38 (.ext 0) [.t 33],
 oK 39 (.ext 1) [.t 33],
 oK 11 .mv [.t 38],
 oK 12 .mv [.t 39]] [33,34,35,36,37,38,39])
 (.seq
 (.seq
 (.region false [oK 40 .mv [.t 11],
 oK 41 .mv [.t 8],
 oK 42 (.call n_laws_eqIntSS 21504) [.t 40,.t 41],
 oK 43 (.un .not) [.t 42],
 oK 44 .mv [.t 43],
 oG 45 .mv [.t 12] 44 false,
 oG 46 .mv [.t 9] 44 false,
 oG 47 (.eqb true) [.t 45,.t 46] 44 false,
 oK 48 .pick [.t 44,.c (.b true),.t 47]] [40,41,42,43,44,45,46,47])
 (.cond (.t 48) [48]
 (.seq
 (.region false [oK 6 .mv [.c (.b false)]] [0,1,2,8,9,10,11,12])
 .ret)
 .skip))
 (.seq
 (.seq
 (.region false [oK 49 .mv [.t 10],
 oK 50 .mv [.t 1],
 oK 51 (.call n_laws_toIntSS 26112) [.t 50],
 oK 52 (.call n_laws_eqIntSS 26624) [.t 49,.t 51],
 oK 53 (.un .not) [.t 52]] [49,50,51,52])
 (.cond (.t 53) [53]
 (.seq
 (.region false [oK 6 .mv [.c (.b false)]] [0,1,2,8,9,10,11,12])
 .ret)
 .skip))
 (.seq
 (.region false [oK 13 .mv [.c (.i 1)]] [])
 (.seq
 (.region false [oK 54 .mv [.t 10],
 oK 55 .mv [.t 13],
 oK 56 (.call n_laws_markIntSS 28676) [.t 54,.t 55],
 oK 13 .mv [.t 56]] [10,54,55,56])
 (.seq
 (.seq
 (.region false [oK 57 .mv [.t 13],
 oK 58 (.bin .lss) [.t 57,.c (.i 0)],
 oK 59 .mv [.t 58],
 oG 60 .mv [.t 11] 59 false,
 oG 61 .mv [.t 8] 59 false,
 oG 62 (.call n_laws_eqIntSS 31744) [.t 60,.t 61] 59 false,
 oG 63 (.un .not) [.t 62] 59 false,
 oK 64 .pick [.t 59,.c (.b true),.t 63],
 oK 65 .mv [.t 64],
 oG 66 .mv [.t 12] 65 false,
 oG 67 .mv [.t 9] 65 false,
 oG 68 (.eqb true) [.t 66,.t 67] 65 false,
 oK 69 .pick [.t 65,.c (.b true),.t 68]] [12,13,57,58,59,60,61,62,63,64,65,66,67,68])
 (.cond (.t 69) [69]
 (.seq
 (.region false [oK 6 .mv [.c (.b false)]] [0,1,2,8,9,11])
 .ret)
 .skip))
 (.seq
 (.region false [oK 14 .mv [.c (.i 1)]] [])
 (.seq
 (.region false [oK 70 .mv [.t 11],
 oK 71 .mv [.t 14],
 oK 72 (.call n_laws_markIntSS 36868) [.t 70,.t 71],
 oK 14 .mv [.t 72]] [70,71,72])
 (.seq
 (.region false [oK 15 .mv [.c (.i 1)]] [])
 (.seq
 (.region false [oK 73 .mv [.t 11],
 oK 74 .mv [.t 15],
 oK 75 (.call n_laws_heldIntSS 38400) [.t 73,.t 74],
 oK 15 .mv [.t 75]] [73,74,75])
 (.seq
 (.seq
 (.region false [oK 76 .mv [.t 15],
 oK 77 (.bin .lss) [.t 76,.c (.i 0)]] [76])
 (.cond (.t 77) [77]
 (.seq
 (.region false [oK 6 .mv [.c (.b false)]] [0,1,2,8,9,11,14,15])
 .ret)
 .skip))
 (.seq
 (.seq
 (.region false [oK 78 .mv [.t 15],
 oK 79 .mv [.t 14],
 oK 80 (.bin .neq) [.t 78,.t 79]] [15,78,79])
 (.cond (.t 80) [80]
 (.seq
 (.region false [oK 6 .mv [.c (.b false)]] [0,1,2,8,9,11,14])
 .ret)
 .skip))
 (.seq
 (.region false [oK 82 .mv [.t 0],
 oK 83 .mv [.t 1],
 oK 84 (.call n_laws_toIntSS 43008) [.t 83],
 oK 85 .mv [.t 2],
 oK 86 (.call n_impl_JoinedRounds 44032) [.t 82,.t 84,.t 85],
 oK 81 .mv [.t 86],
 oK 87 (.ext 0) [.t 81],
 oK 88 (.ext 1) [.t 81],
 oK 16 .mv [.t 87],
 oK 17 .mv [.t 88]] [0,1,2,81,82,83,84,85,86,87,88])
 (.seq
 (.seq
 (.region false [oK 89 .mv [.t 16],
 oK 90 .mv [.t 8],
 oK 91 (.call n_laws_eqIntSS 46592) [.t 89,.t 90],
 oK 92 (.un .not) [.t 91],
 oK 93 .mv [.t 92],
 oG 94 .mv [.t 17] 93 false,
 oG 95 .mv [.t 9] 93 false,
 oG 96 (.eqb true) [.t 94,.t 95] 93 false,
 oK 97 .pick [.t 93,.c (.b true),.t 96]] [8,9,16,17,89,90,91,92,93,94,95,96])
 (.cond (.t 97) [97]
 (.seq
 (.region false [oK 6 .mv [.c (.b false)]] [11,14])
 .ret)
 .skip))
 (.seq
 (.region false [oK 15 .mv [.c (.i 1)]] [])
 (.seq
 (.region false [oK 98 .mv [.t 11],
 oK 99 .mv [.t 15],
 oK 100 (.call n_laws_heldIntSS 51200) [.t 98,.t 99],
 oK 15 .mv [.t 100]] [11,98,99,100])
 (.seq
 (.seq
 (.region false [oK 101 .mv [.t 15],
 oK 102 (.bin .lss) [.t 101,.c (.i 0)]] [101])
 (.cond (.t 102) [102]
 (.seq
 (.region false [oK 6 .mv [.c (.b false)]] [14,15])
 .ret)
 .skip))
 (.seq
 (.seq
 (.region false [oK 103 .mv [.t 15],
 oK 104 .mv [.t 14],
 oK 105 (.bin .neq) [.t 103,.t 104]] [14,15,103,104])
 (.cond (.t 105) [105]
 (.seq
 (.region false [oK 6 .mv [.c (.b false)]] [])
 .ret)
 .skip))
 (.seq
 (.region false [oK 6 .mv [.c (.b true)]] [])
 .ret))))))))))))))))))))))))) }
/-- laws.szIntSS -/
def F_laws_szIntSS_L0 : LC :=
 (.seq
 (.seq
 (.region false [oK 12 .mv [.t 5],
 oK 13 .mv [.t 0],
 oK 14 .len [.t 13],
 oK 15 (.bin .lss) [.t 12,.t 14]] [12,13,14])
 (.cond (.t 15) [15]
 .skip
 (.exit 0)))
 (.seq
 (.block 1
 (.seq
 (.region false [oK 18 .mv [.t 0],
 oK 19 .mv [.t 5],
 oK 20 (.idxa 1) [.t 18,.t 19],
 oK 21 (.load 1 false) [.t 20],
 oK 22 .mv [.t 1],
 oK 23 (.call n_laws_szIntS 11776) [.t 21,.t 22],
 oK 1 .mv [.t 23]] [18,19,20,21,22,23])
 (.seq
 (.region false [oK 24 .mv [.t 1],
 oK 25 (.bin .lss) [.t 24,.c (.i 0)]] [24])
 (.cond (.t 25) [25]
 (.seq
 (.region false [oK 4 .mv [.c (.i (-1))]] [0,1,5])
 .ret)
 .skip))))
 (.region false [oK 16 .mv [.t 5],
 oK 17 (.bin .add) [.t 16,.c (.i 1)],
 oK 5 .mv [.t 17]] [16,17])))
def F_laws_szIntSS_W0 : LC := .loop F_laws_szIntSS_L0
def F_laws_szIntSS : LF :=
 { nparams := 2,results := [.t 4],body :=
 (.seq
 (.region false [oK 4 .mv [.c (.i 0)]] [4])
 (.seq
 (.region false [oK 6 .mv [.t 1],
 oK 7 .mv [.t 0],
 oK 8 .len [.t 7],
 oK 9 (.bin .sub) [.t 6,.t 8],
 oK 1 .mv [.t 9]] [6,7,8,9])
 (.seq
 (.seq
 (.region false [oK 10 .mv [.t 1],
 oK 11 (.bin .lss) [.t 10,.c (.i 0)]] [10])
 (.cond (.t 11) [11]
 (.seq
 (.region false [oK 4 .mv [.c (.i (-1))]] [0,1])
 .ret)
 .skip))
 (.seq
 (.seq
 (.region false [oK 5 .mv [.c (.i 0)]] [])
 (.block 0
 F_laws_szIntSS_W0))
 (.seq
 (.region false [oK 26 .mv [.t 1],
 oK 4 .mv [.t 26]] [0,1,5,26])
 .ret))))) }
/-- laws.toIntSS -/
def F_laws_toIntSS_L0 : LC :=
 (.seq
 (.seq
 (.region false [oK 8 .mv [.t 4],
 oK 9 .mv [.t 0],
 oK 10 .len [.t 9],
 oK 11 (.bin .lss) [.t 8,.t 10]] [8,9,10])
 (.cond (.t 11) [11]
 .skip
 (.exit 0)))
 (.seq
 (.block 1
 (.region false [oK 14 .mv [.t 3],
 oK 15 .mv [.t 4],
 oK 16 .mv [.t 0],
 oK 17 .mv [.t 4],
 oK 18 (.idxa 1) [.t 16,.t 17],
 oK 19 (.load 1 false) [.t 18],
 oK 20 (.call n_laws_toIntS 10240) [.t 19],
 oK 21 (.idxa 1) [.t 14,.t 15],
 ⟨none,.store 1,[.t 21,.t 20],none⟩] [14,15,16,17,18,19,20,21]))
 (.region false [oK 12 .mv [.t 4],
 oK 13 (.bin .add) [.t 12,.c (.i 1)],
 oK 4 .mv [.t 13]] [12,13])))
def F_laws_toIntSS_W0 : LC := .loop F_laws_toIntSS_L0
def F_laws_toIntSS : LF :=
 { nparams := 1,results := [.t 2],body :=
 (.seq
 (.region false [oK 2 (.newnil 1032) []] [2])
 (.seq
 (.region false [oK 5 .mv [.t 0],
 oK 6 .len [.t 5],
 oK 7 (.make 3592 1 (.sl 1 [])) [.t 6,.t 6],
 oK 3 .mv [.t 7]] [5,6,7])
 (.seq
 (.seq
 (.region false [oK 4 .mv [.c (.i 0)]] [])
 (.block 0
 F_laws_toIntSS_W0))
 (.seq
 (.region false [oK 22 .mv [.t 3],
 oK 2 .mv [.t 22]] [0,3,4,22])
 .ret)))) }
/-- laws.eqIntSS -/
def F_laws_eqIntSS_L0 : LC :=
 (.seq
 (.seq
 (.region false [oK 11 .mv [.t 5],
 oK 12 .mv [.t 0],
 oK 13 .len [.t 12],
 oK 14 (.bin .lss) [.t 11,.t 13]] [11,12,13])
 (.cond (.t 14) [14]
 .skip
 (.exit 0)))
 (.seq
 (.block 1
 (.seq
 (.region true [oK 17 .mv [.t 0],
 oK 18 .mv [.t 5],
 oK 19 (.idxa 1) [.t 17,.t 18],
 oK 20 (.load 1 false) [.t 19],
 oK 21 .mv [.t 1],
 oK 22 .mv [.t 5],
 oK 23 (.idxa 1) [.t 21,.t 22],
 oK 24 (.load 1 false) [.t 23],
 oK 25 (.call n_laws_eqIntS 12800) [.t 20,.t 24],
 oK 26 (.un .not) [.t 25]] [17,18,19,20,21,22,23,24,25])
 (.cond (.t 26) [26]
 (.seq
 (.region false [oK 4 .mv [.c (.b false)]] [0,1,5])
 .ret)
 .skip)))
 (.region false [oK 15 .mv [.t 5],
 oK 16 (.bin .add) [.t 15,.c (.i 1)],
 oK 5 .mv [.t 16]] [15,16])))
def F_laws_eqIntSS_W0 : LC := .loop F_laws_eqIntSS_L0
def F_laws_eqIntSS : LF :=
 { nparams := 2,results := [.t 4],body :=
 (.seq
 (.region false [oK 4 .mv [.c (.b false)]] [4])
 (.seq
 (.seq
 (.region false [oK 6 .mv [.t 0],
 oK 7 .len [.t 6],
 oK 8 .mv [.t 1],
 oK 9 .len [.t 8],
 oK 10 (.bin .neq) [.t 7,.t 9]] [6,7,8,9])
 (.cond (.t 10) [10]
 (.seq
 (.region false [oK 4 .mv [.c (.b false)]] [0,1])
 .ret)
 .skip))
 (.seq
 (.seq
 (.region false [oK 5 .mv [.c (.i 0)]] [])
 (.block 0
 F_laws_eqIntSS_W0))
 (.seq
 (.region false [oK 4 .mv [.c (.b true)]] [0,1,5])
 .ret)))) }
/-- laws.markIntSS -/
def F_laws_markIntSS_L0 : LC :=
 (.seq
 (.seq
 (.region false [oK 6 .mv [.t 5],
 oK 7 .mv [.t 0],
 oK 8 .len [.t 7],
 oK 9 (.bin .lss) [.t 6,.t 8]] [6,7,8])
 (.cond (.t 9) [9]
 .skip
 (.exit 0)))
 (.seq
 (.block 1
 (.region false [oK 12 .mv [.t 0],
 oK 13 .mv [.t 5],
 oK 14 (.idxa 1) [.t 12,.t 13],
 oK 15 (.load 1 false) [.t 14],
 oK 16 .mv [.t 1],
 oK 17 (.call n_laws_markIntS 8708) [.t 15,.t 16],
 oK 1 .mv [.t 17]] [12,13,14,15,16,17]))
 (.region false [oK 10 .mv [.t 5],
 oK 11 (.bin .add) [.t 10,.c (.i 1)],
 oK 5 .mv [.t 11]] [10,11])))
def F_laws_markIntSS_W0 : LC := .loop F_laws_markIntSS_L0
def F_laws_markIntSS : LF :=
 { nparams := 2,results := [.t 4],body :=
 (.seq
 (.region false [oK 4 .mv [.c (.i 0)]] [4])
 (.seq
 (.seq
 (.region false [oK 5 .mv [.c (.i 0)]] [])
 (.block 0
 F_laws_markIntSS_W0))
 (.seq
 (.region false [oK 18 .mv [.t 1],
 oK 4 .mv [.t 18]] [1,5,18])
 .ret))) }
/-- laws.heldIntSS -/
def F_laws_heldIntSS_L0 : LC :=
 (.seq
 (.seq
 (.region false [oK 6 .mv [.t 5],
 oK 7 .mv [.t 0],
 oK 8 .len [.t 7],
 oK 9 (.bin .lss) [.t 6,.t 8]] [6,7,8])
 (.cond (.t 9) [9]
 .skip
 (.exit 0)))
 (.seq
 (.block 1
 (.seq
 (.region false [oK 12 .mv [.t 0],
 oK 13 .mv [.t 5],
 oK 14 (.idxa 1) [.t 12,.t 13],
 oK 15 (.load 1 false) [.t 14],
 oK 16 .mv [.t 1],
 oK 17 (.call n_laws_heldIntS 8704) [.t 15,.t 16],
 oK 1 .mv [.t 17]] [12,13,14,15,16,17])
 (.seq
 (.region false [oK 18 .mv [.t 1],
 oK 19 (.bin .lss) [.t 18,.c (.i 0)]] [18])
 (.cond (.t 19) [19]
 (.seq
 (.region false [oK 4 .mv [.c (.i (-1))]] [0,1,5])
 .ret)
 .skip))))
 (.region false [oK 10 .mv [.t 5],
 oK 11 (.bin .add) [.t 10,.c (.i 1)],
 oK 5 .mv [.t 11]] [10,11])))
def F_laws_heldIntSS_W0 : LC := .loop F_laws_heldIntSS_L0
def F_laws_heldIntSS : LF :=
 { nparams := 2,results := [.t 4],body :=
 (.seq
 (.region false [oK 4 .mv [.c (.i 0)]] [4])
 (.seq
 (.seq
 (.region false [oK 5 .mv [.c (.i 0)]] [])
 (.block 0
 F_laws_heldIntSS_W0))
 (.seq
 (.region false [oK 20 .mv [.t 1],
 oK 4 .mv [.t 20]] [0,1,5,20])
 .ret))) }
/-- laws.eqIntS -/
def F_laws_eqIntS_L0 : LC :=
 (.seq
 (.seq
 (.region false [oK 11 .mv [.t 5],
 oK 12 .mv [.t 0],
 oK 13 .len [.t 12],
 oK 14 (.bin .lss) [.t 11,.t 13]] [11,12,13])
 (.cond (.t 14) [14]
 .skip
 (.exit 0)))
 (.seq
 (.block 1
 (.seq
 (.region true [oK 17 .mv [.t 0],
 oK 18 .mv [.t 5],
 oK 19 (.idxa 1) [.t 17,.t 18],
 oK 20 (.load 1 false) [.t 19],
 oK 21 .mv [.t 1],
 oK 22 .mv [.t 5],
 oK 23 (.idxa 1) [.t 21,.t 22],
 oK 24 (.load 1 false) [.t 23],
 oK 25 (.bin .neq) [.t 20,.t 24]] [17,18,19,20,21,22,23,24])
 (.cond (.t 25) [25]
 (.seq
 (.region false [oK 4 .mv [.c (.b false)]] [0,1,5])
 .ret)
 .skip)))
 (.region false [oK 15 .mv [.t 5],
 oK 16 (.bin .add) [.t 15,.c (.i 1)],
 oK 5 .mv [.t 16]] [15,16])))
def F_laws_eqIntS_W0 : LC := .loop F_laws_eqIntS_L0
def F_laws_eqIntS : LF :=
 { nparams := 2,results := [.t 4],body :=
 (.seq
 (.region false [oK 4 .mv [.c (.b false)]] [4])
 (.seq
 (.seq
 (.region false [oK 6 .mv [.t 0],
 oK 7 .len [.t 6],
 oK 8 .mv [.t 1],
 oK 9 .len [.t 8],
 oK 10 (.bin .neq) [.t 7,.t 9]] [6,7,8,9])
 (.cond (.t 10) [10]
 (.seq
 (.region false [oK 4 .mv [.c (.b false)]] [0,1])
 .ret)
 .skip))
 (.seq
 (.seq
 (.region false [oK 5 .mv [.c (.i 0)]] [])
 (.block 0
 F_laws_eqIntS_W0))
 (.seq
 (.region false [oK 4 .mv [.c (.b true)]] [0,1,5])
 .ret)))) }
/-- laws.markIntS -/
def F_laws_markIntS_L0 : LC :=
 (.seq
 (.seq
 (.region false [oK 6 .mv [.t 5],
 oK 7 .mv [.t 0],
 oK 8 .len [.t 7],
 oK 9 (.bin .lss) [.t 6,.t 8]] [6,7,8])
 (.cond (.t 9) [9]
 .skip
 (.exit 0)))
 (.seq
 (.block 1
 (.seq
 (.region false [oK 12 .mv [.t 0],
 oK 13 .mv [.t 5],
 oK 14 .mv [.t 1],
 oK 15 (.idxa 1) [.t 12,.t 13],
 ⟨none,.store 1,[.t 15,.t 14],none⟩] [12,13,14,15])
 (.region false [oK 16 .mv [.t 1],
 oK 17 (.bin .add) [.t 16,.c (.i 1)],
 oK 1 .mv [.t 17]] [16,17])))
 (.region false [oK 10 .mv [.t 5],
 oK 11 (.bin .add) [.t 10,.c (.i 1)],
 oK 5 .mv [.t 11]] [10,11])))
def F_laws_markIntS_W0 : LC := .loop F_laws_markIntS_L0
def F_laws_markIntS : LF :=
 { nparams := 2,results := [.t 4],body :=
 (.seq
 (.region false [oK 4 .mv [.c (.i 0)]] [4])
 (.seq
 (.seq
 (.region false [oK 5 .mv [.c (.i 0)]] [])
 (.block 0
 F_laws_markIntS_W0))
 (.seq
 (.region false [oK 18 .mv [.t 1],
 oK 4 .mv [.t 18]] [1,5,18])
 .ret))) }
/-- laws.heldIntS -/
def F_laws_heldIntS_L0 : LC :=
 (.seq
 (.seq
 (.region false [oK 6 .mv [.t 5],
 oK 7 .mv [.t 0],
 oK 8 .len [.t 7],
 oK 9 (.bin .lss) [.t 6,.t 8]] [6,7,8])
 (.cond (.t 9) [9]
 .skip
 (.exit 0)))
 (.seq
 (.block 1
 (.seq
 (.seq
 (.region false [oK 12 .mv [.t 0],
 oK 13 .mv [.t 5],
 oK 14 (.idxa 1) [.t 12,.t 13],
 oK 15 (.load 1 false) [.t 14],
 oK 16 .mv [.t 1],
 oK 17 (.bin .neq) [.t 15,.t 16]] [12,13,14,15,16])
 (.cond (.t 17) [17]
 (.seq
 (.region false [oK 4 .mv [.c (.i (-1))]] [0,1,5])
 .ret)
 .skip))
 (.region false [oK 18 .mv [.t 1],
 oK 19 (.bin .add) [.t 18,.c (.i 1)],
 oK 1 .mv [.t 19]] [18,19])))
 (.region false [oK 10 .mv [.t 5],
 oK 11 (.bin .add) [.t 10,.c (.i 1)],
 oK 5 .mv [.t 11]] [10,11])))
def F_laws_heldIntS_W0 : LC := .loop F_laws_heldIntS_L0
def F_laws_heldIntS : LF :=
 { nparams := 2,results := [.t 4],body :=
 (.seq
 (.region false [oK 4 .mv [.c (.i 0)]] [4])
 (.seq
 (.seq
 (.region false [oK 5 .mv [.c (.i 0)]] [])
 (.block 0
 F_laws_heldIntS_W0))
 (.seq
 (.region false [oK 20 .mv [.t 1],
 oK 4 .mv [.t 20]] [0,1,5,20])
 .ret))) }
/-- spec.JoinedRounds -/
def F_spec_JoinedRounds_L0 : LC :=
 (.seq
 (.seq
 (.region false [oK 26 .mv [.t 9],
 oK 27 .mv [.t 1],
 oK 28 .len [.t 27],
 oK 29 (.bin .lss) [.t 26,.t 28]] [26,27,28])
 (.cond (.t 29) [29]
 .skip
 (.exit 0)))
 (.seq
 (.block 1
 (.seq
 (.region false [oK 32 (.bslice 16392 0 1 (.i 0) []) [],
 oK 33 .mv [.t 1],
 oK 34 .mv [.t 9],
 oK 35 (.idxa 1) [.t 33,.t 34],
 oK 36 (.load 1 false) [.t 35],
 oK 37 (.app 18952 1) [.t 32,.t 36],
 oK 10 .mv [.t 37]] [32,33,34,35,36,37])
 (.seq
 (.seq
 (.region false [oK 38 .mv [.t 9],
 oK 39 .mv [.t 2],
 oK 40 (.bin .add) [.t 39,.c (.i 1)],
 oK 41 (.bin .eql) [.t 38,.t 40]] [38,39,40])
 (.cond (.t 41) [41]
 (.seq
 (.region false [oK 42 .mv [.t 8],
 oK 43 .len [.t 42],
 oK 44 (.bin .sub) [.t 43,.c (.i 1)],
 oK 11 .mv [.t 44]] [42,43,44])
 (.seq
 (.region false [oK 45 .mv [.t 8],
 oK 46 .mv [.t 11],
 oK 47 .mv [.t 8],
 oK 48 .mv [.t 11],
 oK 49 (.idxa 1) [.t 47,.t 48],
 oK 50 (.load 1 false) [.t 49],
 oK 51 .mv [.t 10],
 oK 52 (.app 26632 1) [.t 50,.t 51],
 oK 53 (.idxa 1) [.t 45,.t 46],
 ⟨none,.store 1,[.t 53,.t 52],none⟩] [10,11,45,46,47,48,49,50,51,52,53])
 (.exit 1)))
 .skip))
 (.ghost (.shut 8)
 (.ghost (.cell_ 10 16397)
 (.region false [oK 54 .mv [.t 8],
 oK 55 .mv [.t 10],
 oK 56 (.bslice 28680 1 1 (.sl 1 []) [0]) [.t 55],
 oK 57 (.app 29192 1) [.t 54,.t 56],
 oK 8 .mv [.t 57]] [10,54,55,56,57]))))))
 (.region false [oK 30 .mv [.t 9],
 oK 31 (.bin .add) [.t 30,.c (.i 1)],
 oK 9 .mv [.t 31]] [30,31])))
def F_spec_JoinedRounds_W0 : LC := .loop F_spec_JoinedRounds_L0
def F_spec_JoinedRounds : LF :=
 { nparams := 3,results := [.t 6,.t 7],body :=
 (.seq
 (.region false [oK 6 (.newnil 3080) [],
 oK 7 .mv [.c (.b false)]] [6,7])
 (.seq
 (.seq
 (.region false [oK 12 .mv [.t 0],
 oK 13 .mv [.t 1],
 oK 14 (.call n_spec_GroupsOk 7168) [.t 12,.t 13],
 oK 15 (.un .not) [.t 14],
 oK 16 .mv [.t 15],
 oG 17 .mv [.t 2] 16 false,
 oG 18 .mv [.t 1] 16 false,
 oG 19 .len [.t 18] 16 false,
 oG 20 (.bin .sub) [.t 19,.c (.i 2)] 16 false,
 oG 21 (.call n_spec_l1In 10752) [.t 17,.c (.i 0),.t 20] 16 false,
 oG 22 (.un .not) [.t 21] 16 false,
 oK 23 .pick [.t 16,.c (.b true),.t 22]] [0,12,13,14,15,16,17,18,19,20,21,22])
 (.cond (.t 23) [23]
 (.seq
 (.region false [oK 24 (.bslice 12296 0 1 (.sl 1 []) []) [],
 oK 6 .mv [.t 24],
 oK 7 .mv [.c (.b false)]] [1,2,24])
 .ret)
 .skip))
 (.seq
 (.region false [oK 25 (.bslice 12808 0 1 (.sl 1 []) []) [],
 oK 8 .mv [.t 25]] [25])
 (.seq
 (.seq
 (.region false [oK 9 .mv [.c (.i 0)]] [])
 (.block 0
 F_spec_JoinedRounds_W0))
 (.seq
 (.ghost (.shut 8)
 (.region false [oK 58 .mv [.t 8],
 oK 6 .mv [.t 58],
 oK 7 .mv [.c (.b true)]] [1,2,8,9,58]))
 .ret))))) }
/-- impl.JoinedRounds -/
def F_impl_JoinedRounds_L0 : LC :=
 (.seq
 (.region false [oK 26 (.bin .lss) [.t 25,.t 24]] [])
 (.seq
 (.cond (.t 26) [26]
 .skip
 (.exit 0))
 (.seq
 (.block 1
 (.seq
 (.region false [oK 27 .mv [.t 25],
 oK 28 (.idxa 1) [.t 23,.t 25],
 oK 29 (.load 1 false) [.t 28],
 oK 9 .mv [.t 27],
 oK 10 .mv [.t 29]] [27,28,29])
 (.seq
 (.region false [oK 30 .mv [.t 9],
 oK 31 .mv [.t 2],
 oK 32 (.bin .add) [.t 31,.c (.i 1)],
 oK 33 (.bin .eql) [.t 30,.t 32]] [9,30,31,32])
 (.cond (.t 33) [33]
 (.region false [oK 34 .mv [.t 8],
 oK 35 .mv [.t 2],
 oK 36 .mv [.t 8],
 oK 37 .mv [.t 2],
 oK 38 (.idxa 1) [.t 36,.t 37],
 oK 39 (.load 1 false) [.t 38],
 oK 40 .mv [.t 10],
 oK 41 (.app 21000 1) [.t 39,.t 40],
 oK 42 (.idxa 1) [.t 34,.t 35],
 ⟨none,.store 1,[.t 42,.t 41],none⟩] [10,34,35,36,37,38,39,40,41,42])
 (.ghost (.shut 8)
 (.cut [oK 43 .mv [.t 8],
 oK 44 .mv [.t 10],
 oK 45 (.call n_slices_Clone_int_int 23040) [.t 44]]
 (.cell_ 45 23565)
 [oK 46 (.bslice 23560 1 1 (.sl 1 []) [0]) [.t 45],
 oK 47 (.app 24072 1) [.t 43,.t 46],
 oK 8 .mv [.t 47]] [10,43,44,45,46,47]))))))
 (.region false [oK 48 (.bin .add) [.t 25,.c (.i 1)],
 oK 25 .mv [.t 48]] [48]))))
def F_impl_JoinedRounds_W0 : LC := .loop F_impl_JoinedRounds_L0
def F_impl_JoinedRounds : LF :=
 { nparams := 3,results := [.t 6,.t 7],body :=
 (.seq
 (.region false [oK 6 (.newnil 3080) [],
 oK 7 .mv [.c (.b false)]] [6,7])
 (.seq
 (.seq
 (.region false [oK 11 .mv [.t 0],
 oK 12 .mv [.t 1],
 oK 13 (.call n_impl_GroupsOk 6656) [.t 11,.t 12],
 oK 14 (.un .not) [.t 13],
 oK 15 .mv [.t 14],
 oG 16 .mv [.t 2] 15 false,
 oG 17 .mv [.t 1] 15 false,
 oG 18 .len [.t 17] 15 false,
 oG 19 (.bin .sub) [.t 18,.c (.i 2)] 15 false,
 oG 20 (.call n_impl_isWithin 10240) [.t 16,.c (.i 0),.t 19] 15 false,
 oG 21 (.un .not) [.t 20] 15 false,
 oK 22 .pick [.t 15,.c (.b true),.t 21]] [0,11,12,13,14,15,16,17,18,19,20,21])
 (.cond (.t 22) [22]
 (.seq
 (.region false [oK 6 (.newnil 3080) [],
 oK 7 .mv [.c (.b false)]] [1,2])
 .ret)
 .skip))
 (.seq
 (.region false [oK 8 (.newnil 4104) []] [])
 (.seq
 (.seq
 (.region false [oK 23 .mv [.t 1],
 oK 24 .len [.t 23],
 oK 25 .mv [.c (.i 0)]] [1])
 (.block 0
 F_impl_JoinedRounds_W0))
 (.seq
 (.ghost (.shut 8)
 (.region false [oK 49 .mv [.t 8],
 oK 6 .mv [.t 49],
 oK 7 .mv [.c (.b true)]] [2,8,23,24,25,49]))
 .ret))))) }
/-- laws.szIntS -/
def F_laws_szIntS : LF :=
 { nparams := 2,results := [.t 4],body :=
 (.seq
 (.region false [oK 4 .mv [.c (.i 0)]] [4])
 (.seq
 (.region false [oK 5 .mv [.t 1],
 oK 6 .mv [.t 0],
 oK 7 .len [.t 6],
 oK 8 (.bin .sub) [.t 5,.t 7],
 oK 1 .mv [.t 8]] [0,5,6,7,8])
 (.seq
 (.seq
 (.region false [oK 9 .mv [.t 1],
 oK 10 (.bin .lss) [.t 9,.c (.i 0)]] [9])
 (.cond (.t 10) [10]
 (.seq
 (.region false [oK 4 .mv [.c (.i (-1))]] [1])
 .ret)
 .skip))
 (.seq
 (.region false [oK 11 .mv [.t 1],
 oK 4 .mv [.t 11]] [1,11])
 .ret)))) }
/-- spec.GroupsOk -/
def F_spec_GroupsOk_L1 : LC :=
 (.seq
 (.seq
 (.region false [oK 22 .mv [.t 8],
 oK 23 .mv [.t 1],
 oK 24 .mv [.t 7],
 oK 25 (.idxa 1) [.t 23,.t 24],
 oK 26 (.load 1 false) [.t 25],
 oK 27 .len [.t 26],
 oK 28 (.bin .lss) [.t 22,.t 27]] [22,23,24,25,26,27])
 (.cond (.t 28) [28]
 .skip
 (.exit 2)))
 (.seq
 (.block 3
 (.seq
 (.region false [oK 31 .mv [.t 1],
 oK 32 .mv [.t 7],
 oK 33 (.idxa 1) [.t 31,.t 32],
 oK 34 (.load 1 false) [.t 33],
 oK 35 .mv [.t 8],
 oK 36 (.idxa 1) [.t 34,.t 35],
 oK 37 (.load 1 false) [.t 36],
 oK 9 .mv [.t 37]] [31,32,33,34,35,36,37])
 (.seq
 (.seq
 (.region false [oK 38 .mv [.t 9],
 oK 39 (.bin .lss) [.t 38,.c (.i 0)],
 oK 40 .mv [.t 39],
 oG 41 .mv [.t 9] 40 false,
 oG 42 .mv [.t 0] 40 false,
 oG 43 (.bin .geq) [.t 41,.t 42] 40 false,
 oK 44 .pick [.t 40,.c (.b true),.t 43],
 oK 45 .mv [.t 44],
 oG 46 .mv [.t 9] 45 false,
 oG 47 (.bin .geq) [.t 46,.c (.i 5)] 45 false,
 oK 48 .pick [.t 45,.c (.b true),.t 47],
 oK 49 .mv [.t 48],
 oG 50 .mv [.t 5] 49 false,
 oG 51 .mv [.t 9] 49 false,
 oG 52 (.bin .shr) [.t 50,.t 51] 49 false,
 oG 53 (.bin .rem) [.t 52,.c (.i 2)] 49 false,
 oG 54 (.bin .eql) [.t 53,.c (.i 1)] 49 false,
 oK 55 .pick [.t 49,.c (.b true),.t 54]] [38,39,40,41,42,43,44,45,46,47,48,49,50,51,52,53,54])
 (.cond (.t 55) [55]
 (.seq
 (.region false [oK 4 .mv [.c (.b false)]] [0,1,5,6,7,8,9])
 .ret)
 .skip))
 (.seq
 (.region false [oK 56 .mv [.t 5],
 oK 57 .mv [.t 9],
 oK 58 (.bin .shl) [.c (.i 1),.t 57],
 oK 59 (.bin .or) [.t 56,.t 58],
 oK 5 .mv [.t 59]] [9,56,57,58,59])
 (.region false [oK 60 .mv [.t 6],
 oK 61 (.bin .add) [.t 60,.c (.i 1)],
 oK 6 .mv [.t 61]] [60,61])))))
 (.region false [oK 29 .mv [.t 8],
 oK 30 (.bin .add) [.t 29,.c (.i 1)],
 oK 8 .mv [.t 30]] [29,30])))
def F_spec_GroupsOk_W1 : LC := .loop F_spec_GroupsOk_L1
def F_spec_GroupsOk_L0 : LC :=
 (.seq
 (.seq
 (.region false [oK 10 .mv [.t 7],
 oK 11 .mv [.t 1],
 oK 12 .len [.t 11],
 oK 13 (.bin .lss) [.t 10,.t 12]] [10,11,12])
 (.cond (.t 13) [13]
 .skip
 (.exit 0)))
 (.seq
 (.block 1
 (.seq
 (.seq
 (.region false [oK 16 .mv [.t 1],
 oK 17 .mv [.t 7],
 oK 18 (.idxa 1) [.t 16,.t 17],
 oK 19 (.load 1 false) [.t 18],
 oK 20 .len [.t 19],
 oK 21 (.bin .eql) [.t 20,.c (.i 0)]] [16,17,18,19,20])
 (.cond (.t 21) [21]
 (.seq
 (.region false [oK 4 .mv [.c (.b false)]] [0,1,5,6,7])
 .ret)
 .skip))
 (.seq
 (.region false [oK 8 .mv [.c (.i 0)]] [])
 (.block 2
 F_spec_GroupsOk_W1))))
 (.region false [oK 14 .mv [.t 7],
 oK 15 (.bin .add) [.t 14,.c (.i 1)],
 oK 7 .mv [.t 15]] [8,14,15])))
def F_spec_GroupsOk_W0 : LC := .loop F_spec_GroupsOk_L0
def F_spec_GroupsOk : LF :=
 { nparams := 2,results := [.t 4],body :=
 (.seq
 (.region false [oK 4 .mv [.c (.b false)]] [4])
 (.seq
 (.region false [oK 5 .mv [.c (.i 0)]] [])
 (.seq
 (.region false [oK 6 .mv [.c (.i 0)]] [])
 (.seq
 (.seq
 (.region false [oK 7 .mv [.c (.i 0)]] [])
 (.block 0
 F_spec_GroupsOk_W0))
 (.seq
 (.region false [oK 62 .mv [.t 0],
 oK 63 (.call n_spec_l1In 32256) [.t 62,.c (.i 1),.c (.i 5)],
 oK 64 .mv [.t 63],
 oG 65 .mv [.t 6] 64 true,
 oG 66 .mv [.t 0] 64 true,
 oG 67 (.bin .eql) [.t 65,.t 66] 64 true,
 oK 68 .pick [.t 64,.t 67,.c (.b false)],
 oK 4 .mv [.t 68]] [0,1,5,6,7,62,63,64,65,66,67,68])
 .ret))))) }
/-- laws.toIntS -/
def F_laws_toIntS_L0 : LC :=
 (.seq
 (.seq
 (.region false [oK 8 .mv [.t 4],
 oK 9 .mv [.t 0],
 oK 10 .len [.t 9],
 oK 11 (.bin .lss) [.t 8,.t 10]] [8,9,10])
 (.cond (.t 11) [11]
 .skip
 (.exit 0)))
 (.seq
 (.block 1
 (.region false [oK 14 .mv [.t 3],
 oK 15 .mv [.t 4],
 oK 16 .mv [.t 0],
 oK 17 .mv [.t 4],
 oK 18 (.idxa 1) [.t 16,.t 17],
 oK 19 (.load 1 false) [.t 18],
 oK 20 (.idxa 1) [.t 14,.t 15],
 ⟨none,.store 1,[.t 20,.t 19],none⟩] [14,15,16,17,18,19,20]))
 (.region false [oK 12 .mv [.t 4],
 oK 13 (.bin .add) [.t 12,.c (.i 1)],
 oK 4 .mv [.t 13]] [12,13])))
def F_laws_toIntS_W0 : LC := .loop F_laws_toIntS_L0
def F_laws_toIntS : LF :=
 { nparams := 1,results := [.t 2],body :=
 (.seq
 (.region false [oK 2 (.newnil 1032) []] [2])
 (.seq
 (.region false [oK 5 .mv [.t 0],
 oK 6 .len [.t 5],
 oK 7 (.make 3592 1 (.i 0)) [.t 6,.t 6],
 oK 3 .mv [.t 7]] [5,6,7])
 (.seq
 (.seq
 (.region false [oK 4 .mv [.c (.i 0)]] [])
 (.block 0
 F_laws_toIntS_W0))
 (.seq
 (.region false [oK 21 .mv [.t 3],
 oK 2 .mv [.t 21]] [0,3,4,21])
 .ret)))) }
/-- impl.GroupsOk -/
def F_impl_GroupsOk_L0 : LC :=
 (.seq
 (.region false [oK 14 (.bin .lss) [.t 13,.t 12]] [])
 (.seq
 (.cond (.t 14) [14]
 .skip
 (.exit 0))
 (.seq
 (.block 1
 (.seq
 (.region false [oK 15 (.idxa 1) [.t 11,.t 13],
 oK 16 (.load 1 false) [.t 15],
 oK 7 .mv [.t 16]] [15,16])
 (.seq
 (.seq
 (.region false [oK 17 .mv [.t 7],
 oK 18 .len [.t 17],
 oK 19 .mv [.t 0],
 oK 20 .mv [.t 5],
 oK 21 .len [.t 20],
 oK 22 (.bin .sub) [.t 19,.t 21],
 oK 23 (.call n_impl_isWithin 11776) [.t 18,.c (.i 1),.t 22],
 oK 24 (.un .not) [.t 23]] [17,18,19,20,21,22,23])
 (.cond (.t 24) [24]
 (.seq
 (.region false [oK 4 .mv [.c (.b false)]] [0,5,7,11,12,13])
 .ret)
 .skip))
 (.region false [oK 25 .mv [.t 5],
 oK 26 .mv [.t 7],
 oK 27 (.app 13832 1) [.t 25,.t 26],
 oK 5 .mv [.t 27]] [7,25,26,27]))))
 (.region false [oK 28 (.bin .add) [.t 13,.c (.i 1)],
 oK 13 .mv [.t 28]] [28]))))
def F_impl_GroupsOk_W0 : LC := .loop F_impl_GroupsOk_L0
def F_impl_GroupsOk : LF :=
 { nparams := 2,results := [.t 4],body :=
 (.seq
 (.region false [oK 4 .mv [.c (.b false)]] [4])
 (.seq
 (.seq
 (.region false [oK 8 .mv [.t 0],
 oK 9 (.call n_impl_manyOk 4608) [.t 8],
 oK 10 (.un .not) [.t 9]] [8,9])
 (.cond (.t 10) [10]
 (.seq
 (.region false [oK 4 .mv [.c (.b false)]] [0,1])
 .ret)
 .skip))
 (.seq
 (.region false [oK 5 (.newnil 2568) []] [])
 (.seq
 (.seq
 (.region false [oK 11 .mv [.t 1],
 oK 12 .len [.t 11],
 oK 13 .mv [.c (.i 0)]] [1])
 (.block 0
 F_impl_GroupsOk_W0))
 (.seq
 (.region false [oK 29 .mv [.t 0],
 oK 30 .mv [.t 5],
 oK 31 (.call n_impl_OrderOk 15872) [.t 29,.t 30],
 oK 4 .mv [.t 31]] [0,5,11,12,13,29,30,31])
 .ret))))) }
/-- spec.l1In -/
def F_spec_l1In : LF :=
 { nparams := 3,results := [.t 6],body :=
 (.seq
 (.region false [oK 6 .mv [.c (.b false)]] [6])
 (.seq
 (.region false [oK 7 .mv [.t 0],
 oK 8 .mv [.t 1],
 oK 9 (.bin .geq) [.t 7,.t 8],
 oK 10 .mv [.t 9],
 oG 11 .mv [.t 0] 10 true,
 oG 12 .mv [.t 2] 10 true,
 oG 13 (.bin .leq) [.t 11,.t 12] 10 true,
 oK 14 .pick [.t 10,.t 13,.c (.b false)],
 oK 6 .mv [.t 14]] [0,1,2,7,8,9,10,11,12,13,14])
 .ret)) }
/-- impl.isWithin -/
def F_impl_isWithin : LF :=
 { nparams := 3,results := [.t 6],body :=
 (.seq
 (.region false [oK 6 .mv [.c (.b false)]] [6])
 (.seq
 (.region false [oK 7 .mv [.t 1],
 oK 8 .mv [.t 0],
 oK 9 (.bin .leq) [.t 7,.t 8],
 oK 10 .mv [.t 9],
 oG 11 .mv [.t 0] 10 true,
 oG 12 .mv [.t 2] 10 true,
 oG 13 (.bin .leq) [.t 11,.t 12] 10 true,
 oK 14 .pick [.t 10,.t 13,.c (.b false)],
 oK 6 .mv [.t 14]] [0,1,2,7,8,9,10,11,12,13,14])
 .ret)) }
/-- slices.Clone[[]int,int] -/
def F_slices_Clone_int_int : LF :=
 { nparams := 1,results := [.t 2],body :=
 (.seq
 (.region false [oK 2 (.newnil 1032) []] [2])
 (.seq
 (.seq
 (.region false [oK 3 .mv [.t 0],
 oK 4 (.eqn false) [.t 3]] [3])
 (.cond (.t 4) [4]
 (.seq
 (.region false [oK 2 (.newnil 1032) []] [0])
 .ret)
 .skip))
 (.seq
 (.region false [oK 5 (.bslice 2568 0 1 (.i 0) []) [],
 oK 6 .mv [.t 0],
 oK 7 (.app 3592 1) [.t 5,.t 6],
 oK 2 .mv [.t 7]] [0,5,6,7])
 .ret))) }
/-- impl.manyOk -/
def F_impl_manyOk : LF :=
 { nparams := 1,results := [.t 2],body :=
 (.seq
 (.region false [oK 2 .mv [.c (.b false)]] [2])
 (.seq
 (.region false [oK 3 .mv [.t 0],
 oK 4 (.call n_impl_isWithin 2048) [.t 3,.c (.i 1),.c (.i 5)],
 oK 2 .mv [.t 4]] [0,3,4])
 .ret)) }
/-- impl.OrderOk -/
def F_impl_OrderOk_L0 : LC :=
 (.seq
 (.region false [oK 20 (.bin .lss) [.t 19,.t 18]] [])
 (.seq
 (.cond (.t 20) [20]
 .skip
 (.exit 0))
 (.seq
 (.block 1
 (.seq
 (.region false [oK 21 (.idxa 1) [.t 17,.t 19],
 oK 22 (.load 1 false) [.t 21],
 oK 7 .mv [.t 22]] [21,22])
 (.seq
 (.seq
 (.region false [oK 23 .mv [.t 7],
 oK 24 .mv [.t 0],
 oK 25 (.bin .sub) [.t 24,.c (.i 1)],
 oK 26 (.call n_impl_isWithin 13312) [.t 23,.c (.i 0),.t 25],
 oK 27 (.un .not) [.t 26],
 oK 28 .mv [.t 27],
 oG 29 .mv [.t 5] 28 false,
 oG 30 .mv [.t 7] 28 false,
 oG 31 (.call n_impl_hasTest 15872) [.t 29,.t 30] 28 false,
 oK 32 .pick [.t 28,.c (.b true),.t 31]] [23,24,25,26,27,28,29,30,31])
 (.cond (.t 32) [32]
 (.seq
 (.region false [oK 4 .mv [.c (.b false)]] [0,5,7,17,18,19])
 .ret)
 .skip))
 (.region false [oK 33 .mv [.t 5],
 oK 34 .mv [.t 7],
 oK 35 (.bin .shl) [.c (.i 1),.t 34],
 oK 36 (.bin .or) [.t 33,.t 35],
 oK 5 .mv [.t 36]] [7,33,34,35,36]))))
 (.region false [oK 37 (.bin .add) [.t 19,.c (.i 1)],
 oK 19 .mv [.t 37]] [37]))))
def F_impl_OrderOk_W0 : LC := .loop F_impl_OrderOk_L0
def F_impl_OrderOk : LF :=
 { nparams := 2,results := [.t 4],body :=
 (.seq
 (.region false [oK 4 .mv [.c (.b false)]] [4])
 (.seq
 (.seq
 (.region false [oK 8 .mv [.t 0],
 oK 9 (.call n_impl_manyOk 4608) [.t 8],
 oK 10 (.un .not) [.t 9],
 oK 11 .mv [.t 10],
 oG 12 .mv [.t 1] 11 false,
 oG 13 .len [.t 12] 11 false,
 oG 14 .mv [.t 0] 11 false,
 oG 15 (.bin .neq) [.t 13,.t 14] 11 false,
 oK 16 .pick [.t 11,.c (.b true),.t 15]] [8,9,10,11,12,13,14,15])
 (.cond (.t 16) [16]
 (.seq
 (.region false [oK 4 .mv [.c (.b false)]] [0,1])
 .ret)
 .skip))
 (.seq
 (.region false [oK 5 .mv [.c (.i 0)]] [])
 (.seq
 (.seq
 (.region false [oK 17 .mv [.t 1],
 oK 18 .len [.t 17],
 oK 19 .mv [.c (.i 0)]] [1])
 (.block 0
 F_impl_OrderOk_W0))
 (.seq
 (.region false [oK 4 .mv [.c (.b true)]] [0,5,17,18,19])
 .ret))))) }
/-- impl.hasTest -/
def F_impl_hasTest : LF :=
 { nparams := 2,results := [.t 4],body :=
 (.seq
 (.region false [oK 4 .mv [.c (.b false)]] [4])
 (.seq
 (.region false [oK 5 .mv [.t 0],
 oK 6 .mv [.t 1],
 oK 7 (.bin .shr) [.t 5,.t 6],
 oK 8 (.bin .and) [.t 7,.c (.i 1)],
 oK 9 (.bin .eql) [.t 8,.c (.i 1)],
 oK 4 .mv [.t 9]] [0,1,5,6,7,8,9])
 .ret)) }
def lf : Nat → Option LF
 | 7 => some F_laws_FnExactJoinedRounds
 | 8 => some F_laws_szIntSS
 | 10 => some F_laws_toIntSS
 | 13 => some F_laws_eqIntSS
 | 14 => some F_laws_markIntSS
 | 23 => some F_laws_heldIntSS
 | 26 => some F_laws_eqIntS
 | 27 => some F_laws_markIntS
 | 28 => some F_laws_heldIntS
 | 31 => some F_spec_JoinedRounds
 | 32 => some F_impl_JoinedRounds
 | 33 => some F_laws_szIntS
 | 34 => some F_spec_GroupsOk
 | 35 => some F_laws_toIntS
 | 36 => some F_impl_GroupsOk
 | 48 => some F_spec_l1In
 | 55 => some F_impl_isWithin
 | 56 => some F_slices_Clone_int_int
 | 57 => some F_impl_manyOk
 | 58 => some F_impl_OrderOk
 | 68 => some F_impl_hasTest
 | _ => none
theorem w_laws_szIntSS_0 (S : LS) : ex lf F_laws_szIntSS_W0 S = match ex lf F_laws_szIntSS_L0 S with | some (.normal,S1) => ex lf F_laws_szIntSS_W0 S1 | r => r := ex_loop lf F_laws_szIntSS_L0 S
theorem w_laws_toIntSS_0 (S : LS) : ex lf F_laws_toIntSS_W0 S = match ex lf F_laws_toIntSS_L0 S with | some (.normal,S1) => ex lf F_laws_toIntSS_W0 S1 | r => r := ex_loop lf F_laws_toIntSS_L0 S
theorem w_laws_eqIntSS_0 (S : LS) : ex lf F_laws_eqIntSS_W0 S = match ex lf F_laws_eqIntSS_L0 S with | some (.normal,S1) => ex lf F_laws_eqIntSS_W0 S1 | r => r := ex_loop lf F_laws_eqIntSS_L0 S
theorem w_laws_markIntSS_0 (S : LS) : ex lf F_laws_markIntSS_W0 S = match ex lf F_laws_markIntSS_L0 S with | some (.normal,S1) => ex lf F_laws_markIntSS_W0 S1 | r => r := ex_loop lf F_laws_markIntSS_L0 S
theorem w_laws_heldIntSS_0 (S : LS) : ex lf F_laws_heldIntSS_W0 S = match ex lf F_laws_heldIntSS_L0 S with | some (.normal,S1) => ex lf F_laws_heldIntSS_W0 S1 | r => r := ex_loop lf F_laws_heldIntSS_L0 S
theorem w_laws_eqIntS_0 (S : LS) : ex lf F_laws_eqIntS_W0 S = match ex lf F_laws_eqIntS_L0 S with | some (.normal,S1) => ex lf F_laws_eqIntS_W0 S1 | r => r := ex_loop lf F_laws_eqIntS_L0 S
theorem w_laws_markIntS_0 (S : LS) : ex lf F_laws_markIntS_W0 S = match ex lf F_laws_markIntS_L0 S with | some (.normal,S1) => ex lf F_laws_markIntS_W0 S1 | r => r := ex_loop lf F_laws_markIntS_L0 S
theorem w_laws_heldIntS_0 (S : LS) : ex lf F_laws_heldIntS_W0 S = match ex lf F_laws_heldIntS_L0 S with | some (.normal,S1) => ex lf F_laws_heldIntS_W0 S1 | r => r := ex_loop lf F_laws_heldIntS_L0 S
theorem w_spec_JoinedRounds_0 (S : LS) : ex lf F_spec_JoinedRounds_W0 S = match ex lf F_spec_JoinedRounds_L0 S with | some (.normal,S1) => ex lf F_spec_JoinedRounds_W0 S1 | r => r := ex_loop lf F_spec_JoinedRounds_L0 S
theorem w_impl_JoinedRounds_0 (S : LS) : ex lf F_impl_JoinedRounds_W0 S = match ex lf F_impl_JoinedRounds_L0 S with | some (.normal,S1) => ex lf F_impl_JoinedRounds_W0 S1 | r => r := ex_loop lf F_impl_JoinedRounds_L0 S
theorem w_spec_GroupsOk_1 (S : LS) : ex lf F_spec_GroupsOk_W1 S = match ex lf F_spec_GroupsOk_L1 S with | some (.normal,S1) => ex lf F_spec_GroupsOk_W1 S1 | r => r := ex_loop lf F_spec_GroupsOk_L1 S
theorem w_spec_GroupsOk_0 (S : LS) : ex lf F_spec_GroupsOk_W0 S = match ex lf F_spec_GroupsOk_L0 S with | some (.normal,S1) => ex lf F_spec_GroupsOk_W0 S1 | r => r := ex_loop lf F_spec_GroupsOk_L0 S
theorem w_laws_toIntS_0 (S : LS) : ex lf F_laws_toIntS_W0 S = match ex lf F_laws_toIntS_L0 S with | some (.normal,S1) => ex lf F_laws_toIntS_W0 S1 | r => r := ex_loop lf F_laws_toIntS_L0 S
theorem w_impl_GroupsOk_0 (S : LS) : ex lf F_impl_GroupsOk_W0 S = match ex lf F_impl_GroupsOk_L0 S with | some (.normal,S1) => ex lf F_impl_GroupsOk_W0 S1 | r => r := ex_loop lf F_impl_GroupsOk_L0 S
theorem w_impl_OrderOk_0 (S : LS) : ex lf F_impl_OrderOk_W0 S = match ex lf F_impl_OrderOk_L0 S with | some (.normal,S1) => ex lf F_impl_OrderOk_W0 S1 | r => r := ex_loop lf F_impl_OrderOk_L0 S
end Zz
