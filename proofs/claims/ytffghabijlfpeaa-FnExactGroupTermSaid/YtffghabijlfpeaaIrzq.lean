/- The functions of the program, read as data. No conditions. -/
import Derived.Test.YtffghabijlfpeaaLgC
set_option linter.unusedSectionVars false
set_option linter.unusedVariables false
set_option linter.unusedSimpArgs false
namespace Zz
open Go.Lg
abbrev oK (d : Nat) (k : K) (a : List Opd) : LOp := ⟨some d, k, a, none⟩
abbrev oG (d : Nat) (k : K) (a : List Opd) (t : Nat) (b : Bool) : LOp := ⟨some d, k, a, some (t, b)⟩
def n_laws_FnExactGroupTerm : Nat := 3
def n_laws_szIntSS : Nat := 8
def n_spec_GroupTerm : Nat := 9
def n_laws_toIntSS : Nat := 10
def n_impl_GroupTerm : Nat := 11
def n_laws_eqMarkS : Nat := 12
def n_laws_eqIntSS : Nat := 13
def n_laws_markIntSS : Nat := 14
def n_laws_markMarkS : Nat := 15
def n_laws_heldMarkS : Nat := 16
def n_laws_eqIntS : Nat := 26
def n_laws_markIntS : Nat := 27
def n_laws_szIntS : Nat := 33
def n_spec_GroupsOk : Nat := 34
def n_laws_toIntS : Nat := 35
def n_impl_GroupsOk : Nat := 36
def n_laws_eqMark : Nat := 37
def n_spec_l1In : Nat := 48
def n_impl_isWithin : Nat := 55
def n_impl_manyOk : Nat := 57
def n_impl_OrderOk : Nat := 58
def n_impl_hasTest : Nat := 68
def bkFs : List Nat := []
instance : GL := ⟨[],[14,15,22,27],["l4_orders.go:82","l10_rounds.go:90"],[],[(61,[0]),(69,[0,2]),(81,[0]),(89,[0,2])],[],["l20_draw.go:447"],bkFs⟩
/-- laws.FnExactGroupTerm -/
def F_laws_FnExactGroupTerm : LF :=
 { nparams := 2,results := [.t 4],body :=
 (.seq
 (.region false [oK 4 .mv [.c (.b false)]] [4])
 (.seq
 (.region false [oK 5 .mv [.c (.i 1048576)]] [])
 (.seq
 (.region false [oK 13 .mv [.t 1],
 oK 14 .mv [.t 5],
 oK 15 (.call n_laws_szIntSS 7680) [.t 13,.t 14],
 oK 5 .mv [.t 15]] [13,14,15])
 (.seq
 (.seq
 (.region false [oK 16 .mv [.t 5],
 oK 17 (.bin .lss) [.t 16,.c (.i 0)]] [5,16])
 (.cond (.t 17) [17]
 (.seq
 (.region false [oK 4 .mv [.c (.b true)]] [0,1])
 .ret)
 .skip))
 (.seq
 (.region false [oK 18 .mv [.t 0],
 oK 19 .mv [.t 1],
 oK 20 (.call n_laws_toIntSS 10240) [.t 19],
 oK 21 (.call n_spec_GroupTerm 10752) [.t 18,.t 20],
 oK 6 .mv [.t 21]] [18,19,20,21])
 (.seq
 (.region false [oK 22 .mv [.t 1],
 oK 23 (.call n_laws_toIntSS 11776) [.t 22],
 oK 7 .mv [.t 23]] [22,23])
 (.seq
 (.region false [oK 24 .mv [.t 0],
 oK 25 .mv [.t 7],
 oK 26 (.call n_impl_GroupTerm 13312) [.t 24,.t 25],
 oK 8 .mv [.t 26]] [24,25,26])
 (.seq
 (.seq
 (.region false [oK 27 .mv [.t 8],
 oK 28 .mv [.t 6],
 oK 29 (.call n_laws_eqMarkS 14848) [.t 27,.t 28],
 oK 30 (.un .not) [.t 29]] [27,28,29])
 (.cond (.t 30) [30]
 (.seq
 (.region false [oK 4 .mv [.c (.b false)]] [0,1,6,7,8])
 .ret)
 .skip))
 (.seq
 (.seq
 (.region false [oK 31 .mv [.t 7],
 oK 32 .mv [.t 1],
 oK 33 (.call n_laws_toIntSS 16896) [.t 32],
 oK 34 (.call n_laws_eqIntSS 17408) [.t 31,.t 33],
 oK 35 (.un .not) [.t 34]] [31,32,33,34])
 (.cond (.t 35) [35]
 (.seq
 (.region false [oK 4 .mv [.c (.b false)]] [0,1,6,7,8])
 .ret)
 .skip))
 (.seq
 (.region false [oK 9 .mv [.c (.i 1)]] [])
 (.seq
 (.region false [oK 36 .mv [.t 7],
 oK 37 .mv [.t 9],
 oK 38 (.call n_laws_markIntSS 19460) [.t 36,.t 37],
 oK 9 .mv [.t 38]] [7,36,37,38])
 (.seq
 (.seq
 (.region false [oK 39 .mv [.t 9],
 oK 40 (.bin .lss) [.t 39,.c (.i 0)],
 oK 41 .mv [.t 40],
 oG 42 .mv [.t 8] 41 false,
 oG 43 .mv [.t 6] 41 false,
 oG 44 (.call n_laws_eqMarkS 22528) [.t 42,.t 43] 41 false,
 oG 45 (.un .not) [.t 44] 41 false,
 oK 46 .pick [.t 41,.c (.b true),.t 45]] [9,39,40,41,42,43,44,45])
 (.cond (.t 46) [46]
 (.seq
 (.region false [oK 4 .mv [.c (.b false)]] [0,1,6,8])
 .ret)
 .skip))
 (.seq
 (.region false [oK 10 .mv [.c (.i 1)]] [])
 (.seq
 (.region false [oK 47 .mv [.t 8],
 oK 48 .mv [.t 10],
 oK 49 (.call n_laws_markMarkS 25092) [.t 47,.t 48],
 oK 10 .mv [.t 49]] [47,48,49])
 (.seq
 (.region false [oK 11 .mv [.c (.i 1)]] [])
 (.seq
 (.region false [oK 50 .mv [.t 8],
 oK 51 .mv [.t 11],
 oK 52 (.call n_laws_heldMarkS 26624) [.t 50,.t 51],
 oK 11 .mv [.t 52]] [50,51,52])
 (.seq
 (.seq
 (.region false [oK 53 .mv [.t 11],
 oK 54 (.bin .lss) [.t 53,.c (.i 0)]] [53])
 (.cond (.t 54) [54]
 (.seq
 (.region false [oK 4 .mv [.c (.b false)]] [0,1,6,8,10,11])
 .ret)
 .skip))
 (.seq
 (.seq
 (.region false [oK 55 .mv [.t 11],
 oK 56 .mv [.t 10],
 oK 57 (.bin .neq) [.t 55,.t 56]] [11,55,56])
 (.cond (.t 57) [57]
 (.seq
 (.region false [oK 4 .mv [.c (.b false)]] [0,1,6,8,10])
 .ret)
 .skip))
 (.seq
 (.region false [oK 58 .mv [.t 0],
 oK 59 .mv [.t 1],
 oK 60 (.call n_laws_toIntSS 30720) [.t 59],
 oK 61 (.call n_impl_GroupTerm 31232) [.t 58,.t 60],
 oK 12 .mv [.t 61]] [0,1,58,59,60,61])
 (.seq
 (.seq
 (.region false [oK 62 .mv [.t 12],
 oK 63 .mv [.t 6],
 oK 64 (.call n_laws_eqMarkS 32768) [.t 62,.t 63],
 oK 65 (.un .not) [.t 64]] [6,12,62,63,64])
 (.cond (.t 65) [65]
 (.seq
 (.region false [oK 4 .mv [.c (.b false)]] [8,10])
 .ret)
 .skip))
 (.seq
 (.region false [oK 11 .mv [.c (.i 1)]] [])
 (.seq
 (.region false [oK 66 .mv [.t 8],
 oK 67 .mv [.t 11],
 oK 68 (.call n_laws_heldMarkS 34816) [.t 66,.t 67],
 oK 11 .mv [.t 68]] [8,66,67,68])
 (.seq
 (.seq
 (.region false [oK 69 .mv [.t 11],
 oK 70 (.bin .lss) [.t 69,.c (.i 0)]] [69])
 (.cond (.t 70) [70]
 (.seq
 (.region false [oK 4 .mv [.c (.b false)]] [10,11])
 .ret)
 .skip))
 (.seq
 (.seq
 (.region false [oK 71 .mv [.t 11],
 oK 72 .mv [.t 10],
 oK 73 (.bin .neq) [.t 71,.t 72]] [10,11,71,72])
 (.cond (.t 73) [73]
 (.seq
 (.region false [oK 4 .mv [.c (.b false)]] [])
 .ret)
 .skip))
 (.seq
 (.region false [oK 4 .mv [.c (.b true)]] [])
 .ret))))))))))))))))))))))))) }
/-- laws.szIntSS -/
def F_laws_szIntSS_L0 : LC :=
 (.seq
 (.seq
 (.region false [oK 12 .mv [.t 5],
 oK 13 .mv [.t 0],
 oK 14 .len [.t 13],
 oK 15 (.bin .lss) [.t 12,.t 14]] [12,13,14])
 (.cond (.t 15) [15]
 .skip
 (.exit 0)))
 (.seq
 (.block 1
 (.seq
 (.region false [oK 18 .mv [.t 0],
 oK 19 .mv [.t 5],
 oK 20 (.idxa 1) [.t 18,.t 19],
 oK 21 (.load 1 false) [.t 20],
 oK 22 .mv [.t 1],
 oK 23 (.call n_laws_szIntS 11776) [.t 21,.t 22],
 oK 1 .mv [.t 23]] [18,19,20,21,22,23])
 (.seq
 (.region false [oK 24 .mv [.t 1],
 oK 25 (.bin .lss) [.t 24,.c (.i 0)]] [24])
 (.cond (.t 25) [25]
 (.seq
 (.region false [oK 4 .mv [.c (.i (-1))]] [0,1,5])
 .ret)
 .skip))))
 (.region false [oK 16 .mv [.t 5],
 oK 17 (.bin .add) [.t 16,.c (.i 1)],
 oK 5 .mv [.t 17]] [16,17])))
def F_laws_szIntSS_W0 : LC := .loop F_laws_szIntSS_L0
def F_laws_szIntSS : LF :=
 { nparams := 2,results := [.t 4],body :=
 (.seq
 (.region false [oK 4 .mv [.c (.i 0)]] [4])
 (.seq
 (.region false [oK 6 .mv [.t 1],
 oK 7 .mv [.t 0],
 oK 8 .len [.t 7],
 oK 9 (.bin .sub) [.t 6,.t 8],
 oK 1 .mv [.t 9]] [6,7,8,9])
 (.seq
 (.seq
 (.region false [oK 10 .mv [.t 1],
 oK 11 (.bin .lss) [.t 10,.c (.i 0)]] [10])
 (.cond (.t 11) [11]
 (.seq
 (.region false [oK 4 .mv [.c (.i (-1))]] [0,1])
 .ret)
 .skip))
 (.seq
 (.seq
 (.region false [oK 5 .mv [.c (.i 0)]] [])
 (.block 0
 F_laws_szIntSS_W0))
 (.seq
 (.region false [oK 26 .mv [.t 1],
 oK 4 .mv [.t 26]] [0,1,5,26])
 .ret))))) }
/-- spec.GroupTerm -/
def F_spec_GroupTerm_L1 : LC :=
 (.seq
 (.seq
 (.region false [oK 20 .mv [.t 7],
 oK 21 .mv [.t 1],
 oK 22 .mv [.t 6],
 oK 23 (.idxa 1) [.t 21,.t 22],
 oK 24 (.load 1 false) [.t 23],
 oK 25 .len [.t 24],
 oK 26 (.bin .lss) [.t 20,.t 25]] [20,21,22,23,24,25])
 (.cond (.t 26) [26]
 .skip
 (.exit 2)))
 (.seq
 (.block 3
 (.seq
 (.region false [oK 29 .mv [.t 5],
 oK 30 .mv [.t 1],
 oK 31 .mv [.t 6],
 oK 32 (.idxa 1) [.t 30,.t 31],
 oK 33 (.load 1 false) [.t 32],
 oK 34 .mv [.t 7],
 oK 35 (.idxa 1) [.t 33,.t 34],
 oK 36 (.load 1 false) [.t 35],
 oK 37 (.build [.i 0,.i 0] [(0,1),(1,1)]) [.c (.i 0),.t 36],
 oK 38 (.bslice 19472 1 2 (.st [.i 0,.i 0]) [0]) [.t 37],
 oK 39 (.app 19984 2) [.t 29,.t 38],
 oK 5 .mv [.t 39]] [29,30,31,32,33,34,35,36,37,38,39])
 (.seq
 (.region false [oK 40 .mv [.t 7],
 oK 41 (.bin .gtr) [.t 40,.c (.i 0)]] [40])
 (.cond (.t 41) [41]
 (.region false [oK 42 .mv [.t 5],
 oK 43 (.build [.i 0,.i 0] [(0,1)]) [.c (.i 3)],
 oK 44 (.bslice 22544 1 2 (.st [.i 0,.i 0]) [0]) [.t 43],
 oK 45 (.app 23056 2) [.t 42,.t 44],
 oK 5 .mv [.t 45]] [42,43,44,45])
 .skip))))
 (.region false [oK 27 .mv [.t 7],
 oK 28 (.bin .add) [.t 27,.c (.i 1)],
 oK 7 .mv [.t 28]] [27,28])))
def F_spec_GroupTerm_W1 : LC := .loop F_spec_GroupTerm_L1
def F_spec_GroupTerm_L0 : LC :=
 (.seq
 (.seq
 (.region false [oK 9 .mv [.t 6],
 oK 10 .mv [.t 1],
 oK 11 .len [.t 10],
 oK 12 (.bin .lss) [.t 9,.t 11],
 oK 13 .mv [.t 12],
 oG 14 .mv [.t 0] 13 true,
 oG 15 .mv [.t 1] 13 true,
 oG 16 (.call n_spec_GroupsOk 8192) [.t 14,.t 15] 13 true,
 oK 17 .pick [.t 13,.t 16,.c (.b false)]] [9,10,11,12,13,14,15,16])
 (.cond (.t 17) [17]
 .skip
 (.exit 0)))
 (.seq
 (.block 1
 (.seq
 (.seq
 (.region false [oK 7 .mv [.c (.i 0)]] [])
 (.block 2
 F_spec_GroupTerm_W1))
 (.seq
 (.region false [oK 46 .mv [.t 6],
 oK 47 (.bin .gtr) [.t 46,.c (.i 0)]] [7,46])
 (.cond (.t 47) [47]
 (.region false [oK 48 .mv [.t 5],
 oK 49 (.build [.i 0,.i 0] [(0,1)]) [.c (.i 2)],
 oK 50 (.bslice 25616 1 2 (.st [.i 0,.i 0]) [0]) [.t 49],
 oK 51 (.app 26128 2) [.t 48,.t 50],
 oK 5 .mv [.t 51]] [48,49,50,51])
 .skip))))
 (.region false [oK 18 .mv [.t 6],
 oK 19 (.bin .add) [.t 18,.c (.i 1)],
 oK 6 .mv [.t 19]] [18,19])))
def F_spec_GroupTerm_W0 : LC := .loop F_spec_GroupTerm_L0
def F_spec_GroupTerm : LF :=
 { nparams := 2,results := [.t 4],body :=
 (.seq
 (.region false [oK 4 (.newnil 2064) []] [4])
 (.seq
 (.region false [oK 8 (.bslice 4112 0 2 (.st [.i 0,.i 0]) []) [],
 oK 5 .mv [.t 8]] [8])
 (.seq
 (.seq
 (.region false [oK 6 .mv [.c (.i 0)]] [])
 (.block 0
 F_spec_GroupTerm_W0))
 (.seq
 (.region false [oK 52 .mv [.t 5],
 oK 4 .mv [.t 52]] [0,1,5,6,52])
 .ret)))) }
/-- laws.toIntSS -/
def F_laws_toIntSS_L0 : LC :=
 (.seq
 (.seq
 (.region false [oK 8 .mv [.t 4],
 oK 9 .mv [.t 0],
 oK 10 .len [.t 9],
 oK 11 (.bin .lss) [.t 8,.t 10]] [8,9,10])
 (.cond (.t 11) [11]
 .skip
 (.exit 0)))
 (.seq
 (.block 1
 (.region false [oK 14 .mv [.t 3],
 oK 15 .mv [.t 4],
 oK 16 .mv [.t 0],
 oK 17 .mv [.t 4],
 oK 18 (.idxa 1) [.t 16,.t 17],
 oK 19 (.load 1 false) [.t 18],
 oK 20 (.call n_laws_toIntS 10240) [.t 19],
 oK 21 (.idxa 1) [.t 14,.t 15],
 ⟨none,.store 1,[.t 21,.t 20],none⟩] [14,15,16,17,18,19,20,21]))
 (.region false [oK 12 .mv [.t 4],
 oK 13 (.bin .add) [.t 12,.c (.i 1)],
 oK 4 .mv [.t 13]] [12,13])))
def F_laws_toIntSS_W0 : LC := .loop F_laws_toIntSS_L0
def F_laws_toIntSS : LF :=
 { nparams := 1,results := [.t 2],body :=
 (.seq
 (.region false [oK 2 (.newnil 1032) []] [2])
 (.seq
 (.region false [oK 5 .mv [.t 0],
 oK 6 .len [.t 5],
 oK 7 (.make 3592 1 (.sl 1 [])) [.t 6,.t 6],
 oK 3 .mv [.t 7]] [5,6,7])
 (.seq
 (.seq
 (.region false [oK 4 .mv [.c (.i 0)]] [])
 (.block 0
 F_laws_toIntSS_W0))
 (.seq
 (.region false [oK 22 .mv [.t 3],
 oK 2 .mv [.t 22]] [0,3,4,22])
 .ret)))) }
/-- impl.GroupTerm -/
def F_impl_GroupTerm_L1 : LC :=
 (.seq
 (.region false [oK 24 (.bin .lss) [.t 23,.t 22]] [])
 (.seq
 (.cond (.t 24) [24]
 .skip
 (.exit 2))
 (.seq
 (.block 3
 (.seq
 (.region false [oK 25 .mv [.t 23],
 oK 26 (.idxa 1) [.t 21,.t 23],
 oK 27 (.load 1 false) [.t 26],
 oK 8 .mv [.t 25],
 oK 9 .mv [.t 27]] [25,26,27])
 (.seq
 (.region false [oK 28 .mv [.t 5],
 oK 29 .mv [.t 9],
 oK 30 (.build [.i 0,.i 0] [(0,1),(1,1)]) [.c (.i 0),.t 29],
 oK 31 (.bslice 15888 1 2 (.st [.i 0,.i 0]) [0]) [.t 30],
 oK 32 (.app 16400 2) [.t 28,.t 31],
 oK 5 .mv [.t 32]] [9,28,29,30,31,32])
 (.seq
 (.region false [oK 33 .mv [.t 8],
 oK 34 (.bin .gtr) [.t 33,.c (.i 0)]] [8,33])
 (.cond (.t 34) [34]
 (.region false [oK 35 .mv [.t 5],
 oK 36 (.build [.i 0,.i 0] [(0,1)]) [.c (.i 3)],
 oK 37 (.bslice 18960 1 2 (.st [.i 0,.i 0]) [0]) [.t 36],
 oK 38 (.app 19472 2) [.t 35,.t 37],
 oK 5 .mv [.t 38]] [35,36,37,38])
 .skip)))))
 (.region false [oK 39 (.bin .add) [.t 23,.c (.i 1)],
 oK 23 .mv [.t 39]] [39]))))
def F_impl_GroupTerm_W1 : LC := .loop F_impl_GroupTerm_L1
def F_impl_GroupTerm_L0 : LC :=
 (.seq
 (.region false [oK 17 (.bin .lss) [.t 16,.t 15]] [])
 (.seq
 (.cond (.t 17) [17]
 .skip
 (.exit 0))
 (.seq
 (.block 1
 (.seq
 (.region false [oK 18 .mv [.t 16],
 oK 19 (.idxa 1) [.t 14,.t 16],
 oK 20 (.load 1 false) [.t 19],
 oK 6 .mv [.t 18],
 oK 7 .mv [.t 20]] [18,19,20])
 (.seq
 (.seq
 (.region false [oK 21 .mv [.t 7],
 oK 22 .len [.t 21],
 oK 23 .mv [.c (.i 0)]] [7])
 (.block 2
 F_impl_GroupTerm_W1))
 (.seq
 (.region false [oK 40 .mv [.t 6],
 oK 41 (.bin .gtr) [.t 40,.c (.i 0)]] [6,21,22,23,40])
 (.cond (.t 41) [41]
 (.region false [oK 42 .mv [.t 5],
 oK 43 (.build [.i 0,.i 0] [(0,1)]) [.c (.i 2)],
 oK 44 (.bslice 22544 1 2 (.st [.i 0,.i 0]) [0]) [.t 43],
 oK 45 (.app 23056 2) [.t 42,.t 44],
 oK 5 .mv [.t 45]] [42,43,44,45])
 .skip)))))
 (.region false [oK 46 (.bin .add) [.t 16,.c (.i 1)],
 oK 16 .mv [.t 46]] [46]))))
def F_impl_GroupTerm_W0 : LC := .loop F_impl_GroupTerm_L0
def F_impl_GroupTerm : LF :=
 { nparams := 2,results := [.t 4],body :=
 (.seq
 (.region false [oK 4 (.newnil 2064) []] [4])
 (.seq
 (.seq
 (.region false [oK 10 .mv [.t 0],
 oK 11 .mv [.t 1],
 oK 12 (.call n_impl_GroupsOk 6144) [.t 10,.t 11],
 oK 13 (.un .not) [.t 12]] [0,10,11,12])
 (.cond (.t 13) [13]
 (.seq
 (.region false [oK 4 (.newnil 2064) []] [1])
 .ret)
 .skip))
 (.seq
 (.region false [oK 5 (.newnil 2576) []] [])
 (.seq
 (.seq
 (.region false [oK 14 .mv [.t 1],
 oK 15 .len [.t 14],
 oK 16 .mv [.c (.i 0)]] [1])
 (.block 0
 F_impl_GroupTerm_W0))
 (.seq
 (.region false [oK 47 .mv [.t 5],
 oK 4 .mv [.t 47]] [5,14,15,16,47])
 .ret))))) }
/-- laws.eqMarkS -/
def F_laws_eqMarkS_L0 : LC :=
 (.seq
 (.seq
 (.region false [oK 11 .mv [.t 5],
 oK 12 .mv [.t 0],
 oK 13 .len [.t 12],
 oK 14 (.bin .lss) [.t 11,.t 13]] [11,12,13])
 (.cond (.t 14) [14]
 .skip
 (.exit 0)))
 (.seq
 (.block 1
 (.seq
 (.region true [oK 17 .mv [.t 0],
 oK 18 .mv [.t 5],
 oK 19 (.idxa 2) [.t 17,.t 18],
 oK 20 (.load 2 true) [.t 19],
 oK 21 .mv [.t 1],
 oK 22 .mv [.t 5],
 oK 23 (.idxa 2) [.t 21,.t 22],
 oK 24 (.load 2 true) [.t 23],
 oK 25 (.call n_laws_eqMark 12800) [.t 20,.t 24],
 oK 26 (.un .not) [.t 25]] [17,18,19,20,21,22,23,24,25])
 (.cond (.t 26) [26]
 (.seq
 (.region false [oK 4 .mv [.c (.b false)]] [0,1,5])
 .ret)
 .skip)))
 (.region false [oK 15 .mv [.t 5],
 oK 16 (.bin .add) [.t 15,.c (.i 1)],
 oK 5 .mv [.t 16]] [15,16])))
def F_laws_eqMarkS_W0 : LC := .loop F_laws_eqMarkS_L0
def F_laws_eqMarkS : LF :=
 { nparams := 2,results := [.t 4],body :=
 (.seq
 (.region false [oK 4 .mv [.c (.b false)]] [4])
 (.seq
 (.seq
 (.region false [oK 6 .mv [.t 0],
 oK 7 .len [.t 6],
 oK 8 .mv [.t 1],
 oK 9 .len [.t 8],
 oK 10 (.bin .neq) [.t 7,.t 9]] [6,7,8,9])
 (.cond (.t 10) [10]
 (.seq
 (.region false [oK 4 .mv [.c (.b false)]] [0,1])
 .ret)
 .skip))
 (.seq
 (.seq
 (.region false [oK 5 .mv [.c (.i 0)]] [])
 (.block 0
 F_laws_eqMarkS_W0))
 (.seq
 (.region false [oK 4 .mv [.c (.b true)]] [0,1,5])
 .ret)))) }
/-- laws.eqIntSS -/
def F_laws_eqIntSS_L0 : LC :=
 (.seq
 (.seq
 (.region false [oK 11 .mv [.t 5],
 oK 12 .mv [.t 0],
 oK 13 .len [.t 12],
 oK 14 (.bin .lss) [.t 11,.t 13]] [11,12,13])
 (.cond (.t 14) [14]
 .skip
 (.exit 0)))
 (.seq
 (.block 1
 (.seq
 (.region true [oK 17 .mv [.t 0],
 oK 18 .mv [.t 5],
 oK 19 (.idxa 1) [.t 17,.t 18],
 oK 20 (.load 1 false) [.t 19],
 oK 21 .mv [.t 1],
 oK 22 .mv [.t 5],
 oK 23 (.idxa 1) [.t 21,.t 22],
 oK 24 (.load 1 false) [.t 23],
 oK 25 (.call n_laws_eqIntS 12800) [.t 20,.t 24],
 oK 26 (.un .not) [.t 25]] [17,18,19,20,21,22,23,24,25])
 (.cond (.t 26) [26]
 (.seq
 (.region false [oK 4 .mv [.c (.b false)]] [0,1,5])
 .ret)
 .skip)))
 (.region false [oK 15 .mv [.t 5],
 oK 16 (.bin .add) [.t 15,.c (.i 1)],
 oK 5 .mv [.t 16]] [15,16])))
def F_laws_eqIntSS_W0 : LC := .loop F_laws_eqIntSS_L0
def F_laws_eqIntSS : LF :=
 { nparams := 2,results := [.t 4],body :=
 (.seq
 (.region false [oK 4 .mv [.c (.b false)]] [4])
 (.seq
 (.seq
 (.region false [oK 6 .mv [.t 0],
 oK 7 .len [.t 6],
 oK 8 .mv [.t 1],
 oK 9 .len [.t 8],
 oK 10 (.bin .neq) [.t 7,.t 9]] [6,7,8,9])
 (.cond (.t 10) [10]
 (.seq
 (.region false [oK 4 .mv [.c (.b false)]] [0,1])
 .ret)
 .skip))
 (.seq
 (.seq
 (.region false [oK 5 .mv [.c (.i 0)]] [])
 (.block 0
 F_laws_eqIntSS_W0))
 (.seq
 (.region false [oK 4 .mv [.c (.b true)]] [0,1,5])
 .ret)))) }
/-- laws.markIntSS -/
def F_laws_markIntSS_L0 : LC :=
 (.seq
 (.seq
 (.region false [oK 6 .mv [.t 5],
 oK 7 .mv [.t 0],
 oK 8 .len [.t 7],
 oK 9 (.bin .lss) [.t 6,.t 8]] [6,7,8])
 (.cond (.t 9) [9]
 .skip
 (.exit 0)))
 (.seq
 (.block 1
 (.region false [oK 12 .mv [.t 0],
 oK 13 .mv [.t 5],
 oK 14 (.idxa 1) [.t 12,.t 13],
 oK 15 (.load 1 false) [.t 14],
 oK 16 .mv [.t 1],
 oK 17 (.call n_laws_markIntS 8708) [.t 15,.t 16],
 oK 1 .mv [.t 17]] [12,13,14,15,16,17]))
 (.region false [oK 10 .mv [.t 5],
 oK 11 (.bin .add) [.t 10,.c (.i 1)],
 oK 5 .mv [.t 11]] [10,11])))
def F_laws_markIntSS_W0 : LC := .loop F_laws_markIntSS_L0
def F_laws_markIntSS : LF :=
 { nparams := 2,results := [.t 4],body :=
 (.seq
 (.region false [oK 4 .mv [.c (.i 0)]] [4])
 (.seq
 (.seq
 (.region false [oK 5 .mv [.c (.i 0)]] [])
 (.block 0
 F_laws_markIntSS_W0))
 (.seq
 (.region false [oK 18 .mv [.t 1],
 oK 4 .mv [.t 18]] [1,5,18])
 .ret))) }
/-- laws.markMarkS -/
def F_laws_markMarkS_L0 : LC :=
 (.seq
 (.seq
 (.region false [oK 6 .mv [.t 5],
 oK 7 .mv [.t 0],
 oK 8 .len [.t 7],
 oK 9 (.bin .lss) [.t 6,.t 8]] [6,7,8])
 (.cond (.t 9) [9]
 .skip
 (.exit 0)))
 (.seq
 (.block 1
 (.seq
 (.region false [oK 12 .mv [.t 0],
 oK 13 .mv [.t 5],
 oK 14 .mv [.t 1],
 oK 15 (.idxa 2) [.t 12,.t 13],
 oK 16 (.fld 0 1 false) [.t 15],
 ⟨none,.store 1,[.t 16,.t 14],none⟩] [12,13,14,15,16])
 (.seq
 (.region false [oK 17 .mv [.t 1],
 oK 18 (.bin .add) [.t 17,.c (.i 1)],
 oK 1 .mv [.t 18]] [17,18])
 (.seq
 (.region false [oK 19 .mv [.t 0],
 oK 20 .mv [.t 5],
 oK 21 .mv [.t 1],
 oK 22 (.idxa 2) [.t 19,.t 20],
 oK 23 (.fld 1 1 false) [.t 22],
 ⟨none,.store 1,[.t 23,.t 21],none⟩] [19,20,21,22,23])
 (.region false [oK 24 .mv [.t 1],
 oK 25 (.bin .add) [.t 24,.c (.i 1)],
 oK 1 .mv [.t 25]] [24,25])))))
 (.region false [oK 10 .mv [.t 5],
 oK 11 (.bin .add) [.t 10,.c (.i 1)],
 oK 5 .mv [.t 11]] [10,11])))
def F_laws_markMarkS_W0 : LC := .loop F_laws_markMarkS_L0
def F_laws_markMarkS : LF :=
 { nparams := 2,results := [.t 4],body :=
 (.seq
 (.region false [oK 4 .mv [.c (.i 0)]] [4])
 (.seq
 (.seq
 (.region false [oK 5 .mv [.c (.i 0)]] [])
 (.block 0
 F_laws_markMarkS_W0))
 (.seq
 (.region false [oK 26 .mv [.t 1],
 oK 4 .mv [.t 26]] [1,5,26])
 .ret))) }
/-- laws.heldMarkS -/
def F_laws_heldMarkS_L0 : LC :=
 (.seq
 (.seq
 (.region false [oK 6 .mv [.t 5],
 oK 7 .mv [.t 0],
 oK 8 .len [.t 7],
 oK 9 (.bin .lss) [.t 6,.t 8]] [6,7,8])
 (.cond (.t 9) [9]
 .skip
 (.exit 0)))
 (.seq
 (.block 1
 (.seq
 (.seq
 (.region false [oK 12 .mv [.t 0],
 oK 13 .mv [.t 5],
 oK 14 (.idxa 2) [.t 12,.t 13],
 oK 15 (.fld 0 1 false) [.t 14],
 oK 16 (.load 1 false) [.t 15],
 oK 17 .mv [.t 1],
 oK 18 (.bin .neq) [.t 16,.t 17]] [12,13,14,15,16,17])
 (.cond (.t 18) [18]
 (.seq
 (.region false [oK 4 .mv [.c (.i (-1))]] [0,1,5])
 .ret)
 .skip))
 (.seq
 (.region false [oK 19 .mv [.t 1],
 oK 20 (.bin .add) [.t 19,.c (.i 1)],
 oK 1 .mv [.t 20]] [19,20])
 (.seq
 (.seq
 (.region false [oK 21 .mv [.t 0],
 oK 22 .mv [.t 5],
 oK 23 (.idxa 2) [.t 21,.t 22],
 oK 24 (.fld 1 1 false) [.t 23],
 oK 25 (.load 1 false) [.t 24],
 oK 26 .mv [.t 1],
 oK 27 (.bin .neq) [.t 25,.t 26]] [21,22,23,24,25,26])
 (.cond (.t 27) [27]
 (.seq
 (.region false [oK 4 .mv [.c (.i (-1))]] [0,1,5])
 .ret)
 .skip))
 (.region false [oK 28 .mv [.t 1],
 oK 29 (.bin .add) [.t 28,.c (.i 1)],
 oK 1 .mv [.t 29]] [28,29])))))
 (.region false [oK 10 .mv [.t 5],
 oK 11 (.bin .add) [.t 10,.c (.i 1)],
 oK 5 .mv [.t 11]] [10,11])))
def F_laws_heldMarkS_W0 : LC := .loop F_laws_heldMarkS_L0
def F_laws_heldMarkS : LF :=
 { nparams := 2,results := [.t 4],body :=
 (.seq
 (.region false [oK 4 .mv [.c (.i 0)]] [4])
 (.seq
 (.seq
 (.region false [oK 5 .mv [.c (.i 0)]] [])
 (.block 0
 F_laws_heldMarkS_W0))
 (.seq
 (.region false [oK 30 .mv [.t 1],
 oK 4 .mv [.t 30]] [0,1,5,30])
 .ret))) }
/-- laws.eqIntS -/
def F_laws_eqIntS_L0 : LC :=
 (.seq
 (.seq
 (.region false [oK 11 .mv [.t 5],
 oK 12 .mv [.t 0],
 oK 13 .len [.t 12],
 oK 14 (.bin .lss) [.t 11,.t 13]] [11,12,13])
 (.cond (.t 14) [14]
 .skip
 (.exit 0)))
 (.seq
 (.block 1
 (.seq
 (.region true [oK 17 .mv [.t 0],
 oK 18 .mv [.t 5],
 oK 19 (.idxa 1) [.t 17,.t 18],
 oK 20 (.load 1 false) [.t 19],
 oK 21 .mv [.t 1],
 oK 22 .mv [.t 5],
 oK 23 (.idxa 1) [.t 21,.t 22],
 oK 24 (.load 1 false) [.t 23],
 oK 25 (.bin .neq) [.t 20,.t 24]] [17,18,19,20,21,22,23,24])
 (.cond (.t 25) [25]
 (.seq
 (.region false [oK 4 .mv [.c (.b false)]] [0,1,5])
 .ret)
 .skip)))
 (.region false [oK 15 .mv [.t 5],
 oK 16 (.bin .add) [.t 15,.c (.i 1)],
 oK 5 .mv [.t 16]] [15,16])))
def F_laws_eqIntS_W0 : LC := .loop F_laws_eqIntS_L0
def F_laws_eqIntS : LF :=
 { nparams := 2,results := [.t 4],body :=
 (.seq
 (.region false [oK 4 .mv [.c (.b false)]] [4])
 (.seq
 (.seq
 (.region false [oK 6 .mv [.t 0],
 oK 7 .len [.t 6],
 oK 8 .mv [.t 1],
 oK 9 .len [.t 8],
 oK 10 (.bin .neq) [.t 7,.t 9]] [6,7,8,9])
 (.cond (.t 10) [10]
 (.seq
 (.region false [oK 4 .mv [.c (.b false)]] [0,1])
 .ret)
 .skip))
 (.seq
 (.seq
 (.region false [oK 5 .mv [.c (.i 0)]] [])
 (.block 0
 F_laws_eqIntS_W0))
 (.seq
 (.region false [oK 4 .mv [.c (.b true)]] [0,1,5])
 .ret)))) }
/-- laws.markIntS -/
def F_laws_markIntS_L0 : LC :=
 (.seq
 (.seq
 (.region false [oK 6 .mv [.t 5],
 oK 7 .mv [.t 0],
 oK 8 .len [.t 7],
 oK 9 (.bin .lss) [.t 6,.t 8]] [6,7,8])
 (.cond (.t 9) [9]
 .skip
 (.exit 0)))
 (.seq
 (.block 1
 (.seq
 (.region false [oK 12 .mv [.t 0],
 oK 13 .mv [.t 5],
 oK 14 .mv [.t 1],
 oK 15 (.idxa 1) [.t 12,.t 13],
 ⟨none,.store 1,[.t 15,.t 14],none⟩] [12,13,14,15])
 (.region false [oK 16 .mv [.t 1],
 oK 17 (.bin .add) [.t 16,.c (.i 1)],
 oK 1 .mv [.t 17]] [16,17])))
 (.region false [oK 10 .mv [.t 5],
 oK 11 (.bin .add) [.t 10,.c (.i 1)],
 oK 5 .mv [.t 11]] [10,11])))
def F_laws_markIntS_W0 : LC := .loop F_laws_markIntS_L0
def F_laws_markIntS : LF :=
 { nparams := 2,results := [.t 4],body :=
 (.seq
 (.region false [oK 4 .mv [.c (.i 0)]] [4])
 (.seq
 (.seq
 (.region false [oK 5 .mv [.c (.i 0)]] [])
 (.block 0
 F_laws_markIntS_W0))
 (.seq
 (.region false [oK 18 .mv [.t 1],
 oK 4 .mv [.t 18]] [1,5,18])
 .ret))) }
/-- laws.szIntS -/
def F_laws_szIntS : LF :=
 { nparams := 2,results := [.t 4],body :=
 (.seq
 (.region false [oK 4 .mv [.c (.i 0)]] [4])
 (.seq
 (.region false [oK 5 .mv [.t 1],
 oK 6 .mv [.t 0],
 oK 7 .len [.t 6],
 oK 8 (.bin .sub) [.t 5,.t 7],
 oK 1 .mv [.t 8]] [0,5,6,7,8])
 (.seq
 (.seq
 (.region false [oK 9 .mv [.t 1],
 oK 10 (.bin .lss) [.t 9,.c (.i 0)]] [9])
 (.cond (.t 10) [10]
 (.seq
 (.region false [oK 4 .mv [.c (.i (-1))]] [1])
 .ret)
 .skip))
 (.seq
 (.region false [oK 11 .mv [.t 1],
 oK 4 .mv [.t 11]] [1,11])
 .ret)))) }
/-- spec.GroupsOk -/
def F_spec_GroupsOk_L1 : LC :=
 (.seq
 (.seq
 (.region false [oK 22 .mv [.t 8],
 oK 23 .mv [.t 1],
 oK 24 .mv [.t 7],
 oK 25 (.idxa 1) [.t 23,.t 24],
 oK 26 (.load 1 false) [.t 25],
 oK 27 .len [.t 26],
 oK 28 (.bin .lss) [.t 22,.t 27]] [22,23,24,25,26,27])
 (.cond (.t 28) [28]
 .skip
 (.exit 2)))
 (.seq
 (.block 3
 (.seq
 (.region false [oK 31 .mv [.t 1],
 oK 32 .mv [.t 7],
 oK 33 (.idxa 1) [.t 31,.t 32],
 oK 34 (.load 1 false) [.t 33],
 oK 35 .mv [.t 8],
 oK 36 (.idxa 1) [.t 34,.t 35],
 oK 37 (.load 1 false) [.t 36],
 oK 9 .mv [.t 37]] [31,32,33,34,35,36,37])
 (.seq
 (.seq
 (.region false [oK 38 .mv [.t 9],
 oK 39 (.bin .lss) [.t 38,.c (.i 0)],
 oK 40 .mv [.t 39],
 oG 41 .mv [.t 9] 40 false,
 oG 42 .mv [.t 0] 40 false,
 oG 43 (.bin .geq) [.t 41,.t 42] 40 false,
 oK 44 .pick [.t 40,.c (.b true),.t 43],
 oK 45 .mv [.t 44],
 oG 46 .mv [.t 9] 45 false,
 oG 47 (.bin .geq) [.t 46,.c (.i 5)] 45 false,
 oK 48 .pick [.t 45,.c (.b true),.t 47],
 oK 49 .mv [.t 48],
 oG 50 .mv [.t 5] 49 false,
 oG 51 .mv [.t 9] 49 false,
 oG 52 (.bin .shr) [.t 50,.t 51] 49 false,
 oG 53 (.bin .rem) [.t 52,.c (.i 2)] 49 false,
 oG 54 (.bin .eql) [.t 53,.c (.i 1)] 49 false,
 oK 55 .pick [.t 49,.c (.b true),.t 54]] [38,39,40,41,42,43,44,45,46,47,48,49,50,51,52,53,54])
 (.cond (.t 55) [55]
 (.seq
 (.region false [oK 4 .mv [.c (.b false)]] [0,1,5,6,7,8,9])
 .ret)
 .skip))
 (.seq
 (.region false [oK 56 .mv [.t 5],
 oK 57 .mv [.t 9],
 oK 58 (.bin .shl) [.c (.i 1),.t 57],
 oK 59 (.bin .or) [.t 56,.t 58],
 oK 5 .mv [.t 59]] [9,56,57,58,59])
 (.region false [oK 60 .mv [.t 6],
 oK 61 (.bin .add) [.t 60,.c (.i 1)],
 oK 6 .mv [.t 61]] [60,61])))))
 (.region false [oK 29 .mv [.t 8],
 oK 30 (.bin .add) [.t 29,.c (.i 1)],
 oK 8 .mv [.t 30]] [29,30])))
def F_spec_GroupsOk_W1 : LC := .loop F_spec_GroupsOk_L1
def F_spec_GroupsOk_L0 : LC :=
 (.seq
 (.seq
 (.region false [oK 10 .mv [.t 7],
 oK 11 .mv [.t 1],
 oK 12 .len [.t 11],
 oK 13 (.bin .lss) [.t 10,.t 12]] [10,11,12])
 (.cond (.t 13) [13]
 .skip
 (.exit 0)))
 (.seq
 (.block 1
 (.seq
 (.seq
 (.region false [oK 16 .mv [.t 1],
 oK 17 .mv [.t 7],
 oK 18 (.idxa 1) [.t 16,.t 17],
 oK 19 (.load 1 false) [.t 18],
 oK 20 .len [.t 19],
 oK 21 (.bin .eql) [.t 20,.c (.i 0)]] [16,17,18,19,20])
 (.cond (.t 21) [21]
 (.seq
 (.region false [oK 4 .mv [.c (.b false)]] [0,1,5,6,7])
 .ret)
 .skip))
 (.seq
 (.region false [oK 8 .mv [.c (.i 0)]] [])
 (.block 2
 F_spec_GroupsOk_W1))))
 (.region false [oK 14 .mv [.t 7],
 oK 15 (.bin .add) [.t 14,.c (.i 1)],
 oK 7 .mv [.t 15]] [8,14,15])))
def F_spec_GroupsOk_W0 : LC := .loop F_spec_GroupsOk_L0
def F_spec_GroupsOk : LF :=
 { nparams := 2,results := [.t 4],body :=
 (.seq
 (.region false [oK 4 .mv [.c (.b false)]] [4])
 (.seq
 (.region false [oK 5 .mv [.c (.i 0)]] [])
 (.seq
 (.region false [oK 6 .mv [.c (.i 0)]] [])
 (.seq
 (.seq
 (.region false [oK 7 .mv [.c (.i 0)]] [])
 (.block 0
 F_spec_GroupsOk_W0))
 (.seq
 (.region false [oK 62 .mv [.t 0],
 oK 63 (.call n_spec_l1In 32256) [.t 62,.c (.i 1),.c (.i 5)],
 oK 64 .mv [.t 63],
 oG 65 .mv [.t 6] 64 true,
 oG 66 .mv [.t 0] 64 true,
 oG 67 (.bin .eql) [.t 65,.t 66] 64 true,
 oK 68 .pick [.t 64,.t 67,.c (.b false)],
 oK 4 .mv [.t 68]] [0,1,5,6,7,62,63,64,65,66,67,68])
 .ret))))) }
/-- laws.toIntS -/
def F_laws_toIntS_L0 : LC :=
 (.seq
 (.seq
 (.region false [oK 8 .mv [.t 4],
 oK 9 .mv [.t 0],
 oK 10 .len [.t 9],
 oK 11 (.bin .lss) [.t 8,.t 10]] [8,9,10])
 (.cond (.t 11) [11]
 .skip
 (.exit 0)))
 (.seq
 (.block 1
 (.region false [oK 14 .mv [.t 3],
 oK 15 .mv [.t 4],
 oK 16 .mv [.t 0],
 oK 17 .mv [.t 4],
 oK 18 (.idxa 1) [.t 16,.t 17],
 oK 19 (.load 1 false) [.t 18],
 oK 20 (.idxa 1) [.t 14,.t 15],
 ⟨none,.store 1,[.t 20,.t 19],none⟩] [14,15,16,17,18,19,20]))
 (.region false [oK 12 .mv [.t 4],
 oK 13 (.bin .add) [.t 12,.c (.i 1)],
 oK 4 .mv [.t 13]] [12,13])))
def F_laws_toIntS_W0 : LC := .loop F_laws_toIntS_L0
def F_laws_toIntS : LF :=
 { nparams := 1,results := [.t 2],body :=
 (.seq
 (.region false [oK 2 (.newnil 1032) []] [2])
 (.seq
 (.region false [oK 5 .mv [.t 0],
 oK 6 .len [.t 5],
 oK 7 (.make 3592 1 (.i 0)) [.t 6,.t 6],
 oK 3 .mv [.t 7]] [5,6,7])
 (.seq
 (.seq
 (.region false [oK 4 .mv [.c (.i 0)]] [])
 (.block 0
 F_laws_toIntS_W0))
 (.seq
 (.region false [oK 21 .mv [.t 3],
 oK 2 .mv [.t 21]] [0,3,4,21])
 .ret)))) }
/-- impl.GroupsOk -/
def F_impl_GroupsOk_L0 : LC :=
 (.seq
 (.region false [oK 14 (.bin .lss) [.t 13,.t 12]] [])
 (.seq
 (.cond (.t 14) [14]
 .skip
 (.exit 0))
 (.seq
 (.block 1
 (.seq
 (.region false [oK 15 (.idxa 1) [.t 11,.t 13],
 oK 16 (.load 1 false) [.t 15],
 oK 7 .mv [.t 16]] [15,16])
 (.seq
 (.seq
 (.region false [oK 17 .mv [.t 7],
 oK 18 .len [.t 17],
 oK 19 .mv [.t 0],
 oK 20 .mv [.t 5],
 oK 21 .len [.t 20],
 oK 22 (.bin .sub) [.t 19,.t 21],
 oK 23 (.call n_impl_isWithin 11776) [.t 18,.c (.i 1),.t 22],
 oK 24 (.un .not) [.t 23]] [17,18,19,20,21,22,23])
 (.cond (.t 24) [24]
 (.seq
 (.region false [oK 4 .mv [.c (.b false)]] [0,5,7,11,12,13])
 .ret)
 .skip))
 (.region false [oK 25 .mv [.t 5],
 oK 26 .mv [.t 7],
 oK 27 (.app 13832 1) [.t 25,.t 26],
 oK 5 .mv [.t 27]] [7,25,26,27]))))
 (.region false [oK 28 (.bin .add) [.t 13,.c (.i 1)],
 oK 13 .mv [.t 28]] [28]))))
def F_impl_GroupsOk_W0 : LC := .loop F_impl_GroupsOk_L0
def F_impl_GroupsOk : LF :=
 { nparams := 2,results := [.t 4],body :=
 (.seq
 (.region false [oK 4 .mv [.c (.b false)]] [4])
 (.seq
 (.seq
 (.region false [oK 8 .mv [.t 0],
 oK 9 (.call n_impl_manyOk 4608) [.t 8],
 oK 10 (.un .not) [.t 9]] [8,9])
 (.cond (.t 10) [10]
 (.seq
 (.region false [oK 4 .mv [.c (.b false)]] [0,1])
 .ret)
 .skip))
 (.seq
 (.region false [oK 5 (.newnil 2568) []] [])
 (.seq
 (.seq
 (.region false [oK 11 .mv [.t 1],
 oK 12 .len [.t 11],
 oK 13 .mv [.c (.i 0)]] [1])
 (.block 0
 F_impl_GroupsOk_W0))
 (.seq
 (.region false [oK 29 .mv [.t 0],
 oK 30 .mv [.t 5],
 oK 31 (.call n_impl_OrderOk 15872) [.t 29,.t 30],
 oK 4 .mv [.t 31]] [0,5,11,12,13,29,30,31])
 .ret))))) }
/-- laws.eqMark -/
def F_laws_eqMark : LF :=
 { nparams := 2,results := [.t 4],body :=
 (.seq
 (.region false [oK 2 (.box 1040) [.t 0],
 oK 3 (.box 1552) [.t 1],
 oK 4 .mv [.c (.b false)]] [0,1,4])
 (.seq
 (.seq
 (.region false [oK 5 (.fld 0 1 false) [.t 2],
 oK 6 (.load 1 false) [.t 5],
 oK 7 (.fld 0 1 false) [.t 3],
 oK 8 (.load 1 false) [.t 7],
 oK 9 (.bin .neq) [.t 6,.t 8]] [5,6,7,8])
 (.cond (.t 9) [9]
 (.seq
 (.region false [oK 4 .mv [.c (.b false)]] [2,3])
 .ret)
 .skip))
 (.seq
 (.seq
 (.region false [oK 10 (.fld 1 1 false) [.t 2],
 oK 11 (.load 1 false) [.t 10],
 oK 12 (.fld 1 1 false) [.t 3],
 oK 13 (.load 1 false) [.t 12],
 oK 14 (.bin .neq) [.t 11,.t 13]] [2,3,10,11,12,13])
 (.cond (.t 14) [14]
 (.seq
 (.region false [oK 4 .mv [.c (.b false)]] [])
 .ret)
 .skip))
 (.seq
 (.region false [oK 4 .mv [.c (.b true)]] [])
 .ret)))) }
/-- spec.l1In -/
def F_spec_l1In : LF :=
 { nparams := 3,results := [.t 6],body :=
 (.seq
 (.region false [oK 6 .mv [.c (.b false)]] [6])
 (.seq
 (.region false [oK 7 .mv [.t 0],
 oK 8 .mv [.t 1],
 oK 9 (.bin .geq) [.t 7,.t 8],
 oK 10 .mv [.t 9],
 oG 11 .mv [.t 0] 10 true,
 oG 12 .mv [.t 2] 10 true,
 oG 13 (.bin .leq) [.t 11,.t 12] 10 true,
 oK 14 .pick [.t 10,.t 13,.c (.b false)],
 oK 6 .mv [.t 14]] [0,1,2,7,8,9,10,11,12,13,14])
 .ret)) }
/-- impl.isWithin -/
def F_impl_isWithin : LF :=
 { nparams := 3,results := [.t 6],body :=
 (.seq
 (.region false [oK 6 .mv [.c (.b false)]] [6])
 (.seq
 (.region false [oK 7 .mv [.t 1],
 oK 8 .mv [.t 0],
 oK 9 (.bin .leq) [.t 7,.t 8],
 oK 10 .mv [.t 9],
 oG 11 .mv [.t 0] 10 true,
 oG 12 .mv [.t 2] 10 true,
 oG 13 (.bin .leq) [.t 11,.t 12] 10 true,
 oK 14 .pick [.t 10,.t 13,.c (.b false)],
 oK 6 .mv [.t 14]] [0,1,2,7,8,9,10,11,12,13,14])
 .ret)) }
/-- impl.manyOk -/
def F_impl_manyOk : LF :=
 { nparams := 1,results := [.t 2],body :=
 (.seq
 (.region false [oK 2 .mv [.c (.b false)]] [2])
 (.seq
 (.region false [oK 3 .mv [.t 0],
 oK 4 (.call n_impl_isWithin 2048) [.t 3,.c (.i 1),.c (.i 5)],
 oK 2 .mv [.t 4]] [0,3,4])
 .ret)) }
/-- impl.OrderOk -/
def F_impl_OrderOk_L0 : LC :=
 (.seq
 (.region false [oK 20 (.bin .lss) [.t 19,.t 18]] [])
 (.seq
 (.cond (.t 20) [20]
 .skip
 (.exit 0))
 (.seq
 (.block 1
 (.seq
 (.region false [oK 21 (.idxa 1) [.t 17,.t 19],
 oK 22 (.load 1 false) [.t 21],
 oK 7 .mv [.t 22]] [21,22])
 (.seq
 (.seq
 (.region false [oK 23 .mv [.t 7],
 oK 24 .mv [.t 0],
 oK 25 (.bin .sub) [.t 24,.c (.i 1)],
 oK 26 (.call n_impl_isWithin 13312) [.t 23,.c (.i 0),.t 25],
 oK 27 (.un .not) [.t 26],
 oK 28 .mv [.t 27],
 oG 29 .mv [.t 5] 28 false,
 oG 30 .mv [.t 7] 28 false,
 oG 31 (.call n_impl_hasTest 15872) [.t 29,.t 30] 28 false,
 oK 32 .pick [.t 28,.c (.b true),.t 31]] [23,24,25,26,27,28,29,30,31])
 (.cond (.t 32) [32]
 (.seq
 (.region false [oK 4 .mv [.c (.b false)]] [0,5,7,17,18,19])
 .ret)
 .skip))
 (.region false [oK 33 .mv [.t 5],
 oK 34 .mv [.t 7],
 oK 35 (.bin .shl) [.c (.i 1),.t 34],
 oK 36 (.bin .or) [.t 33,.t 35],
 oK 5 .mv [.t 36]] [7,33,34,35,36]))))
 (.region false [oK 37 (.bin .add) [.t 19,.c (.i 1)],
 oK 19 .mv [.t 37]] [37]))))
def F_impl_OrderOk_W0 : LC := .loop F_impl_OrderOk_L0
def F_impl_OrderOk : LF :=
 { nparams := 2,results := [.t 4],body :=
 (.seq
 (.region false [oK 4 .mv [.c (.b false)]] [4])
 (.seq
 (.seq
 (.region false [oK 8 .mv [.t 0],
 oK 9 (.call n_impl_manyOk 4608) [.t 8],
 oK 10 (.un .not) [.t 9],
 oK 11 .mv [.t 10],
 oG 12 .mv [.t 1] 11 false,
 oG 13 .len [.t 12] 11 false,
 oG 14 .mv [.t 0] 11 false,
 oG 15 (.bin .neq) [.t 13,.t 14] 11 false,
 oK 16 .pick [.t 11,.c (.b true),.t 15]] [8,9,10,11,12,13,14,15])
 (.cond (.t 16) [16]
 (.seq
 (.region false [oK 4 .mv [.c (.b false)]] [0,1])
 .ret)
 .skip))
 (.seq
 (.region false [oK 5 .mv [.c (.i 0)]] [])
 (.seq
 (.seq
 (.region false [oK 17 .mv [.t 1],
 oK 18 .len [.t 17],
 oK 19 .mv [.c (.i 0)]] [1])
 (.block 0
 F_impl_OrderOk_W0))
 (.seq
 (.region false [oK 4 .mv [.c (.b true)]] [0,5,17,18,19])
 .ret))))) }
/-- impl.hasTest -/
def F_impl_hasTest : LF :=
 { nparams := 2,results := [.t 4],body :=
 (.seq
 (.region false [oK 4 .mv [.c (.b false)]] [4])
 (.seq
 (.region false [oK 5 .mv [.t 0],
 oK 6 .mv [.t 1],
 oK 7 (.bin .shr) [.t 5,.t 6],
 oK 8 (.bin .and) [.t 7,.c (.i 1)],
 oK 9 (.bin .eql) [.t 8,.c (.i 1)],
 oK 4 .mv [.t 9]] [0,1,5,6,7,8,9])
 .ret)) }
def lf : Nat → Option LF
 | 3 => some F_laws_FnExactGroupTerm
 | 8 => some F_laws_szIntSS
 | 9 => some F_spec_GroupTerm
 | 10 => some F_laws_toIntSS
 | 11 => some F_impl_GroupTerm
 | 12 => some F_laws_eqMarkS
 | 13 => some F_laws_eqIntSS
 | 14 => some F_laws_markIntSS
 | 15 => some F_laws_markMarkS
 | 16 => some F_laws_heldMarkS
 | 26 => some F_laws_eqIntS
 | 27 => some F_laws_markIntS
 | 33 => some F_laws_szIntS
 | 34 => some F_spec_GroupsOk
 | 35 => some F_laws_toIntS
 | 36 => some F_impl_GroupsOk
 | 37 => some F_laws_eqMark
 | 48 => some F_spec_l1In
 | 55 => some F_impl_isWithin
 | 57 => some F_impl_manyOk
 | 58 => some F_impl_OrderOk
 | 68 => some F_impl_hasTest
 | _ => none
theorem w_laws_szIntSS_0 (S : LS) : ex lf F_laws_szIntSS_W0 S = match ex lf F_laws_szIntSS_L0 S with | some (.normal,S1) => ex lf F_laws_szIntSS_W0 S1 | r => r := ex_loop lf F_laws_szIntSS_L0 S
theorem w_spec_GroupTerm_1 (S : LS) : ex lf F_spec_GroupTerm_W1 S = match ex lf F_spec_GroupTerm_L1 S with | some (.normal,S1) => ex lf F_spec_GroupTerm_W1 S1 | r => r := ex_loop lf F_spec_GroupTerm_L1 S
theorem w_spec_GroupTerm_0 (S : LS) : ex lf F_spec_GroupTerm_W0 S = match ex lf F_spec_GroupTerm_L0 S with | some (.normal,S1) => ex lf F_spec_GroupTerm_W0 S1 | r => r := ex_loop lf F_spec_GroupTerm_L0 S
theorem w_laws_toIntSS_0 (S : LS) : ex lf F_laws_toIntSS_W0 S = match ex lf F_laws_toIntSS_L0 S with | some (.normal,S1) => ex lf F_laws_toIntSS_W0 S1 | r => r := ex_loop lf F_laws_toIntSS_L0 S
theorem w_impl_GroupTerm_1 (S : LS) : ex lf F_impl_GroupTerm_W1 S = match ex lf F_impl_GroupTerm_L1 S with | some (.normal,S1) => ex lf F_impl_GroupTerm_W1 S1 | r => r := ex_loop lf F_impl_GroupTerm_L1 S
theorem w_impl_GroupTerm_0 (S : LS) : ex lf F_impl_GroupTerm_W0 S = match ex lf F_impl_GroupTerm_L0 S with | some (.normal,S1) => ex lf F_impl_GroupTerm_W0 S1 | r => r := ex_loop lf F_impl_GroupTerm_L0 S
theorem w_laws_eqMarkS_0 (S : LS) : ex lf F_laws_eqMarkS_W0 S = match ex lf F_laws_eqMarkS_L0 S with | some (.normal,S1) => ex lf F_laws_eqMarkS_W0 S1 | r => r := ex_loop lf F_laws_eqMarkS_L0 S
theorem w_laws_eqIntSS_0 (S : LS) : ex lf F_laws_eqIntSS_W0 S = match ex lf F_laws_eqIntSS_L0 S with | some (.normal,S1) => ex lf F_laws_eqIntSS_W0 S1 | r => r := ex_loop lf F_laws_eqIntSS_L0 S
theorem w_laws_markIntSS_0 (S : LS) : ex lf F_laws_markIntSS_W0 S = match ex lf F_laws_markIntSS_L0 S with | some (.normal,S1) => ex lf F_laws_markIntSS_W0 S1 | r => r := ex_loop lf F_laws_markIntSS_L0 S
theorem w_laws_markMarkS_0 (S : LS) : ex lf F_laws_markMarkS_W0 S = match ex lf F_laws_markMarkS_L0 S with | some (.normal,S1) => ex lf F_laws_markMarkS_W0 S1 | r => r := ex_loop lf F_laws_markMarkS_L0 S
theorem w_laws_heldMarkS_0 (S : LS) : ex lf F_laws_heldMarkS_W0 S = match ex lf F_laws_heldMarkS_L0 S with | some (.normal,S1) => ex lf F_laws_heldMarkS_W0 S1 | r => r := ex_loop lf F_laws_heldMarkS_L0 S
theorem w_laws_eqIntS_0 (S : LS) : ex lf F_laws_eqIntS_W0 S = match ex lf F_laws_eqIntS_L0 S with | some (.normal,S1) => ex lf F_laws_eqIntS_W0 S1 | r => r := ex_loop lf F_laws_eqIntS_L0 S
theorem w_laws_markIntS_0 (S : LS) : ex lf F_laws_markIntS_W0 S = match ex lf F_laws_markIntS_L0 S with | some (.normal,S1) => ex lf F_laws_markIntS_W0 S1 | r => r := ex_loop lf F_laws_markIntS_L0 S
theorem w_spec_GroupsOk_1 (S : LS) : ex lf F_spec_GroupsOk_W1 S = match ex lf F_spec_GroupsOk_L1 S with | some (.normal,S1) => ex lf F_spec_GroupsOk_W1 S1 | r => r := ex_loop lf F_spec_GroupsOk_L1 S
theorem w_spec_GroupsOk_0 (S : LS) : ex lf F_spec_GroupsOk_W0 S = match ex lf F_spec_GroupsOk_L0 S with | some (.normal,S1) => ex lf F_spec_GroupsOk_W0 S1 | r => r := ex_loop lf F_spec_GroupsOk_L0 S
theorem w_laws_toIntS_0 (S : LS) : ex lf F_laws_toIntS_W0 S = match ex lf F_laws_toIntS_L0 S with | some (.normal,S1) => ex lf F_laws_toIntS_W0 S1 | r => r := ex_loop lf F_laws_toIntS_L0 S
theorem w_impl_GroupsOk_0 (S : LS) : ex lf F_impl_GroupsOk_W0 S = match ex lf F_impl_GroupsOk_L0 S with | some (.normal,S1) => ex lf F_impl_GroupsOk_W0 S1 | r => r := ex_loop lf F_impl_GroupsOk_L0 S
theorem w_impl_OrderOk_0 (S : LS) : ex lf F_impl_OrderOk_W0 S = match ex lf F_impl_OrderOk_L0 S with | some (.normal,S1) => ex lf F_impl_OrderOk_W0 S1 | r => r := ex_loop lf F_impl_OrderOk_L0 S
end Zz
