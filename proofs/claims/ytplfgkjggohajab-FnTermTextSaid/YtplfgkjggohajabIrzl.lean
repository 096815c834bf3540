/- The functions of the program, read as data. No conditions. -/
import Derived.Test.YtplfgkjggohajabLgC
set_option linter.unusedSectionVars false
set_option linter.unusedVariables false
set_option linter.unusedSimpArgs false
namespace Zz
open Go.Lg
abbrev oK (d : Nat) (k : K) (a : List Opd) : LOp := ⟨some d, k, a, none⟩
abbrev oG (d : Nat) (k : K) (a : List Opd) (t : Nat) (b : Bool) : LOp := ⟨some d, k, a, some (t, b)⟩
def n_laws_FnTermText : Nat := 3
def n_laws_FnReadTerm : Nat := 4
def n_spec_DrawTermText : Nat := 5
def n_impl_TermText : Nat := 6
def n_spec_TermText : Nat := 7
def n_impl_TermOk : Nat := 8
def n_laws_alive : Nat := 9
def n_impl_ReadTerm : Nat := 10
def n_laws_sameMarks : Nat := 11
def n_spec_DrawReadTerm : Nat := 12
def n_spec_ReadTerm : Nat := 13
def n_spec_l20Asked : Nat := 14
def n_spec_l20Open : Nat := 15
def n_impl_foldTerm_impl_writtenPart : Nat := 16
def n_impl_writePart : Nat := 17
def n_spec_TermOk : Nat := 18
def n_spec_l2Text : Nat := 19
def n_impl_manyOk : Nat := 20
def n_impl_isWithin : Nat := 21
def n_impl_partsTaken : Nat := 22
def n_impl_markOk : Nat := 23
def n_impl_TestsOk : Nat := 24
def n_impl_readOr : Nat := 25
def n_spec_l20Rd_pick : Nat := 26
def n_spec_l20Term : Nat := 27
def n_spec_l2Or : Nat := 28
def n_impl_letterOf : Nat := 29
def n_impl_bracketedFrom : Nat := 30
def n_spec_l1In : Nat := 31
def n_spec_l2Held : Nat := 32
def n_spec_l2Starts : Nat := 33
def n_impl_readRow : Nat := 34
def n_impl_readAnd : Nat := 35
def n_spec_l20Rd_odd : Nat := 36
def n_spec_l2And : Nat := 37
def n_impl_readNot : Nat := 38
def n_spec_l2Atom : Nat := 39
def n_impl_readLetter : Nat := 40
def n_impl_placeOf : Nat := 41
def bkFs : List Nat := []
instance : GL := ⟨[],[],["l4_orders.go:82","l10_rounds.go:90"],[],[],[],["l20_draw.go:447"],bkFs⟩
/-- laws.FnTermText -/
def F_laws_FnTermText : LF :=
 { nparams := 1,results := [.t 2],body :=
 (.seq
 (.region false [oK 2 .mv [.c (.b false)]] [2])
 (.seq
 (.seq
 (.region false [oK 8 .mv [.t 0],
 oK 9 .len [.t 8],
 oK 10 (.bin .gtr) [.t 9,.c (.i 1048576)]] [8,9])
 (.cond (.t 10) [10]
 (.seq
 (.region false [oK 2 .mv [.c (.b true)]] [0])
 .ret)
 .skip))
 (.seq
 (.region false [oK 12 .mv [.t 0],
 oK 13 (.call n_spec_DrawTermText 6656) [.t 12],
 oK 11 .mv [.t 13],
 oK 14 (.ext 0) [.t 11],
 oK 15 (.ext 1) [.t 11],
 oK 3 .mv [.t 14],
 oK 4 .mv [.t 15]] [0,11,12,13,14,15])
 (.seq
 (.region false [oK 16 .mv [.t 3],
 oK 17 .mv [.t 4],
 oK 18 (.call n_impl_TermText 9216) [.t 16,.t 17],
 oK 5 .mv [.t 18]] [16,17,18])
 (.seq
 (.seq
 (.region false [oK 19 .mv [.t 5],
 oK 20 .mv [.t 3],
 oK 21 .mv [.t 4],
 oK 22 (.call n_spec_TermText 11264) [.t 20,.t 21],
 oK 23 (.bin .neq) [.t 19,.t 22]] [19,20,21,22])
 (.cond (.t 23) [23]
 (.seq
 (.region false [oK 2 .mv [.c (.b false)]] [3,4,5])
 .ret)
 .skip))
 (.seq
 (.seq
 (.region false [oK 24 .mv [.t 5],
 oK 25 (.bin .eql) [.t 24,.c (.s [])]] [24])
 (.cond (.t 25) [25]
 (.seq
 (.region false [oK 26 .mv [.t 3],
 oK 27 .mv [.t 4],
 oK 28 (.call n_impl_TermOk 14336) [.t 26,.t 27],
 oK 29 (.un .not) [.t 28],
 oK 30 .mv [.t 29],
 oG 31 (.call n_laws_alive 15872) [] 30 true,
 oK 32 .pick [.t 30,.t 31,.c (.b false)],
 oK 2 .mv [.t 32]] [3,4,5,26,27,28,29,30,31,32])
 .ret)
 .skip))
 (.seq
 (.region false [oK 34 .mv [.t 3],
 oK 35 .mv [.t 5],
 oK 36 (.call n_impl_ReadTerm 18432) [.t 34,.t 35],
 oK 33 .mv [.t 36],
 oK 37 (.ext 0) [.t 33],
 oK 38 (.ext 1) [.t 33],
 oK 6 .mv [.t 37],
 oK 7 .mv [.t 38]] [3,5,33,34,35,36,37,38])
 (.seq
 (.region false [oK 39 .mv [.t 7],
 oK 40 .mv [.t 39],
 oG 41 .mv [.t 6] 40 true,
 oG 42 .mv [.t 4] 40 true,
 oG 43 (.call n_laws_sameMarks 22016) [.t 41,.t 42] 40 true,
 oK 44 .pick [.t 40,.t 43,.c (.b false)],
 oK 2 .mv [.t 44]] [4,6,7,39,40,41,42,43,44])
 .ret)))))))) }
/-- laws.FnReadTerm -/
def F_laws_FnReadTerm : LF :=
 { nparams := 1,results := [.t 2],body :=
 (.seq
 (.region false [oK 2 .mv [.c (.b false)]] [2])
 (.seq
 (.seq
 (.region false [oK 11 .mv [.t 0],
 oK 12 .len [.t 11],
 oK 13 (.bin .gtr) [.t 12,.c (.i 1048576)]] [11,12])
 (.cond (.t 13) [13]
 (.seq
 (.region false [oK 2 .mv [.c (.b true)]] [0])
 .ret)
 .skip))
 (.seq
 (.region false [oK 15 .mv [.t 0],
 oK 16 (.call n_spec_DrawReadTerm 8192) [.t 15],
 oK 14 .mv [.t 16],
 oK 17 (.ext 0) [.t 14],
 oK 18 (.ext 1) [.t 14],
 oK 3 .mv [.t 17],
 oK 4 .mv [.t 18]] [0,14,15,16,17,18])
 (.seq
 (.region false [oK 20 .mv [.t 3],
 oK 21 .mv [.t 4],
 oK 22 (.call n_impl_ReadTerm 11264) [.t 20,.t 21],
 oK 19 .mv [.t 22],
 oK 23 (.ext 0) [.t 19],
 oK 24 (.ext 1) [.t 19],
 oK 5 .mv [.t 23],
 oK 6 .mv [.t 24]] [19,20,21,22,23,24])
 (.seq
 (.region false [oK 26 .mv [.t 3],
 oK 27 .mv [.t 4],
 oK 28 (.call n_spec_ReadTerm 14336) [.t 26,.t 27],
 oK 25 .mv [.t 28],
 oK 29 (.ext 0) [.t 25],
 oK 30 (.ext 1) [.t 25],
 oK 7 .mv [.t 29],
 oK 8 .mv [.t 30]] [25,26,27,28,29,30])
 (.seq
 (.seq
 (.region false [oK 31 .mv [.t 5],
 oK 32 .mv [.t 7],
 oK 33 (.call n_laws_sameMarks 16896) [.t 31,.t 32],
 oK 34 (.un .not) [.t 33],
 oK 35 .mv [.t 34],
 oG 36 .mv [.t 6] 35 false,
 oG 37 .mv [.t 8] 35 false,
 oG 38 (.eqb true) [.t 36,.t 37] 35 false,
 oK 39 .pick [.t 35,.c (.b true),.t 38]] [7,8,31,32,33,34,35,36,37,38])
 (.cond (.t 39) [39]
 (.seq
 (.region false [oK 2 .mv [.c (.b false)]] [3,4,5,6])
 .ret)
 .skip))
 (.seq
 (.seq
 (.region false [oK 40 .mv [.t 6],
 oK 41 (.un .not) [.t 40]] [6,40])
 (.cond (.t 41) [41]
 (.seq
 (.region false [oK 42 .mv [.t 5],
 oK 43 .len [.t 42],
 oK 44 (.bin .eql) [.t 43,.c (.i 0)],
 oK 45 .mv [.t 44],
 oG 46 (.call n_laws_alive 23552) [] 45 true,
 oK 47 .pick [.t 45,.t 46,.c (.b false)],
 oK 2 .mv [.t 47]] [3,4,5,42,43,44,45,46,47])
 .ret)
 .skip))
 (.seq
 (.region false [oK 49 .mv [.t 3],
 oK 50 .mv [.t 4],
 oK 51 (.bin .add) [.c (.s [40]),.t 50],
 oK 52 (.bin .add) [.t 51,.c (.s [41])],
 oK 53 (.call n_impl_ReadTerm 27136) [.t 49,.t 52],
 oK 48 .mv [.t 53],
 oK 54 (.ext 0) [.t 48],
 oK 55 (.ext 1) [.t 48],
 oK 9 .mv [.t 54],
 oK 10 .mv [.t 55]] [9,48,49,50,51,52,53,54,55])
 (.seq
 (.region false [oK 56 .mv [.t 3],
 oK 57 .mv [.t 5],
 oK 58 (.call n_impl_TermText 29696) [.t 56,.t 57],
 oK 59 .mv [.t 4],
 oK 60 (.bin .eql) [.t 58,.t 59],
 oK 61 .mv [.t 60],
 oG 62 .mv [.t 3] 61 true,
 oG 63 .mv [.t 5] 61 true,
 oG 64 (.call n_impl_TermOk 32768) [.t 62,.t 63] 61 true,
 oK 65 .pick [.t 61,.t 64,.c (.b false)],
 oK 66 .mv [.t 65],
 oG 67 .mv [.t 10] 66 true,
 oG 68 (.un .not) [.t 67] 66 true,
 oK 69 .pick [.t 66,.t 68,.c (.b false)],
 oK 2 .mv [.t 69]] [3,4,5,10,56,57,58,59,60,61,62,63,64,65,66,67,68,69])
 .ret))))))))) }
/-- spec.DrawTermText -/
def F_spec_DrawTermText : LF :=
 { nparams := 1,results := [.t 2,.t 3],body :=
 (.seq
 (.region false [oK 2 .mv [.c (.i 0)],
 oK 3 (.newnil 1552) []] [2,3])
 (.seq
 (.region false [oK 4 .mv [.t 0],
 oK 5 (.call n_spec_l20Open 2560) [.t 4],
 oK 6 (.call n_spec_l20Asked 3072) [.t 5,.c (.i 9)],
 oK 7 (.ext 0) [.t 6],
 oK 8 (.ext 1) [.t 6],
 oK 2 .mv [.t 7],
 oK 3 .mv [.t 8]] [0,4,5,6,7,8])
 .ret)) }
/-- impl.TermText -/
def F_impl_TermText : LF :=
 { nparams := 2,results := [.t 4],body :=
 (.seq
 (.region false [oK 4 .mv [.c (.s [])]] [4])
 (.seq
 (.seq
 (.region false [oK 5 .mv [.t 0],
 oK 6 .mv [.t 1],
 oK 7 (.call n_impl_TermOk 3584) [.t 5,.t 6],
 oK 8 (.un .not) [.t 7]] [0,5,6,7])
 (.cond (.t 8) [8]
 (.seq
 (.region false [oK 4 .mv [.c (.s [])]] [1])
 .ret)
 .skip))
 (.seq
 (.region false [oK 9 .mv [.t 1],
 oK 10 (.call n_impl_foldTerm_impl_writtenPart 5120) [.t 9,.c (.fn n_impl_writePart [])],
 oK 11 (.fldv 0 1 false) [.t 10],
 oK 4 .mv [.t 11]] [1,9,10,11])
 .ret))) }
/-- spec.TermText -/
def F_spec_TermText : LF :=
 { nparams := 2,results := [.t 4],body :=
 (.seq
 (.region false [oK 4 .mv [.c (.s [])]] [4])
 (.seq
 (.seq
 (.region false [oK 5 .mv [.t 0],
 oK 6 .mv [.t 1],
 oK 7 (.call n_spec_TermOk 3584) [.t 5,.t 6],
 oK 8 (.un .not) [.t 7]] [0,5,6,7])
 (.cond (.t 8) [8]
 (.seq
 (.region false [oK 4 .mv [.c (.s [])]] [1])
 .ret)
 .skip))
 (.seq
 (.region false [oK 9 .mv [.t 1],
 oK 10 (.call n_spec_l2Text 5120) [.t 9],
 oK 4 .mv [.t 10]] [1,9,10])
 .ret))) }
/-- impl.TermOk -/
def F_impl_TermOk_L0 : LC :=
 (.seq
 (.region false [oK 21 (.bin .lss) [.t 20,.t 19]] [])
 (.seq
 (.cond (.t 21) [21]
 .skip
 (.exit 0))
 (.seq
 (.block 1
 (.seq
 (.region false [oK 22 (.idxa 2) [.t 18,.t 20],
 oK 23 (.load 2 true) [.t 22],
 oK 7 (.alloc 3600 (.st [.i 0,.i 0])) [],
 ⟨none,.store 2,[.t 7,.t 23],none⟩] [22,23])
 (.seq
 (.region false [oK 24 (.fld 0 1 false) [.t 7],
 oK 25 (.load 1 false) [.t 24],
 oK 26 (.call n_impl_partsTaken 13312) [.t 25],
 oK 8 .mv [.t 26]] [24,25,26])
 (.seq
 (.seq
 (.region false [oK 27 .mv [.t 0],
 oK 28 (.load 2 true) [.t 7],
 oK 29 (.call n_impl_markOk 14848) [.t 27,.t 28],
 oK 30 (.un .not) [.t 29],
 oK 31 .mv [.t 30],
 oG 32 .mv [.t 5] 31 false,
 oG 33 .mv [.t 8] 31 false,
 oG 34 (.bin .lss) [.t 32,.t 33] 31 false,
 oK 35 .pick [.t 31,.c (.b true),.t 34]] [7,27,28,29,30,31,32,33,34])
 (.cond (.t 35) [35]
 (.seq
 (.region false [oK 4 .mv [.c (.b false)]] [0,5,8,18,19,20])
 .ret)
 .skip))
 (.region false [oK 36 .mv [.t 5],
 oK 37 .mv [.t 8],
 oK 38 (.bin .sub) [.c (.i 1),.t 37],
 oK 39 (.bin .add) [.t 36,.t 38],
 oK 5 .mv [.t 39]] [8,36,37,38,39])))))
 (.region false [oK 40 (.bin .add) [.t 20,.c (.i 1)],
 oK 20 .mv [.t 40]] [40]))))
def F_impl_TermOk_W0 : LC := .loop F_impl_TermOk_L0
def F_impl_TermOk : LF :=
 { nparams := 2,results := [.t 4],body :=
 (.seq
 (.region false [oK 4 .mv [.c (.b false)]] [4])
 (.seq
 (.seq
 (.region false [oK 9 .mv [.t 0],
 oK 10 (.call n_impl_manyOk 5120) [.t 9],
 oK 11 (.un .not) [.t 10],
 oK 12 .mv [.t 11],
 oG 13 .mv [.t 1] 12 false,
 oG 14 .len [.t 13] 12 false,
 oG 15 (.call n_impl_isWithin 7680) [.t 14,.c (.i 1),.c (.i 13)] 12 false,
 oG 16 (.un .not) [.t 15] 12 false,
 oK 17 .pick [.t 12,.c (.b true),.t 16]] [9,10,11,12,13,14,15,16])
 (.cond (.t 17) [17]
 (.seq
 (.region false [oK 4 .mv [.c (.b false)]] [0,1])
 .ret)
 .skip))
 (.seq
 (.region false [oK 5 .mv [.c (.i 0)]] [])
 (.seq
 (.seq
 (.region false [oK 18 .mv [.t 1],
 oK 19 .len [.t 18],
 oK 20 .mv [.c (.i 0)]] [1])
 (.block 0
 F_impl_TermOk_W0))
 (.seq
 (.region false [oK 41 .mv [.t 5],
 oK 42 (.bin .eql) [.t 41,.c (.i 1)],
 oK 4 .mv [.t 42]] [0,5,18,19,20,41,42])
 .ret))))) }
/-- laws.alive -/
def F_laws_alive : LF :=
 { nparams := 0,results := [.t 0],body :=
 (.seq
 (.region false [oK 0 .mv [.c (.b false)]] [0])
 (.seq
 (.region false [oK 1 (.build [.i 0,.i 0] [(0,1),(1,1)]) [.c (.i 1),.c (.i 1)],
 oK 2 (.bslice 1040 1 2 (.st [.i 0,.i 0]) [0]) [.t 1],
 oK 3 (.call n_impl_TestsOk 1536) [.t 2],
 oK 4 .mv [.t 3],
 oG 5 (.build [.i 0,.i 0] []) [] 4 true,
 oG 6 (.bslice 3088 1 2 (.st [.i 0,.i 0]) [0]) [.t 5] 4 true,
 oG 7 (.call n_impl_TestsOk 3584) [.t 6] 4 true,
 oG 8 (.un .not) [.t 7] 4 true,
 oK 9 .pick [.t 4,.t 8,.c (.b false)],
 oK 0 .mv [.t 9]] [1,2,3,4,5,6,7,8,9])
 .ret)) }
/-- impl.ReadTerm -/
def F_impl_ReadTerm : LF :=
 { nparams := 2,results := [.t 4,.t 5],body :=
 (.seq
 (.region false [oK 4 (.newnil 2064) [],
 oK 5 .mv [.c (.b false)]] [4,5])
 (.seq
 (.seq
 (.region false [oK 8 .mv [.t 1],
 oK 9 .lens [.t 8],
 oK 10 (.bin .gtr) [.t 9,.c (.i 80)]] [8,9])
 (.cond (.t 10) [10]
 (.seq
 (.region false [oK 4 (.newnil 2064) [],
 oK 5 .mv [.c (.b false)]] [0,1])
 .ret)
 .skip))
 (.seq
 (.region false [oK 12 .mv [.t 1],
 oK 13 (.call n_impl_readOr 6656) [.t 12],
 oK 11 .mv [.t 13],
 oK 14 (.ext 0) [.t 11],
 oK 15 (.ext 1) [.t 11],
 oK 6 .mv [.t 14],
 oK 7 .mv [.t 15]] [11,12,13,14,15])
 (.seq
 (.seq
 (.region false [oK 16 .mv [.t 7],
 oK 17 (.bin .neq) [.t 16,.c (.s [])],
 oK 18 .mv [.t 17],
 oG 19 .mv [.t 0] 18 false,
 oG 20 .mv [.t 6] 18 false,
 oG 21 (.call n_impl_TermOk 10752) [.t 19,.t 20] 18 false,
 oG 22 (.un .not) [.t 21] 18 false,
 oK 23 .pick [.t 18,.c (.b true),.t 22],
 oK 24 .mv [.t 23],
 oG 25 .mv [.t 0] 24 false,
 oG 26 .mv [.t 6] 24 false,
 oG 27 (.call n_impl_TermText 13824) [.t 25,.t 26] 24 false,
 oG 28 .mv [.t 1] 24 false,
 oG 29 (.bin .neq) [.t 27,.t 28] 24 false,
 oK 30 .pick [.t 24,.c (.b true),.t 29]] [0,1,7,16,17,18,19,20,21,22,23,24,25,26,27,28,29])
 (.cond (.t 30) [30]
 (.seq
 (.region false [oK 4 (.newnil 2064) [],
 oK 5 .mv [.c (.b false)]] [6])
 .ret)
 .skip))
 (.seq
 (.region false [oK 31 .mv [.t 6],
 oK 4 .mv [.t 31],
 oK 5 .mv [.c (.b true)]] [6,31])
 .ret))))) }
/-- laws.sameMarks -/
def F_laws_sameMarks_L0 : LC :=
 (.seq
 (.seq
 (.region false [oK 11 .mv [.t 5],
 oK 12 .mv [.t 0],
 oK 13 .len [.t 12],
 oK 14 (.bin .lss) [.t 11,.t 13]] [11,12,13])
 (.cond (.t 14) [14]
 .skip
 (.exit 0)))
 (.seq
 (.block 1
 (.seq
 (.region true [oK 17 .mv [.t 0],
 oK 18 .mv [.t 5],
 oK 19 (.idxa 2) [.t 17,.t 18],
 oK 20 (.load 2 true) [.t 19],
 oK 21 .mv [.t 1],
 oK 22 .mv [.t 5],
 oK 23 (.idxa 2) [.t 21,.t 22],
 oK 24 (.load 2 true) [.t 23],
 oK 25 (.eqs true 2) [.t 20,.t 24]] [17,18,19,20,21,22,23,24])
 (.cond (.t 25) [25]
 (.seq
 (.region false [oK 4 .mv [.c (.b false)]] [0,1,5])
 .ret)
 .skip)))
 (.region false [oK 15 .mv [.t 5],
 oK 16 (.bin .add) [.t 15,.c (.i 1)],
 oK 5 .mv [.t 16]] [15,16])))
def F_laws_sameMarks_W0 : LC := .loop F_laws_sameMarks_L0
def F_laws_sameMarks : LF :=
 { nparams := 2,results := [.t 4],body :=
 (.seq
 (.region false [oK 4 .mv [.c (.b false)]] [4])
 (.seq
 (.seq
 (.region false [oK 6 .mv [.t 0],
 oK 7 .len [.t 6],
 oK 8 .mv [.t 1],
 oK 9 .len [.t 8],
 oK 10 (.bin .neq) [.t 7,.t 9]] [6,7,8,9])
 (.cond (.t 10) [10]
 (.seq
 (.region false [oK 4 .mv [.c (.b false)]] [0,1])
 .ret)
 .skip))
 (.seq
 (.seq
 (.region false [oK 5 .mv [.c (.i 0)]] [])
 (.block 0
 F_laws_sameMarks_W0))
 (.seq
 (.region false [oK 4 .mv [.c (.b true)]] [0,1,5])
 .ret)))) }
/-- spec.DrawReadTerm -/
def F_spec_DrawReadTerm : LF :=
 { nparams := 1,results := [.t 2,.t 3],body :=
 (.seq
 (.region false [oK 2 .mv [.c (.i 0)],
 oK 3 .mv [.c (.s [])]] [2,3])
 (.seq
 (.region false [oK 8 .mv [.t 0],
 oK 9 (.call n_spec_l20Open 4608) [.t 8],
 oK 4 .mv [.t 9]] [0,8,9])
 (.seq
 (.region false [oK 10 .mv [.t 4],
 oK 11 (.call n_spec_l20Rd_pick 5632) [.t 10,.c (.i 5)],
 oK 12 (.bin .add) [.c (.i 1),.t 11],
 oK 5 .mv [.t 12]] [10,11,12])
 (.seq
 (.region false [oK 13 .mv [.t 5],
 oK 14 .mv [.t 4],
 oK 15 .mv [.t 5],
 oK 16 (.call n_spec_l20Term 8192) [.t 14,.t 15,.c (.i 0)],
 oK 17 (.call n_spec_TermText 8704) [.t 13,.t 16],
 oK 6 .mv [.t 17]] [13,14,15,16,17])
 (.seq
 (.seq
 (.region false [oK 18 .mv [.t 4],
 oK 19 (.call n_spec_l20Rd_pick 9728) [.t 18,.c (.i 3)],
 oK 20 (.bin .eql) [.t 19,.c (.i 0)],
 oK 21 .mv [.t 20],
 oG 22 .mv [.t 6] 21 true,
 oG 23 .lens [.t 22] 21 true,
 oG 24 (.bin .gtr) [.t 23,.c (.i 0)] 21 true,
 oK 25 .pick [.t 21,.t 24,.c (.b false)]] [18,19,20,21,22,23,24])
 (.cond (.t 25) [25]
 (.seq
 (.region false [oK 26 .mv [.t 4],
 oK 27 .mv [.t 6],
 oK 28 .lens [.t 27],
 oK 29 (.call n_spec_l20Rd_pick 14848) [.t 26,.t 28],
 oK 7 .mv [.t 29]] [26,27,28,29])
 (.seq
 (.region true [oK 30 .mv [.t 5],
 oK 31 .mv [.t 6],
 oK 32 .mv [.t 7],
 oK 33 (.slices false true) [.t 31,.t 32],
 oK 34 (.bslice 17416 8 1 (.s []) [0,1,2,3,4,5,6,7]) [.c (.s []),.c (.s [40]),.c (.s [41]),.c (.s [38]),.c (.s [124]),.c (.s [33]),.c (.s [97]),.c (.s [101])],
 oK 35 .mv [.t 4],
 oK 36 (.call n_spec_l20Rd_pick 18432) [.t 35,.c (.i 8)],
 oK 37 (.idxa 1) [.t 34,.t 36],
 oK 38 (.load 1 false) [.t 37],
 oK 39 (.bin .add) [.t 33,.t 38],
 oK 40 .mv [.t 6],
 oK 41 .mv [.t 7],
 oK 42 .mv [.t 4],
 oK 43 (.call n_spec_l20Rd_pick 22016) [.t 42,.c (.i 2)],
 oK 44 (.bin .add) [.t 41,.t 43],
 oK 45 (.slices true false) [.t 40,.t 44],
 oK 46 (.bin .add) [.t 39,.t 45],
 oK 2 .mv [.t 30],
 oK 3 .mv [.t 46]] [4,5,6,7,30,31,32,33,34,35,36,37,38,39,40,41,42,43,44,45,46])
 .ret))
 .skip))
 (.seq
 (.region false [oK 47 .mv [.t 5],
 oK 48 .mv [.t 6],
 oK 2 .mv [.t 47],
 oK 3 .mv [.t 48]] [4,5,6,47,48])
 .ret)))))) }
/-- spec.ReadTerm -/
def F_spec_ReadTerm : LF :=
 { nparams := 2,results := [.t 4,.t 5],body :=
 (.seq
 (.region false [oK 4 (.newnil 2064) [],
 oK 5 .mv [.c (.b false)]] [4,5])
 (.seq
 (.seq
 (.region false [oK 8 .mv [.t 1],
 oK 9 .lens [.t 8],
 oK 10 (.bin .gtr) [.t 9,.c (.i 80)]] [8,9])
 (.cond (.t 10) [10]
 (.seq
 (.region false [oK 11 (.bslice 5648 0 2 (.st [.i 0,.i 0]) []) [],
 oK 4 .mv [.t 11],
 oK 5 .mv [.c (.b false)]] [0,1,11])
 .ret)
 .skip))
 (.seq
 (.region false [oK 13 .mv [.t 1],
 oK 14 (.call n_spec_l2Or 7168) [.t 13,.c (.i 0)],
 oK 12 .mv [.t 14],
 oK 15 (.ext 0) [.t 12],
 oK 16 (.ext 1) [.t 12],
 oK 6 .mv [.t 15],
 oK 7 .mv [.t 16]] [12,13,14,15,16])
 (.seq
 (.seq
 (.region false [oK 17 .mv [.t 7],
 oK 18 .mv [.t 1],
 oK 19 .lens [.t 18],
 oK 20 (.bin .neq) [.t 17,.t 19],
 oK 21 .mv [.t 20],
 oG 22 .mv [.t 0] 21 false,
 oG 23 .mv [.t 6] 21 false,
 oG 24 (.call n_spec_TermOk 12288) [.t 22,.t 23] 21 false,
 oG 25 (.un .not) [.t 24] 21 false,
 oK 26 .pick [.t 21,.c (.b true),.t 25],
 oK 27 .mv [.t 26],
 oG 28 .mv [.t 6] 27 false,
 oG 29 (.call n_spec_l2Text 14848) [.t 28] 27 false,
 oG 30 .mv [.t 1] 27 false,
 oG 31 (.bin .neq) [.t 29,.t 30] 27 false,
 oK 32 .pick [.t 27,.c (.b true),.t 31]] [0,1,7,17,18,19,20,21,22,23,24,25,26,27,28,29,30,31])
 (.cond (.t 32) [32]
 (.seq
 (.region false [oK 33 (.bslice 16912 0 2 (.st [.i 0,.i 0]) []) [],
 oK 4 .mv [.t 33],
 oK 5 .mv [.c (.b false)]] [6,33])
 .ret)
 .skip))
 (.seq
 (.region false [oK 34 .mv [.t 6],
 oK 4 .mv [.t 34],
 oK 5 .mv [.c (.b true)]] [6,34])
 .ret))))) }
/-- spec.l20Asked -/
def F_spec_l20Asked : LF :=
 { nparams := 2,results := [.t 4,.t 5],body :=
 (.seq
 (.region false [oK 4 .mv [.c (.i 0)],
 oK 5 (.newnil 2576) []] [4,5])
 (.seq
 (.region false [oK 7 .mv [.t 0],
 oK 8 (.call n_spec_l20Rd_pick 4096) [.t 7,.c (.i 5)],
 oK 9 (.bin .add) [.c (.i 1),.t 8],
 oK 6 .mv [.t 9]] [7,8,9])
 (.seq
 (.region false [oK 10 .mv [.t 6],
 oK 11 .mv [.t 0],
 oK 12 (.call n_spec_l20Rd_pick 6144) [.t 11,.c (.i 60)],
 oK 13 (.bin .quo) [.t 12,.c (.i 59)],
 oK 14 (.bin .mul) [.t 13,.c (.i 5)],
 oK 15 (.bin .add) [.t 10,.t 14],
 oK 16 .mv [.t 0],
 oK 17 .mv [.t 6],
 oK 18 .mv [.t 1],
 oK 19 (.call n_spec_l20Term 9728) [.t 16,.t 17,.t 18],
 oK 4 .mv [.t 15],
 oK 5 .mv [.t 19]] [1,6,10,11,12,13,14,15,16,17,18,19])
 .ret))) }
/-- spec.l20Open -/
def F_spec_l20Open : LF :=
 { nparams := 1,results := [.t 2],body :=
 (.seq
 (.region false [oK 2 .mv [.c (.np)]] [2])
 (.seq
 (.seq
 (.region false [oK 3 .mv [.t 0],
 oK 4 .len [.t 3],
 oK 5 (.bin .gtr) [.t 4,.c (.i 2000)]] [3,4])
 (.cond (.t 5) [5]
 (.region false [oK 6 .mv [.t 0],
 oK 7 (.slice false true 1) [.t 6,.c (.i 2000)],
 oK 0 .mv [.t 7]] [6,7])
 .skip))
 (.seq
 (.region false [oK 8 .mv [.t 0],
 oK 9 (.build [.sl 1 [],.i 0] [(0,1)]) [.t 8],
 oK 10 (.box 5136) [.t 9],
 oK 2 .mv [.t 10]] [0,8,9,10])
 .ret))) }
/-- impl.writtenPart] -/
def F_impl_foldTerm_impl_writtenPart_L0 : LC :=
 (.seq
 (.region false [oK 13 (.bin .lss) [.t 12,.t 11]] [])
 (.seq
 (.cond (.t 13) [13]
 .skip
 (.exit 0))
 (.seq
 (.block 1
 (.seq
 (.region false [oK 14 (.idxa 2) [.t 10,.t 12],
 oK 15 (.load 2 true) [.t 14],
 oK 7 (.alloc 3600 (.st [.i 0,.i 0])) [],
 ⟨none,.store 2,[.t 7,.t 15],none⟩] [14,15])
 (.seq
 (.region false [oK 16 .mv [.t 5],
 oK 17 .len [.t 16],
 oK 18 (.fld 0 1 false) [.t 7],
 oK 19 (.load 1 false) [.t 18],
 oK 20 (.call n_impl_partsTaken 10240) [.t 19],
 oK 21 (.bin .sub) [.t 17,.t 20],
 oK 8 .mv [.t 21]] [16,17,18,19,20,21])
 (.seq
 (.region true [oK 22 .mv [.t 1],
 oK 23 (.load 2 true) [.t 7],
 oK 24 .mv [.t 5],
 oK 25 .mv [.t 8],
 oK 26 (.slice true false 2) [.t 24,.t 25],
 oK 27 (.calld 13824) [.t 22,.t 23,.t 26],
 oK 9 (.alloc 4624 (.st [.s [],.i 0])) [],
 ⟨none,.store 2,[.t 9,.t 27],none⟩] [7,22,23,24,25,26,27])
 (.region true [oK 28 .mv [.t 5],
 oK 29 .mv [.t 8],
 oK 30 (.slice false true 2) [.t 28,.t 29],
 oK 31 (.load 2 true) [.t 9],
 oK 32 (.bslice 16400 1 2 (.st [.s [],.i 0]) [0]) [.t 31],
 oK 33 (.app 16912 2) [.t 30,.t 32],
 oK 5 .mv [.t 33]] [8,9,28,29,30,31,32,33])))))
 (.region false [oK 34 (.bin .add) [.t 12,.c (.i 1)],
 oK 12 .mv [.t 34]] [34]))))
def F_impl_foldTerm_impl_writtenPart_W0 : LC := .loop F_impl_foldTerm_impl_writtenPart_L0
def F_impl_foldTerm_impl_writtenPart : LF :=
 { nparams := 2,results := [.c 4 2 true],body :=
 (.seq
 (.region false [oK 4 (.alloc 2064 (.st [.s [],.i 0])) []] [])
 (.seq
 (.region false [oK 5 (.newnil 2576) []] [])
 (.seq
 (.seq
 (.region false [oK 10 .mv [.t 0],
 oK 11 .len [.t 10],
 oK 12 .mv [.c (.i 0)]] [0])
 (.block 0
 F_impl_foldTerm_impl_writtenPart_W0))
 (.seq
 (.region false [oK 35 .mv [.t 5],
 oK 36 (.idxa 2) [.t 35,.c (.i 0)],
 oK 37 (.load 2 true) [.t 36],
 ⟨none,.store 2,[.t 4,.t 37],none⟩] [1,5,10,11,12,35,36,37])
 .ret)))) }
/-- impl.writePart -/
def F_impl_writePart : LF :=
 { nparams := 2,results := [.c 4 2 true],body :=
 (.seq
 (.region false [oK 2 (.box 1040) [.t 0],
 oK 4 (.alloc 2064 (.st [.s [],.i 0])) []] [0])
 (.seq
 (.region false [oK 6 (.fld 0 1 false) [.t 2],
 oK 7 (.load 1 false) [.t 6],
 oK 8 (.build [.s [],.i 0] [(1,1)]) [.t 7],
 oK 5 (.alloc 2576 (.st [.s [],.i 0])) [],
 ⟨none,.store 2,[.t 5,.t 8],none⟩] [6,7,8])
 (.seq
 (.seq
 (.region false [oK 9 (.fld 0 1 false) [.t 2],
 oK 10 (.load 1 false) [.t 9]] [9])
 (.block 0
 (.seq
 (.region false [oK 12 (.bin .eql) [.t 10,.c (.i 0)],
 oK 11 .mv [.t 12]] [12])
 (.cond (.t 11) [11]
 (.region false [oK 13 (.fld 1 1 false) [.t 2],
 oK 14 (.load 1 false) [.t 13],
 oK 15 (.call n_impl_letterOf 7680) [.t 14],
 oK 16 (.fld 0 1 false) [.t 5],
 ⟨none,.store 1,[.t 16,.t 15],none⟩] [1,2,10,13,14,15,16])
 (.seq
 (.region false [oK 18 (.bin .eql) [.t 10,.c (.i 1)],
 oK 17 .mv [.t 18]] [2,18])
 (.cond (.t 17) [17]
 (.region false [oK 19 .mv [.t 1],
 oK 20 (.idxa 2) [.t 19,.c (.i 0)],
 oK 21 (.load 2 true) [.t 20],
 oK 22 (.call n_impl_bracketedFrom 11264) [.c (.i 2),.t 21],
 oK 23 (.bin .add) [.c (.s [33]),.t 22],
 oK 24 (.fld 0 1 false) [.t 5],
 ⟨none,.store 1,[.t 24,.t 23],none⟩] [1,10,19,20,21,22,23,24])
 (.seq
 (.region false [oK 26 (.bin .eql) [.t 10,.c (.i 2)],
 oK 25 .mv [.t 26]] [26])
 (.cond (.t 25) [25]
 (.region true [oK 27 .mv [.t 1],
 oK 28 (.idxa 2) [.t 27,.c (.i 0)],
 oK 29 (.load 2 true) [.t 28],
 oK 30 (.call n_impl_bracketedFrom 15360) [.c (.i 3),.t 29],
 oK 31 (.bin .add) [.t 30,.c (.s [38])],
 oK 32 .mv [.t 1],
 oK 33 (.idxa 2) [.t 32,.c (.i 1)],
 oK 34 (.load 2 true) [.t 33],
 oK 35 (.call n_impl_bracketedFrom 17920) [.c (.i 2),.t 34],
 oK 36 (.bin .add) [.t 31,.t 35],
 oK 37 (.fld 0 1 false) [.t 5],
 ⟨none,.store 1,[.t 37,.t 36],none⟩] [1,10,27,28,29,30,31,32,33,34,35,36,37])
 (.seq
 (.region false [oK 39 (.bin .eql) [.t 10,.c (.i 3)],
 oK 38 .mv [.t 39]] [10,39])
 (.cond (.t 38) [38]
 (.region true [oK 40 .mv [.t 1],
 oK 41 (.idxa 2) [.t 40,.c (.i 0)],
 oK 42 (.fld 0 1 false) [.t 41],
 oK 43 (.load 1 false) [.t 42],
 oK 44 (.bin .add) [.t 43,.c (.s [124])],
 oK 45 .mv [.t 1],
 oK 46 (.idxa 2) [.t 45,.c (.i 1)],
 oK 47 (.load 2 true) [.t 46],
 oK 48 (.call n_impl_bracketedFrom 24576) [.c (.i 3),.t 47],
 oK 49 (.bin .add) [.t 44,.t 48],
 oK 50 (.fld 0 1 false) [.t 5],
 ⟨none,.store 1,[.t 50,.t 49],none⟩] [1,40,41,42,43,44,45,46,47,48,49,50])
 .skip))))))))))
 (.seq
 (.region false [oK 51 (.load 2 true) [.t 5],
 ⟨none,.store 2,[.t 4,.t 51],none⟩] [1,5,51])
 .ret)))) }
/-- spec.TermOk -/
def F_spec_TermOk_L0 : LC :=
 (.seq
 (.seq
 (.region false [oK 7 .mv [.t 6],
 oK 8 .mv [.t 1],
 oK 9 .len [.t 8],
 oK 10 (.bin .lss) [.t 7,.t 9]] [7,8,9])
 (.cond (.t 10) [10]
 .skip
 (.exit 0)))
 (.seq
 (.block 1
 (.block 2
 (.seq
 (.region false [oK 14 .mv [.t 1],
 oK 15 .mv [.t 6],
 oK 16 (.idxa 2) [.t 14,.t 15],
 oK 17 (.fld 0 1 false) [.t 16],
 oK 18 (.load 1 false) [.t 17],
 oK 19 (.bin .eql) [.t 18,.c (.i 0)],
 oK 20 .mv [.t 19],
 oG 21 .mv [.t 1] 20 true,
 oG 22 .mv [.t 6] 20 true,
 oG 23 (.idxa 2) [.t 21,.t 22] 20 true,
 oG 24 (.fld 1 1 false) [.t 23] 20 true,
 oG 25 (.load 1 false) [.t 24] 20 true,
 oG 26 (.bin .geq) [.t 25,.c (.i 0)] 20 true,
 oK 27 .pick [.t 20,.t 26,.c (.b false)],
 oK 28 .mv [.t 27],
 oG 29 .mv [.t 1] 28 true,
 oG 30 .mv [.t 6] 28 true,
 oG 31 (.idxa 2) [.t 29,.t 30] 28 true,
 oG 32 (.fld 1 1 false) [.t 31] 28 true,
 oG 33 (.load 1 false) [.t 32] 28 true,
 oG 34 .mv [.t 0] 28 true,
 oG 35 (.bin .lss) [.t 33,.t 34] 28 true,
 oK 36 .pick [.t 28,.t 35,.c (.b false)],
 oK 13 .mv [.t 36]] [14,15,16,17,18,19,20,21,22,23,24,25,26,27,28,29,30,31,32,33,34,35,36])
 (.cond (.t 13) [13]
 (.region false [oK 37 .mv [.t 5],
 oK 38 (.bin .add) [.t 37,.c (.i 1)],
 oK 5 .mv [.t 38]] [37,38])
 (.seq
 (.region false [oK 40 .mv [.t 1],
 oK 41 .mv [.t 6],
 oK 42 (.idxa 2) [.t 40,.t 41],
 oK 43 (.load 2 true) [.t 42],
 oK 44 (.build [.i 0,.i 0] [(0,1)]) [.c (.i 1)],
 oK 45 (.eqs false 2) [.t 43,.t 44],
 oK 46 .mv [.t 45],
 oG 47 .mv [.t 5] 46 true,
 oG 48 (.bin .geq) [.t 47,.c (.i 1)] 46 true,
 oK 49 .pick [.t 46,.t 48,.c (.b false)],
 oK 39 .mv [.t 49]] [40,41,42,43,44,45,46,47,48,49])
 (.cond (.t 39) [39]
 .skip
 (.seq
 (.region false [oK 51 .mv [.t 1],
 oK 52 .mv [.t 6],
 oK 53 (.idxa 2) [.t 51,.t 52],
 oK 54 (.load 2 true) [.t 53],
 oK 55 (.build [.i 0,.i 0] [(0,1)]) [.c (.i 2)],
 oK 56 (.eqs false 2) [.t 54,.t 55],
 oK 57 .mv [.t 56],
 oG 58 .mv [.t 1] 57 false,
 oG 59 .mv [.t 6] 57 false,
 oG 60 (.idxa 2) [.t 58,.t 59] 57 false,
 oG 61 (.load 2 true) [.t 60] 57 false,
 oG 62 (.build [.i 0,.i 0] [(0,1)]) [.c (.i 3)] 57 false,
 oG 63 (.eqs false 2) [.t 61,.t 62] 57 false,
 oK 64 .pick [.t 57,.c (.b true),.t 63],
 oK 65 .mv [.t 64],
 oG 66 .mv [.t 5] 65 true,
 oG 67 (.bin .geq) [.t 66,.c (.i 2)] 65 true,
 oK 68 .pick [.t 65,.t 67,.c (.b false)],
 oK 50 .mv [.t 68]] [51,52,53,54,55,56,57,58,59,60,61,62,63,64,65,66,67,68])
 (.cond (.t 50) [50]
 (.region false [oK 69 .mv [.t 5],
 oK 70 (.bin .sub) [.t 69,.c (.i 1)],
 oK 5 .mv [.t 70]] [69,70])
 (.seq
 (.region false [oK 4 .mv [.c (.b false)]] [0,1,5,6])
 .ret)))))))))
 (.region false [oK 11 .mv [.t 6],
 oK 12 (.bin .add) [.t 11,.c (.i 1)],
 oK 6 .mv [.t 12]] [11,12])))
def F_spec_TermOk_W0 : LC := .loop F_spec_TermOk_L0
def F_spec_TermOk : LF :=
 { nparams := 2,results := [.t 4],body :=
 (.seq
 (.region false [oK 4 .mv [.c (.b false)]] [4])
 (.seq
 (.region false [oK 5 .mv [.c (.i 0)]] [])
 (.seq
 (.seq
 (.region false [oK 6 .mv [.c (.i 0)]] [])
 (.block 0
 F_spec_TermOk_W0))
 (.seq
 (.region false [oK 71 .mv [.t 0],
 oK 72 (.call n_spec_l1In 36864) [.t 71,.c (.i 1),.c (.i 5)],
 oK 73 .mv [.t 72],
 oG 74 .mv [.t 5] 73 true,
 oG 75 (.bin .eql) [.t 74,.c (.i 1)] 73 true,
 oK 76 .pick [.t 73,.t 75,.c (.b false)],
 oK 77 .mv [.t 76],
 oG 78 .mv [.t 1] 77 true,
 oG 79 .len [.t 78] 77 true,
 oG 80 (.bin .leq) [.t 79,.c (.i 13)] 77 true,
 oK 81 .pick [.t 77,.t 80,.c (.b false)],
 oK 4 .mv [.t 81]] [0,1,5,6,71,72,73,74,75,76,77,78,79,80,81])
 .ret)))) }
/-- spec.l2Text -/
def F_spec_l2Text : LF :=
 { nparams := 1,results := [.t 2],body :=
 (.seq
 (.region false [oK 2 .mv [.c (.s [])]] [2])
 (.seq
 (.region false [oK 5 .mv [.t 0],
 oK 6 .len [.t 5],
 oK 7 (.bin .sub) [.t 6,.c (.i 1)],
 oK 3 .mv [.t 7]] [5,6,7])
 (.seq
 (.seq
 (.region false [oK 8 .mv [.t 0],
 oK 9 .mv [.t 3],
 oK 10 (.idxa 2) [.t 8,.t 9],
 oK 11 (.fld 0 1 false) [.t 10],
 oK 12 (.load 1 false) [.t 11]] [8,9,10,11])
 (.block 0
 (.seq
 (.region false [oK 14 (.bin .eql) [.t 12,.c (.i 0)],
 oK 13 .mv [.t 14]] [14])
 (.cond (.t 13) [13]
 (.seq
 (.region true [oK 15 .mv [.t 0],
 oK 16 .mv [.t 3],
 oK 17 (.idxa 2) [.t 15,.t 16],
 oK 18 (.fld 1 1 false) [.t 17],
 oK 19 (.load 1 false) [.t 18],
 oK 20 .mv [.t 0],
 oK 21 .mv [.t 3],
 oK 22 (.idxa 2) [.t 20,.t 21],
 oK 23 (.fld 1 1 false) [.t 22],
 oK 24 (.load 1 false) [.t 23],
 oK 25 (.bin .add) [.t 24,.c (.i 1)],
 oK 26 (.slices true true) [.c (.s [97,98,99,100,101]),.t 19,.t 25],
 oK 2 .mv [.t 26]] [0,3,12,15,16,17,18,19,20,21,22,23,24,25,26])
 .ret)
 (.seq
 (.region false [oK 28 (.bin .eql) [.t 12,.c (.i 1)],
 oK 27 .mv [.t 28]] [12,28])
 (.cond (.t 27) [27]
 (.seq
 (.region false [oK 29 .mv [.t 0],
 oK 30 .mv [.t 3],
 oK 31 (.slice false true 2) [.t 29,.t 30],
 oK 32 (.call n_spec_l2Held 16384) [.t 31,.c (.i 2)],
 oK 33 (.bin .add) [.c (.s [33]),.t 32],
 oK 2 .mv [.t 33]] [0,3,29,30,31,32,33])
 .ret)
 .skip))))))
 (.seq
 (.region false [oK 34 .mv [.t 0],
 oK 35 .mv [.t 3],
 oK 36 (.bin .sub) [.t 35,.c (.i 1)],
 oK 37 (.call n_spec_l2Starts 18944) [.t 34,.t 36],
 oK 4 .mv [.t 37]] [34,35,36,37])
 (.seq
 (.seq
 (.region false [oK 38 .mv [.t 0],
 oK 39 .mv [.t 3],
 oK 40 (.idxa 2) [.t 38,.t 39],
 oK 41 (.fld 0 1 false) [.t 40],
 oK 42 (.load 1 false) [.t 41],
 oK 43 (.bin .eql) [.t 42,.c (.i 3)]] [38,39,40,41,42])
 (.cond (.t 43) [43]
 (.seq
 (.region true [oK 44 .mv [.t 0],
 oK 45 .mv [.t 4],
 oK 46 (.slice false true 2) [.t 44,.t 45],
 oK 47 (.call n_spec_l2Held 24064) [.t 46,.c (.i 0)],
 oK 48 (.bin .add) [.t 47,.c (.s [124])],
 oK 49 .mv [.t 0],
 oK 50 .mv [.t 4],
 oK 51 .mv [.t 3],
 oK 52 (.slice true true 2) [.t 49,.t 50,.t 51],
 oK 53 (.call n_spec_l2Held 27136) [.t 52,.c (.i 1)],
 oK 54 (.bin .add) [.t 48,.t 53],
 oK 2 .mv [.t 54]] [0,3,4,44,45,46,47,48,49,50,51,52,53,54])
 .ret)
 .skip))
 (.seq
 (.region true [oK 55 .mv [.t 0],
 oK 56 .mv [.t 4],
 oK 57 (.slice false true 2) [.t 55,.t 56],
 oK 58 (.call n_spec_l2Held 29696) [.t 57,.c (.i 1)],
 oK 59 (.bin .add) [.t 58,.c (.s [38])],
 oK 60 .mv [.t 0],
 oK 61 .mv [.t 4],
 oK 62 .mv [.t 3],
 oK 63 (.slice true true 2) [.t 60,.t 61,.t 62],
 oK 64 (.call n_spec_l2Held 32768) [.t 63,.c (.i 2)],
 oK 65 (.bin .add) [.t 59,.t 64],
 oK 2 .mv [.t 65]] [0,3,4,55,56,57,58,59,60,61,62,63,64,65])
 .ret)))))) }
/-- impl.manyOk -/
def F_impl_manyOk : LF :=
 { nparams := 1,results := [.t 2],body :=
 (.seq
 (.region false [oK 2 .mv [.c (.b false)]] [2])
 (.seq
 (.region false [oK 3 .mv [.t 0],
 oK 4 (.call n_impl_isWithin 2048) [.t 3,.c (.i 1),.c (.i 5)],
 oK 2 .mv [.t 4]] [0,3,4])
 .ret)) }
/-- impl.isWithin -/
def F_impl_isWithin : LF :=
 { nparams := 3,results := [.t 6],body :=
 (.seq
 (.region false [oK 6 .mv [.c (.b false)]] [6])
 (.seq
 (.region false [oK 7 .mv [.t 1],
 oK 8 .mv [.t 0],
 oK 9 (.bin .leq) [.t 7,.t 8],
 oK 10 .mv [.t 9],
 oG 11 .mv [.t 0] 10 true,
 oG 12 .mv [.t 2] 10 true,
 oG 13 (.bin .leq) [.t 11,.t 12] 10 true,
 oK 14 .pick [.t 10,.t 13,.c (.b false)],
 oK 6 .mv [.t 14]] [0,1,2,7,8,9,10,11,12,13,14])
 .ret)) }
/-- impl.partsTaken -/
def F_impl_partsTaken : LF :=
 { nparams := 1,results := [.t 2],body :=
 (.seq
 (.region false [oK 2 .mv [.c (.i 0)]] [2])
 (.seq
 (.seq
 (.region false [oK 3 .mv [.t 0]] [0])
 (.block 0
 (.seq
 (.region false [oK 5 (.bin .eql) [.t 3,.c (.i 0)],
 oK 4 .mv [.t 5]] [5])
 (.cond (.t 4) [4]
 (.seq
 (.region false [oK 2 .mv [.c (.i 0)]] [3])
 .ret)
 (.seq
 (.region false [oK 7 (.bin .eql) [.t 3,.c (.i 1)],
 oK 6 .mv [.t 7]] [3,7])
 (.cond (.t 6) [6]
 (.seq
 (.region false [oK 2 .mv [.c (.i 1)]] [])
 .ret)
 .skip))))))
 (.seq
 (.region false [oK 2 .mv [.c (.i 2)]] [])
 .ret))) }
/-- impl.markOk -/
def F_impl_markOk : LF :=
 { nparams := 2,results := [.t 4],body :=
 (.seq
 (.region false [oK 3 (.box 1552) [.t 1],
 oK 4 .mv [.c (.b false)]] [1,4])
 (.seq
 (.seq
 (.region false [oK 5 (.fld 0 1 false) [.t 3],
 oK 6 (.load 1 false) [.t 5],
 oK 7 (.bin .eql) [.t 6,.c (.i 0)]] [5,6])
 (.cond (.t 7) [7]
 (.seq
 (.region false [oK 8 (.fld 1 1 false) [.t 3],
 oK 9 (.load 1 false) [.t 8],
 oK 10 .mv [.t 0],
 oK 11 (.bin .sub) [.t 10,.c (.i 1)],
 oK 12 (.call n_impl_isWithin 6144) [.t 9,.c (.i 0),.t 11],
 oK 4 .mv [.t 12]] [0,3,8,9,10,11,12])
 .ret)
 .skip))
 (.seq
 (.region false [oK 13 (.fld 0 1 false) [.t 3],
 oK 14 (.load 1 false) [.t 13],
 oK 15 (.call n_impl_isWithin 7680) [.t 14,.c (.i 1),.c (.i 3)],
 oK 16 .mv [.t 15],
 oG 17 (.fld 1 1 false) [.t 3] 16 true,
 oG 18 (.load 1 false) [.t 17] 16 true,
 oG 19 (.bin .eql) [.t 18,.c (.i 0)] 16 true,
 oK 20 .pick [.t 16,.t 19,.c (.b false)],
 oK 4 .mv [.t 20]] [0,3,13,14,15,16,17,18,19,20])
 .ret))) }
/-- impl.TestsOk -/
def F_impl_TestsOk_L0 : LC :=
 (.seq
 (.region false [oK 12 (.bin .lss) [.t 11,.t 10]] [])
 (.seq
 (.cond (.t 12) [12]
 .skip
 (.exit 0))
 (.seq
 (.block 1
 (.seq
 (.region false [oK 13 (.idxa 2) [.t 9,.t 11],
 oK 14 (.load 2 true) [.t 13],
 oK 4 (.alloc 2064 (.st [.i 0,.i 0])) [],
 ⟨none,.store 2,[.t 4,.t 14],none⟩] [13,14])
 (.seq
 (.region false [oK 15 (.fld 0 1 false) [.t 4],
 oK 16 (.load 1 false) [.t 15],
 oK 17 (.call n_impl_isWithin 8704) [.t 16,.c (.i 1),.c (.i 9)],
 oK 18 (.un .not) [.t 17],
 oK 19 .mv [.t 18],
 oG 20 (.fld 1 1 false) [.t 4] 19 false,
 oG 21 (.load 1 false) [.t 20] 19 false,
 oG 22 (.call n_impl_isWithin 11264) [.t 21,.c (.i 1),.c (.i 5)] 19 false,
 oG 23 (.un .not) [.t 22] 19 false,
 oK 24 .pick [.t 19,.c (.b true),.t 23]] [4,15,16,17,18,19,20,21,22,23])
 (.cond (.t 24) [24]
 (.seq
 (.region false [oK 2 .mv [.c (.b false)]] [9,10,11])
 .ret)
 .skip))))
 (.region false [oK 25 (.bin .add) [.t 11,.c (.i 1)],
 oK 11 .mv [.t 25]] [25]))))
def F_impl_TestsOk_W0 : LC := .loop F_impl_TestsOk_L0
def F_impl_TestsOk : LF :=
 { nparams := 1,results := [.t 2],body :=
 (.seq
 (.region false [oK 2 .mv [.c (.b false)]] [2])
 (.seq
 (.seq
 (.region false [oK 5 .mv [.t 0],
 oK 6 .len [.t 5],
 oK 7 (.call n_impl_manyOk 3584) [.t 6],
 oK 8 (.un .not) [.t 7]] [5,6,7])
 (.cond (.t 8) [8]
 (.seq
 (.region false [oK 2 .mv [.c (.b false)]] [0])
 .ret)
 .skip))
 (.seq
 (.seq
 (.region false [oK 9 .mv [.t 0],
 oK 10 .len [.t 9],
 oK 11 .mv [.c (.i 0)]] [0])
 (.block 0
 F_impl_TestsOk_W0))
 (.seq
 (.region false [oK 2 .mv [.c (.b true)]] [9,10,11])
 .ret)))) }
/-- impl.readOr -/
def F_impl_readOr : LF :=
 { nparams := 1,results := [.t 2,.t 3],body :=
 (.seq
 (.region false [oK 2 (.newnil 1040) [],
 oK 3 .mv [.c (.s [])]] [2,3])
 (.seq
 (.region false [oK 4 .mv [.t 0],
 oK 5 (.call n_impl_readRow 2560) [.t 4,.c (.y 124),.c (.i 3),.c (.fn n_impl_readAnd [])],
 oK 6 (.ext 0) [.t 5],
 oK 7 (.ext 1) [.t 5],
 oK 2 .mv [.t 6],
 oK 3 .mv [.t 7]] [0,4,5,6,7])
 .ret)) }
/-- spec.l20Rd).pick -/
def F_spec_l20Rd_pick : LF :=
 { nparams := 2,results := [.t 4],body :=
 (.seq
 (.region false [oK 4 .mv [.c (.i 0)]] [4])
 (.seq
 (.region false [oK 7 .mv [.t 0],
 oK 8 .mv [.t 0],
 oK 9 .chk [.t 8],
 oK 10 (.fld 1 1 false) [.t 9],
 oK 11 (.load 1 false) [.t 10],
 oK 12 (.bin .add) [.t 11,.c (.i 1)],
 oK 13 .chk [.t 7],
 oK 14 (.fld 1 1 false) [.t 13],
 ⟨none,.store 1,[.t 14,.t 12],none⟩] [7,8,9,10,11,12,13,14])
 (.seq
 (.seq
 (.region false [oK 15 .mv [.t 1],
 oK 16 (.bin .lss) [.t 15,.c (.i 1)],
 oK 17 .mv [.t 16],
 oG 18 .mv [.t 0] 17 false,
 oG 19 .chk [.t 18] 17 false,
 oG 20 (.fld 0 1 false) [.t 19] 17 false,
 oG 21 (.load 1 false) [.t 20] 17 false,
 oG 22 .len [.t 21] 17 false,
 oG 23 (.bin .eql) [.t 22,.c (.i 0)] 17 false,
 oK 24 .pick [.t 17,.c (.b true),.t 23]] [15,16,17,18,19,20,21,22,23])
 (.cond (.t 24) [24]
 (.seq
 (.region false [oK 4 .mv [.c (.i 0)]] [1])
 .ret)
 .skip))
 (.seq
 (.region false [oK 25 .mv [.t 0],
 oK 26 .chk [.t 25],
 oK 27 (.fld 1 1 false) [.t 26],
 oK 28 (.load 1 false) [.t 27],
 oK 29 (.bin .sub) [.t 28,.c (.i 1)],
 oK 5 .mv [.t 29]] [25,26,27,28,29])
 (.seq
 (.seq
 (.region false [oK 30 .mv [.t 5],
 oK 31 .mv [.t 0],
 oK 32 .chk [.t 31],
 oK 33 (.fld 0 1 false) [.t 32],
 oK 34 (.load 1 false) [.t 33],
 oK 35 .len [.t 34],
 oK 36 (.bin .lss) [.t 30,.t 35]] [30,31,32,33,34,35])
 (.cond (.t 36) [36]
 (.seq
 (.region false [oK 37 .mv [.t 0],
 oK 38 .chk [.t 37],
 oK 39 (.fld 0 1 false) [.t 38],
 oK 40 (.load 1 false) [.t 39],
 oK 41 .mv [.t 5],
 oK 42 (.idxa 1) [.t 40,.t 41],
 oK 43 (.load 1 false) [.t 42],
 oK 44 (.conv .b2i 22528) [.t 43],
 oK 45 .mv [.t 1],
 oK 46 (.bin .rem) [.t 44,.t 45],
 oK 4 .mv [.t 46]] [1,5,37,38,39,40,41,42,43,44,45,46])
 .ret)
 .skip))
 (.seq
 (.region true [oK 47 .mv [.t 0],
 oK 48 .chk [.t 47],
 oK 49 (.fld 0 1 false) [.t 48],
 oK 50 (.load 1 false) [.t 49],
 oK 51 .mv [.t 5],
 oK 52 .mv [.t 0],
 oK 53 .chk [.t 52],
 oK 54 (.fld 0 1 false) [.t 53],
 oK 55 (.load 1 false) [.t 54],
 oK 56 .len [.t 55],
 oK 57 (.bin .rem) [.t 51,.t 56],
 oK 58 (.idxa 1) [.t 50,.t 57],
 oK 59 (.load 1 false) [.t 58],
 oK 60 (.conv .b2i 30720) [.t 59],
 oK 61 (.bin .mul) [.t 60,.c (.i 131)],
 oK 62 .mv [.t 0],
 oK 63 .chk [.t 62],
 oK 64 (.fld 0 1 false) [.t 63],
 oK 65 (.load 1 false) [.t 64],
 oK 66 .mv [.t 5],
 oK 67 (.bin .mul) [.t 66,.c (.i 7)],
 oK 68 (.bin .add) [.t 67,.c (.i 3)],
 oK 69 .mv [.t 0],
 oK 70 .chk [.t 69],
 oK 71 (.fld 0 1 false) [.t 70],
 oK 72 (.load 1 false) [.t 71],
 oK 73 .len [.t 72],
 oK 74 (.bin .rem) [.t 68,.t 73],
 oK 75 (.idxa 1) [.t 65,.t 74],
 oK 76 (.load 1 false) [.t 75],
 oK 77 (.conv .b2i 39424) [.t 76],
 oK 78 (.bin .mul) [.t 77,.c (.i 1117)],
 oK 79 (.bin .add) [.t 61,.t 78],
 oK 80 .mv [.t 5],
 oK 81 (.bin .mul) [.t 80,.c (.i 29)],
 oK 82 (.bin .add) [.t 79,.t 81],
 oK 83 .mv [.t 5],
 oK 84 .mv [.t 0],
 oK 85 .chk [.t 84],
 oK 86 (.fld 0 1 false) [.t 85],
 oK 87 (.load 1 false) [.t 86],
 oK 88 .len [.t 87],
 oK 89 (.bin .quo) [.t 83,.t 88],
 oK 90 (.bin .mul) [.t 89,.c (.i 53)],
 oK 91 (.bin .add) [.t 82,.t 90],
 oK 6 .mv [.t 91]] [5,47,48,49,50,51,52,53,54,55,56,57,58,59,60,61,62,63,64,65,66,67,68,69,70,71,72,73,74,75,76,77,78,79,80,81,82,83,84,85,86,87,88,89,90,91])
 (.seq
 (.region false [oK 92 .mv [.t 6],
 oK 93 .mv [.t 6],
 oK 94 (.bin .quo) [.t 93,.c (.i 64)],
 oK 95 (.bin .xor) [.t 92,.t 94],
 oK 6 .mv [.t 95]] [92,93,94,95])
 (.seq
 (.region false [oK 96 .mv [.t 6],
 oK 97 .mv [.t 1],
 oK 98 (.bin .rem) [.t 96,.t 97],
 oK 4 .mv [.t 98]] [1,6,96,97,98])
 .ret)))))))) }
/-- spec.l20Term -/
def F_spec_l20Term_L0 : LC :=
 (.seq
 (.seq
 (.region false [oK 23 .mv [.t 9],
 oK 24 .mv [.t 1],
 oK 25 (.bin .lss) [.t 23,.t 24],
 oK 26 .mv [.t 25],
 oG 27 .mv [.t 8] 26 true,
 oK 28 .pick [.t 26,.t 27,.c (.b false)]] [23,24,25,26,27])
 (.cond (.t 28) [28]
 .skip
 (.exit 0)))
 (.seq
 (.block 1
 (.seq
 (.region false [oK 31 .mv [.t 0],
 oK 32 (.call n_spec_l20Rd_pick 16384) [.t 31,.c (.i 4)],
 oK 33 (.bin .gtr) [.t 32,.c (.i 0)],
 oK 34 .mv [.t 33],
 oG 35 .mv [.t 9] 34 false,
 oG 36 (.bin .eql) [.t 35,.c (.i 0)] 34 false,
 oK 37 .pick [.t 34,.c (.b true),.t 36]] [31,32,33,34,35,36])
 (.cond (.t 37) [37]
 (.region false [oK 38 .mv [.t 7],
 oK 39 .mv [.t 9],
 oK 40 (.build [.i 0,.i 0] [(0,1),(1,1)]) [.c (.i 0),.t 39],
 oK 41 (.bslice 21008 1 2 (.st [.i 0,.i 0]) [0]) [.t 40],
 oK 42 (.bslice 21512 1 1 (.sl 1 []) [0]) [.t 41],
 oK 43 (.app 22024 1) [.t 38,.t 42],
 oK 7 .mv [.t 43]] [38,39,40,41,42,43])
 .skip)))
 (.region false [oK 29 .mv [.t 9],
 oK 30 (.bin .add) [.t 29,.c (.i 1)],
 oK 9 .mv [.t 30]] [29,30])))
def F_spec_l20Term_W0 : LC := .loop F_spec_l20Term_L0
def F_spec_l20Term_L1 : LC :=
 (.seq
 (.seq
 (.region false [oK 47 .mv [.t 10],
 oK 48 (.bin .gtr) [.t 47,.c (.i 0)],
 oK 49 .mv [.t 48],
 oG 50 .mv [.t 8] 49 true,
 oG 51 (.un .not) [.t 50] 49 true,
 oK 52 .pick [.t 49,.t 51,.c (.b false)]] [47,48,49,50,51])
 (.cond (.t 52) [52]
 .skip
 (.exit 2)))
 (.seq
 (.block 3
 (.region false [oK 55 .mv [.t 7],
 oK 56 .mv [.t 0],
 oK 57 .mv [.t 1],
 oK 58 (.call n_spec_l20Rd_pick 29696) [.t 56,.t 57],
 oK 59 (.build [.i 0,.i 0] [(0,1),(1,1)]) [.c (.i 0),.t 58],
 oK 60 (.bslice 30736 1 2 (.st [.i 0,.i 0]) [0]) [.t 59],
 oK 61 (.bslice 31240 1 1 (.sl 1 []) [0]) [.t 60],
 oK 62 (.app 31752 1) [.t 55,.t 61],
 oK 7 .mv [.t 62]] [55,56,57,58,59,60,61,62]))
 (.region false [oK 53 .mv [.t 10],
 oK 54 (.bin .sub) [.t 53,.c (.i 1)],
 oK 10 .mv [.t 54]] [53,54])))
def F_spec_l20Term_W1 : LC := .loop F_spec_l20Term_L1
def F_spec_l20Term_L2 : LC :=
 (.ghost (.rename 7 9736)
 (.seq
 (.seq
 (.region false [oK 63 .mv [.t 7],
 oK 64 .len [.t 63],
 oK 65 (.bin .gtr) [.t 64,.c (.i 1)]] [63,64])
 (.cond (.t 65) [65]
 .skip
 (.exit 4)))
 (.block 5
 (.seq
 (.region false [oK 66 .mv [.t 0],
 oK 67 .mv [.t 7],
 oK 68 .len [.t 67],
 oK 69 (.bin .sub) [.t 68,.c (.i 1)],
 oK 70 (.call n_spec_l20Rd_pick 35840) [.t 66,.t 69],
 oK 12 .mv [.t 70]] [66,67,68,69,70])
 (.seq
 (.seq
 (.region false [oK 71 .mv [.t 11],
 oK 72 (.bin .gtr) [.t 71,.c (.i 0)],
 oK 73 .mv [.t 72],
 oG 74 .mv [.t 0] 73 true,
 oG 75 (.call n_spec_l20Rd_pick 38400) [.t 74,.c (.i 4)] 73 true,
 oG 76 (.bin .eql) [.t 75,.c (.i 0)] 73 true,
 oK 77 .pick [.t 73,.t 76,.c (.b false)]] [71,72,73,74,75,76])
 (.cond (.t 77) [77]
 (.seq
 (.region false [oK 78 .mv [.t 11],
 oK 79 (.bin .sub) [.t 78,.c (.i 1)],
 oK 11 .mv [.t 79]] [78,79])
 (.seq
 (.region false [oK 80 .mv [.t 7],
 oK 81 .mv [.t 12],
 oK 82 (.bslice 42000 0 2 (.st [.i 0,.i 0]) []) [],
 oK 83 .mv [.t 7],
 oK 84 .mv [.t 12],
 oK 85 (.idxa 1) [.t 83,.t 84],
 oK 86 (.load 1 false) [.t 85],
 oK 87 (.app 44560 2) [.t 82,.t 86],
 oK 88 (.build [.i 0,.i 0] [(0,1)]) [.c (.i 1)],
 oK 89 (.bslice 45584 1 2 (.st [.i 0,.i 0]) [0]) [.t 88],
 oK 90 (.app 46096 2) [.t 87,.t 89],
 oK 91 (.idxa 1) [.t 80,.t 81],
 ⟨none,.store 1,[.t 91,.t 90],none⟩] [12,80,81,82,83,84,85,86,87,88,89,90,91])
 (.exit 5)))
 .skip))
 (.seq
 (.region true [oK 92 (.bslice 47120 0 2 (.st [.i 0,.i 0]) []) [],
 oK 93 .mv [.t 7],
 oK 94 .mv [.t 12],
 oK 95 (.idxa 1) [.t 93,.t 94],
 oK 96 (.load 1 false) [.t 95],
 oK 97 (.app 49680 2) [.t 92,.t 96],
 oK 98 .mv [.t 7],
 oK 99 .mv [.t 12],
 oK 100 (.bin .add) [.t 99,.c (.i 1)],
 oK 101 (.idxa 1) [.t 98,.t 100],
 oK 102 (.load 1 false) [.t 101],
 oK 103 (.app 52752 2) [.t 97,.t 102],
 oK 104 .mv [.t 0],
 oK 105 (.call n_spec_l20Rd_pick 53760) [.t 104,.c (.i 2)],
 oK 106 (.bin .add) [.c (.i 2),.t 105],
 oK 107 (.build [.i 0,.i 0] [(0,1)]) [.t 106],
 oK 108 (.bslice 55312 1 2 (.st [.i 0,.i 0]) [0]) [.t 107],
 oK 109 (.app 55824 2) [.t 103,.t 108],
 oK 13 .mv [.t 109]] [92,93,94,95,96,97,98,99,100,101,102,103,104,105,106,107,108,109])
 (.seq
 (.region false [oK 110 (.bslice 56328 0 1 (.sl 1 []) []) [],
 oK 111 .mv [.t 7],
 oK 112 .mv [.t 12],
 oK 113 (.slice false true 1) [.t 111,.t 112],
 oK 114 (.app 58376 1) [.t 110,.t 113],
 oK 14 .mv [.t 114]] [110,111,112,113,114])
 (.seq
 (.region false [oK 115 .mv [.t 14],
 oK 116 .mv [.t 13],
 oK 117 (.bslice 59912 1 1 (.sl 1 []) [0]) [.t 116],
 oK 118 (.app 60424 1) [.t 115,.t 117],
 oK 14 .mv [.t 118]] [13,115,116,117,118])
 (.region false [oK 119 .mv [.t 14],
 oK 120 .mv [.t 7],
 oK 121 .mv [.t 12],
 oK 122 (.bin .add) [.t 121,.c (.i 2)],
 oK 123 (.slice true false 1) [.t 120,.t 122],
 oK 124 (.app 63496 1) [.t 119,.t 123],
 oK 7 .mv [.t 124]] [12,14,119,120,121,122,123,124])))))))))
def F_spec_l20Term_W2 : LC := .loop F_spec_l20Term_L2
def F_spec_l20Term : LF :=
 { nparams := 3,results := [.t 6],body :=
 (.seq
 (.region false [oK 6 (.newnil 3088) []] [6])
 (.seq
 (.region false [oK 16 .mv [.t 1],
 oK 17 (.mm true) [.t 16,.c (.i 1)],
 oK 18 (.mm false) [.t 17,.c (.i 5)],
 oK 1 .mv [.t 18]] [16,17,18])
 (.seq
 (.region false [oK 19 (.bslice 9736 0 1 (.sl 1 []) []) [],
 oK 7 .mv [.t 19]] [19])
 (.seq
 (.region false [oK 20 .mv [.t 0],
 oK 21 (.call n_spec_l20Rd_pick 10752) [.t 20,.c (.i 2)],
 oK 22 (.bin .eql) [.t 21,.c (.i 0)],
 oK 8 .mv [.t 22]] [20,21,22])
 (.seq
 (.seq
 (.region false [oK 9 .mv [.c (.i 0)]] [])
 (.block 0
 F_spec_l20Term_W0))
 (.seq
 (.seq
 (.region false [oK 44 .mv [.t 0],
 oK 45 (.call n_spec_l20Rd_pick 23040) [.t 44,.c (.i 5)],
 oK 46 (.bin .add) [.c (.i 1),.t 45],
 oK 10 .mv [.t 46]] [9,44,45,46])
 (.block 2
 F_spec_l20Term_W1))
 (.seq
 (.region false [oK 11 .mv [.c (.i 2)]] [1,8,10])
 (.seq
 (.block 4
 F_spec_l20Term_W2)
 (.seq
 (.region false [oK 125 .mv [.t 7],
 oK 126 (.idxa 1) [.t 125,.c (.i 0)],
 oK 127 (.load 1 false) [.t 126],
 oK 15 .mv [.t 127]] [7,11,125,126,127])
 (.ghost (.promote 15 7696)
 (.seq
 (.seq
 (.region false [oK 128 .mv [.t 0],
 oK 129 .mv [.t 2],
 oK 130 (.call n_spec_l20Rd_odd 66560) [.t 128,.t 129]] [2,128,129])
 (.cond (.t 130) [130]
 (.seq
 (.region false [oK 131 .mv [.t 0],
 oK 132 (.call n_spec_l20Rd_pick 67584) [.t 131,.c (.i 3)]] [131])
 (.block 6
 (.seq
 (.region false [oK 137 (.bin .eql) [.t 132,.c (.i 0)],
 oK 136 .mv [.t 137]] [137])
 (.cond (.t 136) [136]
 (.seq
 (.region false [oK 138 (.bslice 70672 0 2 (.st [.i 0,.i 0]) []) [],
 oK 6 .mv [.t 138]] [15,132,138])
 .ret)
 (.seq
 (.region false [oK 140 (.bin .eql) [.t 132,.c (.i 1)],
 oK 139 .mv [.t 140]] [132,140])
 (.cond (.t 139) [139]
 (.seq
 (.region false [oK 141 .mv [.t 15],
 oK 142 (.build [.i 0,.i 0] [(0,1)]) [.c (.i 2)],
 oK 143 (.bslice 73232 1 2 (.st [.i 0,.i 0]) [0]) [.t 142],
 oK 144 (.app 73744 2) [.t 141,.t 143],
 oK 6 .mv [.t 144]] [15,141,142,143,144])
 .ret)
 (.region false [oK 133 .mv [.t 15],
 oK 134 (.build [.i 0,.i 0] [(0,1),(1,1)]) [.c (.i 0),.c (.i 5)],
 oK 135 (.idxa 2) [.t 133,.c (.i 0)],
 ⟨none,.store 2,[.t 135,.t 134],none⟩] [133,134,135])))))))
 .skip))
 (.seq
 (.region false [oK 145 .mv [.t 15],
 oK 6 .mv [.t 145]] [15,145])
 .ret)))))))))))) }
/-- spec.l2Or -/
def F_spec_l2Or_L0 : LC :=
 (.ghost (.rename 6 6673)
 (.seq
 (.seq
 (.region false [oK 16 .mv [.t 7],
 oK 17 (.bin .geq) [.t 16,.c (.i 0)],
 oK 18 .mv [.t 17],
 oG 19 .mv [.t 7] 18 true,
 oG 20 .mv [.t 0] 18 true,
 oG 21 .lens [.t 20] 18 true,
 oG 22 (.bin .lss) [.t 19,.t 21] 18 true,
 oK 23 .pick [.t 18,.t 22,.c (.b false)],
 oK 24 .mv [.t 23],
 oG 25 .mv [.t 0] 24 true,
 oG 26 .mv [.t 7] 24 true,
 oG 27 .idx [.t 25,.t 26] 24 true,
 oG 28 (.bin .eql) [.t 27,.c (.y 124)] 24 true,
 oK 29 .pick [.t 24,.t 28,.c (.b false)]] [16,17,18,19,20,21,22,23,24,25,26,27,28])
 (.cond (.t 29) [29]
 .skip
 (.exit 0)))
 (.block 1
 (.seq
 (.region false [oK 31 .mv [.t 0],
 oK 32 .mv [.t 7],
 oK 33 (.bin .add) [.t 32,.c (.i 1)],
 oK 34 (.call n_spec_l2And 17408) [.t 31,.t 33],
 oK 30 .mv [.t 34],
 oK 35 (.ext 0) [.t 30],
 oK 36 (.ext 1) [.t 30],
 oK 8 .mv [.t 35],
 oK 9 .mv [.t 36]] [7,30,31,32,33,34,35,36])
 (.seq
 (.region false [oK 37 (.bslice 18960 0 2 (.st [.i 0,.i 0]) []) [],
 oK 38 .mv [.t 6],
 oK 39 (.app 19984 2) [.t 37,.t 38],
 oK 40 .mv [.t 8],
 oK 41 (.app 21008 2) [.t 39,.t 40],
 oK 42 (.build [.i 0,.i 0] [(0,1)]) [.c (.i 3)],
 oK 43 (.bslice 22032 1 2 (.st [.i 0,.i 0]) [0]) [.t 42],
 oK 44 (.app 22544 2) [.t 41,.t 43],
 oK 6 .mv [.t 44]] [8,37,38,39,40,41,42,43,44])
 (.region false [oK 45 .mv [.t 9],
 oK 7 .mv [.t 45]] [9,45]))))))
def F_spec_l2Or_W0 : LC := .loop F_spec_l2Or_L0
def F_spec_l2Or : LF :=
 { nparams := 2,results := [.t 4,.t 5],body :=
 (.seq
 (.region false [oK 4 (.newnil 2064) [],
 oK 5 .mv [.c (.i 0)]] [4,5])
 (.seq
 (.region false [oK 11 .mv [.t 0],
 oK 12 .mv [.t 1],
 oK 13 (.call n_spec_l2And 6656) [.t 11,.t 12],
 oK 10 .mv [.t 13],
 oK 14 (.ext 0) [.t 10],
 oK 15 (.ext 1) [.t 10],
 oK 6 .mv [.t 14],
 oK 7 .mv [.t 15]] [1,10,11,12,13,14,15])
 (.seq
 (.block 0
 F_spec_l2Or_W0)
 (.seq
 (.region false [oK 46 .mv [.t 6],
 oK 47 .mv [.t 7],
 oK 4 .mv [.t 46],
 oK 5 .mv [.t 47]] [0,6,7,46,47])
 .ret)))) }
/-- impl.letterOf -/
def F_impl_letterOf : LF :=
 { nparams := 1,results := [.t 2],body :=
 (.seq
 (.region false [oK 2 .mv [.c (.s [])]] [2])
 (.seq
 (.region false [oK 3 .mv [.t 0],
 oK 4 (.bin .add) [.c (.i 97),.t 3],
 oK 5 (.conv .i2r 2560) [.t 4],
 oK 6 (.conv .r2s 3072) [.t 5],
 oK 2 .mv [.t 6]] [0,3,4,5,6])
 .ret)) }
/-- impl.bracketedFrom -/
def F_impl_bracketedFrom : LF :=
 { nparams := 2,results := [.t 4],body :=
 (.seq
 (.region false [oK 3 (.box 1552) [.t 1],
 oK 4 .mv [.c (.s [])]] [1,4])
 (.seq
 (.seq
 (.region false [oK 5 (.fld 1 1 false) [.t 3],
 oK 6 (.load 1 false) [.t 5],
 oK 7 .mv [.t 0],
 oK 8 (.bin .geq) [.t 6,.t 7]] [0,5,6,7])
 (.cond (.t 8) [8]
 (.seq
 (.region false [oK 9 (.fld 0 1 false) [.t 3],
 oK 10 (.load 1 false) [.t 9],
 oK 11 (.bin .add) [.c (.s [40]),.t 10],
 oK 12 (.bin .add) [.t 11,.c (.s [41])],
 oK 4 .mv [.t 12]] [3,9,10,11,12])
 .ret)
 .skip))
 (.seq
 (.region false [oK 13 (.fld 0 1 false) [.t 3],
 oK 14 (.load 1 false) [.t 13],
 oK 4 .mv [.t 14]] [3,13,14])
 .ret))) }
/-- spec.l1In -/
def F_spec_l1In : LF :=
 { nparams := 3,results := [.t 6],body :=
 (.seq
 (.region false [oK 6 .mv [.c (.b false)]] [6])
 (.seq
 (.region false [oK 7 .mv [.t 0],
 oK 8 .mv [.t 1],
 oK 9 (.bin .geq) [.t 7,.t 8],
 oK 10 .mv [.t 9],
 oG 11 .mv [.t 0] 10 true,
 oG 12 .mv [.t 2] 10 true,
 oG 13 (.bin .leq) [.t 11,.t 12] 10 true,
 oK 14 .pick [.t 10,.t 13,.c (.b false)],
 oK 6 .mv [.t 14]] [0,1,2,7,8,9,10,11,12,13,14])
 .ret)) }
/-- spec.l2Held -/
def F_spec_l2Held : LF :=
 { nparams := 2,results := [.t 4],body :=
 (.seq
 (.region false [oK 4 .mv [.c (.s [])]] [4])
 (.seq
 (.region false [oK 5 .mv [.c (.i 2)]] [])
 (.seq
 (.seq
 (.region false [oK 6 .mv [.t 0],
 oK 7 .mv [.t 0],
 oK 8 .len [.t 7],
 oK 9 (.bin .sub) [.t 8,.c (.i 1)],
 oK 10 (.idxa 2) [.t 6,.t 9],
 oK 11 (.fld 0 1 false) [.t 10],
 oK 12 (.load 1 false) [.t 11]] [6,7,8,9,10,11])
 (.block 0
 (.seq
 (.region false [oK 14 (.bin .eql) [.t 12,.c (.i 3)],
 oK 13 .mv [.t 14]] [14])
 (.cond (.t 13) [13]
 (.region false [oK 5 .mv [.c (.i 0)]] [12])
 (.seq
 (.region false [oK 16 (.bin .eql) [.t 12,.c (.i 2)],
 oK 15 .mv [.t 16]] [12,16])
 (.cond (.t 15) [15]
 (.region false [oK 5 .mv [.c (.i 1)]] [])
 .skip))))))
 (.seq
 (.seq
 (.region false [oK 17 .mv [.t 5],
 oK 18 .mv [.t 1],
 oK 19 (.bin .lss) [.t 17,.t 18]] [1,5,17,18])
 (.cond (.t 19) [19]
 (.seq
 (.region false [oK 20 .mv [.t 0],
 oK 21 (.call n_spec_l2Text 10752) [.t 20],
 oK 22 (.bin .add) [.c (.s [40]),.t 21],
 oK 23 (.bin .add) [.t 22,.c (.s [41])],
 oK 4 .mv [.t 23]] [0,20,21,22,23])
 .ret)
 .skip))
 (.seq
 (.region false [oK 24 .mv [.t 0],
 oK 25 (.call n_spec_l2Text 12800) [.t 24],
 oK 4 .mv [.t 25]] [0,24,25])
 .ret))))) }
/-- spec.l2Starts -/
def F_spec_l2Starts_L0 : LC :=
 (.seq
 (.seq
 (.region false [oK 8 .mv [.t 5],
 oK 9 (.bin .gtr) [.t 8,.c (.i 0)]] [8])
 (.cond (.t 9) [9]
 .skip
 (.exit 0)))
 (.block 1
 (.seq
 (.seq
 (.region false [oK 10 .mv [.t 0],
 oK 11 .mv [.t 6],
 oK 12 (.idxa 2) [.t 10,.t 11],
 oK 13 (.fld 0 1 false) [.t 12],
 oK 14 (.load 1 false) [.t 13]] [10,11,12,13])
 (.block 2
 (.seq
 (.region false [oK 18 (.bin .eql) [.t 14,.c (.i 0)],
 oK 17 .mv [.t 18]] [18])
 (.cond (.t 17) [17]
 (.region false [oK 19 .mv [.t 5],
 oK 20 (.bin .sub) [.t 19,.c (.i 1)],
 oK 5 .mv [.t 20]] [14,19,20])
 (.seq
 (.region false [oK 22 (.bin .eql) [.t 14,.c (.i 1)],
 oK 21 .mv [.t 22]] [14,22])
 (.cond (.t 21) [21]
 .skip
 (.region false [oK 15 .mv [.t 5],
 oK 16 (.bin .add) [.t 15,.c (.i 1)],
 oK 5 .mv [.t 16]] [15,16])))))))
 (.region false [oK 23 .mv [.t 6],
 oK 24 (.bin .sub) [.t 23,.c (.i 1)],
 oK 6 .mv [.t 24]] [23,24]))))
def F_spec_l2Starts_W0 : LC := .loop F_spec_l2Starts_L0
def F_spec_l2Starts : LF :=
 { nparams := 2,results := [.t 4],body :=
 (.seq
 (.region false [oK 4 .mv [.c (.i 0)]] [4])
 (.seq
 (.region false [oK 5 .mv [.c (.i 1)]] [])
 (.seq
 (.region false [oK 7 .mv [.t 1],
 oK 6 .mv [.t 7]] [1,7])
 (.seq
 (.block 0
 F_spec_l2Starts_W0)
 (.seq
 (.region false [oK 25 .mv [.t 6],
 oK 26 (.bin .add) [.t 25,.c (.i 1)],
 oK 4 .mv [.t 26]] [0,5,6,25,26])
 .ret))))) }
/-- impl.readRow -/
def F_impl_readRow_L0 : LC :=
 (.seq
 (.seq
 (.region false [oK 19 .mv [.t 10],
 oK 20 .len [.t 19],
 oK 21 (.bin .gtr) [.t 20,.c (.i 0)],
 oK 22 .mv [.t 21],
 oG 23 .mv [.t 11] 22 true,
 oG 24 (.bin .neq) [.t 23,.c (.s [])] 22 true,
 oK 25 .pick [.t 22,.t 24,.c (.b false)],
 oK 26 .mv [.t 25],
 oG 27 .mv [.t 11] 26 true,
 oG 28 .idx [.t 27,.c (.i 0)] 26 true,
 oG 29 .mv [.t 1] 26 true,
 oG 30 (.bin .eql) [.t 28,.t 29] 26 true,
 oK 31 .pick [.t 26,.t 30,.c (.b false)]] [19,20,21,22,23,24,25,26,27,28,29,30])
 (.cond (.t 31) [31]
 .skip
 (.exit 0)))
 (.block 1
 (.seq
 (.region false [oK 12 (.newnil 6160) []] [12])
 (.seq
 (.region false [oK 33 .mv [.t 3],
 oK 34 .mv [.t 11],
 oK 35 (.slices true false) [.t 34,.c (.i 1)],
 oK 36 (.calld 18432) [.t 33,.t 35],
 oK 32 .mv [.t 36],
 oK 37 (.ext 0) [.t 32],
 oK 38 (.ext 1) [.t 32],
 oK 12 .mv [.t 37],
 oK 11 .mv [.t 38]] [32,33,34,35,36,37,38])
 (.seq
 (.seq
 (.region false [oK 39 .mv [.t 12],
 oK 40 .len [.t 39],
 oK 41 (.bin .eql) [.t 40,.c (.i 0)]] [39,40])
 (.cond (.t 41) [41]
 (.seq
 (.region false [oK 8 (.newnil 4112) [],
 oK 9 .mv [.c (.s [])]] [1,2,3,10,11,12])
 .ret)
 .skip))
 (.region false [oK 42 .mv [.t 10],
 oK 43 .mv [.t 12],
 oK 44 (.app 22544 2) [.t 42,.t 43],
 oK 45 .mv [.t 2],
 oK 46 (.build [.i 0,.i 0] [(0,1)]) [.t 45],
 oK 47 (.bslice 24080 1 2 (.st [.i 0,.i 0]) [0]) [.t 46],
 oK 48 (.app 24592 2) [.t 44,.t 47],
 oK 10 .mv [.t 48]] [12,42,43,44,45,46,47,48]))))))
def F_impl_readRow_W0 : LC := .loop F_impl_readRow_L0
def F_impl_readRow : LF :=
 { nparams := 4,results := [.t 8,.t 9],body :=
 (.seq
 (.region false [oK 8 (.newnil 4112) [],
 oK 9 .mv [.c (.s [])]] [8,9])
 (.seq
 (.region false [oK 14 .mv [.t 3],
 oK 15 .mv [.t 0],
 oK 16 (.calld 8192) [.t 14,.t 15],
 oK 13 .mv [.t 16],
 oK 17 (.ext 0) [.t 13],
 oK 18 (.ext 1) [.t 13],
 oK 10 .mv [.t 17],
 oK 11 .mv [.t 18]] [0,13,14,15,16,17,18])
 (.seq
 (.block 0
 F_impl_readRow_W0)
 (.seq
 (.region false [oK 49 .mv [.t 10],
 oK 50 .mv [.t 11],
 oK 8 .mv [.t 49],
 oK 9 .mv [.t 50]] [1,2,3,10,11,49,50])
 .ret)))) }
/-- impl.readAnd -/
def F_impl_readAnd : LF :=
 { nparams := 1,results := [.t 2,.t 3],body :=
 (.seq
 (.region false [oK 2 (.newnil 1040) [],
 oK 3 .mv [.c (.s [])]] [2,3])
 (.seq
 (.region false [oK 4 .mv [.t 0],
 oK 5 (.call n_impl_readRow 2560) [.t 4,.c (.y 38),.c (.i 2),.c (.fn n_impl_readNot [])],
 oK 6 (.ext 0) [.t 5],
 oK 7 (.ext 1) [.t 5],
 oK 2 .mv [.t 6],
 oK 3 .mv [.t 7]] [0,4,5,6,7])
 .ret)) }
/-- spec.l20Rd).odd -/
def F_spec_l20Rd_odd : LF :=
 { nparams := 2,results := [.t 4],body :=
 (.seq
 (.region false [oK 4 .mv [.c (.b false)]] [4])
 (.seq
 (.region false [oK 5 .mv [.t 1],
 oK 6 (.bin .gtr) [.t 5,.c (.i 0)],
 oK 7 .mv [.t 6],
 oG 8 .mv [.t 0] 7 true,
 oG 9 .mv [.t 1] 7 true,
 oG 10 (.call n_spec_l20Rd_pick 5120) [.t 8,.t 9] 7 true,
 oG 11 .mv [.t 1] 7 true,
 oG 12 (.bin .sub) [.t 11,.c (.i 1)] 7 true,
 oG 13 (.bin .eql) [.t 10,.t 12] 7 true,
 oK 14 .pick [.t 7,.t 13,.c (.b false)],
 oK 4 .mv [.t 14]] [1,5,6,7,8,9,10,11,12,13,14])
 .ret)) }
/-- spec.l2And -/
def F_spec_l2And_L0 : LC :=
 (.ghost (.rename 6 6673)
 (.seq
 (.seq
 (.region false [oK 16 .mv [.t 7],
 oK 17 (.bin .geq) [.t 16,.c (.i 0)],
 oK 18 .mv [.t 17],
 oG 19 .mv [.t 7] 18 true,
 oG 20 .mv [.t 0] 18 true,
 oG 21 .lens [.t 20] 18 true,
 oG 22 (.bin .lss) [.t 19,.t 21] 18 true,
 oK 23 .pick [.t 18,.t 22,.c (.b false)],
 oK 24 .mv [.t 23],
 oG 25 .mv [.t 0] 24 true,
 oG 26 .mv [.t 7] 24 true,
 oG 27 .idx [.t 25,.t 26] 24 true,
 oG 28 (.bin .eql) [.t 27,.c (.y 38)] 24 true,
 oK 29 .pick [.t 24,.t 28,.c (.b false)]] [16,17,18,19,20,21,22,23,24,25,26,27,28])
 (.cond (.t 29) [29]
 .skip
 (.exit 0)))
 (.block 1
 (.seq
 (.region false [oK 31 .mv [.t 0],
 oK 32 .mv [.t 7],
 oK 33 (.bin .add) [.t 32,.c (.i 1)],
 oK 34 (.call n_spec_l2Atom 17408) [.t 31,.t 33],
 oK 30 .mv [.t 34],
 oK 35 (.ext 0) [.t 30],
 oK 36 (.ext 1) [.t 30],
 oK 8 .mv [.t 35],
 oK 9 .mv [.t 36]] [7,30,31,32,33,34,35,36])
 (.seq
 (.region false [oK 37 (.bslice 18960 0 2 (.st [.i 0,.i 0]) []) [],
 oK 38 .mv [.t 6],
 oK 39 (.app 19984 2) [.t 37,.t 38],
 oK 40 .mv [.t 8],
 oK 41 (.app 21008 2) [.t 39,.t 40],
 oK 42 (.build [.i 0,.i 0] [(0,1)]) [.c (.i 2)],
 oK 43 (.bslice 22032 1 2 (.st [.i 0,.i 0]) [0]) [.t 42],
 oK 44 (.app 22544 2) [.t 41,.t 43],
 oK 6 .mv [.t 44]] [8,37,38,39,40,41,42,43,44])
 (.region false [oK 45 .mv [.t 9],
 oK 7 .mv [.t 45]] [9,45]))))))
def F_spec_l2And_W0 : LC := .loop F_spec_l2And_L0
def F_spec_l2And : LF :=
 { nparams := 2,results := [.t 4,.t 5],body :=
 (.seq
 (.region false [oK 4 (.newnil 2064) [],
 oK 5 .mv [.c (.i 0)]] [4,5])
 (.seq
 (.region false [oK 11 .mv [.t 0],
 oK 12 .mv [.t 1],
 oK 13 (.call n_spec_l2Atom 6656) [.t 11,.t 12],
 oK 10 .mv [.t 13],
 oK 14 (.ext 0) [.t 10],
 oK 15 (.ext 1) [.t 10],
 oK 6 .mv [.t 14],
 oK 7 .mv [.t 15]] [1,10,11,12,13,14,15])
 (.seq
 (.block 0
 F_spec_l2And_W0)
 (.seq
 (.region false [oK 46 .mv [.t 6],
 oK 47 .mv [.t 7],
 oK 4 .mv [.t 46],
 oK 5 .mv [.t 47]] [0,6,7,46,47])
 .ret)))) }
/-- impl.readNot -/
def F_impl_readNot : LF :=
 { nparams := 1,results := [.t 2,.t 3],body :=
 (.seq
 (.region false [oK 2 (.newnil 1040) [],
 oK 3 .mv [.c (.s [])]] [2,3])
 (.seq
 (.seq
 (.region false [oK 8 .mv [.t 0],
 oK 9 (.bin .eql) [.t 8,.c (.s [])]] [8])
 (.cond (.t 9) [9]
 (.seq
 (.region false [oK 2 (.newnil 1040) [],
 oK 3 .mv [.c (.s [])]] [0])
 .ret)
 .skip))
 (.seq
 (.seq
 (.region false [oK 10 .mv [.t 0],
 oK 11 .idx [.t 10,.c (.i 0)]] [10])
 (.block 0
 (.seq
 (.region false [oK 13 (.bin .eql) [.t 11,.c (.y 33)],
 oK 12 .mv [.t 13]] [13])
 (.cond (.t 12) [12]
 (.seq
 (.region false [oK 15 .mv [.t 0],
 oK 16 (.slices true false) [.t 15,.c (.i 1)],
 oK 17 (.call n_impl_readNot 8704) [.t 16],
 oK 14 .mv [.t 17],
 oK 18 (.ext 0) [.t 14],
 oK 19 (.ext 1) [.t 14],
 oK 4 .mv [.t 18],
 oK 5 .mv [.t 19]] [0,11,14,15,16,17,18,19])
 (.seq
 (.seq
 (.region false [oK 20 .mv [.t 4],
 oK 21 .len [.t 20],
 oK 22 (.bin .eql) [.t 21,.c (.i 0)]] [20,21])
 (.cond (.t 22) [22]
 (.seq
 (.region false [oK 2 (.newnil 1040) [],
 oK 3 .mv [.c (.s [])]] [4,5])
 .ret)
 .skip))
 (.seq
 (.region false [oK 23 .mv [.t 4],
 oK 24 (.build [.i 0,.i 0] [(0,1)]) [.c (.i 1)],
 oK 25 (.bslice 12816 1 2 (.st [.i 0,.i 0]) [0]) [.t 24],
 oK 26 (.app 13328 2) [.t 23,.t 25],
 oK 27 .mv [.t 5],
 oK 2 .mv [.t 26],
 oK 3 .mv [.t 27]] [4,5,23,24,25,26,27])
 .ret)))
 (.seq
 (.region false [oK 29 (.bin .eql) [.t 11,.c (.y 40)],
 oK 28 .mv [.t 29]] [11,29])
 (.cond (.t 28) [28]
 (.seq
 (.region false [oK 31 .mv [.t 0],
 oK 32 (.slices true false) [.t 31,.c (.i 1)],
 oK 33 (.call n_impl_readOr 16896) [.t 32],
 oK 30 .mv [.t 33],
 oK 34 (.ext 0) [.t 30],
 oK 35 (.ext 1) [.t 30],
 oK 6 .mv [.t 34],
 oK 7 .mv [.t 35]] [0,30,31,32,33,34,35])
 (.seq
 (.seq
 (.region false [oK 36 .mv [.t 7],
 oK 37 (.bin .eql) [.t 36,.c (.s [])],
 oK 38 .mv [.t 37],
 oG 39 .mv [.t 7] 38 false,
 oG 40 .idx [.t 39,.c (.i 0)] 38 false,
 oG 41 (.bin .neq) [.t 40,.c (.y 41)] 38 false,
 oK 42 .pick [.t 38,.c (.b true),.t 41]] [36,37,38,39,40,41])
 (.cond (.t 42) [42]
 (.seq
 (.region false [oK 2 (.newnil 1040) [],
 oK 3 .mv [.c (.s [])]] [6,7])
 .ret)
 .skip))
 (.seq
 (.region true [oK 43 .mv [.t 6],
 oK 44 .mv [.t 7],
 oK 45 (.slices true false) [.t 44,.c (.i 1)],
 oK 2 .mv [.t 43],
 oK 3 .mv [.t 45]] [6,7,43,44,45])
 .ret)))
 .skip))))))
 (.seq
 (.region false [oK 46 .mv [.t 0],
 oK 47 (.call n_impl_readLetter 24064) [.t 46],
 oK 48 (.ext 0) [.t 47],
 oK 49 (.ext 1) [.t 47],
 oK 2 .mv [.t 48],
 oK 3 .mv [.t 49]] [0,46,47,48,49])
 .ret)))) }
/-- spec.l2Atom -/
def F_spec_l2Atom : LF :=
 { nparams := 2,results := [.t 4,.t 5],body :=
 (.seq
 (.region false [oK 4 (.newnil 2064) [],
 oK 5 .mv [.c (.i 0)]] [4,5])
 (.seq
 (.seq
 (.region false [oK 10 .mv [.t 1],
 oK 11 (.bin .lss) [.t 10,.c (.i 0)],
 oK 12 .mv [.t 11],
 oG 13 .mv [.t 1] 12 false,
 oG 14 .mv [.t 0] 12 false,
 oG 15 .lens [.t 14] 12 false,
 oG 16 (.bin .geq) [.t 13,.t 15] 12 false,
 oK 17 .pick [.t 12,.c (.b true),.t 16]] [10,11,12,13,14,15,16])
 (.cond (.t 17) [17]
 (.seq
 (.region false [oK 18 (.bslice 9232 0 2 (.st [.i 0,.i 0]) []) [],
 oK 4 .mv [.t 18],
 oK 5 .mv [.c (.i (-1))]] [0,1,18])
 .ret)
 .skip))
 (.seq
 (.block 0
 (.seq
 (.region false [oK 20 .mv [.t 0],
 oK 21 .mv [.t 1],
 oK 22 .idx [.t 20,.t 21],
 oK 23 (.bin .geq) [.t 22,.c (.y 97)],
 oK 24 .mv [.t 23],
 oG 25 .mv [.t 0] 24 true,
 oG 26 .mv [.t 1] 24 true,
 oG 27 .idx [.t 25,.t 26] 24 true,
 oG 28 (.bin .leq) [.t 27,.c (.y 101)] 24 true,
 oK 29 .pick [.t 24,.t 28,.c (.b false)],
 oK 19 .mv [.t 29]] [20,21,22,23,24,25,26,27,28,29])
 (.cond (.t 19) [19]
 (.seq
 (.region false [oK 30 .mv [.t 0],
 oK 31 .mv [.t 1],
 oK 32 .idx [.t 30,.t 31],
 oK 33 (.bin .sub) [.t 32,.c (.y 97)],
 oK 34 (.conv .b2i 17408) [.t 33],
 oK 35 (.build [.i 0,.i 0] [(0,1),(1,1)]) [.c (.i 0),.t 34],
 oK 36 (.bslice 18448 1 2 (.st [.i 0,.i 0]) [0]) [.t 35],
 oK 37 .mv [.t 1],
 oK 38 (.bin .add) [.t 37,.c (.i 1)],
 oK 4 .mv [.t 36],
 oK 5 .mv [.t 38]] [0,1,30,31,32,33,34,35,36,37,38])
 .ret)
 (.seq
 (.region false [oK 40 .mv [.t 0],
 oK 41 .mv [.t 1],
 oK 42 .idx [.t 40,.t 41],
 oK 43 (.bin .eql) [.t 42,.c (.y 33)],
 oK 39 .mv [.t 43]] [40,41,42,43])
 (.cond (.t 39) [39]
 (.seq
 (.region false [oK 45 .mv [.t 0],
 oK 46 .mv [.t 1],
 oK 47 (.bin .add) [.t 46,.c (.i 1)],
 oK 48 (.call n_spec_l2Atom 24576) [.t 45,.t 47],
 oK 44 .mv [.t 48],
 oK 49 (.ext 0) [.t 44],
 oK 50 (.ext 1) [.t 44],
 oK 6 .mv [.t 49],
 oK 7 .mv [.t 50]] [0,1,44,45,46,47,48,49,50])
 (.seq
 (.region false [oK 51 (.bslice 26128 0 2 (.st [.i 0,.i 0]) []) [],
 oK 52 .mv [.t 6],
 oK 53 (.app 27152 2) [.t 51,.t 52],
 oK 54 (.build [.i 0,.i 0] [(0,1)]) [.c (.i 1)],
 oK 55 (.bslice 28176 1 2 (.st [.i 0,.i 0]) [0]) [.t 54],
 oK 56 (.app 28688 2) [.t 53,.t 55],
 oK 57 .mv [.t 7],
 oK 4 .mv [.t 56],
 oK 5 .mv [.t 57]] [6,7,51,52,53,54,55,56,57])
 .ret))
 (.seq
 (.region false [oK 59 .mv [.t 0],
 oK 60 .mv [.t 1],
 oK 61 .idx [.t 59,.t 60],
 oK 62 (.bin .eql) [.t 61,.c (.y 40)],
 oK 58 .mv [.t 62]] [59,60,61,62])
 (.cond (.t 58) [58]
 (.seq
 (.region false [oK 64 .mv [.t 0],
 oK 65 .mv [.t 1],
 oK 66 (.bin .add) [.t 65,.c (.i 1)],
 oK 67 (.call n_spec_l2Or 34304) [.t 64,.t 66],
 oK 63 .mv [.t 67],
 oK 68 (.ext 0) [.t 63],
 oK 69 (.ext 1) [.t 63],
 oK 8 .mv [.t 68],
 oK 9 .mv [.t 69]] [1,63,64,65,66,67,68,69])
 (.seq
 (.seq
 (.region false [oK 70 .mv [.t 9],
 oK 71 (.bin .lss) [.t 70,.c (.i 0)],
 oK 72 .mv [.t 71],
 oG 73 .mv [.t 9] 72 false,
 oG 74 .mv [.t 0] 72 false,
 oG 75 .lens [.t 74] 72 false,
 oG 76 (.bin .geq) [.t 73,.t 75] 72 false,
 oK 77 .pick [.t 72,.c (.b true),.t 76],
 oK 78 .mv [.t 77],
 oG 79 .mv [.t 0] 78 false,
 oG 80 .mv [.t 9] 78 false,
 oG 81 .idx [.t 79,.t 80] 78 false,
 oG 82 (.bin .neq) [.t 81,.c (.y 41)] 78 false,
 oK 83 .pick [.t 78,.c (.b true),.t 82]] [0,70,71,72,73,74,75,76,77,78,79,80,81,82])
 (.cond (.t 83) [83]
 (.seq
 (.region false [oK 84 (.bslice 43024 0 2 (.st [.i 0,.i 0]) []) [],
 oK 4 .mv [.t 84],
 oK 5 .mv [.c (.i (-1))]] [8,9,84])
 .ret)
 .skip))
 (.seq
 (.region false [oK 85 .mv [.t 8],
 oK 86 .mv [.t 9],
 oK 87 (.bin .add) [.t 86,.c (.i 1)],
 oK 4 .mv [.t 85],
 oK 5 .mv [.t 87]] [8,9,85,86,87])
 .ret)))
 .skip)))))))
 (.seq
 (.region false [oK 88 (.bslice 45072 0 2 (.st [.i 0,.i 0]) []) [],
 oK 4 .mv [.t 88],
 oK 5 .mv [.c (.i (-1))]] [0,1,88])
 .ret)))) }
/-- impl.readLetter -/
def F_impl_readLetter : LF :=
 { nparams := 1,results := [.t 2,.t 3],body :=
 (.seq
 (.region false [oK 2 (.newnil 1040) [],
 oK 3 .mv [.c (.s [])]] [2,3])
 (.seq
 (.region false [oK 5 .mv [.t 0],
 oK 6 .idx [.t 5,.c (.i 0)],
 oK 7 (.call n_impl_placeOf 3584) [.t 6],
 oK 4 .mv [.t 7]] [5,6,7])
 (.seq
 (.seq
 (.region false [oK 8 .mv [.t 4],
 oK 9 (.call n_impl_isWithin 4608) [.t 8,.c (.i 0),.c (.i 4)],
 oK 10 (.un .not) [.t 9]] [8,9])
 (.cond (.t 10) [10]
 (.seq
 (.region false [oK 2 (.newnil 1040) [],
 oK 3 .mv [.c (.s [])]] [0,4])
 .ret)
 .skip))
 (.seq
 (.region true [oK 11 .mv [.t 4],
 oK 12 (.build [.i 0,.i 0] [(1,1)]) [.t 11],
 oK 13 (.bslice 6672 1 2 (.st [.i 0,.i 0]) [0]) [.t 12],
 oK 14 .mv [.t 0],
 oK 15 (.slices true false) [.t 14,.c (.i 1)],
 oK 2 .mv [.t 13],
 oK 3 .mv [.t 15]] [0,4,11,12,13,14,15])
 .ret)))) }
/-- impl.placeOf -/
def F_impl_placeOf : LF :=
 { nparams := 1,results := [.t 2],body :=
 (.seq
 (.region false [oK 2 .mv [.c (.i 0)]] [2])
 (.seq
 (.region false [oK 3 .mv [.t 0],
 oK 4 (.conv .b2i 2048) [.t 3],
 oK 5 (.bin .sub) [.t 4,.c (.i 97)],
 oK 2 .mv [.t 5]] [0,3,4,5])
 .ret)) }
def lf : Nat → Option LF
 | 3 => some F_laws_FnTermText
 | 4 => some F_laws_FnReadTerm
 | 5 => some F_spec_DrawTermText
 | 6 => some F_impl_TermText
 | 7 => some F_spec_TermText
 | 8 => some F_impl_TermOk
 | 9 => some F_laws_alive
 | 10 => some F_impl_ReadTerm
 | 11 => some F_laws_sameMarks
 | 12 => some F_spec_DrawReadTerm
 | 13 => some F_spec_ReadTerm
 | 14 => some F_spec_l20Asked
 | 15 => some F_spec_l20Open
 | 16 => some F_impl_foldTerm_impl_writtenPart
 | 17 => some F_impl_writePart
 | 18 => some F_spec_TermOk
 | 19 => some F_spec_l2Text
 | 20 => some F_impl_manyOk
 | 21 => some F_impl_isWithin
 | 22 => some F_impl_partsTaken
 | 23 => some F_impl_markOk
 | 24 => some F_impl_TestsOk
 | 25 => some F_impl_readOr
 | 26 => some F_spec_l20Rd_pick
 | 27 => some F_spec_l20Term
 | 28 => some F_spec_l2Or
 | 29 => some F_impl_letterOf
 | 30 => some F_impl_bracketedFrom
 | 31 => some F_spec_l1In
 | 32 => some F_spec_l2Held
 | 33 => some F_spec_l2Starts
 | 34 => some F_impl_readRow
 | 35 => some F_impl_readAnd
 | 36 => some F_spec_l20Rd_odd
 | 37 => some F_spec_l2And
 | 38 => some F_impl_readNot
 | 39 => some F_spec_l2Atom
 | 40 => some F_impl_readLetter
 | 41 => some F_impl_placeOf
 | _ => none
theorem w_impl_TermOk_0 (S : LS) : ex lf F_impl_TermOk_W0 S = match ex lf F_impl_TermOk_L0 S with | some (.normal,S1) => ex lf F_impl_TermOk_W0 S1 | r => r := ex_loop lf F_impl_TermOk_L0 S
theorem w_laws_sameMarks_0 (S : LS) : ex lf F_laws_sameMarks_W0 S = match ex lf F_laws_sameMarks_L0 S with | some (.normal,S1) => ex lf F_laws_sameMarks_W0 S1 | r => r := ex_loop lf F_laws_sameMarks_L0 S
theorem w_impl_foldTerm_impl_writtenPart_0 (S : LS) : ex lf F_impl_foldTerm_impl_writtenPart_W0 S = match ex lf F_impl_foldTerm_impl_writtenPart_L0 S with | some (.normal,S1) => ex lf F_impl_foldTerm_impl_writtenPart_W0 S1 | r => r := ex_loop lf F_impl_foldTerm_impl_writtenPart_L0 S
theorem w_spec_TermOk_0 (S : LS) : ex lf F_spec_TermOk_W0 S = match ex lf F_spec_TermOk_L0 S with | some (.normal,S1) => ex lf F_spec_TermOk_W0 S1 | r => r := ex_loop lf F_spec_TermOk_L0 S
theorem w_impl_TestsOk_0 (S : LS) : ex lf F_impl_TestsOk_W0 S = match ex lf F_impl_TestsOk_L0 S with | some (.normal,S1) => ex lf F_impl_TestsOk_W0 S1 | r => r := ex_loop lf F_impl_TestsOk_L0 S
theorem w_spec_l20Term_0 (S : LS) : ex lf F_spec_l20Term_W0 S = match ex lf F_spec_l20Term_L0 S with | some (.normal,S1) => ex lf F_spec_l20Term_W0 S1 | r => r := ex_loop lf F_spec_l20Term_L0 S
theorem w_spec_l20Term_1 (S : LS) : ex lf F_spec_l20Term_W1 S = match ex lf F_spec_l20Term_L1 S with | some (.normal,S1) => ex lf F_spec_l20Term_W1 S1 | r => r := ex_loop lf F_spec_l20Term_L1 S
theorem w_spec_l20Term_2 (S : LS) : ex lf F_spec_l20Term_W2 S = match ex lf F_spec_l20Term_L2 S with | some (.normal,S1) => ex lf F_spec_l20Term_W2 S1 | r => r := ex_loop lf F_spec_l20Term_L2 S
theorem w_spec_l2Or_0 (S : LS) : ex lf F_spec_l2Or_W0 S = match ex lf F_spec_l2Or_L0 S with | some (.normal,S1) => ex lf F_spec_l2Or_W0 S1 | r => r := ex_loop lf F_spec_l2Or_L0 S
theorem w_spec_l2Starts_0 (S : LS) : ex lf F_spec_l2Starts_W0 S = match ex lf F_spec_l2Starts_L0 S with | some (.normal,S1) => ex lf F_spec_l2Starts_W0 S1 | r => r := ex_loop lf F_spec_l2Starts_L0 S
theorem w_impl_readRow_0 (S : LS) : ex lf F_impl_readRow_W0 S = match ex lf F_impl_readRow_L0 S with | some (.normal,S1) => ex lf F_impl_readRow_W0 S1 | r => r := ex_loop lf F_impl_readRow_L0 S
theorem w_spec_l2And_0 (S : LS) : ex lf F_spec_l2And_W0 S = match ex lf F_spec_l2And_L0 S with | some (.normal,S1) => ex lf F_spec_l2And_W0 S1 | r => r := ex_loop lf F_spec_l2And_L0 S
end Zz
