/- The functions of the program, read as data. No conditions. -/
import Derived.Test.YtjallbfleicfnabDoorLgC
set_option linter.unusedSectionVars false
set_option linter.unusedVariables false
set_option linter.unusedSimpArgs false
namespace Zz
open Go.Lg
instance : GL := ⟨[(0, .st [.w (2863311530#32), .w (3435973836#32), .w (4042322160#32), .w (4278255360#32), .w (4294901760#32)])], [19, 20]⟩
theorem gEnv_0 : gEnv [0] = [(1048576, .adr (.st [.w (2863311530#32), .w (3435973836#32), .w (4042322160#32), .w (4278255360#32), .w (4294901760#32)]))] := rfl
def n_laws_FnExactLeastProofs : Nat := 4
def n_laws_szMarkS : Nat := 11
def n_laws_toMarkS : Nat := 13
def n_impl_ProofOk : Nat := 14
def n_laws_eqMarkS : Nat := 15
def n_spec_LeastProofs : Nat := 16
def n_impl_LeastProofs : Nat := 17
def n_laws_eqIntS : Nat := 18
def n_laws_markMarkS : Nat := 19
def n_laws_markIntS : Nat := 20
def n_laws_heldIntS : Nat := 21
def n_spec_TermOk : Nat := 34
def n_spec_StateOk : Nat := 35
def n_impl_TermOk : Nat := 38
def n_impl_ForcedBy : Nat := 40
def n_spec_l3Forced : Nat := 44
def n_spec_l3Table : Nat := 45
def n_spec_l3Told : Nat := 46
def n_laws_toMark : Nat := 47
def n_impl_StateOk : Nat := 48
def n_impl_knownBy : Nat := 49
def n_laws_eqMark : Nat := 50
def n_impl_setsWhere : Nat := 51
def n_impl_LeastProofs_1 : Nat := 52
def n_impl_isLeastProof : Nat := 53
def n_spec_l3Value : Nat := 55
def n_impl_trueStates : Nat := 59
def n_impl_statesOf : Nat := 60
def n_spec_l1In : Nat := 69
def n_impl_manyOk : Nat := 70
def n_impl_isWithin : Nat := 71
def n_impl_partsTaken : Nat := 72
def n_impl_markOk : Nat := 73
def n_impl_KnownOk : Nat := 77
def n_impl_agreeingStates : Nat := 78
def n_impl_outcomeIn : Nat := 80
def n_spec_l1Agrees : Nat := 81
def n_impl_hasTest : Nat := 82
def n_spec_l2Starts : Nat := 83
def n_impl_foldTerm_uint32 : Nat := 84
def n_impl_statesOfPart : Nat := 85
/-- laws.FnExactLeastProofs -/
def F_laws_FnExactLeastProofs : LF :=
  { nparams := 3, results := [.t 6], body :=
    (.seq
      (.region false [⟨some 6, .mv, [.c (.b false)], none⟩] [6])
      (.seq
        (.region false [⟨some 7, .mv, [.c (.i 1048576)], none⟩] [])
        (.seq
          (.region false [⟨some 15, .mv, [.t 1], none⟩,
            ⟨some 16, .mv, [.t 7], none⟩,
            ⟨some 17, .call n_laws_szMarkS 8704, [.t 15, .t 16], none⟩,
            ⟨some 7, .mv, [.t 17], none⟩] [15, 16, 17])
          (.seq
            (.seq
              (.region false [⟨some 18, .mv, [.t 7], none⟩,
                ⟨some 19, .bin .lss, [.t 18, .c (.i 0)], none⟩] [7, 18])
              (.cond (.t 19) [19]
                (.seq
                  (.region false [⟨some 6, .mv, [.c (.b true)], none⟩] [0, 1, 2])
                  .ret)
                .skip))
            (.seq
              (.region false [⟨some 20, .mv, [.t 0], none⟩,
                ⟨some 21, .mv, [.t 1], none⟩,
                ⟨some 22, .call n_laws_toMarkS 11264, [.t 21], none⟩,
                ⟨some 23, .mv, [.t 2], none⟩,
                ⟨some 24, .call n_spec_LeastProofs 12288, [.t 20, .t 22, .t 23], none⟩,
                ⟨some 8, .mv, [.t 24], none⟩] [20, 21, 22, 23, 24])
              (.seq
                (.region false [⟨some 25, .mv, [.t 1], none⟩,
                  ⟨some 26, .call n_laws_toMarkS 13312, [.t 25], none⟩,
                  ⟨some 9, .mv, [.t 26], none⟩] [25, 26])
                (.seq
                  (.region false [⟨some 27, .mv, [.t 0], none⟩,
                    ⟨some 28, .mv, [.t 9], none⟩,
                    ⟨some 29, .mv, [.t 2], none⟩,
                    ⟨some 30, .call n_impl_LeastProofs 15360, [.t 27, .t 28, .t 29], none⟩,
                    ⟨some 10, .mv, [.t 30], none⟩] [27, 28, 29, 30])
                  (.seq
                    (.seq
                      (.region false [⟨some 31, .mv, [.t 10], none⟩,
                        ⟨some 32, .mv, [.t 8], none⟩,
                        ⟨some 33, .call n_laws_eqIntS 16896, [.t 31, .t 32], none⟩,
                        ⟨some 34, .un .not, [.t 33], none⟩] [31, 32, 33])
                      (.cond (.t 34) [34]
                        (.seq
                          (.region false [⟨some 6, .mv, [.c (.b false)], none⟩] [0, 1, 2, 8, 9, 10])
                          .ret)
                        .skip))
                    (.seq
                      (.seq
                        (.region false [⟨some 35, .mv, [.t 9], none⟩,
                          ⟨some 36, .mv, [.t 1], none⟩,
                          ⟨some 37, .call n_laws_toMarkS 18944, [.t 36], none⟩,
                          ⟨some 38, .call n_laws_eqMarkS 19456, [.t 35, .t 37], none⟩,
                          ⟨some 39, .un .not, [.t 38], none⟩] [35, 36, 37, 38])
                        (.cond (.t 39) [39]
                          (.seq
                            (.region false [⟨some 6, .mv, [.c (.b false)], none⟩] [0, 1, 2, 8, 9, 10])
                            .ret)
                          .skip))
                      (.seq
                        (.region false [⟨some 11, .mv, [.c (.i 1)], none⟩] [])
                        (.seq
                          (.region false [⟨some 40, .mv, [.t 9], none⟩,
                            ⟨some 41, .mv, [.t 11], none⟩,
                            ⟨some 42, .call n_laws_markMarkS 21508, [.t 40, .t 41], none⟩,
                            ⟨some 11, .mv, [.t 42], none⟩] [9, 40, 41, 42])
                          (.seq
                            (.seq
                              (.region false [⟨some 43, .mv, [.t 11], none⟩,
                                ⟨some 44, .bin .lss, [.t 43, .c (.i 0)], none⟩,
                                ⟨some 45, .mv, [.t 44], none⟩,
                                ⟨some 46, .mv, [.t 10], some (45, false)⟩,
                                ⟨some 47, .mv, [.t 8], some (45, false)⟩,
                                ⟨some 48, .call n_laws_eqIntS 24576, [.t 46, .t 47], some (45, false)⟩,
                                ⟨some 49, .un .not, [.t 48], some (45, false)⟩,
                                ⟨some 50, .pick, [.t 45, .c (.b true), .t 49], none⟩] [11, 43, 44, 45, 46, 47, 48, 49])
                              (.cond (.t 50) [50]
                                (.seq
                                  (.region false [⟨some 6, .mv, [.c (.b false)], none⟩] [0, 1, 2, 8, 10])
                                  .ret)
                                .skip))
                            (.seq
                              (.region false [⟨some 12, .mv, [.c (.i 1)], none⟩] [])
                              (.seq
                                (.region false [⟨some 51, .mv, [.t 10], none⟩,
                                  ⟨some 52, .mv, [.t 12], none⟩,
                                  ⟨some 53, .call n_laws_markIntS 27140, [.t 51, .t 52], none⟩,
                                  ⟨some 12, .mv, [.t 53], none⟩] [51, 52, 53])
                                (.seq
                                  (.region false [⟨some 13, .mv, [.c (.i 1)], none⟩] [])
                                  (.seq
                                    (.region false [⟨some 54, .mv, [.t 10], none⟩,
                                      ⟨some 55, .mv, [.t 13], none⟩,
                                      ⟨some 56, .call n_laws_heldIntS 28672, [.t 54, .t 55], none⟩,
                                      ⟨some 13, .mv, [.t 56], none⟩] [54, 55, 56])
                                    (.seq
                                      (.seq
                                        (.region false [⟨some 57, .mv, [.t 13], none⟩,
                                          ⟨some 58, .bin .lss, [.t 57, .c (.i 0)], none⟩] [57])
                                        (.cond (.t 58) [58]
                                          (.seq
                                            (.region false [⟨some 6, .mv, [.c (.b false)], none⟩] [0, 1, 2, 8, 10, 12, 13])
                                            .ret)
                                          .skip))
                                      (.seq
                                        (.seq
                                          (.region false [⟨some 59, .mv, [.t 13], none⟩,
                                            ⟨some 60, .mv, [.t 12], none⟩,
                                            ⟨some 61, .bin .neq, [.t 59, .t 60], none⟩] [13, 59, 60])
                                          (.cond (.t 61) [61]
                                            (.seq
                                              (.region false [⟨some 6, .mv, [.c (.b false)], none⟩] [0, 1, 2, 8, 10, 12])
                                              .ret)
                                            .skip))
                                        (.seq
                                          (.region false [⟨some 62, .mv, [.t 0], none⟩,
                                            ⟨some 63, .mv, [.t 1], none⟩,
                                            ⟨some 64, .call n_laws_toMarkS 32768, [.t 63], none⟩,
                                            ⟨some 65, .mv, [.t 2], none⟩,
                                            ⟨some 66, .call n_impl_LeastProofs 33792, [.t 62, .t 64, .t 65], none⟩,
                                            ⟨some 14, .mv, [.t 66], none⟩] [0, 1, 2, 62, 63, 64, 65, 66])
                                          (.seq
                                            (.seq
                                              (.region false [⟨some 67, .mv, [.t 14], none⟩,
                                                ⟨some 68, .mv, [.t 8], none⟩,
                                                ⟨some 69, .call n_laws_eqIntS 35328, [.t 67, .t 68], none⟩,
                                                ⟨some 70, .un .not, [.t 69], none⟩] [8, 14, 67, 68, 69])
                                              (.cond (.t 70) [70]
                                                (.seq
                                                  (.region false [⟨some 6, .mv, [.c (.b false)], none⟩] [10, 12])
                                                  .ret)
                                                .skip))
                                            (.seq
                                              (.region false [⟨some 13, .mv, [.c (.i 1)], none⟩] [])
                                              (.seq
                                                (.region false [⟨some 71, .mv, [.t 10], none⟩,
                                                  ⟨some 72, .mv, [.t 13], none⟩,
                                                  ⟨some 73, .call n_laws_heldIntS 37376, [.t 71, .t 72], none⟩,
                                                  ⟨some 13, .mv, [.t 73], none⟩] [10, 71, 72, 73])
                                                (.seq
                                                  (.seq
                                                    (.region false [⟨some 74, .mv, [.t 13], none⟩,
                                                      ⟨some 75, .bin .lss, [.t 74, .c (.i 0)], none⟩] [74])
                                                    (.cond (.t 75) [75]
                                                      (.seq
                                                        (.region false [⟨some 6, .mv, [.c (.b false)], none⟩] [12, 13])
                                                        .ret)
                                                      .skip))
                                                  (.seq
                                                    (.seq
                                                      (.region false [⟨some 76, .mv, [.t 13], none⟩,
                                                        ⟨some 77, .mv, [.t 12], none⟩,
                                                        ⟨some 78, .bin .neq, [.t 76, .t 77], none⟩] [12, 13, 76, 77])
                                                      (.cond (.t 78) [78]
                                                        (.seq
                                                          (.region false [⟨some 6, .mv, [.c (.b false)], none⟩] [])
                                                          .ret)
                                                        .skip))
                                                    (.seq
                                                      (.region false [⟨some 6, .mv, [.c (.b true)], none⟩] [])
                                                      .ret))))))))))))))))))))))))) }
/-- laws.szMarkS -/
def F_laws_szMarkS : LF :=
  { nparams := 2, results := [.t 4], body :=
    (.seq
      (.region false [⟨some 4, .mv, [.c (.i 0)], none⟩] [4])
      (.seq
        (.region false [⟨some 5, .mv, [.t 1], none⟩,
          ⟨some 6, .mv, [.t 0], none⟩,
          ⟨some 7, .len, [.t 6], none⟩,
          ⟨some 8, .bin .sub, [.t 5, .t 7], none⟩,
          ⟨some 1, .mv, [.t 8], none⟩] [0, 5, 6, 7, 8])
        (.seq
          (.seq
            (.region false [⟨some 9, .mv, [.t 1], none⟩,
              ⟨some 10, .bin .lss, [.t 9, .c (.i 0)], none⟩] [9])
            (.cond (.t 10) [10]
              (.seq
                (.region false [⟨some 4, .mv, [.c (.i (-1))], none⟩] [1])
                .ret)
              .skip))
          (.seq
            (.region false [⟨some 11, .mv, [.t 1], none⟩,
              ⟨some 4, .mv, [.t 11], none⟩] [1, 11])
            .ret)))) }
/-- laws.toMarkS -/
def F_laws_toMarkS_L0 : LC :=
  (.seq
    (.seq
      (.region false [⟨some 8, .mv, [.t 4], none⟩,
        ⟨some 9, .mv, [.t 0], none⟩,
        ⟨some 10, .len, [.t 9], none⟩,
        ⟨some 11, .bin .lss, [.t 8, .t 10], none⟩] [8, 9, 10])
      (.cond (.t 11) [11]
        .skip
        (.exit 0)))
    (.seq
      (.block 1
        (.region false [⟨some 14, .mv, [.t 3], none⟩,
          ⟨some 15, .mv, [.t 4], none⟩,
          ⟨some 16, .mv, [.t 0], none⟩,
          ⟨some 17, .mv, [.t 4], none⟩,
          ⟨some 18, .idxa 2, [.t 16, .t 17], none⟩,
          ⟨some 19, .load 2 true, [.t 18], none⟩,
          ⟨some 20, .call n_laws_toMark 10240, [.t 19], none⟩,
          ⟨some 21, .idxa 2, [.t 14, .t 15], none⟩,
          ⟨none, .store 2, [.t 21, .t 20], none⟩] [14, 15, 16, 17, 18, 19, 20, 21]))
      (.region false [⟨some 12, .mv, [.t 4], none⟩,
        ⟨some 13, .bin .add, [.t 12, .c (.i 1)], none⟩,
        ⟨some 4, .mv, [.t 13], none⟩] [12, 13])))
def F_laws_toMarkS_W0 : LC := .loop F_laws_toMarkS_L0
def F_laws_toMarkS : LF :=
  { nparams := 1, results := [.t 2], body :=
    (.seq
      (.region false [⟨some 2, .newnil 1040, [], none⟩] [2])
      (.seq
        (.region false [⟨some 5, .mv, [.t 0], none⟩,
          ⟨some 6, .len, [.t 5], none⟩,
          ⟨some 7, .make 3600 2 (.st [.i 0, .i 0]), [.t 6, .t 6], none⟩,
          ⟨some 3, .mv, [.t 7], none⟩] [5, 6, 7])
        (.seq
          (.seq
            (.region false [⟨some 4, .mv, [.c (.i 0)], none⟩] [])
            (.block 0
              F_laws_toMarkS_W0))
          (.seq
            (.region false [⟨some 22, .mv, [.t 3], none⟩,
              ⟨some 2, .mv, [.t 22], none⟩] [0, 3, 4, 22])
            .ret)))) }
/-- impl.ProofOk -/
def F_impl_ProofOk : LF :=
  { nparams := 4, results := [.t 8], body :=
    (.seq
      (.region false [⟨some 8, .mv, [.c (.b false)], none⟩] [8])
      (.seq
        (.seq
          (.region false [⟨some 11, .mv, [.t 0], none⟩,
            ⟨some 12, .mv, [.t 1], none⟩,
            ⟨some 13, .call n_impl_TermOk 6656, [.t 11, .t 12], none⟩,
            ⟨some 14, .un .not, [.t 13], none⟩,
            ⟨some 15, .mv, [.t 14], none⟩,
            ⟨some 16, .mv, [.t 0], some (15, false)⟩,
            ⟨some 17, .mv, [.t 2], some (15, false)⟩,
            ⟨some 18, .call n_impl_StateOk 9216, [.t 16, .t 17], some (15, false)⟩,
            ⟨some 19, .un .not, [.t 18], some (15, false)⟩,
            ⟨some 20, .pick, [.t 15, .c (.b true), .t 19], none⟩,
            ⟨some 21, .mv, [.t 20], none⟩,
            ⟨some 22, .mv, [.t 0], some (21, false)⟩,
            ⟨some 23, .mv, [.t 3], some (21, false)⟩,
            ⟨some 24, .call n_impl_StateOk 12288, [.t 22, .t 23], some (21, false)⟩,
            ⟨some 25, .un .not, [.t 24], some (21, false)⟩,
            ⟨some 26, .pick, [.t 21, .c (.b true), .t 25], none⟩] [11, 12, 13, 14, 15, 16, 17, 18, 19, 20, 21, 22, 23, 24, 25])
          (.cond (.t 26) [26]
            (.seq
              (.region false [⟨some 8, .mv, [.c (.b false)], none⟩] [0, 1, 2, 3])
              .ret)
            .skip))
        (.seq
          (.region false [⟨some 28, .mv, [.t 0], none⟩,
            ⟨some 29, .mv, [.t 1], none⟩,
            ⟨some 30, .mv, [.t 0], none⟩,
            ⟨some 31, .mv, [.t 2], none⟩,
            ⟨some 32, .mv, [.t 3], none⟩,
            ⟨some 33, .call n_impl_knownBy 16896, [.t 30, .t 31, .t 32], none⟩,
            ⟨some 34, .call n_impl_ForcedBy 17408, [.t 28, .t 29, .t 33], none⟩,
            ⟨some 27, .mv, [.t 34], none⟩,
            ⟨some 35, .ext 0, [.t 27], none⟩,
            ⟨some 36, .ext 1, [.t 27], none⟩,
            ⟨some 9, .mv, [.t 35], none⟩,
            ⟨some 10, .mv, [.t 36], none⟩] [0, 1, 2, 3, 10, 27, 28, 29, 30, 31, 32, 33, 34, 35, 36])
          (.seq
            (.region false [⟨some 37, .mv, [.t 9], none⟩,
              ⟨some 38, .bin .neq, [.t 37, .c (.i (-1))], none⟩,
              ⟨some 8, .mv, [.t 38], none⟩] [9, 37, 38])
            .ret)))) }
/-- laws.eqMarkS -/
def F_laws_eqMarkS_L0 : LC :=
  (.seq
    (.seq
      (.region false [⟨some 11, .mv, [.t 5], none⟩,
        ⟨some 12, .mv, [.t 0], none⟩,
        ⟨some 13, .len, [.t 12], none⟩,
        ⟨some 14, .bin .lss, [.t 11, .t 13], none⟩] [11, 12, 13])
      (.cond (.t 14) [14]
        .skip
        (.exit 0)))
    (.seq
      (.block 1
        (.seq
          (.region true [⟨some 17, .mv, [.t 0], none⟩,
            ⟨some 18, .mv, [.t 5], none⟩,
            ⟨some 19, .idxa 2, [.t 17, .t 18], none⟩,
            ⟨some 20, .load 2 true, [.t 19], none⟩,
            ⟨some 21, .mv, [.t 1], none⟩,
            ⟨some 22, .mv, [.t 5], none⟩,
            ⟨some 23, .idxa 2, [.t 21, .t 22], none⟩,
            ⟨some 24, .load 2 true, [.t 23], none⟩,
            ⟨some 25, .call n_laws_eqMark 12800, [.t 20, .t 24], none⟩,
            ⟨some 26, .un .not, [.t 25], none⟩] [17, 18, 19, 20, 21, 22, 23, 24, 25])
          (.cond (.t 26) [26]
            (.seq
              (.region false [⟨some 4, .mv, [.c (.b false)], none⟩] [0, 1, 5])
              .ret)
            .skip)))
      (.region false [⟨some 15, .mv, [.t 5], none⟩,
        ⟨some 16, .bin .add, [.t 15, .c (.i 1)], none⟩,
        ⟨some 5, .mv, [.t 16], none⟩] [15, 16])))
def F_laws_eqMarkS_W0 : LC := .loop F_laws_eqMarkS_L0
def F_laws_eqMarkS : LF :=
  { nparams := 2, results := [.t 4], body :=
    (.seq
      (.region false [⟨some 4, .mv, [.c (.b false)], none⟩] [4])
      (.seq
        (.seq
          (.region false [⟨some 6, .mv, [.t 0], none⟩,
            ⟨some 7, .len, [.t 6], none⟩,
            ⟨some 8, .mv, [.t 1], none⟩,
            ⟨some 9, .len, [.t 8], none⟩,
            ⟨some 10, .bin .neq, [.t 7, .t 9], none⟩] [6, 7, 8, 9])
          (.cond (.t 10) [10]
            (.seq
              (.region false [⟨some 4, .mv, [.c (.b false)], none⟩] [0, 1])
              .ret)
            .skip))
        (.seq
          (.seq
            (.region false [⟨some 5, .mv, [.c (.i 0)], none⟩] [])
            (.block 0
              F_laws_eqMarkS_W0))
          (.seq
            (.region false [⟨some 4, .mv, [.c (.b true)], none⟩] [0, 1, 5])
            .ret)))) }
/-- spec.LeastProofs -/
def F_spec_LeastProofs_L1 : LC :=
  (.seq
    (.seq
      (.region false [⟨some 41, .mv, [.t 11], none⟩,
        ⟨some 42, .mv, [.t 0], none⟩,
        ⟨some 43, .bin .lss, [.t 41, .t 42], none⟩,
        ⟨some 44, .mv, [.t 43], none⟩,
        ⟨some 45, .mv, [.t 10], some (44, true)⟩,
        ⟨some 46, .pick, [.t 44, .t 45, .c (.b false)], none⟩] [41, 42, 43, 44, 45])
      (.cond (.t 46) [46]
        .skip
        (.exit 2)))
    (.seq
      (.block 3
        (.region false [⟨some 49, .mv, [.t 9], none⟩,
          ⟨some 50, .mv, [.t 11], none⟩,
          ⟨some 51, .bin .shr, [.t 49, .t 50], none⟩,
          ⟨some 52, .bin .rem, [.t 51, .c (.i 2)], none⟩,
          ⟨some 53, .bin .eql, [.t 52, .c (.i 0)], none⟩,
          ⟨some 54, .mv, [.t 53], none⟩,
          ⟨some 55, .mv, [.t 0], some (54, false)⟩,
          ⟨some 56, .mv, [.t 8], some (54, false)⟩,
          ⟨some 57, .mv, [.t 0], some (54, false)⟩,
          ⟨some 58, .mv, [.t 2], some (54, false)⟩,
          ⟨some 59, .mv, [.t 9], some (54, false)⟩,
          ⟨some 60, .mv, [.t 11], some (54, false)⟩,
          ⟨some 61, .bin .shl, [.c (.i 1), .t 60], some (54, false)⟩,
          ⟨some 62, .bin .sub, [.t 59, .t 61], some (54, false)⟩,
          ⟨some 63, .call n_spec_l3Told 32256, [.t 57, .t 58, .t 62], some (54, false)⟩,
          ⟨some 64, .call n_spec_l3Forced 32768, [.t 55, .t 56, .t 63], some (54, false)⟩,
          ⟨some 65, .bin .eql, [.t 64, .c (.i (-1))], some (54, false)⟩,
          ⟨some 66, .pick, [.t 54, .c (.b true), .t 65], none⟩,
          ⟨some 10, .mv, [.t 66], none⟩] [49, 50, 51, 52, 53, 54, 55, 56, 57, 58, 59, 60, 61, 62, 63, 64, 65, 66]))
      (.region false [⟨some 47, .mv, [.t 11], none⟩,
        ⟨some 48, .bin .add, [.t 47, .c (.i 1)], none⟩,
        ⟨some 11, .mv, [.t 48], none⟩] [47, 48])))
def F_spec_LeastProofs_W1 : LC := .loop F_spec_LeastProofs_L1
def F_spec_LeastProofs_L0 : LC :=
  (.seq
    (.seq
      (.region false [⟨some 27, .mv, [.t 9], none⟩,
        ⟨some 28, .mv, [.t 0], none⟩,
        ⟨some 29, .bin .shl, [.c (.i 1), .t 28], none⟩,
        ⟨some 30, .bin .lss, [.t 27, .t 29], none⟩] [27, 28, 29])
      (.cond (.t 30) [30]
        .skip
        (.exit 0)))
    (.seq
      (.block 1
        (.seq
          (.region false [⟨some 33, .mv, [.t 0], none⟩,
            ⟨some 34, .mv, [.t 8], none⟩,
            ⟨some 35, .mv, [.t 0], none⟩,
            ⟨some 36, .mv, [.t 2], none⟩,
            ⟨some 37, .mv, [.t 9], none⟩,
            ⟨some 38, .call n_spec_l3Told 19456, [.t 35, .t 36, .t 37], none⟩,
            ⟨some 39, .call n_spec_l3Forced 19968, [.t 33, .t 34, .t 38], none⟩,
            ⟨some 40, .bin .neq, [.t 39, .c (.i (-1))], none⟩,
            ⟨some 10, .mv, [.t 40], none⟩] [33, 34, 35, 36, 37, 38, 39, 40])
          (.seq
            (.seq
              (.region false [⟨some 11, .mv, [.c (.i 0)], none⟩] [])
              (.block 2
                F_spec_LeastProofs_W1))
            (.seq
              (.region false [⟨some 67, .mv, [.t 10], none⟩] [10, 11])
              (.cond (.t 67) [67]
                (.region false [⟨some 68, .mv, [.t 7], none⟩,
                  ⟨some 69, .mv, [.t 9], none⟩,
                  ⟨some 70, .bslice 35848 1 1 (.i 0) [0], [.t 69], none⟩,
                  ⟨some 71, .app 36360 1, [.t 68, .t 70], none⟩,
                  ⟨some 7, .mv, [.t 71], none⟩] [68, 69, 70, 71])
                .skip)))))
      (.region false [⟨some 31, .mv, [.t 9], none⟩,
        ⟨some 32, .bin .add, [.t 31, .c (.i 1)], none⟩,
        ⟨some 9, .mv, [.t 32], none⟩] [31, 32])))
def F_spec_LeastProofs_W0 : LC := .loop F_spec_LeastProofs_L0
def F_spec_LeastProofs : LF :=
  { nparams := 3, results := [.t 6], body :=
    (.seq
      (.region false [⟨some 6, .newnil 3080, [], none⟩] [6])
      (.seq
        (.region false [⟨some 12, .bslice 6152 0 1 (.i 0) [], [], none⟩,
          ⟨some 7, .mv, [.t 12], none⟩] [12])
        (.seq
          (.seq
            (.region false [⟨some 13, .mv, [.t 0], none⟩,
              ⟨some 14, .mv, [.t 1], none⟩,
              ⟨some 15, .call n_spec_TermOk 7680, [.t 13, .t 14], none⟩,
              ⟨some 16, .un .not, [.t 15], none⟩,
              ⟨some 17, .mv, [.t 16], none⟩,
              ⟨some 18, .mv, [.t 0], some (17, false)⟩,
              ⟨some 19, .mv, [.t 2], some (17, false)⟩,
              ⟨some 20, .call n_spec_StateOk 10240, [.t 18, .t 19], some (17, false)⟩,
              ⟨some 21, .un .not, [.t 20], some (17, false)⟩,
              ⟨some 22, .pick, [.t 17, .c (.b true), .t 21], none⟩] [13, 14, 15, 16, 17, 18, 19, 20, 21])
            (.cond (.t 22) [22]
              (.seq
                (.region false [⟨some 23, .mv, [.t 7], none⟩,
                  ⟨some 6, .mv, [.t 23], none⟩] [0, 1, 2, 7, 23])
                .ret)
              .skip))
          (.seq
            (.region false [⟨some 24, .mv, [.t 0], none⟩,
              ⟨some 25, .mv, [.t 1], none⟩,
              ⟨some 26, .call n_spec_l3Table 13312, [.t 24, .t 25], none⟩,
              ⟨some 8, .mv, [.t 26], none⟩] [1, 24, 25, 26])
            (.seq
              (.seq
                (.region false [⟨some 9, .mv, [.c (.i 0)], none⟩] [])
                (.block 0
                  F_spec_LeastProofs_W0))
              (.seq
                (.region false [⟨some 72, .mv, [.t 7], none⟩,
                  ⟨some 6, .mv, [.t 72], none⟩] [0, 2, 7, 8, 9, 72])
                .ret)))))) }
/-- impl.LeastProofs -/
def F_impl_LeastProofs : LF :=
  { nparams := 3, results := [.t 6], body :=
    (.seq
      (.region false [⟨some 3, .box 1544, [.t 0], none⟩,
        ⟨some 4, .box 2056, [.t 1], none⟩,
        ⟨some 5, .box 2568, [.t 2], none⟩,
        ⟨some 6, .newnil 3080, [], none⟩] [0, 1, 2, 6])
      (.seq
        (.seq
          (.region false [⟨some 7, .load 1 false, [.t 3], none⟩,
            ⟨some 8, .load 1 false, [.t 4], none⟩,
            ⟨some 9, .call n_impl_TermOk 4608, [.t 7, .t 8], none⟩,
            ⟨some 10, .un .not, [.t 9], none⟩,
            ⟨some 11, .mv, [.t 10], none⟩,
            ⟨some 12, .load 1 false, [.t 3], some (11, false)⟩,
            ⟨some 13, .load 1 false, [.t 5], some (11, false)⟩,
            ⟨some 14, .call n_impl_StateOk 7168, [.t 12, .t 13], some (11, false)⟩,
            ⟨some 15, .un .not, [.t 14], some (11, false)⟩,
            ⟨some 16, .pick, [.t 11, .c (.b true), .t 15], none⟩] [7, 8, 9, 10, 11, 12, 13, 14, 15])
          (.cond (.t 16) [16]
            (.seq
              (.region false [⟨some 6, .newnil 3080, [], none⟩] [3, 4, 5])
              .ret)
            .skip))
        (.seq
          (.region false [⟨some 17, .load 1 false, [.t 3], none⟩,
            ⟨some 18, .mkfn n_impl_LeastProofs_1, [.t 3, .t 4, .t 5], none⟩,
            ⟨some 19, .call n_impl_setsWhere 9728, [.t 17, .t 18], none⟩,
            ⟨some 6, .mv, [.t 19], none⟩] [3, 4, 5, 17, 18, 19])
          .ret))) }
/-- laws.eqIntS -/
def F_laws_eqIntS_L0 : LC :=
  (.seq
    (.seq
      (.region false [⟨some 11, .mv, [.t 5], none⟩,
        ⟨some 12, .mv, [.t 0], none⟩,
        ⟨some 13, .len, [.t 12], none⟩,
        ⟨some 14, .bin .lss, [.t 11, .t 13], none⟩] [11, 12, 13])
      (.cond (.t 14) [14]
        .skip
        (.exit 0)))
    (.seq
      (.block 1
        (.seq
          (.region true [⟨some 17, .mv, [.t 0], none⟩,
            ⟨some 18, .mv, [.t 5], none⟩,
            ⟨some 19, .idxa 1, [.t 17, .t 18], none⟩,
            ⟨some 20, .load 1 false, [.t 19], none⟩,
            ⟨some 21, .mv, [.t 1], none⟩,
            ⟨some 22, .mv, [.t 5], none⟩,
            ⟨some 23, .idxa 1, [.t 21, .t 22], none⟩,
            ⟨some 24, .load 1 false, [.t 23], none⟩,
            ⟨some 25, .bin .neq, [.t 20, .t 24], none⟩] [17, 18, 19, 20, 21, 22, 23, 24])
          (.cond (.t 25) [25]
            (.seq
              (.region false [⟨some 4, .mv, [.c (.b false)], none⟩] [0, 1, 5])
              .ret)
            .skip)))
      (.region false [⟨some 15, .mv, [.t 5], none⟩,
        ⟨some 16, .bin .add, [.t 15, .c (.i 1)], none⟩,
        ⟨some 5, .mv, [.t 16], none⟩] [15, 16])))
def F_laws_eqIntS_W0 : LC := .loop F_laws_eqIntS_L0
def F_laws_eqIntS : LF :=
  { nparams := 2, results := [.t 4], body :=
    (.seq
      (.region false [⟨some 4, .mv, [.c (.b false)], none⟩] [4])
      (.seq
        (.seq
          (.region false [⟨some 6, .mv, [.t 0], none⟩,
            ⟨some 7, .len, [.t 6], none⟩,
            ⟨some 8, .mv, [.t 1], none⟩,
            ⟨some 9, .len, [.t 8], none⟩,
            ⟨some 10, .bin .neq, [.t 7, .t 9], none⟩] [6, 7, 8, 9])
          (.cond (.t 10) [10]
            (.seq
              (.region false [⟨some 4, .mv, [.c (.b false)], none⟩] [0, 1])
              .ret)
            .skip))
        (.seq
          (.seq
            (.region false [⟨some 5, .mv, [.c (.i 0)], none⟩] [])
            (.block 0
              F_laws_eqIntS_W0))
          (.seq
            (.region false [⟨some 4, .mv, [.c (.b true)], none⟩] [0, 1, 5])
            .ret)))) }
/-- laws.markMarkS -/
def F_laws_markMarkS_L0 : LC :=
  (.seq
    (.seq
      (.region false [⟨some 6, .mv, [.t 5], none⟩,
        ⟨some 7, .mv, [.t 0], none⟩,
        ⟨some 8, .len, [.t 7], none⟩,
        ⟨some 9, .bin .lss, [.t 6, .t 8], none⟩] [6, 7, 8])
      (.cond (.t 9) [9]
        .skip
        (.exit 0)))
    (.seq
      (.block 1
        (.seq
          (.region false [⟨some 12, .mv, [.t 0], none⟩,
            ⟨some 13, .mv, [.t 5], none⟩,
            ⟨some 14, .mv, [.t 1], none⟩,
            ⟨some 15, .idxa 2, [.t 12, .t 13], none⟩,
            ⟨some 16, .fld 0 1 false, [.t 15], none⟩,
            ⟨none, .store 1, [.t 16, .t 14], none⟩] [12, 13, 14, 15, 16])
          (.seq
            (.region false [⟨some 17, .mv, [.t 1], none⟩,
              ⟨some 18, .bin .add, [.t 17, .c (.i 1)], none⟩,
              ⟨some 1, .mv, [.t 18], none⟩] [17, 18])
            (.seq
              (.region false [⟨some 19, .mv, [.t 0], none⟩,
                ⟨some 20, .mv, [.t 5], none⟩,
                ⟨some 21, .mv, [.t 1], none⟩,
                ⟨some 22, .idxa 2, [.t 19, .t 20], none⟩,
                ⟨some 23, .fld 1 1 false, [.t 22], none⟩,
                ⟨none, .store 1, [.t 23, .t 21], none⟩] [19, 20, 21, 22, 23])
              (.region false [⟨some 24, .mv, [.t 1], none⟩,
                ⟨some 25, .bin .add, [.t 24, .c (.i 1)], none⟩,
                ⟨some 1, .mv, [.t 25], none⟩] [24, 25])))))
      (.region false [⟨some 10, .mv, [.t 5], none⟩,
        ⟨some 11, .bin .add, [.t 10, .c (.i 1)], none⟩,
        ⟨some 5, .mv, [.t 11], none⟩] [10, 11])))
def F_laws_markMarkS_W0 : LC := .loop F_laws_markMarkS_L0
def F_laws_markMarkS : LF :=
  { nparams := 2, results := [.t 4], body :=
    (.seq
      (.region false [⟨some 4, .mv, [.c (.i 0)], none⟩] [4])
      (.seq
        (.seq
          (.region false [⟨some 5, .mv, [.c (.i 0)], none⟩] [])
          (.block 0
            F_laws_markMarkS_W0))
        (.seq
          (.region false [⟨some 26, .mv, [.t 1], none⟩,
            ⟨some 4, .mv, [.t 26], none⟩] [1, 5, 26])
          .ret))) }
/-- laws.markIntS -/
def F_laws_markIntS_L0 : LC :=
  (.seq
    (.seq
      (.region false [⟨some 6, .mv, [.t 5], none⟩,
        ⟨some 7, .mv, [.t 0], none⟩,
        ⟨some 8, .len, [.t 7], none⟩,
        ⟨some 9, .bin .lss, [.t 6, .t 8], none⟩] [6, 7, 8])
      (.cond (.t 9) [9]
        .skip
        (.exit 0)))
    (.seq
      (.block 1
        (.seq
          (.region false [⟨some 12, .mv, [.t 0], none⟩,
            ⟨some 13, .mv, [.t 5], none⟩,
            ⟨some 14, .mv, [.t 1], none⟩,
            ⟨some 15, .idxa 1, [.t 12, .t 13], none⟩,
            ⟨none, .store 1, [.t 15, .t 14], none⟩] [12, 13, 14, 15])
          (.region false [⟨some 16, .mv, [.t 1], none⟩,
            ⟨some 17, .bin .add, [.t 16, .c (.i 1)], none⟩,
            ⟨some 1, .mv, [.t 17], none⟩] [16, 17])))
      (.region false [⟨some 10, .mv, [.t 5], none⟩,
        ⟨some 11, .bin .add, [.t 10, .c (.i 1)], none⟩,
        ⟨some 5, .mv, [.t 11], none⟩] [10, 11])))
def F_laws_markIntS_W0 : LC := .loop F_laws_markIntS_L0
def F_laws_markIntS : LF :=
  { nparams := 2, results := [.t 4], body :=
    (.seq
      (.region false [⟨some 4, .mv, [.c (.i 0)], none⟩] [4])
      (.seq
        (.seq
          (.region false [⟨some 5, .mv, [.c (.i 0)], none⟩] [])
          (.block 0
            F_laws_markIntS_W0))
        (.seq
          (.region false [⟨some 18, .mv, [.t 1], none⟩,
            ⟨some 4, .mv, [.t 18], none⟩] [1, 5, 18])
          .ret))) }
/-- laws.heldIntS -/
def F_laws_heldIntS_L0 : LC :=
  (.seq
    (.seq
      (.region false [⟨some 6, .mv, [.t 5], none⟩,
        ⟨some 7, .mv, [.t 0], none⟩,
        ⟨some 8, .len, [.t 7], none⟩,
        ⟨some 9, .bin .lss, [.t 6, .t 8], none⟩] [6, 7, 8])
      (.cond (.t 9) [9]
        .skip
        (.exit 0)))
    (.seq
      (.block 1
        (.seq
          (.seq
            (.region false [⟨some 12, .mv, [.t 0], none⟩,
              ⟨some 13, .mv, [.t 5], none⟩,
              ⟨some 14, .idxa 1, [.t 12, .t 13], none⟩,
              ⟨some 15, .load 1 false, [.t 14], none⟩,
              ⟨some 16, .mv, [.t 1], none⟩,
              ⟨some 17, .bin .neq, [.t 15, .t 16], none⟩] [12, 13, 14, 15, 16])
            (.cond (.t 17) [17]
              (.seq
                (.region false [⟨some 4, .mv, [.c (.i (-1))], none⟩] [0, 1, 5])
                .ret)
              .skip))
          (.region false [⟨some 18, .mv, [.t 1], none⟩,
            ⟨some 19, .bin .add, [.t 18, .c (.i 1)], none⟩,
            ⟨some 1, .mv, [.t 19], none⟩] [18, 19])))
      (.region false [⟨some 10, .mv, [.t 5], none⟩,
        ⟨some 11, .bin .add, [.t 10, .c (.i 1)], none⟩,
        ⟨some 5, .mv, [.t 11], none⟩] [10, 11])))
def F_laws_heldIntS_W0 : LC := .loop F_laws_heldIntS_L0
def F_laws_heldIntS : LF :=
  { nparams := 2, results := [.t 4], body :=
    (.seq
      (.region false [⟨some 4, .mv, [.c (.i 0)], none⟩] [4])
      (.seq
        (.seq
          (.region false [⟨some 5, .mv, [.c (.i 0)], none⟩] [])
          (.block 0
            F_laws_heldIntS_W0))
        (.seq
          (.region false [⟨some 20, .mv, [.t 1], none⟩,
            ⟨some 4, .mv, [.t 20], none⟩] [0, 1, 5, 20])
          .ret))) }
/-- spec.TermOk -/
def F_spec_TermOk_L0 : LC :=
  (.seq
    (.seq
      (.region false [⟨some 7, .mv, [.t 6], none⟩,
        ⟨some 8, .mv, [.t 1], none⟩,
        ⟨some 9, .len, [.t 8], none⟩,
        ⟨some 10, .bin .lss, [.t 7, .t 9], none⟩] [7, 8, 9])
      (.cond (.t 10) [10]
        .skip
        (.exit 0)))
    (.seq
      (.block 1
        (.block 2
          (.seq
            (.region false [⟨some 14, .mv, [.t 1], none⟩,
              ⟨some 15, .mv, [.t 6], none⟩,
              ⟨some 16, .idxa 2, [.t 14, .t 15], none⟩,
              ⟨some 17, .fld 0 1 false, [.t 16], none⟩,
              ⟨some 18, .load 1 false, [.t 17], none⟩,
              ⟨some 19, .bin .eql, [.t 18, .c (.i 0)], none⟩,
              ⟨some 20, .mv, [.t 19], none⟩,
              ⟨some 21, .mv, [.t 1], some (20, true)⟩,
              ⟨some 22, .mv, [.t 6], some (20, true)⟩,
              ⟨some 23, .idxa 2, [.t 21, .t 22], some (20, true)⟩,
              ⟨some 24, .fld 1 1 false, [.t 23], some (20, true)⟩,
              ⟨some 25, .load 1 false, [.t 24], some (20, true)⟩,
              ⟨some 26, .bin .geq, [.t 25, .c (.i 0)], some (20, true)⟩,
              ⟨some 27, .pick, [.t 20, .t 26, .c (.b false)], none⟩,
              ⟨some 28, .mv, [.t 27], none⟩,
              ⟨some 29, .mv, [.t 1], some (28, true)⟩,
              ⟨some 30, .mv, [.t 6], some (28, true)⟩,
              ⟨some 31, .idxa 2, [.t 29, .t 30], some (28, true)⟩,
              ⟨some 32, .fld 1 1 false, [.t 31], some (28, true)⟩,
              ⟨some 33, .load 1 false, [.t 32], some (28, true)⟩,
              ⟨some 34, .mv, [.t 0], some (28, true)⟩,
              ⟨some 35, .bin .lss, [.t 33, .t 34], some (28, true)⟩,
              ⟨some 36, .pick, [.t 28, .t 35, .c (.b false)], none⟩,
              ⟨some 13, .mv, [.t 36], none⟩] [14, 15, 16, 17, 18, 19, 20, 21, 22, 23, 24, 25, 26, 27, 28, 29, 30, 31, 32, 33, 34, 35, 36])
            (.cond (.t 13) [13]
              (.region false [⟨some 37, .mv, [.t 5], none⟩,
                ⟨some 38, .bin .add, [.t 37, .c (.i 1)], none⟩,
                ⟨some 5, .mv, [.t 38], none⟩] [37, 38])
              (.seq
                (.region false [⟨some 40, .mv, [.t 1], none⟩,
                  ⟨some 41, .mv, [.t 6], none⟩,
                  ⟨some 42, .idxa 2, [.t 40, .t 41], none⟩,
                  ⟨some 43, .load 2 true, [.t 42], none⟩,
                  ⟨some 44, .build [.i 0, .i 0] [(0, 1)], [.c (.i 1)], none⟩,
                  ⟨some 45, .eqs false 2, [.t 43, .t 44], none⟩,
                  ⟨some 46, .mv, [.t 45], none⟩,
                  ⟨some 47, .mv, [.t 5], some (46, true)⟩,
                  ⟨some 48, .bin .geq, [.t 47, .c (.i 1)], some (46, true)⟩,
                  ⟨some 49, .pick, [.t 46, .t 48, .c (.b false)], none⟩,
                  ⟨some 39, .mv, [.t 49], none⟩] [40, 41, 42, 43, 44, 45, 46, 47, 48, 49])
                (.cond (.t 39) [39]
                  .skip
                  (.seq
                    (.region false [⟨some 51, .mv, [.t 1], none⟩,
                      ⟨some 52, .mv, [.t 6], none⟩,
                      ⟨some 53, .idxa 2, [.t 51, .t 52], none⟩,
                      ⟨some 54, .load 2 true, [.t 53], none⟩,
                      ⟨some 55, .build [.i 0, .i 0] [(0, 1)], [.c (.i 2)], none⟩,
                      ⟨some 56, .eqs false 2, [.t 54, .t 55], none⟩,
                      ⟨some 57, .mv, [.t 56], none⟩,
                      ⟨some 58, .mv, [.t 1], some (57, false)⟩,
                      ⟨some 59, .mv, [.t 6], some (57, false)⟩,
                      ⟨some 60, .idxa 2, [.t 58, .t 59], some (57, false)⟩,
                      ⟨some 61, .load 2 true, [.t 60], some (57, false)⟩,
                      ⟨some 62, .build [.i 0, .i 0] [(0, 1)], [.c (.i 3)], some (57, false)⟩,
                      ⟨some 63, .eqs false 2, [.t 61, .t 62], some (57, false)⟩,
                      ⟨some 64, .pick, [.t 57, .c (.b true), .t 63], none⟩,
                      ⟨some 65, .mv, [.t 64], none⟩,
                      ⟨some 66, .mv, [.t 5], some (65, true)⟩,
                      ⟨some 67, .bin .geq, [.t 66, .c (.i 2)], some (65, true)⟩,
                      ⟨some 68, .pick, [.t 65, .t 67, .c (.b false)], none⟩,
                      ⟨some 50, .mv, [.t 68], none⟩] [51, 52, 53, 54, 55, 56, 57, 58, 59, 60, 61, 62, 63, 64, 65, 66, 67, 68])
                    (.cond (.t 50) [50]
                      (.region false [⟨some 69, .mv, [.t 5], none⟩,
                        ⟨some 70, .bin .sub, [.t 69, .c (.i 1)], none⟩,
                        ⟨some 5, .mv, [.t 70], none⟩] [69, 70])
                      (.seq
                        (.region false [⟨some 4, .mv, [.c (.b false)], none⟩] [0, 1, 5, 6])
                        .ret)))))))))
      (.region false [⟨some 11, .mv, [.t 6], none⟩,
        ⟨some 12, .bin .add, [.t 11, .c (.i 1)], none⟩,
        ⟨some 6, .mv, [.t 12], none⟩] [11, 12])))
def F_spec_TermOk_W0 : LC := .loop F_spec_TermOk_L0
def F_spec_TermOk : LF :=
  { nparams := 2, results := [.t 4], body :=
    (.seq
      (.region false [⟨some 4, .mv, [.c (.b false)], none⟩] [4])
      (.seq
        (.region false [⟨some 5, .mv, [.c (.i 0)], none⟩] [])
        (.seq
          (.seq
            (.region false [⟨some 6, .mv, [.c (.i 0)], none⟩] [])
            (.block 0
              F_spec_TermOk_W0))
          (.seq
            (.region false [⟨some 71, .mv, [.t 0], none⟩,
              ⟨some 72, .call n_spec_l1In 36864, [.t 71, .c (.i 1), .c (.i 5)], none⟩,
              ⟨some 73, .mv, [.t 72], none⟩,
              ⟨some 74, .mv, [.t 5], some (73, true)⟩,
              ⟨some 75, .bin .eql, [.t 74, .c (.i 1)], some (73, true)⟩,
              ⟨some 76, .pick, [.t 73, .t 75, .c (.b false)], none⟩,
              ⟨some 77, .mv, [.t 76], none⟩,
              ⟨some 78, .mv, [.t 1], some (77, true)⟩,
              ⟨some 79, .len, [.t 78], some (77, true)⟩,
              ⟨some 80, .bin .leq, [.t 79, .c (.i 13)], some (77, true)⟩,
              ⟨some 81, .pick, [.t 77, .t 80, .c (.b false)], none⟩,
              ⟨some 4, .mv, [.t 81], none⟩] [0, 1, 5, 6, 71, 72, 73, 74, 75, 76, 77, 78, 79, 80, 81])
            .ret)))) }
/-- spec.StateOk -/
def F_spec_StateOk : LF :=
  { nparams := 2, results := [.t 4], body :=
    (.seq
      (.region false [⟨some 4, .mv, [.c (.b false)], none⟩] [4])
      (.seq
        (.region false [⟨some 5, .mv, [.t 0], none⟩,
          ⟨some 6, .call n_spec_l1In 3072, [.t 5, .c (.i 1), .c (.i 5)], none⟩,
          ⟨some 7, .mv, [.t 6], none⟩,
          ⟨some 8, .mv, [.t 1], some (7, true)⟩,
          ⟨some 9, .mv, [.t 0], some (7, true)⟩,
          ⟨some 10, .bin .shl, [.c (.i 1), .t 9], some (7, true)⟩,
          ⟨some 11, .bin .sub, [.t 10, .c (.i 1)], some (7, true)⟩,
          ⟨some 12, .call n_spec_l1In 6144, [.t 8, .c (.i 0), .t 11], some (7, true)⟩,
          ⟨some 13, .pick, [.t 7, .t 12, .c (.b false)], none⟩,
          ⟨some 4, .mv, [.t 13], none⟩] [0, 1, 5, 6, 7, 8, 9, 10, 11, 12, 13])
        .ret)) }
/-- impl.TermOk -/
def F_impl_TermOk_L0 : LC :=
  (.seq
    (.region false [⟨some 21, .bin .lss, [.t 20, .t 19], none⟩] [])
    (.seq
      (.cond (.t 21) [21]
        .skip
        (.exit 0))
      (.seq
        (.block 1
          (.seq
            (.region false [⟨some 22, .idxa 2, [.t 18, .t 20], none⟩,
              ⟨some 23, .load 2 true, [.t 22], none⟩,
              ⟨some 7, .alloc 3600 (.st [.i 0, .i 0]), [], none⟩,
              ⟨none, .store 2, [.t 7, .t 23], none⟩] [22, 23])
            (.seq
              (.region false [⟨some 24, .fld 0 1 false, [.t 7], none⟩,
                ⟨some 25, .load 1 false, [.t 24], none⟩,
                ⟨some 26, .call n_impl_partsTaken 13312, [.t 25], none⟩,
                ⟨some 8, .mv, [.t 26], none⟩] [24, 25, 26])
              (.seq
                (.seq
                  (.region false [⟨some 27, .mv, [.t 0], none⟩,
                    ⟨some 28, .load 2 true, [.t 7], none⟩,
                    ⟨some 29, .call n_impl_markOk 14848, [.t 27, .t 28], none⟩,
                    ⟨some 30, .un .not, [.t 29], none⟩,
                    ⟨some 31, .mv, [.t 30], none⟩,
                    ⟨some 32, .mv, [.t 5], some (31, false)⟩,
                    ⟨some 33, .mv, [.t 8], some (31, false)⟩,
                    ⟨some 34, .bin .lss, [.t 32, .t 33], some (31, false)⟩,
                    ⟨some 35, .pick, [.t 31, .c (.b true), .t 34], none⟩] [7, 27, 28, 29, 30, 31, 32, 33, 34])
                  (.cond (.t 35) [35]
                    (.seq
                      (.region false [⟨some 4, .mv, [.c (.b false)], none⟩] [0, 5, 8, 18, 19, 20])
                      .ret)
                    .skip))
                (.region false [⟨some 36, .mv, [.t 5], none⟩,
                  ⟨some 37, .mv, [.t 8], none⟩,
                  ⟨some 38, .bin .sub, [.c (.i 1), .t 37], none⟩,
                  ⟨some 39, .bin .add, [.t 36, .t 38], none⟩,
                  ⟨some 5, .mv, [.t 39], none⟩] [8, 36, 37, 38, 39])))))
        (.region false [⟨some 40, .bin .add, [.t 20, .c (.i 1)], none⟩,
          ⟨some 20, .mv, [.t 40], none⟩] [40]))))
def F_impl_TermOk_W0 : LC := .loop F_impl_TermOk_L0
def F_impl_TermOk : LF :=
  { nparams := 2, results := [.t 4], body :=
    (.seq
      (.region false [⟨some 4, .mv, [.c (.b false)], none⟩] [4])
      (.seq
        (.seq
          (.region false [⟨some 9, .mv, [.t 0], none⟩,
            ⟨some 10, .call n_impl_manyOk 5120, [.t 9], none⟩,
            ⟨some 11, .un .not, [.t 10], none⟩,
            ⟨some 12, .mv, [.t 11], none⟩,
            ⟨some 13, .mv, [.t 1], some (12, false)⟩,
            ⟨some 14, .len, [.t 13], some (12, false)⟩,
            ⟨some 15, .call n_impl_isWithin 7680, [.t 14, .c (.i 1), .c (.i 13)], some (12, false)⟩,
            ⟨some 16, .un .not, [.t 15], some (12, false)⟩,
            ⟨some 17, .pick, [.t 12, .c (.b true), .t 16], none⟩] [9, 10, 11, 12, 13, 14, 15, 16])
          (.cond (.t 17) [17]
            (.seq
              (.region false [⟨some 4, .mv, [.c (.b false)], none⟩] [0, 1])
              .ret)
            .skip))
        (.seq
          (.region false [⟨some 5, .mv, [.c (.i 0)], none⟩] [])
          (.seq
            (.seq
              (.region false [⟨some 18, .mv, [.t 1], none⟩,
                ⟨some 19, .len, [.t 18], none⟩,
                ⟨some 20, .mv, [.c (.i 0)], none⟩] [1])
              (.block 0
                F_impl_TermOk_W0))
            (.seq
              (.region false [⟨some 41, .mv, [.t 5], none⟩,
                ⟨some 42, .bin .eql, [.t 41, .c (.i 1)], none⟩,
                ⟨some 4, .mv, [.t 42], none⟩] [0, 5, 18, 19, 20, 41, 42])
              .ret))))) }
/-- impl.ForcedBy -/
def F_impl_ForcedBy : LF :=
  { nparams := 3, results := [.t 6, .t 7], body :=
    (.seq
      (.region false [⟨some 6, .mv, [.c (.i 0)], none⟩,
        ⟨some 7, .mv, [.c (.b false)], none⟩] [6, 7])
      (.seq
        (.seq
          (.region false [⟨some 9, .mv, [.t 0], none⟩,
            ⟨some 10, .mv, [.t 1], none⟩,
            ⟨some 11, .call n_impl_TermOk 5632, [.t 9, .t 10], none⟩,
            ⟨some 12, .un .not, [.t 11], none⟩,
            ⟨some 13, .mv, [.t 12], none⟩,
            ⟨some 14, .mv, [.t 0], some (13, false)⟩,
            ⟨some 15, .mv, [.t 2], some (13, false)⟩,
            ⟨some 16, .call n_impl_KnownOk 8192, [.t 14, .t 15], some (13, false)⟩,
            ⟨some 17, .un .not, [.t 16], some (13, false)⟩,
            ⟨some 18, .pick, [.t 13, .c (.b true), .t 17], none⟩] [0, 9, 10, 11, 12, 13, 14, 15, 16, 17])
          (.cond (.t 18) [18]
            (.seq
              (.region false [⟨some 6, .mv, [.c (.i (-1))], none⟩,
                ⟨some 7, .mv, [.c (.b false)], none⟩] [1, 2])
              .ret)
            .skip))
        (.seq
          (.region false [⟨some 19, .mv, [.t 2], none⟩,
            ⟨some 20, .call n_impl_agreeingStates 10240, [.t 19], none⟩,
            ⟨some 8, .mv, [.t 20], none⟩] [2, 19, 20])
          (.seq
            (.seq
              (.region false [⟨some 21, .mv, [.t 1], none⟩,
                ⟨some 22, .call n_impl_trueStates 11264, [.t 21], none⟩,
                ⟨some 23, .mv, [.t 8], none⟩,
                ⟨some 24, .bin .and, [.t 22, .t 23], none⟩] [1, 21, 22, 23])
              (.block 0
                (.seq
                  (.region false [⟨some 26, .mv, [.t 8], none⟩,
                    ⟨some 27, .bin .eql, [.t 24, .t 26], none⟩,
                    ⟨some 25, .mv, [.t 27], none⟩] [8, 26, 27])
                  (.cond (.t 25) [25]
                    (.seq
                      (.region false [⟨some 6, .mv, [.c (.i 1)], none⟩,
                        ⟨some 7, .mv, [.c (.b true)], none⟩] [24])
                      .ret)
                    (.seq
                      (.region false [⟨some 29, .bin .eql, [.t 24, .c (.w (0#32))], none⟩,
                        ⟨some 28, .mv, [.t 29], none⟩] [24, 29])
                      (.cond (.t 28) [28]
                        (.seq
                          (.region false [⟨some 6, .mv, [.c (.i 0)], none⟩,
                            ⟨some 7, .mv, [.c (.b true)], none⟩] [])
                          .ret)
                        .skip))))))
            (.seq
              (.region false [⟨some 6, .mv, [.c (.i (-1))], none⟩,
                ⟨some 7, .mv, [.c (.b true)], none⟩] [])
              .ret))))) }
/-- spec.l3Forced -/
def F_spec_l3Forced_L0 : LC :=
  (.seq
    (.seq
      (.region false [⟨some 11, .mv, [.t 9], none⟩,
        ⟨some 12, .mv, [.t 0], none⟩,
        ⟨some 13, .bin .shl, [.c (.i 1), .t 12], none⟩,
        ⟨some 14, .bin .lss, [.t 11, .t 13], none⟩] [11, 12, 13])
      (.cond (.t 14) [14]
        .skip
        (.exit 0)))
    (.seq
      (.block 1
        (.seq
          (.seq
            (.region false [⟨some 17, .mv, [.t 2], none⟩,
              ⟨some 18, .mv, [.t 9], none⟩,
              ⟨some 19, .call n_spec_l1Agrees 9728, [.t 17, .t 18], none⟩,
              ⟨some 20, .un .not, [.t 19], none⟩] [17, 18, 19])
            (.cond (.t 20) [20]
              (.exit 1)
              .skip))
          (.seq
            (.region false [⟨some 21, .mv, [.t 1], none⟩,
              ⟨some 22, .mv, [.t 9], none⟩,
              ⟨some 23, .bin .shr, [.t 21, .t 22], none⟩,
              ⟨some 24, .bin .rem, [.t 23, .c (.i 2)], none⟩,
              ⟨some 10, .mv, [.t 24], none⟩] [21, 22, 23, 24])
            (.seq
              (.seq
                (.region false [⟨some 25, .mv, [.t 8], none⟩,
                  ⟨some 26, .un .not, [.t 25], none⟩,
                  ⟨some 27, .mv, [.t 26], none⟩,
                  ⟨some 28, .mv, [.t 10], some (27, true)⟩,
                  ⟨some 29, .mv, [.t 7], some (27, true)⟩,
                  ⟨some 30, .bin .neq, [.t 28, .t 29], some (27, true)⟩,
                  ⟨some 31, .pick, [.t 27, .t 30, .c (.b false)], none⟩] [7, 8, 25, 26, 27, 28, 29, 30])
                (.cond (.t 31) [31]
                  (.seq
                    (.region false [⟨some 6, .mv, [.c (.i (-1))], none⟩] [0, 1, 2, 9, 10])
                    .ret)
                  .skip))
              (.seq
                (.region false [⟨some 32, .mv, [.t 10], none⟩,
                  ⟨some 7, .mv, [.t 32], none⟩] [10, 32])
                (.region false [⟨some 8, .mv, [.c (.b false)], none⟩] []))))))
      (.region false [⟨some 15, .mv, [.t 9], none⟩,
        ⟨some 16, .bin .add, [.t 15, .c (.i 1)], none⟩,
        ⟨some 9, .mv, [.t 16], none⟩] [15, 16])))
def F_spec_l3Forced_W0 : LC := .loop F_spec_l3Forced_L0
def F_spec_l3Forced : LF :=
  { nparams := 3, results := [.t 6], body :=
    (.seq
      (.region false [⟨some 6, .mv, [.c (.i 0)], none⟩] [6])
      (.seq
        (.region false [⟨some 7, .mv, [.c (.i (-1))], none⟩] [])
        (.seq
          (.region false [⟨some 8, .mv, [.c (.b true)], none⟩] [])
          (.seq
            (.seq
              (.region false [⟨some 9, .mv, [.c (.i 0)], none⟩] [])
              (.block 0
                F_spec_l3Forced_W0))
            (.seq
              (.region false [⟨some 33, .mv, [.t 7], none⟩,
                ⟨some 6, .mv, [.t 33], none⟩] [0, 1, 2, 7, 8, 9, 33])
              .ret))))) }
/-- spec.l3Table -/
def F_spec_l3Table_L0 : LC :=
  (.seq
    (.seq
      (.region false [⟨some 7, .mv, [.t 6], none⟩,
        ⟨some 8, .mv, [.t 0], none⟩,
        ⟨some 9, .bin .shl, [.c (.i 1), .t 8], none⟩,
        ⟨some 10, .bin .lss, [.t 7, .t 9], none⟩] [7, 8, 9])
      (.cond (.t 10) [10]
        .skip
        (.exit 0)))
    (.seq
      (.block 1
        (.region false [⟨some 13, .mv, [.t 5], none⟩,
          ⟨some 14, .mv, [.t 1], none⟩,
          ⟨some 15, .mv, [.t 6], none⟩,
          ⟨some 16, .call n_spec_l3Value 8192, [.t 14, .t 15], none⟩,
          ⟨some 17, .mv, [.t 6], none⟩,
          ⟨some 18, .bin .shl, [.t 16, .t 17], none⟩,
          ⟨some 19, .bin .or, [.t 13, .t 18], none⟩,
          ⟨some 5, .mv, [.t 19], none⟩] [13, 14, 15, 16, 17, 18, 19]))
      (.region false [⟨some 11, .mv, [.t 6], none⟩,
        ⟨some 12, .bin .add, [.t 11, .c (.i 1)], none⟩,
        ⟨some 6, .mv, [.t 12], none⟩] [11, 12])))
def F_spec_l3Table_W0 : LC := .loop F_spec_l3Table_L0
def F_spec_l3Table : LF :=
  { nparams := 2, results := [.t 4], body :=
    (.seq
      (.region false [⟨some 4, .mv, [.c (.i 0)], none⟩] [4])
      (.seq
        (.region false [⟨some 5, .mv, [.c (.i 0)], none⟩] [])
        (.seq
          (.seq
            (.region false [⟨some 6, .mv, [.c (.i 0)], none⟩] [])
            (.block 0
              F_spec_l3Table_W0))
          (.seq
            (.region false [⟨some 20, .mv, [.t 5], none⟩,
              ⟨some 4, .mv, [.t 20], none⟩] [0, 1, 5, 6, 20])
            .ret)))) }
/-- spec.l3Told -/
def F_spec_l3Told_L0 : LC :=
  (.seq
    (.seq
      (.region false [⟨some 11, .mv, [.t 8], none⟩,
        ⟨some 12, .mv, [.t 0], none⟩,
        ⟨some 13, .bin .lss, [.t 11, .t 12], none⟩] [11, 12])
      (.cond (.t 13) [13]
        .skip
        (.exit 0)))
    (.seq
      (.block 1
        (.seq
          (.region false [⟨some 9, .mv, [.c (.i (-1))], none⟩] [])
          (.seq
            (.seq
              (.region false [⟨some 16, .mv, [.t 2], none⟩,
                ⟨some 17, .mv, [.t 8], none⟩,
                ⟨some 18, .bin .shr, [.t 16, .t 17], none⟩,
                ⟨some 19, .bin .rem, [.t 18, .c (.i 2)], none⟩,
                ⟨some 20, .bin .eql, [.t 19, .c (.i 1)], none⟩] [16, 17, 18, 19])
              (.cond (.t 20) [20]
                (.region false [⟨some 21, .mv, [.t 1], none⟩,
                  ⟨some 22, .mv, [.t 8], none⟩,
                  ⟨some 23, .bin .shr, [.t 21, .t 22], none⟩,
                  ⟨some 24, .bin .rem, [.t 23, .c (.i 2)], none⟩,
                  ⟨some 9, .mv, [.t 24], none⟩] [21, 22, 23, 24])
                .skip))
            (.region false [⟨some 25, .mv, [.t 7], none⟩,
              ⟨some 26, .mv, [.t 9], none⟩,
              ⟨some 27, .bslice 13832 1 1 (.i 0) [0], [.t 26], none⟩,
              ⟨some 28, .app 14344 1, [.t 25, .t 27], none⟩,
              ⟨some 7, .mv, [.t 28], none⟩] [9, 25, 26, 27, 28]))))
      (.region false [⟨some 14, .mv, [.t 8], none⟩,
        ⟨some 15, .bin .add, [.t 14, .c (.i 1)], none⟩,
        ⟨some 8, .mv, [.t 15], none⟩] [14, 15])))
def F_spec_l3Told_W0 : LC := .loop F_spec_l3Told_L0
def F_spec_l3Told : LF :=
  { nparams := 3, results := [.t 6], body :=
    (.seq
      (.region false [⟨some 6, .newnil 3080, [], none⟩] [6])
      (.seq
        (.region false [⟨some 10, .bslice 5128 0 1 (.i 0) [], [], none⟩,
          ⟨some 7, .mv, [.t 10], none⟩] [10])
        (.seq
          (.seq
            (.region false [⟨some 8, .mv, [.c (.i 0)], none⟩] [])
            (.block 0
              F_spec_l3Told_W0))
          (.seq
            (.region false [⟨some 29, .mv, [.t 7], none⟩,
              ⟨some 6, .mv, [.t 29], none⟩] [0, 1, 2, 7, 8, 29])
            .ret)))) }
/-- laws.toMark -/
def F_laws_toMark : LF :=
  { nparams := 1, results := [.c 2 2 true], body :=
    (.seq
      (.region false [⟨some 1, .box 528, [.t 0], none⟩,
        ⟨some 2, .alloc 1040 (.st [.i 0, .i 0]), [], none⟩] [0])
      (.seq
        (.region false [⟨some 3, .alloc 1552 (.st [.i 0, .i 0]), [], none⟩] [])
        (.seq
          (.region false [⟨some 4, .fld 0 1 false, [.t 1], none⟩,
            ⟨some 5, .load 1 false, [.t 4], none⟩,
            ⟨some 6, .fld 0 1 false, [.t 3], none⟩,
            ⟨none, .store 1, [.t 6, .t 5], none⟩] [4, 5, 6])
          (.seq
            (.region false [⟨some 7, .fld 1 1 false, [.t 1], none⟩,
              ⟨some 8, .load 1 false, [.t 7], none⟩,
              ⟨some 9, .fld 1 1 false, [.t 3], none⟩,
              ⟨none, .store 1, [.t 9, .t 8], none⟩] [1, 7, 8, 9])
            (.seq
              (.region false [⟨some 10, .load 2 true, [.t 3], none⟩,
                ⟨none, .store 2, [.t 2, .t 10], none⟩] [3, 10])
              .ret))))) }
/-- impl.StateOk -/
def F_impl_StateOk : LF :=
  { nparams := 2, results := [.t 4], body :=
    (.seq
      (.region false [⟨some 4, .mv, [.c (.b false)], none⟩] [4])
      (.seq
        (.region false [⟨some 5, .mv, [.t 0], none⟩,
          ⟨some 6, .call n_impl_manyOk 3072, [.t 5], none⟩,
          ⟨some 7, .mv, [.t 6], none⟩,
          ⟨some 8, .mv, [.t 1], some (7, true)⟩,
          ⟨some 9, .mv, [.t 0], some (7, true)⟩,
          ⟨some 10, .call n_impl_statesOf 5120, [.t 9], some (7, true)⟩,
          ⟨some 11, .bin .sub, [.t 10, .c (.i 1)], some (7, true)⟩,
          ⟨some 12, .call n_impl_isWithin 6144, [.t 8, .c (.i 0), .t 11], some (7, true)⟩,
          ⟨some 13, .pick, [.t 7, .t 12, .c (.b false)], none⟩,
          ⟨some 4, .mv, [.t 13], none⟩] [0, 1, 5, 6, 7, 8, 9, 10, 11, 12, 13])
        .ret)) }
/-- impl.knownBy -/
def F_impl_knownBy_L0 : LC :=
  (.seq
    (.region false [⟨some 14, .bin .lss, [.t 13, .t 12], none⟩] [])
    (.seq
      (.cond (.t 14) [14]
        .skip
        (.exit 0))
      (.seq
        (.block 1
          (.seq
            (.region false [⟨some 15, .mv, [.t 13], none⟩,
              ⟨some 8, .mv, [.t 15], none⟩] [15])
            (.seq
              (.region false [⟨some 16, .mv, [.t 7], none⟩,
                ⟨some 17, .mv, [.t 8], none⟩,
                ⟨some 18, .idxa 1, [.t 16, .t 17], none⟩,
                ⟨none, .store 1, [.t 18, .c (.i (-1))], none⟩] [16, 17, 18])
              (.seq
                (.region false [⟨some 19, .mv, [.t 2], none⟩,
                  ⟨some 20, .mv, [.t 8], none⟩,
                  ⟨some 21, .call n_impl_hasTest 10752, [.t 19, .t 20], none⟩] [19, 20])
                (.cond (.t 21) [21]
                  (.region false [⟨some 22, .mv, [.t 7], none⟩,
                    ⟨some 23, .mv, [.t 8], none⟩,
                    ⟨some 24, .mv, [.t 1], none⟩,
                    ⟨some 25, .mv, [.t 8], none⟩,
                    ⟨some 26, .call n_impl_outcomeIn 13312, [.t 24, .t 25], none⟩,
                    ⟨some 27, .idxa 1, [.t 22, .t 23], none⟩,
                    ⟨none, .store 1, [.t 27, .t 26], none⟩] [8, 22, 23, 24, 25, 26, 27])
                  .skip)))))
        (.region false [⟨some 28, .bin .add, [.t 13, .c (.i 1)], none⟩,
          ⟨some 13, .mv, [.t 28], none⟩] [8, 28]))))
def F_impl_knownBy_W0 : LC := .loop F_impl_knownBy_L0
def F_impl_knownBy : LF :=
  { nparams := 3, results := [.t 6], body :=
    (.seq
      (.region false [⟨some 6, .newnil 3080, [], none⟩] [6])
      (.seq
        (.region false [⟨some 9, .mv, [.t 0], none⟩,
          ⟨some 10, .make 5128 1 (.i 0), [.t 9, .t 9], none⟩,
          ⟨some 7, .mv, [.t 10], none⟩] [0, 9, 10])
        (.seq
          (.seq
            (.region false [⟨some 11, .mv, [.t 7], none⟩,
              ⟨some 12, .len, [.t 11], none⟩,
              ⟨some 13, .mv, [.c (.i 0)], none⟩] [11])
            (.block 0
              F_impl_knownBy_W0))
          (.seq
            (.region false [⟨some 29, .mv, [.t 7], none⟩,
              ⟨some 6, .mv, [.t 29], none⟩] [1, 2, 7, 12, 13, 29])
            .ret)))) }
/-- laws.eqMark -/
def F_laws_eqMark : LF :=
  { nparams := 2, results := [.t 4], body :=
    (.seq
      (.region false [⟨some 2, .box 1040, [.t 0], none⟩,
        ⟨some 3, .box 1552, [.t 1], none⟩,
        ⟨some 4, .mv, [.c (.b false)], none⟩] [0, 1, 4])
      (.seq
        (.seq
          (.region false [⟨some 5, .fld 0 1 false, [.t 2], none⟩,
            ⟨some 6, .load 1 false, [.t 5], none⟩,
            ⟨some 7, .fld 0 1 false, [.t 3], none⟩,
            ⟨some 8, .load 1 false, [.t 7], none⟩,
            ⟨some 9, .bin .neq, [.t 6, .t 8], none⟩] [5, 6, 7, 8])
          (.cond (.t 9) [9]
            (.seq
              (.region false [⟨some 4, .mv, [.c (.b false)], none⟩] [2, 3])
              .ret)
            .skip))
        (.seq
          (.seq
            (.region false [⟨some 10, .fld 1 1 false, [.t 2], none⟩,
              ⟨some 11, .load 1 false, [.t 10], none⟩,
              ⟨some 12, .fld 1 1 false, [.t 3], none⟩,
              ⟨some 13, .load 1 false, [.t 12], none⟩,
              ⟨some 14, .bin .neq, [.t 11, .t 13], none⟩] [2, 3, 10, 11, 12, 13])
            (.cond (.t 14) [14]
              (.seq
                (.region false [⟨some 4, .mv, [.c (.b false)], none⟩] [])
                .ret)
              .skip))
          (.seq
            (.region false [⟨some 4, .mv, [.c (.b true)], none⟩] [])
            .ret)))) }
/-- impl.setsWhere -/
def F_impl_setsWhere_L0 : LC :=
  (.seq
    (.region false [⟨some 10, .bin .lss, [.t 9, .t 8], none⟩] [])
    (.seq
      (.cond (.t 10) [10]
        .skip
        (.exit 0))
      (.seq
        (.block 1
          (.seq
            (.region false [⟨some 11, .mv, [.t 9], none⟩,
              ⟨some 6, .mv, [.t 11], none⟩] [11])
            (.seq
              (.region false [⟨some 12, .mv, [.t 1], none⟩,
                ⟨some 13, .mv, [.t 6], none⟩,
                ⟨some 14, .calld 7168, [.t 12, .t 13], none⟩] [12, 13])
              (.cond (.t 14) [14]
                (.region false [⟨some 15, .mv, [.t 5], none⟩,
                  ⟨some 16, .mv, [.t 6], none⟩,
                  ⟨some 17, .bslice 8712 1 1 (.i 0) [0], [.t 16], none⟩,
                  ⟨some 18, .app 9224 1, [.t 15, .t 17], none⟩,
                  ⟨some 5, .mv, [.t 18], none⟩] [6, 15, 16, 17, 18])
                .skip))))
        (.region false [⟨some 19, .bin .add, [.t 9, .c (.i 1)], none⟩,
          ⟨some 9, .mv, [.t 19], none⟩] [6, 19]))))
def F_impl_setsWhere_W0 : LC := .loop F_impl_setsWhere_L0
def F_impl_setsWhere : LF :=
  { nparams := 2, results := [.t 4], body :=
    (.seq
      (.region false [⟨some 4, .newnil 2056, [], none⟩] [4])
      (.seq
        (.region false [⟨some 5, .newnil 2568, [], none⟩] [])
        (.seq
          (.seq
            (.region false [⟨some 7, .mv, [.t 0], none⟩,
              ⟨some 8, .call n_impl_statesOf 4096, [.t 7], none⟩,
              ⟨some 9, .mv, [.c (.i 0)], none⟩] [0, 7])
            (.block 0
              F_impl_setsWhere_W0))
          (.seq
            (.region false [⟨some 20, .mv, [.t 5], none⟩,
              ⟨some 4, .mv, [.t 20], none⟩] [1, 5, 8, 9, 20])
            .ret)))) }
/-- impl.LeastProofs$1 -/
def F_impl_LeastProofs_1 : LF :=
  { nparams := 4, results := [.t 5], body :=
    (.seq
      (.region false [⟨some 5, .mv, [.c (.b false)], none⟩] [5])
      (.seq
        (.region false [⟨some 6, .load 1 false, [.t 1], none⟩,
          ⟨some 7, .load 1 false, [.t 2], none⟩,
          ⟨some 8, .load 1 false, [.t 3], none⟩,
          ⟨some 9, .mv, [.t 0], none⟩,
          ⟨some 10, .call n_impl_isLeastProof 5120, [.t 6, .t 7, .t 8, .t 9], none⟩,
          ⟨some 5, .mv, [.t 10], none⟩] [0, 1, 2, 3, 6, 7, 8, 9, 10])
        .ret)) }
/-- impl.isLeastProof -/
def F_impl_isLeastProof_L0 : LC :=
  (.seq
    (.region false [⟨some 18, .bin .lss, [.t 17, .t 16], none⟩] [])
    (.seq
      (.cond (.t 18) [18]
        .skip
        (.exit 0))
      (.seq
        (.block 1
          (.seq
            (.region false [⟨some 19, .mv, [.t 17], none⟩,
              ⟨some 9, .mv, [.t 19], none⟩] [19])
            (.seq
              (.region false [⟨some 20, .mv, [.t 3], none⟩,
                ⟨some 21, .mv, [.t 9], none⟩,
                ⟨some 22, .call n_impl_hasTest 11264, [.t 20, .t 21], none⟩,
                ⟨some 23, .mv, [.t 22], none⟩,
                ⟨some 24, .mv, [.t 0], some (23, true)⟩,
                ⟨some 25, .mv, [.t 1], some (23, true)⟩,
                ⟨some 26, .mv, [.t 2], some (23, true)⟩,
                ⟨some 27, .mv, [.t 3], some (23, true)⟩,
                ⟨some 28, .mv, [.t 9], some (23, true)⟩,
                ⟨some 29, .bin .shl, [.c (.i 1), .t 28], some (23, true)⟩,
                ⟨some 30, .bin .andNot, [.t 27, .t 29], some (23, true)⟩,
                ⟨some 31, .call n_impl_ProofOk 15872, [.t 24, .t 25, .t 26, .t 30], some (23, true)⟩,
                ⟨some 32, .pick, [.t 23, .t 31, .c (.b false)], none⟩] [9, 20, 21, 22, 23, 24, 25, 26, 27, 28, 29, 30, 31])
              (.cond (.t 32) [32]
                (.seq
                  (.region false [⟨some 8, .mv, [.c (.b false)], none⟩] [0, 1, 2, 3, 16, 17])
                  .ret)
                .skip))))
        (.region false [⟨some 33, .bin .add, [.t 17, .c (.i 1)], none⟩,
          ⟨some 17, .mv, [.t 33], none⟩] [33]))))
def F_impl_isLeastProof_W0 : LC := .loop F_impl_isLeastProof_L0
def F_impl_isLeastProof : LF :=
  { nparams := 4, results := [.t 8], body :=
    (.seq
      (.region false [⟨some 8, .mv, [.c (.b false)], none⟩] [8])
      (.seq
        (.seq
          (.region false [⟨some 10, .mv, [.t 0], none⟩,
            ⟨some 11, .mv, [.t 1], none⟩,
            ⟨some 12, .mv, [.t 2], none⟩,
            ⟨some 13, .mv, [.t 3], none⟩,
            ⟨some 14, .call n_impl_ProofOk 7168, [.t 10, .t 11, .t 12, .t 13], none⟩,
            ⟨some 15, .un .not, [.t 14], none⟩] [10, 11, 12, 13, 14])
          (.cond (.t 15) [15]
            (.seq
              (.region false [⟨some 8, .mv, [.c (.b false)], none⟩] [0, 1, 2, 3])
              .ret)
            .skip))
        (.seq
          (.seq
            (.region false [⟨some 16, .mv, [.t 0], none⟩,
              ⟨some 17, .mv, [.c (.i 0)], none⟩] [])
            (.block 0
              F_impl_isLeastProof_W0))
          (.seq
            (.region false [⟨some 8, .mv, [.c (.b true)], none⟩] [0, 1, 2, 3, 16, 17])
            .ret)))) }
/-- spec.l3Value -/
def F_spec_l3Value : LF :=
  { nparams := 2, results := [.t 4], body :=
    (.seq
      (.region false [⟨some 4, .mv, [.c (.i 0)], none⟩] [4])
      (.seq
        (.region false [⟨some 9, .mv, [.t 0], none⟩,
          ⟨some 10, .len, [.t 9], none⟩,
          ⟨some 11, .bin .sub, [.t 10, .c (.i 1)], none⟩,
          ⟨some 5, .mv, [.t 11], none⟩] [9, 10, 11])
        (.seq
          (.seq
            (.region false [⟨some 12, .mv, [.t 0], none⟩,
              ⟨some 13, .mv, [.t 5], none⟩,
              ⟨some 14, .idxa 2, [.t 12, .t 13], none⟩,
              ⟨some 15, .fld 0 1 false, [.t 14], none⟩,
              ⟨some 16, .load 1 false, [.t 15], none⟩] [12, 13, 14, 15])
            (.block 0
              (.seq
                (.region false [⟨some 18, .bin .eql, [.t 16, .c (.i 0)], none⟩,
                  ⟨some 17, .mv, [.t 18], none⟩] [18])
                (.cond (.t 17) [17]
                  (.seq
                    (.region false [⟨some 19, .mv, [.t 1], none⟩,
                      ⟨some 20, .mv, [.t 0], none⟩,
                      ⟨some 21, .mv, [.t 5], none⟩,
                      ⟨some 22, .idxa 2, [.t 20, .t 21], none⟩,
                      ⟨some 23, .fld 1 1 false, [.t 22], none⟩,
                      ⟨some 24, .load 1 false, [.t 23], none⟩,
                      ⟨some 25, .bin .shr, [.t 19, .t 24], none⟩,
                      ⟨some 26, .bin .rem, [.t 25, .c (.i 2)], none⟩,
                      ⟨some 4, .mv, [.t 26], none⟩] [0, 1, 5, 16, 19, 20, 21, 22, 23, 24, 25, 26])
                    .ret)
                  (.seq
                    (.region false [⟨some 28, .bin .eql, [.t 16, .c (.i 1)], none⟩,
                      ⟨some 27, .mv, [.t 28], none⟩] [16, 28])
                    (.cond (.t 27) [27]
                      (.seq
                        (.region false [⟨some 29, .mv, [.t 0], none⟩,
                          ⟨some 30, .mv, [.t 5], none⟩,
                          ⟨some 31, .slice false true 2, [.t 29, .t 30], none⟩,
                          ⟨some 32, .mv, [.t 1], none⟩,
                          ⟨some 33, .call n_spec_l3Value 16896, [.t 31, .t 32], none⟩,
                          ⟨some 34, .bin .sub, [.c (.i 1), .t 33], none⟩,
                          ⟨some 4, .mv, [.t 34], none⟩] [0, 1, 5, 29, 30, 31, 32, 33, 34])
                        .ret)
                      .skip))))))
          (.seq
            (.region false [⟨some 35, .mv, [.t 0], none⟩,
              ⟨some 36, .mv, [.t 5], none⟩,
              ⟨some 37, .bin .sub, [.t 36, .c (.i 1)], none⟩,
              ⟨some 38, .call n_spec_l2Starts 19456, [.t 35, .t 37], none⟩,
              ⟨some 6, .mv, [.t 38], none⟩] [35, 36, 37, 38])
            (.seq
              (.region false [⟨some 39, .mv, [.t 0], none⟩,
                ⟨some 40, .mv, [.t 6], none⟩,
                ⟨some 41, .slice false true 2, [.t 39, .t 40], none⟩,
                ⟨some 42, .mv, [.t 1], none⟩,
                ⟨some 43, .call n_spec_l3Value 22016, [.t 41, .t 42], none⟩,
                ⟨some 7, .mv, [.t 43], none⟩] [39, 40, 41, 42, 43])
              (.seq
                (.region false [⟨some 44, .mv, [.t 0], none⟩,
                  ⟨some 45, .mv, [.t 6], none⟩,
                  ⟨some 46, .mv, [.t 5], none⟩,
                  ⟨some 47, .slice true true 2, [.t 44, .t 45, .t 46], none⟩,
                  ⟨some 48, .mv, [.t 1], none⟩,
                  ⟨some 49, .call n_spec_l3Value 25088, [.t 47, .t 48], none⟩,
                  ⟨some 8, .mv, [.t 49], none⟩] [1, 6, 44, 45, 46, 47, 48, 49])
                (.seq
                  (.seq
                    (.region false [⟨some 50, .mv, [.t 0], none⟩,
                      ⟨some 51, .mv, [.t 5], none⟩,
                      ⟨some 52, .idxa 2, [.t 50, .t 51], none⟩,
                      ⟨some 53, .fld 0 1 false, [.t 52], none⟩,
                      ⟨some 54, .load 1 false, [.t 53], none⟩,
                      ⟨some 55, .bin .eql, [.t 54, .c (.i 3)], none⟩] [0, 5, 50, 51, 52, 53, 54])
                    (.cond (.t 55) [55]
                      (.seq
                        (.region false [⟨some 56, .mv, [.t 7], none⟩,
                          ⟨some 57, .mv, [.t 8], none⟩,
                          ⟨some 58, .mm true, [.t 56, .t 57], none⟩,
                          ⟨some 4, .mv, [.t 58], none⟩] [7, 8, 56, 57, 58])
                        .ret)
                      .skip))
                  (.seq
                    (.region false [⟨some 59, .mv, [.t 7], none⟩,
                      ⟨some 60, .mv, [.t 8], none⟩,
                      ⟨some 61, .mm false, [.t 59, .t 60], none⟩,
                      ⟨some 4, .mv, [.t 61], none⟩] [7, 8, 59, 60, 61])
                    .ret)))))))) }
/-- impl.trueStates -/
def F_impl_trueStates : LF :=
  { nparams := 1, results := [.t 2], body :=
    (.seq
      (.region false [⟨some 2, .mv, [.c (.w (0#32))], none⟩] [2])
      (.seq
        (.region false [⟨some 3, .mv, [.t 0], none⟩,
          ⟨some 4, .call n_impl_foldTerm_uint32 2048, [.t 3, .c (.fn n_impl_statesOfPart [])], none⟩,
          ⟨some 2, .mv, [.t 4], none⟩] [0, 3, 4])
        .ret)) }
/-- impl.statesOf -/
def F_impl_statesOf : LF :=
  { nparams := 1, results := [.t 2], body :=
    (.seq
      (.region false [⟨some 2, .mv, [.c (.i 0)], none⟩] [2])
      (.seq
        (.region false [⟨some 3, .mv, [.t 0], none⟩,
          ⟨some 4, .bin .shl, [.c (.i 1), .t 3], none⟩,
          ⟨some 2, .mv, [.t 4], none⟩] [0, 3, 4])
        .ret)) }
/-- spec.l1In -/
def F_spec_l1In : LF :=
  { nparams := 3, results := [.t 6], body :=
    (.seq
      (.region false [⟨some 6, .mv, [.c (.b false)], none⟩] [6])
      (.seq
        (.region false [⟨some 7, .mv, [.t 0], none⟩,
          ⟨some 8, .mv, [.t 1], none⟩,
          ⟨some 9, .bin .geq, [.t 7, .t 8], none⟩,
          ⟨some 10, .mv, [.t 9], none⟩,
          ⟨some 11, .mv, [.t 0], some (10, true)⟩,
          ⟨some 12, .mv, [.t 2], some (10, true)⟩,
          ⟨some 13, .bin .leq, [.t 11, .t 12], some (10, true)⟩,
          ⟨some 14, .pick, [.t 10, .t 13, .c (.b false)], none⟩,
          ⟨some 6, .mv, [.t 14], none⟩] [0, 1, 2, 7, 8, 9, 10, 11, 12, 13, 14])
        .ret)) }
/-- impl.manyOk -/
def F_impl_manyOk : LF :=
  { nparams := 1, results := [.t 2], body :=
    (.seq
      (.region false [⟨some 2, .mv, [.c (.b false)], none⟩] [2])
      (.seq
        (.region false [⟨some 3, .mv, [.t 0], none⟩,
          ⟨some 4, .call n_impl_isWithin 2048, [.t 3, .c (.i 1), .c (.i 5)], none⟩,
          ⟨some 2, .mv, [.t 4], none⟩] [0, 3, 4])
        .ret)) }
/-- impl.isWithin -/
def F_impl_isWithin : LF :=
  { nparams := 3, results := [.t 6], body :=
    (.seq
      (.region false [⟨some 6, .mv, [.c (.b false)], none⟩] [6])
      (.seq
        (.region false [⟨some 7, .mv, [.t 1], none⟩,
          ⟨some 8, .mv, [.t 0], none⟩,
          ⟨some 9, .bin .leq, [.t 7, .t 8], none⟩,
          ⟨some 10, .mv, [.t 9], none⟩,
          ⟨some 11, .mv, [.t 0], some (10, true)⟩,
          ⟨some 12, .mv, [.t 2], some (10, true)⟩,
          ⟨some 13, .bin .leq, [.t 11, .t 12], some (10, true)⟩,
          ⟨some 14, .pick, [.t 10, .t 13, .c (.b false)], none⟩,
          ⟨some 6, .mv, [.t 14], none⟩] [0, 1, 2, 7, 8, 9, 10, 11, 12, 13, 14])
        .ret)) }
/-- impl.partsTaken -/
def F_impl_partsTaken : LF :=
  { nparams := 1, results := [.t 2], body :=
    (.seq
      (.region false [⟨some 2, .mv, [.c (.i 0)], none⟩] [2])
      (.seq
        (.seq
          (.region false [⟨some 3, .mv, [.t 0], none⟩] [0])
          (.block 0
            (.seq
              (.region false [⟨some 5, .bin .eql, [.t 3, .c (.i 0)], none⟩,
                ⟨some 4, .mv, [.t 5], none⟩] [5])
              (.cond (.t 4) [4]
                (.seq
                  (.region false [⟨some 2, .mv, [.c (.i 0)], none⟩] [3])
                  .ret)
                (.seq
                  (.region false [⟨some 7, .bin .eql, [.t 3, .c (.i 1)], none⟩,
                    ⟨some 6, .mv, [.t 7], none⟩] [3, 7])
                  (.cond (.t 6) [6]
                    (.seq
                      (.region false [⟨some 2, .mv, [.c (.i 1)], none⟩] [])
                      .ret)
                    .skip))))))
        (.seq
          (.region false [⟨some 2, .mv, [.c (.i 2)], none⟩] [])
          .ret))) }
/-- impl.markOk -/
def F_impl_markOk : LF :=
  { nparams := 2, results := [.t 4], body :=
    (.seq
      (.region false [⟨some 3, .box 1552, [.t 1], none⟩,
        ⟨some 4, .mv, [.c (.b false)], none⟩] [1, 4])
      (.seq
        (.seq
          (.region false [⟨some 5, .fld 0 1 false, [.t 3], none⟩,
            ⟨some 6, .load 1 false, [.t 5], none⟩,
            ⟨some 7, .bin .eql, [.t 6, .c (.i 0)], none⟩] [5, 6])
          (.cond (.t 7) [7]
            (.seq
              (.region false [⟨some 8, .fld 1 1 false, [.t 3], none⟩,
                ⟨some 9, .load 1 false, [.t 8], none⟩,
                ⟨some 10, .mv, [.t 0], none⟩,
                ⟨some 11, .bin .sub, [.t 10, .c (.i 1)], none⟩,
                ⟨some 12, .call n_impl_isWithin 6144, [.t 9, .c (.i 0), .t 11], none⟩,
                ⟨some 4, .mv, [.t 12], none⟩] [0, 3, 8, 9, 10, 11, 12])
              .ret)
            .skip))
        (.seq
          (.region false [⟨some 13, .fld 0 1 false, [.t 3], none⟩,
            ⟨some 14, .load 1 false, [.t 13], none⟩,
            ⟨some 15, .call n_impl_isWithin 7680, [.t 14, .c (.i 1), .c (.i 3)], none⟩,
            ⟨some 16, .mv, [.t 15], none⟩,
            ⟨some 17, .fld 1 1 false, [.t 3], some (16, true)⟩,
            ⟨some 18, .load 1 false, [.t 17], some (16, true)⟩,
            ⟨some 19, .bin .eql, [.t 18, .c (.i 0)], some (16, true)⟩,
            ⟨some 20, .pick, [.t 16, .t 19, .c (.b false)], none⟩,
            ⟨some 4, .mv, [.t 20], none⟩] [0, 3, 13, 14, 15, 16, 17, 18, 19, 20])
          .ret))) }
/-- impl.KnownOk -/
def F_impl_KnownOk_L0 : LC :=
  (.seq
    (.region false [⟨some 19, .bin .lss, [.t 18, .t 17], none⟩] [])
    (.seq
      (.cond (.t 19) [19]
        .skip
        (.exit 0))
      (.seq
        (.block 1
          (.seq
            (.region false [⟨some 20, .idxa 1, [.t 16, .t 18], none⟩,
              ⟨some 21, .load 1 false, [.t 20], none⟩,
              ⟨some 6, .mv, [.t 21], none⟩] [20, 21])
            (.seq
              (.region false [⟨some 22, .mv, [.t 6], none⟩,
                ⟨some 23, .bin .neq, [.t 22, .c (.i (-1))], none⟩,
                ⟨some 24, .mv, [.t 23], none⟩,
                ⟨some 25, .mv, [.t 6], some (24, true)⟩,
                ⟨some 26, .bin .neq, [.t 25, .c (.i 0)], some (24, true)⟩,
                ⟨some 27, .pick, [.t 24, .t 26, .c (.b false)], none⟩,
                ⟨some 28, .mv, [.t 27], none⟩,
                ⟨some 29, .mv, [.t 6], some (28, true)⟩,
                ⟨some 30, .bin .neq, [.t 29, .c (.i 1)], some (28, true)⟩,
                ⟨some 31, .pick, [.t 28, .t 30, .c (.b false)], none⟩] [6, 22, 23, 24, 25, 26, 27, 28, 29, 30])
              (.cond (.t 31) [31]
                (.seq
                  (.region false [⟨some 4, .mv, [.c (.b false)], none⟩] [16, 17, 18])
                  .ret)
                .skip))))
        (.region false [⟨some 32, .bin .add, [.t 18, .c (.i 1)], none⟩,
          ⟨some 18, .mv, [.t 32], none⟩] [32]))))
def F_impl_KnownOk_W0 : LC := .loop F_impl_KnownOk_L0
def F_impl_KnownOk : LF :=
  { nparams := 2, results := [.t 4], body :=
    (.seq
      (.region false [⟨some 4, .mv, [.c (.b false)], none⟩] [4])
      (.seq
        (.seq
          (.region false [⟨some 7, .mv, [.t 0], none⟩,
            ⟨some 8, .call n_impl_manyOk 4096, [.t 7], none⟩,
            ⟨some 9, .un .not, [.t 8], none⟩,
            ⟨some 10, .mv, [.t 9], none⟩,
            ⟨some 11, .mv, [.t 1], some (10, false)⟩,
            ⟨some 12, .len, [.t 11], some (10, false)⟩,
            ⟨some 13, .mv, [.t 0], some (10, false)⟩,
            ⟨some 14, .bin .neq, [.t 12, .t 13], some (10, false)⟩,
            ⟨some 15, .pick, [.t 10, .c (.b true), .t 14], none⟩] [0, 7, 8, 9, 10, 11, 12, 13, 14])
          (.cond (.t 15) [15]
            (.seq
              (.region false [⟨some 4, .mv, [.c (.b false)], none⟩] [1])
              .ret)
            .skip))
        (.seq
          (.seq
            (.region false [⟨some 16, .mv, [.t 1], none⟩,
              ⟨some 17, .len, [.t 16], none⟩,
              ⟨some 18, .mv, [.c (.i 0)], none⟩] [1])
            (.block 0
              F_impl_KnownOk_W0))
          (.seq
            (.region false [⟨some 4, .mv, [.c (.b true)], none⟩] [16, 17, 18])
            .ret)))) }
/-- impl.agreeingStates -/
def F_impl_agreeingStates_L0 : LC :=
  (.seq
    (.region false [⟨some 9, .bin .lss, [.t 8, .t 7], none⟩] [])
    (.seq
      (.cond (.t 9) [9]
        .skip
        (.exit 0))
      (.seq
        (.block 1
          (.seq
            (.region false [⟨some 10, .mv, [.t 8], none⟩,
              ⟨some 11, .idxa 1, [.t 6, .t 8], none⟩,
              ⟨some 12, .load 1 false, [.t 11], none⟩,
              ⟨some 4, .mv, [.t 10], none⟩,
              ⟨some 5, .mv, [.t 12], none⟩] [10, 11, 12])
            (.seq
              (.region false [⟨some 13, .mv, [.t 5], none⟩] [5])
              (.block 2
                (.seq
                  (.region false [⟨some 15, .bin .eql, [.t 13, .c (.i 0)], none⟩,
                    ⟨some 14, .mv, [.t 15], none⟩] [15])
                  (.cond (.t 14) [14]
                    (.region false [⟨some 16, .mv, [.t 3], none⟩,
                      ⟨some 17, .mv, [.t 4], none⟩,
                      ⟨some 18, .idxp 5 1, [.t 1048576, .t 17], none⟩,
                      ⟨some 19, .load 1 false, [.t 18], none⟩,
                      ⟨some 20, .bin .andNot, [.t 16, .t 19], none⟩,
                      ⟨some 3, .mv, [.t 20], none⟩] [4, 13, 16, 17, 18, 19, 20])
                    (.seq
                      (.region false [⟨some 22, .bin .eql, [.t 13, .c (.i 1)], none⟩,
                        ⟨some 21, .mv, [.t 22], none⟩] [13, 22])
                      (.cond (.t 21) [21]
                        (.region false [⟨some 23, .mv, [.t 3], none⟩,
                          ⟨some 24, .mv, [.t 4], none⟩,
                          ⟨some 25, .idxp 5 1, [.t 1048576, .t 24], none⟩,
                          ⟨some 26, .load 1 false, [.t 25], none⟩,
                          ⟨some 27, .bin .and, [.t 23, .t 26], none⟩,
                          ⟨some 3, .mv, [.t 27], none⟩] [4, 23, 24, 25, 26, 27])
                        .skip))))))))
        (.region false [⟨some 28, .bin .add, [.t 8, .c (.i 1)], none⟩,
          ⟨some 8, .mv, [.t 28], none⟩] [4, 28]))))
def F_impl_agreeingStates_W0 : LC := .loop F_impl_agreeingStates_L0
def F_impl_agreeingStates : LF :=
  { gl := [0], nparams := 1, results := [.t 2], body :=
    (.seq
      (.region false [⟨some 2, .mv, [.c (.w (0#32))], none⟩] [2])
      (.seq
        (.region false [⟨some 3, .mv, [.c (.w (4294967295#32))], none⟩] [])
        (.seq
          (.seq
            (.region false [⟨some 6, .mv, [.t 0], none⟩,
              ⟨some 7, .len, [.t 6], none⟩,
              ⟨some 8, .mv, [.c (.i 0)], none⟩] [0])
            (.block 0
              F_impl_agreeingStates_W0))
          (.seq
            (.region false [⟨some 29, .mv, [.t 3], none⟩,
              ⟨some 2, .mv, [.t 29], none⟩] [3, 6, 7, 8, 29])
            .ret)))) }
/-- impl.outcomeIn -/
def F_impl_outcomeIn : LF :=
  { nparams := 2, results := [.t 4], body :=
    (.seq
      (.region false [⟨some 4, .mv, [.c (.i 0)], none⟩] [4])
      (.seq
        (.region false [⟨some 5, .mv, [.t 0], none⟩,
          ⟨some 6, .mv, [.t 1], none⟩,
          ⟨some 7, .bin .shr, [.t 5, .t 6], none⟩,
          ⟨some 8, .bin .and, [.t 7, .c (.i 1)], none⟩,
          ⟨some 4, .mv, [.t 8], none⟩] [0, 1, 5, 6, 7, 8])
        .ret)) }
/-- spec.l1Agrees -/
def F_spec_l1Agrees_L0 : LC :=
  (.seq
    (.seq
      (.region false [⟨some 6, .mv, [.t 5], none⟩,
        ⟨some 7, .mv, [.t 0], none⟩,
        ⟨some 8, .len, [.t 7], none⟩,
        ⟨some 9, .bin .lss, [.t 6, .t 8], none⟩] [6, 7, 8])
      (.cond (.t 9) [9]
        .skip
        (.exit 0)))
    (.seq
      (.block 1
        (.seq
          (.region true [⟨some 12, .mv, [.t 0], none⟩,
            ⟨some 13, .mv, [.t 5], none⟩,
            ⟨some 14, .idxa 1, [.t 12, .t 13], none⟩,
            ⟨some 15, .load 1 false, [.t 14], none⟩,
            ⟨some 16, .bin .neq, [.t 15, .c (.i (-1))], none⟩,
            ⟨some 17, .mv, [.t 16], none⟩,
            ⟨some 18, .mv, [.t 0], some (17, true)⟩,
            ⟨some 19, .mv, [.t 5], some (17, true)⟩,
            ⟨some 20, .idxa 1, [.t 18, .t 19], some (17, true)⟩,
            ⟨some 21, .load 1 false, [.t 20], some (17, true)⟩,
            ⟨some 22, .mv, [.t 1], some (17, true)⟩,
            ⟨some 23, .mv, [.t 5], some (17, true)⟩,
            ⟨some 24, .bin .shr, [.t 22, .t 23], some (17, true)⟩,
            ⟨some 25, .bin .rem, [.t 24, .c (.i 2)], some (17, true)⟩,
            ⟨some 26, .bin .neq, [.t 21, .t 25], some (17, true)⟩,
            ⟨some 27, .pick, [.t 17, .t 26, .c (.b false)], none⟩] [12, 13, 14, 15, 16, 17, 18, 19, 20, 21, 22, 23, 24, 25, 26])
          (.cond (.t 27) [27]
            (.seq
              (.region false [⟨some 4, .mv, [.c (.b false)], none⟩] [0, 1, 5])
              .ret)
            .skip)))
      (.region false [⟨some 10, .mv, [.t 5], none⟩,
        ⟨some 11, .bin .add, [.t 10, .c (.i 1)], none⟩,
        ⟨some 5, .mv, [.t 11], none⟩] [10, 11])))
def F_spec_l1Agrees_W0 : LC := .loop F_spec_l1Agrees_L0
def F_spec_l1Agrees : LF :=
  { nparams := 2, results := [.t 4], body :=
    (.seq
      (.region false [⟨some 4, .mv, [.c (.b false)], none⟩] [4])
      (.seq
        (.seq
          (.region false [⟨some 5, .mv, [.c (.i 0)], none⟩] [])
          (.block 0
            F_spec_l1Agrees_W0))
        (.seq
          (.region false [⟨some 4, .mv, [.c (.b true)], none⟩] [0, 1, 5])
          .ret))) }
/-- impl.hasTest -/
def F_impl_hasTest : LF :=
  { nparams := 2, results := [.t 4], body :=
    (.seq
      (.region false [⟨some 4, .mv, [.c (.b false)], none⟩] [4])
      (.seq
        (.region false [⟨some 5, .mv, [.t 0], none⟩,
          ⟨some 6, .mv, [.t 1], none⟩,
          ⟨some 7, .bin .shr, [.t 5, .t 6], none⟩,
          ⟨some 8, .bin .and, [.t 7, .c (.i 1)], none⟩,
          ⟨some 9, .bin .eql, [.t 8, .c (.i 1)], none⟩,
          ⟨some 4, .mv, [.t 9], none⟩] [0, 1, 5, 6, 7, 8, 9])
        .ret)) }
/-- spec.l2Starts -/
def F_spec_l2Starts_L0 : LC :=
  (.seq
    (.seq
      (.region false [⟨some 8, .mv, [.t 5], none⟩,
        ⟨some 9, .bin .gtr, [.t 8, .c (.i 0)], none⟩] [8])
      (.cond (.t 9) [9]
        .skip
        (.exit 0)))
    (.block 1
      (.seq
        (.seq
          (.region false [⟨some 10, .mv, [.t 0], none⟩,
            ⟨some 11, .mv, [.t 6], none⟩,
            ⟨some 12, .idxa 2, [.t 10, .t 11], none⟩,
            ⟨some 13, .fld 0 1 false, [.t 12], none⟩,
            ⟨some 14, .load 1 false, [.t 13], none⟩] [10, 11, 12, 13])
          (.block 2
            (.seq
              (.region false [⟨some 18, .bin .eql, [.t 14, .c (.i 0)], none⟩,
                ⟨some 17, .mv, [.t 18], none⟩] [18])
              (.cond (.t 17) [17]
                (.region false [⟨some 19, .mv, [.t 5], none⟩,
                  ⟨some 20, .bin .sub, [.t 19, .c (.i 1)], none⟩,
                  ⟨some 5, .mv, [.t 20], none⟩] [14, 19, 20])
                (.seq
                  (.region false [⟨some 22, .bin .eql, [.t 14, .c (.i 1)], none⟩,
                    ⟨some 21, .mv, [.t 22], none⟩] [14, 22])
                  (.cond (.t 21) [21]
                    .skip
                    (.region false [⟨some 15, .mv, [.t 5], none⟩,
                      ⟨some 16, .bin .add, [.t 15, .c (.i 1)], none⟩,
                      ⟨some 5, .mv, [.t 16], none⟩] [15, 16])))))))
        (.region false [⟨some 23, .mv, [.t 6], none⟩,
          ⟨some 24, .bin .sub, [.t 23, .c (.i 1)], none⟩,
          ⟨some 6, .mv, [.t 24], none⟩] [23, 24]))))
def F_spec_l2Starts_W0 : LC := .loop F_spec_l2Starts_L0
def F_spec_l2Starts : LF :=
  { nparams := 2, results := [.t 4], body :=
    (.seq
      (.region false [⟨some 4, .mv, [.c (.i 0)], none⟩] [4])
      (.seq
        (.region false [⟨some 5, .mv, [.c (.i 1)], none⟩] [])
        (.seq
          (.region false [⟨some 7, .mv, [.t 1], none⟩,
            ⟨some 6, .mv, [.t 7], none⟩] [1, 7])
          (.seq
            (.block 0
              F_spec_l2Starts_W0)
            (.seq
              (.region false [⟨some 25, .mv, [.t 6], none⟩,
                ⟨some 26, .bin .add, [.t 25, .c (.i 1)], none⟩,
                ⟨some 4, .mv, [.t 26], none⟩] [0, 5, 6, 25, 26])
              .ret))))) }
/-- impl.foldTerm[uint32] -/
def F_impl_foldTerm_uint32_L0 : LC :=
  (.ghost (.rename 5 2568)
  (.seq
    (.region false [⟨some 13, .bin .lss, [.t 12, .t 11], none⟩] [])
    (.seq
      (.cond (.t 13) [13]
        .skip
        (.exit 0))
      (.seq
        (.block 1
          (.seq
            (.region false [⟨some 14, .idxa 2, [.t 10, .t 12], none⟩,
              ⟨some 15, .load 2 true, [.t 14], none⟩,
              ⟨some 7, .alloc 3600 (.st [.i 0, .i 0]), [], none⟩,
              ⟨none, .store 2, [.t 7, .t 15], none⟩] [14, 15])
            (.seq
              (.region false [⟨some 16, .mv, [.t 5], none⟩,
                ⟨some 17, .len, [.t 16], none⟩,
                ⟨some 18, .fld 0 1 false, [.t 7], none⟩,
                ⟨some 19, .load 1 false, [.t 18], none⟩,
                ⟨some 20, .call n_impl_partsTaken 10240, [.t 19], none⟩,
                ⟨some 21, .bin .sub, [.t 17, .t 20], none⟩,
                ⟨some 8, .mv, [.t 21], none⟩] [16, 17, 18, 19, 20, 21])
              (.seq
                (.region true [⟨some 22, .mv, [.t 1], none⟩,
                  ⟨some 23, .load 2 true, [.t 7], none⟩,
                  ⟨some 24, .mv, [.t 5], none⟩,
                  ⟨some 25, .mv, [.t 8], none⟩,
                  ⟨some 26, .slice true false 1, [.t 24, .t 25], none⟩,
                  ⟨some 27, .calld 13824, [.t 22, .t 23, .t 26], none⟩,
                  ⟨some 9, .mv, [.t 27], none⟩] [7, 22, 23, 24, 25, 26, 27])
                (.region false [⟨some 28, .mv, [.t 5], none⟩,
                  ⟨some 29, .mv, [.t 8], none⟩,
                  ⟨some 30, .slice false true 1, [.t 28, .t 29], none⟩,
                  ⟨some 31, .mv, [.t 9], none⟩,
                  ⟨some 32, .bslice 16392 1 1 (.w (0#32)) [0], [.t 31], none⟩,
                  ⟨some 33, .app 16904 1, [.t 30, .t 32], none⟩,
                  ⟨some 5, .mv, [.t 33], none⟩] [8, 9, 28, 29, 30, 31, 32, 33])))))
        (.region false [⟨some 34, .bin .add, [.t 12, .c (.i 1)], none⟩,
          ⟨some 12, .mv, [.t 34], none⟩] [34])))))
def F_impl_foldTerm_uint32_W0 : LC := .loop F_impl_foldTerm_uint32_L0
def F_impl_foldTerm_uint32 : LF :=
  { nparams := 2, results := [.t 4], body :=
    (.seq
      (.region false [⟨some 4, .mv, [.c (.w (0#32))], none⟩] [4])
      (.seq
        (.region false [⟨some 5, .newnil 2568, [], none⟩] [])
        (.seq
          (.seq
            (.region false [⟨some 10, .mv, [.t 0], none⟩,
              ⟨some 11, .len, [.t 10], none⟩,
              ⟨some 12, .mv, [.c (.i 0)], none⟩] [0])
            (.block 0
              F_impl_foldTerm_uint32_W0))
          (.seq
            (.region false [⟨some 35, .mv, [.t 5], none⟩,
              ⟨some 36, .idxa 1, [.t 35, .c (.i 0)], none⟩,
              ⟨some 37, .load 1 false, [.t 36], none⟩,
              ⟨some 4, .mv, [.t 37], none⟩] [1, 5, 10, 11, 12, 35, 36, 37])
            .ret)))) }
/-- impl.statesOfPart -/
def F_impl_statesOfPart : LF :=
  { gl := [0], nparams := 2, results := [.t 4], body :=
    (.seq
      (.region false [⟨some 2, .box 1040, [.t 0], none⟩,
        ⟨some 4, .mv, [.c (.w (0#32))], none⟩] [0, 4])
      (.seq
        (.seq
          (.region false [⟨some 5, .fld 0 1 false, [.t 2], none⟩,
            ⟨some 6, .load 1 false, [.t 5], none⟩] [5])
          (.block 0
            (.seq
              (.region false [⟨some 8, .bin .eql, [.t 6, .c (.i 0)], none⟩,
                ⟨some 7, .mv, [.t 8], none⟩] [8])
              (.cond (.t 7) [7]
                (.seq
                  (.region false [⟨some 9, .fld 1 1 false, [.t 2], none⟩,
                    ⟨some 10, .load 1 false, [.t 9], none⟩,
                    ⟨some 11, .idxp 5 1, [.t 1048576, .t 10], none⟩,
                    ⟨some 12, .load 1 false, [.t 11], none⟩,
                    ⟨some 4, .mv, [.t 12], none⟩] [1, 2, 6, 9, 10, 11, 12])
                  .ret)
                (.seq
                  (.region false [⟨some 14, .bin .eql, [.t 6, .c (.i 1)], none⟩,
                    ⟨some 13, .mv, [.t 14], none⟩] [2, 14])
                  (.cond (.t 13) [13]
                    (.seq
                      (.region false [⟨some 15, .mv, [.t 1], none⟩,
                        ⟨some 16, .idxa 1, [.t 15, .c (.i 0)], none⟩,
                        ⟨some 17, .load 1 false, [.t 16], none⟩,
                        ⟨some 18, .un .xor, [.t 17], none⟩,
                        ⟨some 4, .mv, [.t 18], none⟩] [1, 6, 15, 16, 17, 18])
                      .ret)
                    (.seq
                      (.region false [⟨some 20, .bin .eql, [.t 6, .c (.i 2)], none⟩,
                        ⟨some 19, .mv, [.t 20], none⟩] [6, 20])
                      (.cond (.t 19) [19]
                        (.seq
                          (.region true [⟨some 21, .mv, [.t 1], none⟩,
                            ⟨some 22, .idxa 1, [.t 21, .c (.i 0)], none⟩,
                            ⟨some 23, .load 1 false, [.t 22], none⟩,
                            ⟨some 24, .mv, [.t 1], none⟩,
                            ⟨some 25, .idxa 1, [.t 24, .c (.i 1)], none⟩,
                            ⟨some 26, .load 1 false, [.t 25], none⟩,
                            ⟨some 27, .bin .and, [.t 23, .t 26], none⟩,
                            ⟨some 4, .mv, [.t 27], none⟩] [1, 21, 22, 23, 24, 25, 26, 27])
                          .ret)
                        .skip))))))))
        (.seq
          (.region true [⟨some 28, .mv, [.t 1], none⟩,
            ⟨some 29, .idxa 1, [.t 28, .c (.i 0)], none⟩,
            ⟨some 30, .load 1 false, [.t 29], none⟩,
            ⟨some 31, .mv, [.t 1], none⟩,
            ⟨some 32, .idxa 1, [.t 31, .c (.i 1)], none⟩,
            ⟨some 33, .load 1 false, [.t 32], none⟩,
            ⟨some 34, .bin .or, [.t 30, .t 33], none⟩,
            ⟨some 4, .mv, [.t 34], none⟩] [1, 28, 29, 30, 31, 32, 33, 34])
          .ret))) }
def lf : Nat → Option LF
  | 4 => some F_laws_FnExactLeastProofs
  | 11 => some F_laws_szMarkS
  | 13 => some F_laws_toMarkS
  | 14 => some F_impl_ProofOk
  | 15 => some F_laws_eqMarkS
  | 16 => some F_spec_LeastProofs
  | 17 => some F_impl_LeastProofs
  | 18 => some F_laws_eqIntS
  | 19 => some F_laws_markMarkS
  | 20 => some F_laws_markIntS
  | 21 => some F_laws_heldIntS
  | 34 => some F_spec_TermOk
  | 35 => some F_spec_StateOk
  | 38 => some F_impl_TermOk
  | 40 => some F_impl_ForcedBy
  | 44 => some F_spec_l3Forced
  | 45 => some F_spec_l3Table
  | 46 => some F_spec_l3Told
  | 47 => some F_laws_toMark
  | 48 => some F_impl_StateOk
  | 49 => some F_impl_knownBy
  | 50 => some F_laws_eqMark
  | 51 => some F_impl_setsWhere
  | 52 => some F_impl_LeastProofs_1
  | 53 => some F_impl_isLeastProof
  | 55 => some F_spec_l3Value
  | 59 => some F_impl_trueStates
  | 60 => some F_impl_statesOf
  | 69 => some F_spec_l1In
  | 70 => some F_impl_manyOk
  | 71 => some F_impl_isWithin
  | 72 => some F_impl_partsTaken
  | 73 => some F_impl_markOk
  | 77 => some F_impl_KnownOk
  | 78 => some F_impl_agreeingStates
  | 80 => some F_impl_outcomeIn
  | 81 => some F_spec_l1Agrees
  | 82 => some F_impl_hasTest
  | 83 => some F_spec_l2Starts
  | 84 => some F_impl_foldTerm_uint32
  | 85 => some F_impl_statesOfPart
  | _ => none
theorem w_laws_toMarkS_0 (S : LS) : ex lf F_laws_toMarkS_W0 S = match ex lf F_laws_toMarkS_L0 S with | some (.normal, S1) => ex lf F_laws_toMarkS_W0 S1 | r => r := ex_loop lf F_laws_toMarkS_L0 S
theorem w_laws_eqMarkS_0 (S : LS) : ex lf F_laws_eqMarkS_W0 S = match ex lf F_laws_eqMarkS_L0 S with | some (.normal, S1) => ex lf F_laws_eqMarkS_W0 S1 | r => r := ex_loop lf F_laws_eqMarkS_L0 S
theorem w_spec_LeastProofs_1 (S : LS) : ex lf F_spec_LeastProofs_W1 S = match ex lf F_spec_LeastProofs_L1 S with | some (.normal, S1) => ex lf F_spec_LeastProofs_W1 S1 | r => r := ex_loop lf F_spec_LeastProofs_L1 S
theorem w_spec_LeastProofs_0 (S : LS) : ex lf F_spec_LeastProofs_W0 S = match ex lf F_spec_LeastProofs_L0 S with | some (.normal, S1) => ex lf F_spec_LeastProofs_W0 S1 | r => r := ex_loop lf F_spec_LeastProofs_L0 S
theorem w_laws_eqIntS_0 (S : LS) : ex lf F_laws_eqIntS_W0 S = match ex lf F_laws_eqIntS_L0 S with | some (.normal, S1) => ex lf F_laws_eqIntS_W0 S1 | r => r := ex_loop lf F_laws_eqIntS_L0 S
theorem w_laws_markMarkS_0 (S : LS) : ex lf F_laws_markMarkS_W0 S = match ex lf F_laws_markMarkS_L0 S with | some (.normal, S1) => ex lf F_laws_markMarkS_W0 S1 | r => r := ex_loop lf F_laws_markMarkS_L0 S
theorem w_laws_markIntS_0 (S : LS) : ex lf F_laws_markIntS_W0 S = match ex lf F_laws_markIntS_L0 S with | some (.normal, S1) => ex lf F_laws_markIntS_W0 S1 | r => r := ex_loop lf F_laws_markIntS_L0 S
theorem w_laws_heldIntS_0 (S : LS) : ex lf F_laws_heldIntS_W0 S = match ex lf F_laws_heldIntS_L0 S with | some (.normal, S1) => ex lf F_laws_heldIntS_W0 S1 | r => r := ex_loop lf F_laws_heldIntS_L0 S
theorem w_spec_TermOk_0 (S : LS) : ex lf F_spec_TermOk_W0 S = match ex lf F_spec_TermOk_L0 S with | some (.normal, S1) => ex lf F_spec_TermOk_W0 S1 | r => r := ex_loop lf F_spec_TermOk_L0 S
theorem w_impl_TermOk_0 (S : LS) : ex lf F_impl_TermOk_W0 S = match ex lf F_impl_TermOk_L0 S with | some (.normal, S1) => ex lf F_impl_TermOk_W0 S1 | r => r := ex_loop lf F_impl_TermOk_L0 S
theorem w_spec_l3Forced_0 (S : LS) : ex lf F_spec_l3Forced_W0 S = match ex lf F_spec_l3Forced_L0 S with | some (.normal, S1) => ex lf F_spec_l3Forced_W0 S1 | r => r := ex_loop lf F_spec_l3Forced_L0 S
theorem w_spec_l3Table_0 (S : LS) : ex lf F_spec_l3Table_W0 S = match ex lf F_spec_l3Table_L0 S with | some (.normal, S1) => ex lf F_spec_l3Table_W0 S1 | r => r := ex_loop lf F_spec_l3Table_L0 S
theorem w_spec_l3Told_0 (S : LS) : ex lf F_spec_l3Told_W0 S = match ex lf F_spec_l3Told_L0 S with | some (.normal, S1) => ex lf F_spec_l3Told_W0 S1 | r => r := ex_loop lf F_spec_l3Told_L0 S
theorem w_impl_knownBy_0 (S : LS) : ex lf F_impl_knownBy_W0 S = match ex lf F_impl_knownBy_L0 S with | some (.normal, S1) => ex lf F_impl_knownBy_W0 S1 | r => r := ex_loop lf F_impl_knownBy_L0 S
theorem w_impl_setsWhere_0 (S : LS) : ex lf F_impl_setsWhere_W0 S = match ex lf F_impl_setsWhere_L0 S with | some (.normal, S1) => ex lf F_impl_setsWhere_W0 S1 | r => r := ex_loop lf F_impl_setsWhere_L0 S
theorem w_impl_isLeastProof_0 (S : LS) : ex lf F_impl_isLeastProof_W0 S = match ex lf F_impl_isLeastProof_L0 S with | some (.normal, S1) => ex lf F_impl_isLeastProof_W0 S1 | r => r := ex_loop lf F_impl_isLeastProof_L0 S
theorem w_impl_KnownOk_0 (S : LS) : ex lf F_impl_KnownOk_W0 S = match ex lf F_impl_KnownOk_L0 S with | some (.normal, S1) => ex lf F_impl_KnownOk_W0 S1 | r => r := ex_loop lf F_impl_KnownOk_L0 S
theorem w_impl_agreeingStates_0 (S : LS) : ex lf F_impl_agreeingStates_W0 S = match ex lf F_impl_agreeingStates_L0 S with | some (.normal, S1) => ex lf F_impl_agreeingStates_W0 S1 | r => r := ex_loop lf F_impl_agreeingStates_L0 S
theorem w_spec_l1Agrees_0 (S : LS) : ex lf F_spec_l1Agrees_W0 S = match ex lf F_spec_l1Agrees_L0 S with | some (.normal, S1) => ex lf F_spec_l1Agrees_W0 S1 | r => r := ex_loop lf F_spec_l1Agrees_L0 S
theorem w_spec_l2Starts_0 (S : LS) : ex lf F_spec_l2Starts_W0 S = match ex lf F_spec_l2Starts_L0 S with | some (.normal, S1) => ex lf F_spec_l2Starts_W0 S1 | r => r := ex_loop lf F_spec_l2Starts_L0 S
theorem w_impl_foldTerm_uint32_0 (S : LS) : ex lf F_impl_foldTerm_uint32_W0 S = match ex lf F_impl_foldTerm_uint32_L0 S with | some (.normal, S1) => ex lf F_impl_foldTerm_uint32_W0 S1 | r => r := ex_loop lf F_impl_foldTerm_uint32_L0 S
end Zz
