/- The functions of the program, read as data. No conditions. -/
import Derived.Test.YtadlmpjlkfbnfabLg22
namespace Zz
open Go.Lg
def n_laws_FnExactWeightOf : Nat := 3
def n_laws_FnExactKnownOk : Nat := 5
def n_laws_FnExactAgreesOk : Nat := 6
def n_laws_FnExactWeightWhere : Nat := 7
def n_laws_FnExactCostOf : Nat := 8
def n_laws_FnExactLikeliestState : Nat := 9
def n_laws_FnExactTermOk : Nat := 10
def n_laws_FnExactLettersOf : Nat := 11
def n_laws_FnExactOnceOk : Nat := 12
def n_laws_szTestS : Nat := 15
def n_spec_WeightOf : Nat := 16
def n_laws_toTestS : Nat := 17
def n_impl_WeightOf : Nat := 18
def n_laws_eqTestS : Nat := 19
def n_spec_KnownOk : Nat := 24
def n_laws_toIntS : Nat := 25
def n_impl_KnownOk : Nat := 26
def n_laws_eqIntS : Nat := 27
def n_spec_AgreesOk : Nat := 28
def n_impl_AgreesOk : Nat := 29
def n_spec_WeightWhere : Nat := 30
def n_impl_WeightWhere : Nat := 31
def n_spec_CostOf : Nat := 32
def n_impl_CostOf : Nat := 33
def n_spec_LikeliestState : Nat := 34
def n_impl_LikeliestState : Nat := 35
def n_laws_szMarkS : Nat := 36
def n_spec_TermOk : Nat := 37
def n_laws_toMarkS : Nat := 38
def n_impl_TermOk : Nat := 39
def n_laws_eqMarkS : Nat := 40
def n_spec_LettersOf : Nat := 41
def n_impl_LettersOf : Nat := 42
def n_spec_OnceOk : Nat := 43
def n_impl_OnceOk : Nat := 44
def n_spec_TestsOk : Nat := 51
def n_spec_StateOk : Nat := 52
def n_spec_l1Weight : Nat := 53
def n_laws_toTest : Nat := 54
def n_impl_TestsOk : Nat := 55
def n_impl_StateOk : Nat := 56
def n_impl_outcomeIn : Nat := 57
def n_laws_eqTest : Nat := 58
def n_spec_l1In : Nat := 59
def n_impl_manyOk : Nat := 60
def n_spec_l1Agrees : Nat := 61
def n_impl_statesOf : Nat := 62
def n_laws_toMark : Nat := 63
def n_impl_isWithin : Nat := 64
def n_impl_partsTaken : Nat := 65
def n_impl_markOk : Nat := 66
def n_laws_eqMark : Nat := 67
/-- laws.FnExactWeightOf -/
def F_laws_FnExactWeightOf : LF :=
  { nparams := 2, results := [.t 4], body :=
    (.seq
      (.region false [⟨some 4, .mv, [.c (.b false)], none⟩] [4])
      (.seq
        (.region false [⟨some 5, .mv, [.c (.i 1048576)], none⟩] [])
        (.seq
          (.region false [⟨some 9, .mv, [.t 0], none⟩,
            ⟨some 10, .mv, [.t 5], none⟩,
            ⟨some 11, .call n_laws_szTestS 5632, [.t 9, .t 10], none⟩,
            ⟨some 5, .mv, [.t 11], none⟩] [9, 10, 11])
          (.seq
            (.seq
              (.region false [⟨some 12, .mv, [.t 5], none⟩,
                ⟨some 13, .bin .lss, [.t 12, .c (.i 0)], none⟩] [5, 12])
              (.cond (.t 13) [13]
                (.seq
                  (.region false [⟨some 4, .mv, [.c (.b true)], none⟩] [0, 1])
                  .ret)
                .skip))
            (.seq
              (.region false [⟨some 14, .mv, [.t 0], none⟩,
                ⟨some 15, .call n_laws_toTestS 7680, [.t 14], none⟩,
                ⟨some 16, .mv, [.t 1], none⟩,
                ⟨some 17, .call n_spec_WeightOf 8704, [.t 15, .t 16], none⟩,
                ⟨some 6, .mv, [.t 17], none⟩] [14, 15, 16, 17])
              (.seq
                (.region false [⟨some 18, .mv, [.t 0], none⟩,
                  ⟨some 19, .call n_laws_toTestS 9728, [.t 18], none⟩,
                  ⟨some 7, .mv, [.t 19], none⟩] [18, 19])
                (.seq
                  (.region false [⟨some 20, .mv, [.t 7], none⟩,
                    ⟨some 21, .mv, [.t 1], none⟩,
                    ⟨some 22, .call n_impl_WeightOf 11264, [.t 20, .t 21], none⟩,
                    ⟨some 8, .mv, [.t 22], none⟩] [1, 20, 21, 22])
                  (.seq
                    (.seq
                      (.region false [⟨some 23, .mv, [.t 8], none⟩,
                        ⟨some 24, .mv, [.t 6], none⟩,
                        ⟨some 25, .bin .neq, [.t 23, .t 24], none⟩] [6, 8, 23, 24])
                      (.cond (.t 25) [25]
                        (.seq
                          (.region false [⟨some 4, .mv, [.c (.b false)], none⟩] [0, 7])
                          .ret)
                        .skip))
                    (.seq
                      (.seq
                        (.region false [⟨some 26, .mv, [.t 7], none⟩,
                          ⟨some 27, .mv, [.t 0], none⟩,
                          ⟨some 28, .call n_laws_toTestS 14336, [.t 27], none⟩,
                          ⟨some 29, .call n_laws_eqTestS 14848, [.t 26, .t 28], none⟩,
                          ⟨some 30, .un .not, [.t 29], none⟩] [0, 7, 26, 27, 28, 29])
                        (.cond (.t 30) [30]
                          (.seq
                            (.region false [⟨some 4, .mv, [.c (.b false)], none⟩] [])
                            .ret)
                          .skip))
                      (.seq
                        (.region false [⟨some 4, .mv, [.c (.b true)], none⟩] [])
                        .ret)))))))))) }
/-- laws.FnExactKnownOk -/
def F_laws_FnExactKnownOk : LF :=
  { nparams := 2, results := [.t 4], body :=
    (.seq
      (.region false [⟨some 4, .mv, [.c (.b false)], none⟩] [4])
      (.seq
        (.seq
          (.region false [⟨some 8, .mv, [.t 1], none⟩,
            ⟨some 9, .len, [.t 8], none⟩,
            ⟨some 10, .bin .gtr, [.t 9, .c (.i 1048576)], none⟩] [8, 9])
          (.cond (.t 10) [10]
            (.seq
              (.region false [⟨some 4, .mv, [.c (.b true)], none⟩] [0, 1])
              .ret)
            .skip))
        (.seq
          (.region false [⟨some 11, .mv, [.t 0], none⟩,
            ⟨some 12, .mv, [.t 1], none⟩,
            ⟨some 13, .call n_laws_toIntS 6656, [.t 12], none⟩,
            ⟨some 14, .call n_spec_KnownOk 7168, [.t 11, .t 13], none⟩,
            ⟨some 5, .mv, [.t 14], none⟩] [11, 12, 13, 14])
          (.seq
            (.region false [⟨some 15, .mv, [.t 1], none⟩,
              ⟨some 16, .call n_laws_toIntS 8192, [.t 15], none⟩,
              ⟨some 6, .mv, [.t 16], none⟩] [15, 16])
            (.seq
              (.region false [⟨some 17, .mv, [.t 0], none⟩,
                ⟨some 18, .mv, [.t 6], none⟩,
                ⟨some 19, .call n_impl_KnownOk 9728, [.t 17, .t 18], none⟩,
                ⟨some 7, .mv, [.t 19], none⟩] [0, 17, 18, 19])
              (.seq
                (.seq
                  (.region false [⟨some 20, .mv, [.t 7], none⟩,
                    ⟨some 21, .mv, [.t 5], none⟩,
                    ⟨some 22, .eqb true, [.t 20, .t 21], none⟩] [5, 7, 20, 21])
                  (.cond (.t 22) [22]
                    (.seq
                      (.region false [⟨some 4, .mv, [.c (.b false)], none⟩] [1, 6])
                      .ret)
                    .skip))
                (.seq
                  (.seq
                    (.region false [⟨some 23, .mv, [.t 6], none⟩,
                      ⟨some 24, .mv, [.t 1], none⟩,
                      ⟨some 25, .call n_laws_toIntS 12800, [.t 24], none⟩,
                      ⟨some 26, .call n_laws_eqIntS 13312, [.t 23, .t 25], none⟩,
                      ⟨some 27, .un .not, [.t 26], none⟩] [1, 6, 23, 24, 25, 26])
                    (.cond (.t 27) [27]
                      (.seq
                        (.region false [⟨some 4, .mv, [.c (.b false)], none⟩] [])
                        .ret)
                      .skip))
                  (.seq
                    (.region false [⟨some 4, .mv, [.c (.b true)], none⟩] [])
                    .ret)))))))) }
/-- laws.FnExactAgreesOk -/
def F_laws_FnExactAgreesOk : LF :=
  { nparams := 3, results := [.t 6], body :=
    (.seq
      (.region false [⟨some 6, .mv, [.c (.b false)], none⟩] [6])
      (.seq
        (.seq
          (.region false [⟨some 10, .mv, [.t 1], none⟩,
            ⟨some 11, .len, [.t 10], none⟩,
            ⟨some 12, .bin .gtr, [.t 11, .c (.i 1048576)], none⟩] [10, 11])
          (.cond (.t 12) [12]
            (.seq
              (.region false [⟨some 6, .mv, [.c (.b true)], none⟩] [0, 1, 2])
              .ret)
            .skip))
        (.seq
          (.region false [⟨some 13, .mv, [.t 0], none⟩,
            ⟨some 14, .mv, [.t 1], none⟩,
            ⟨some 15, .call n_laws_toIntS 7680, [.t 14], none⟩,
            ⟨some 16, .mv, [.t 2], none⟩,
            ⟨some 17, .call n_spec_AgreesOk 8704, [.t 13, .t 15, .t 16], none⟩,
            ⟨some 7, .mv, [.t 17], none⟩] [13, 14, 15, 16, 17])
          (.seq
            (.region false [⟨some 18, .mv, [.t 1], none⟩,
              ⟨some 19, .call n_laws_toIntS 9728, [.t 18], none⟩,
              ⟨some 8, .mv, [.t 19], none⟩] [18, 19])
            (.seq
              (.region false [⟨some 20, .mv, [.t 0], none⟩,
                ⟨some 21, .mv, [.t 8], none⟩,
                ⟨some 22, .mv, [.t 2], none⟩,
                ⟨some 23, .call n_impl_AgreesOk 11776, [.t 20, .t 21, .t 22], none⟩,
                ⟨some 9, .mv, [.t 23], none⟩] [0, 2, 20, 21, 22, 23])
              (.seq
                (.seq
                  (.region false [⟨some 24, .mv, [.t 9], none⟩,
                    ⟨some 25, .mv, [.t 7], none⟩,
                    ⟨some 26, .eqb true, [.t 24, .t 25], none⟩] [7, 9, 24, 25])
                  (.cond (.t 26) [26]
                    (.seq
                      (.region false [⟨some 6, .mv, [.c (.b false)], none⟩] [1, 8])
                      .ret)
                    .skip))
                (.seq
                  (.seq
                    (.region false [⟨some 27, .mv, [.t 8], none⟩,
                      ⟨some 28, .mv, [.t 1], none⟩,
                      ⟨some 29, .call n_laws_toIntS 14848, [.t 28], none⟩,
                      ⟨some 30, .call n_laws_eqIntS 15360, [.t 27, .t 29], none⟩,
                      ⟨some 31, .un .not, [.t 30], none⟩] [1, 8, 27, 28, 29, 30])
                    (.cond (.t 31) [31]
                      (.seq
                        (.region false [⟨some 6, .mv, [.c (.b false)], none⟩] [])
                        .ret)
                      .skip))
                  (.seq
                    (.region false [⟨some 6, .mv, [.c (.b true)], none⟩] [])
                    .ret)))))))) }
/-- laws.FnExactWeightWhere -/
def F_laws_FnExactWeightWhere : LF :=
  { nparams := 2, results := [.t 4], body :=
    (.seq
      (.region false [⟨some 4, .mv, [.c (.b false)], none⟩] [4])
      (.seq
        (.seq
          (.region false [⟨some 10, .mv, [.t 1], none⟩,
            ⟨some 11, .len, [.t 10], none⟩,
            ⟨some 12, .bin .gtr, [.t 11, .c (.i 1048576)], none⟩] [10, 11])
          (.cond (.t 12) [12]
            (.seq
              (.region false [⟨some 4, .mv, [.c (.b true)], none⟩] [0, 1])
              .ret)
            .skip))
        (.seq
          (.region false [⟨some 5, .mv, [.c (.i 1048576)], none⟩] [])
          (.seq
            (.region false [⟨some 13, .mv, [.t 0], none⟩,
              ⟨some 14, .mv, [.t 5], none⟩,
              ⟨some 15, .call n_laws_szTestS 7680, [.t 13, .t 14], none⟩,
              ⟨some 5, .mv, [.t 15], none⟩] [13, 14, 15])
            (.seq
              (.seq
                (.region false [⟨some 16, .mv, [.t 5], none⟩,
                  ⟨some 17, .bin .lss, [.t 16, .c (.i 0)], none⟩] [5, 16])
                (.cond (.t 17) [17]
                  (.seq
                    (.region false [⟨some 4, .mv, [.c (.b true)], none⟩] [0, 1])
                    .ret)
                  .skip))
              (.seq
                (.region false [⟨some 18, .mv, [.t 0], none⟩,
                  ⟨some 19, .call n_laws_toTestS 9728, [.t 18], none⟩,
                  ⟨some 20, .mv, [.t 1], none⟩,
                  ⟨some 21, .call n_laws_toIntS 10752, [.t 20], none⟩,
                  ⟨some 22, .call n_spec_WeightWhere 11264, [.t 19, .t 21], none⟩,
                  ⟨some 6, .mv, [.t 22], none⟩] [18, 19, 20, 21, 22])
                (.seq
                  (.region false [⟨some 23, .mv, [.t 0], none⟩,
                    ⟨some 24, .call n_laws_toTestS 12288, [.t 23], none⟩,
                    ⟨some 7, .mv, [.t 24], none⟩] [23, 24])
                  (.seq
                    (.region false [⟨some 25, .mv, [.t 1], none⟩,
                      ⟨some 26, .call n_laws_toIntS 13312, [.t 25], none⟩,
                      ⟨some 8, .mv, [.t 26], none⟩] [25, 26])
                    (.seq
                      (.region false [⟨some 27, .mv, [.t 7], none⟩,
                        ⟨some 28, .mv, [.t 8], none⟩,
                        ⟨some 29, .call n_impl_WeightWhere 14848, [.t 27, .t 28], none⟩,
                        ⟨some 9, .mv, [.t 29], none⟩] [27, 28, 29])
                      (.seq
                        (.seq
                          (.region false [⟨some 30, .mv, [.t 9], none⟩,
                            ⟨some 31, .mv, [.t 6], none⟩,
                            ⟨some 32, .bin .neq, [.t 30, .t 31], none⟩] [6, 9, 30, 31])
                          (.cond (.t 32) [32]
                            (.seq
                              (.region false [⟨some 4, .mv, [.c (.b false)], none⟩] [0, 1, 7, 8])
                              .ret)
                            .skip))
                        (.seq
                          (.seq
                            (.region false [⟨some 33, .mv, [.t 7], none⟩,
                              ⟨some 34, .mv, [.t 0], none⟩,
                              ⟨some 35, .call n_laws_toTestS 17920, [.t 34], none⟩,
                              ⟨some 36, .call n_laws_eqTestS 18432, [.t 33, .t 35], none⟩,
                              ⟨some 37, .un .not, [.t 36], none⟩] [0, 7, 33, 34, 35, 36])
                            (.cond (.t 37) [37]
                              (.seq
                                (.region false [⟨some 4, .mv, [.c (.b false)], none⟩] [1, 8])
                                .ret)
                              .skip))
                          (.seq
                            (.seq
                              (.region false [⟨some 38, .mv, [.t 8], none⟩,
                                ⟨some 39, .mv, [.t 1], none⟩,
                                ⟨some 40, .call n_laws_toIntS 20480, [.t 39], none⟩,
                                ⟨some 41, .call n_laws_eqIntS 20992, [.t 38, .t 40], none⟩,
                                ⟨some 42, .un .not, [.t 41], none⟩] [1, 8, 38, 39, 40, 41])
                              (.cond (.t 42) [42]
                                (.seq
                                  (.region false [⟨some 4, .mv, [.c (.b false)], none⟩] [])
                                  .ret)
                                .skip))
                            (.seq
                              (.region false [⟨some 4, .mv, [.c (.b true)], none⟩] [])
                              .ret))))))))))))) }
/-- laws.FnExactCostOf -/
def F_laws_FnExactCostOf : LF :=
  { nparams := 1, results := [.t 2], body :=
    (.seq
      (.region false [⟨some 2, .mv, [.c (.b false)], none⟩] [2])
      (.seq
        (.region false [⟨some 3, .mv, [.c (.i 1048576)], none⟩] [])
        (.seq
          (.region false [⟨some 7, .mv, [.t 0], none⟩,
            ⟨some 8, .mv, [.t 3], none⟩,
            ⟨some 9, .call n_laws_szTestS 4608, [.t 7, .t 8], none⟩,
            ⟨some 3, .mv, [.t 9], none⟩] [7, 8, 9])
          (.seq
            (.seq
              (.region false [⟨some 10, .mv, [.t 3], none⟩,
                ⟨some 11, .bin .lss, [.t 10, .c (.i 0)], none⟩] [3, 10])
              (.cond (.t 11) [11]
                (.seq
                  (.region false [⟨some 2, .mv, [.c (.b true)], none⟩] [0])
                  .ret)
                .skip))
            (.seq
              (.region false [⟨some 12, .mv, [.t 0], none⟩,
                ⟨some 13, .call n_laws_toTestS 6656, [.t 12], none⟩,
                ⟨some 14, .call n_spec_CostOf 7168, [.t 13], none⟩,
                ⟨some 4, .mv, [.t 14], none⟩] [12, 13, 14])
              (.seq
                (.region false [⟨some 15, .mv, [.t 0], none⟩,
                  ⟨some 16, .call n_laws_toTestS 8192, [.t 15], none⟩,
                  ⟨some 5, .mv, [.t 16], none⟩] [15, 16])
                (.seq
                  (.region false [⟨some 17, .mv, [.t 5], none⟩,
                    ⟨some 18, .call n_impl_CostOf 9216, [.t 17], none⟩,
                    ⟨some 6, .mv, [.t 18], none⟩] [17, 18])
                  (.seq
                    (.seq
                      (.region false [⟨some 19, .mv, [.t 6], none⟩,
                        ⟨some 20, .mv, [.t 4], none⟩,
                        ⟨some 21, .bin .neq, [.t 19, .t 20], none⟩] [4, 6, 19, 20])
                      (.cond (.t 21) [21]
                        (.seq
                          (.region false [⟨some 2, .mv, [.c (.b false)], none⟩] [0, 5])
                          .ret)
                        .skip))
                    (.seq
                      (.seq
                        (.region false [⟨some 22, .mv, [.t 5], none⟩,
                          ⟨some 23, .mv, [.t 0], none⟩,
                          ⟨some 24, .call n_laws_toTestS 12288, [.t 23], none⟩,
                          ⟨some 25, .call n_laws_eqTestS 12800, [.t 22, .t 24], none⟩,
                          ⟨some 26, .un .not, [.t 25], none⟩] [0, 5, 22, 23, 24, 25])
                        (.cond (.t 26) [26]
                          (.seq
                            (.region false [⟨some 2, .mv, [.c (.b false)], none⟩] [])
                            .ret)
                          .skip))
                      (.seq
                        (.region false [⟨some 2, .mv, [.c (.b true)], none⟩] [])
                        .ret)))))))))) }
/-- laws.FnExactLikeliestState -/
def F_laws_FnExactLikeliestState : LF :=
  { nparams := 1, results := [.t 2], body :=
    (.seq
      (.region false [⟨some 2, .mv, [.c (.b false)], none⟩] [2])
      (.seq
        (.region false [⟨some 3, .mv, [.c (.i 1048576)], none⟩] [])
        (.seq
          (.region false [⟨some 7, .mv, [.t 0], none⟩,
            ⟨some 8, .mv, [.t 3], none⟩,
            ⟨some 9, .call n_laws_szTestS 4608, [.t 7, .t 8], none⟩,
            ⟨some 3, .mv, [.t 9], none⟩] [7, 8, 9])
          (.seq
            (.seq
              (.region false [⟨some 10, .mv, [.t 3], none⟩,
                ⟨some 11, .bin .lss, [.t 10, .c (.i 0)], none⟩] [3, 10])
              (.cond (.t 11) [11]
                (.seq
                  (.region false [⟨some 2, .mv, [.c (.b true)], none⟩] [0])
                  .ret)
                .skip))
            (.seq
              (.region false [⟨some 12, .mv, [.t 0], none⟩,
                ⟨some 13, .call n_laws_toTestS 6656, [.t 12], none⟩,
                ⟨some 14, .call n_spec_LikeliestState 7168, [.t 13], none⟩,
                ⟨some 4, .mv, [.t 14], none⟩] [12, 13, 14])
              (.seq
                (.region false [⟨some 15, .mv, [.t 0], none⟩,
                  ⟨some 16, .call n_laws_toTestS 8192, [.t 15], none⟩,
                  ⟨some 5, .mv, [.t 16], none⟩] [15, 16])
                (.seq
                  (.region false [⟨some 17, .mv, [.t 5], none⟩,
                    ⟨some 18, .call n_impl_LikeliestState 9216, [.t 17], none⟩,
                    ⟨some 6, .mv, [.t 18], none⟩] [17, 18])
                  (.seq
                    (.seq
                      (.region false [⟨some 19, .mv, [.t 6], none⟩,
                        ⟨some 20, .mv, [.t 4], none⟩,
                        ⟨some 21, .bin .neq, [.t 19, .t 20], none⟩] [4, 6, 19, 20])
                      (.cond (.t 21) [21]
                        (.seq
                          (.region false [⟨some 2, .mv, [.c (.b false)], none⟩] [0, 5])
                          .ret)
                        .skip))
                    (.seq
                      (.seq
                        (.region false [⟨some 22, .mv, [.t 5], none⟩,
                          ⟨some 23, .mv, [.t 0], none⟩,
                          ⟨some 24, .call n_laws_toTestS 12288, [.t 23], none⟩,
                          ⟨some 25, .call n_laws_eqTestS 12800, [.t 22, .t 24], none⟩,
                          ⟨some 26, .un .not, [.t 25], none⟩] [0, 5, 22, 23, 24, 25])
                        (.cond (.t 26) [26]
                          (.seq
                            (.region false [⟨some 2, .mv, [.c (.b false)], none⟩] [])
                            .ret)
                          .skip))
                      (.seq
                        (.region false [⟨some 2, .mv, [.c (.b true)], none⟩] [])
                        .ret)))))))))) }
/-- laws.FnExactTermOk -/
def F_laws_FnExactTermOk : LF :=
  { nparams := 2, results := [.t 4], body :=
    (.seq
      (.region false [⟨some 4, .mv, [.c (.b false)], none⟩] [4])
      (.seq
        (.region false [⟨some 5, .mv, [.c (.i 1048576)], none⟩] [])
        (.seq
          (.region false [⟨some 9, .mv, [.t 1], none⟩,
            ⟨some 10, .mv, [.t 5], none⟩,
            ⟨some 11, .call n_laws_szMarkS 5632, [.t 9, .t 10], none⟩,
            ⟨some 5, .mv, [.t 11], none⟩] [9, 10, 11])
          (.seq
            (.seq
              (.region false [⟨some 12, .mv, [.t 5], none⟩,
                ⟨some 13, .bin .lss, [.t 12, .c (.i 0)], none⟩] [5, 12])
              (.cond (.t 13) [13]
                (.seq
                  (.region false [⟨some 4, .mv, [.c (.b true)], none⟩] [0, 1])
                  .ret)
                .skip))
            (.seq
              (.region false [⟨some 14, .mv, [.t 0], none⟩,
                ⟨some 15, .mv, [.t 1], none⟩,
                ⟨some 16, .call n_laws_toMarkS 8192, [.t 15], none⟩,
                ⟨some 17, .call n_spec_TermOk 8704, [.t 14, .t 16], none⟩,
                ⟨some 6, .mv, [.t 17], none⟩] [14, 15, 16, 17])
              (.seq
                (.region false [⟨some 18, .mv, [.t 1], none⟩,
                  ⟨some 19, .call n_laws_toMarkS 9728, [.t 18], none⟩,
                  ⟨some 7, .mv, [.t 19], none⟩] [18, 19])
                (.seq
                  (.region false [⟨some 20, .mv, [.t 0], none⟩,
                    ⟨some 21, .mv, [.t 7], none⟩,
                    ⟨some 22, .call n_impl_TermOk 11264, [.t 20, .t 21], none⟩,
                    ⟨some 8, .mv, [.t 22], none⟩] [0, 20, 21, 22])
                  (.seq
                    (.seq
                      (.region false [⟨some 23, .mv, [.t 8], none⟩,
                        ⟨some 24, .mv, [.t 6], none⟩,
                        ⟨some 25, .eqb true, [.t 23, .t 24], none⟩] [6, 8, 23, 24])
                      (.cond (.t 25) [25]
                        (.seq
                          (.region false [⟨some 4, .mv, [.c (.b false)], none⟩] [1, 7])
                          .ret)
                        .skip))
                    (.seq
                      (.seq
                        (.region false [⟨some 26, .mv, [.t 7], none⟩,
                          ⟨some 27, .mv, [.t 1], none⟩,
                          ⟨some 28, .call n_laws_toMarkS 14336, [.t 27], none⟩,
                          ⟨some 29, .call n_laws_eqMarkS 14848, [.t 26, .t 28], none⟩,
                          ⟨some 30, .un .not, [.t 29], none⟩] [1, 7, 26, 27, 28, 29])
                        (.cond (.t 30) [30]
                          (.seq
                            (.region false [⟨some 4, .mv, [.c (.b false)], none⟩] [])
                            .ret)
                          .skip))
                      (.seq
                        (.region false [⟨some 4, .mv, [.c (.b true)], none⟩] [])
                        .ret)))))))))) }
/-- laws.FnExactLettersOf -/
def F_laws_FnExactLettersOf : LF :=
  { nparams := 2, results := [.t 4], body :=
    (.seq
      (.region false [⟨some 4, .mv, [.c (.b false)], none⟩] [4])
      (.seq
        (.region false [⟨some 5, .mv, [.c (.i 1048576)], none⟩] [])
        (.seq
          (.region false [⟨some 9, .mv, [.t 1], none⟩,
            ⟨some 10, .mv, [.t 5], none⟩,
            ⟨some 11, .call n_laws_szMarkS 5632, [.t 9, .t 10], none⟩,
            ⟨some 5, .mv, [.t 11], none⟩] [9, 10, 11])
          (.seq
            (.seq
              (.region false [⟨some 12, .mv, [.t 5], none⟩,
                ⟨some 13, .bin .lss, [.t 12, .c (.i 0)], none⟩] [5, 12])
              (.cond (.t 13) [13]
                (.seq
                  (.region false [⟨some 4, .mv, [.c (.b true)], none⟩] [0, 1])
                  .ret)
                .skip))
            (.seq
              (.region false [⟨some 14, .mv, [.t 0], none⟩,
                ⟨some 15, .mv, [.t 1], none⟩,
                ⟨some 16, .call n_laws_toMarkS 8192, [.t 15], none⟩,
                ⟨some 17, .call n_spec_LettersOf 8704, [.t 14, .t 16], none⟩,
                ⟨some 6, .mv, [.t 17], none⟩] [14, 15, 16, 17])
              (.seq
                (.region false [⟨some 18, .mv, [.t 1], none⟩,
                  ⟨some 19, .call n_laws_toMarkS 9728, [.t 18], none⟩,
                  ⟨some 7, .mv, [.t 19], none⟩] [18, 19])
                (.seq
                  (.region false [⟨some 20, .mv, [.t 0], none⟩,
                    ⟨some 21, .mv, [.t 7], none⟩,
                    ⟨some 22, .call n_impl_LettersOf 11264, [.t 20, .t 21], none⟩,
                    ⟨some 8, .mv, [.t 22], none⟩] [0, 20, 21, 22])
                  (.seq
                    (.seq
                      (.region false [⟨some 23, .mv, [.t 8], none⟩,
                        ⟨some 24, .mv, [.t 6], none⟩,
                        ⟨some 25, .bin .neq, [.t 23, .t 24], none⟩] [6, 8, 23, 24])
                      (.cond (.t 25) [25]
                        (.seq
                          (.region false [⟨some 4, .mv, [.c (.b false)], none⟩] [1, 7])
                          .ret)
                        .skip))
                    (.seq
                      (.seq
                        (.region false [⟨some 26, .mv, [.t 7], none⟩,
                          ⟨some 27, .mv, [.t 1], none⟩,
                          ⟨some 28, .call n_laws_toMarkS 14336, [.t 27], none⟩,
                          ⟨some 29, .call n_laws_eqMarkS 14848, [.t 26, .t 28], none⟩,
                          ⟨some 30, .un .not, [.t 29], none⟩] [1, 7, 26, 27, 28, 29])
                        (.cond (.t 30) [30]
                          (.seq
                            (.region false [⟨some 4, .mv, [.c (.b false)], none⟩] [])
                            .ret)
                          .skip))
                      (.seq
                        (.region false [⟨some 4, .mv, [.c (.b true)], none⟩] [])
                        .ret)))))))))) }
/-- laws.FnExactOnceOk -/
def F_laws_FnExactOnceOk : LF :=
  { nparams := 2, results := [.t 4], body :=
    (.seq
      (.region false [⟨some 4, .mv, [.c (.b false)], none⟩] [4])
      (.seq
        (.region false [⟨some 5, .mv, [.c (.i 1048576)], none⟩] [])
        (.seq
          (.region false [⟨some 9, .mv, [.t 1], none⟩,
            ⟨some 10, .mv, [.t 5], none⟩,
            ⟨some 11, .call n_laws_szMarkS 5632, [.t 9, .t 10], none⟩,
            ⟨some 5, .mv, [.t 11], none⟩] [9, 10, 11])
          (.seq
            (.seq
              (.region false [⟨some 12, .mv, [.t 5], none⟩,
                ⟨some 13, .bin .lss, [.t 12, .c (.i 0)], none⟩] [5, 12])
              (.cond (.t 13) [13]
                (.seq
                  (.region false [⟨some 4, .mv, [.c (.b true)], none⟩] [0, 1])
                  .ret)
                .skip))
            (.seq
              (.region false [⟨some 14, .mv, [.t 0], none⟩,
                ⟨some 15, .mv, [.t 1], none⟩,
                ⟨some 16, .call n_laws_toMarkS 8192, [.t 15], none⟩,
                ⟨some 17, .call n_spec_OnceOk 8704, [.t 14, .t 16], none⟩,
                ⟨some 6, .mv, [.t 17], none⟩] [14, 15, 16, 17])
              (.seq
                (.region false [⟨some 18, .mv, [.t 1], none⟩,
                  ⟨some 19, .call n_laws_toMarkS 9728, [.t 18], none⟩,
                  ⟨some 7, .mv, [.t 19], none⟩] [18, 19])
                (.seq
                  (.region false [⟨some 20, .mv, [.t 0], none⟩,
                    ⟨some 21, .mv, [.t 7], none⟩,
                    ⟨some 22, .call n_impl_OnceOk 11264, [.t 20, .t 21], none⟩,
                    ⟨some 8, .mv, [.t 22], none⟩] [0, 20, 21, 22])
                  (.seq
                    (.seq
                      (.region false [⟨some 23, .mv, [.t 8], none⟩,
                        ⟨some 24, .mv, [.t 6], none⟩,
                        ⟨some 25, .eqb true, [.t 23, .t 24], none⟩] [6, 8, 23, 24])
                      (.cond (.t 25) [25]
                        (.seq
                          (.region false [⟨some 4, .mv, [.c (.b false)], none⟩] [1, 7])
                          .ret)
                        .skip))
                    (.seq
                      (.seq
                        (.region false [⟨some 26, .mv, [.t 7], none⟩,
                          ⟨some 27, .mv, [.t 1], none⟩,
                          ⟨some 28, .call n_laws_toMarkS 14336, [.t 27], none⟩,
                          ⟨some 29, .call n_laws_eqMarkS 14848, [.t 26, .t 28], none⟩,
                          ⟨some 30, .un .not, [.t 29], none⟩] [1, 7, 26, 27, 28, 29])
                        (.cond (.t 30) [30]
                          (.seq
                            (.region false [⟨some 4, .mv, [.c (.b false)], none⟩] [])
                            .ret)
                          .skip))
                      (.seq
                        (.region false [⟨some 4, .mv, [.c (.b true)], none⟩] [])
                        .ret)))))))))) }
/-- laws.szTestS -/
def F_laws_szTestS : LF :=
  { nparams := 2, results := [.t 4], body :=
    (.seq
      (.region false [⟨some 4, .mv, [.c (.i 0)], none⟩] [4])
      (.seq
        (.region false [⟨some 5, .mv, [.t 1], none⟩,
          ⟨some 6, .mv, [.t 0], none⟩,
          ⟨some 7, .len, [.t 6], none⟩,
          ⟨some 8, .bin .sub, [.t 5, .t 7], none⟩,
          ⟨some 1, .mv, [.t 8], none⟩] [0, 5, 6, 7, 8])
        (.seq
          (.seq
            (.region false [⟨some 9, .mv, [.t 1], none⟩,
              ⟨some 10, .bin .lss, [.t 9, .c (.i 0)], none⟩] [9])
            (.cond (.t 10) [10]
              (.seq
                (.region false [⟨some 4, .mv, [.c (.i (-1))], none⟩] [1])
                .ret)
              .skip))
          (.seq
            (.region false [⟨some 11, .mv, [.t 1], none⟩,
              ⟨some 4, .mv, [.t 11], none⟩] [1, 11])
            .ret)))) }
/-- spec.WeightOf -/
def F_spec_WeightOf : LF :=
  { nparams := 2, results := [.t 4], body :=
    (.seq
      (.region false [⟨some 4, .mv, [.c (.i 0)], none⟩] [4])
      (.seq
        (.seq
          (.region false [⟨some 5, .mv, [.t 0], none⟩,
            ⟨some 6, .call n_spec_TestsOk 3072, [.t 5], none⟩,
            ⟨some 7, .un .not, [.t 6], none⟩,
            ⟨some 8, .mv, [.t 7], none⟩,
            ⟨some 9, .mv, [.t 0], some (8, false)⟩,
            ⟨some 10, .len, [.t 9], some (8, false)⟩,
            ⟨some 11, .mv, [.t 1], some (8, false)⟩,
            ⟨some 12, .call n_spec_StateOk 6144, [.t 10, .t 11], some (8, false)⟩,
            ⟨some 13, .un .not, [.t 12], some (8, false)⟩,
            ⟨some 14, .pick, [.t 8, .c (.b true), .t 13], none⟩] [5, 6, 7, 8, 9, 10, 11, 12, 13])
          (.cond (.t 14) [14]
            (.seq
              (.region false [⟨some 4, .mv, [.c (.i (-1))], none⟩] [0, 1])
              .ret)
            .skip))
        (.seq
          (.region false [⟨some 15, .mv, [.t 0], none⟩,
            ⟨some 16, .mv, [.t 1], none⟩,
            ⟨some 17, .call n_spec_l1Weight 8704, [.t 15, .t 16], none⟩,
            ⟨some 4, .mv, [.t 17], none⟩] [0, 1, 15, 16, 17])
          .ret))) }
/-- laws.toTestS -/
def F_laws_toTestS_L0 : LC :=
  (.seq
    (.seq
      (.region false [⟨some 8, .mv, [.t 4], none⟩,
        ⟨some 9, .mv, [.t 0], none⟩,
        ⟨some 10, .len, [.t 9], none⟩,
        ⟨some 11, .bin .lss, [.t 8, .t 10], none⟩] [8, 9, 10])
      (.cond (.t 11) [11]
        .skip
        (.exit 0)))
    (.seq
      (.block 1
        (.region false [⟨some 14, .mv, [.t 3], none⟩,
          ⟨some 15, .mv, [.t 4], none⟩,
          ⟨some 16, .mv, [.t 0], none⟩,
          ⟨some 17, .mv, [.t 4], none⟩,
          ⟨some 18, .idxa 2, [.t 16, .t 17], none⟩,
          ⟨some 19, .load 2 true, [.t 18], none⟩,
          ⟨some 20, .call n_laws_toTest 10240, [.t 19], none⟩,
          ⟨some 21, .idxa 2, [.t 14, .t 15], none⟩,
          ⟨none, .store 2, [.t 21, .t 20], none⟩] [14, 15, 16, 17, 18, 19, 20, 21]))
      (.region false [⟨some 12, .mv, [.t 4], none⟩,
        ⟨some 13, .bin .add, [.t 12, .c (.i 1)], none⟩,
        ⟨some 4, .mv, [.t 13], none⟩] [12, 13])))
def F_laws_toTestS_W0 : LC := .loop F_laws_toTestS_L0
def F_laws_toTestS : LF :=
  { nparams := 1, results := [.t 2], body :=
    (.seq
      (.region false [⟨some 2, .newnil 1040, [], none⟩] [2])
      (.seq
        (.region false [⟨some 5, .mv, [.t 0], none⟩,
          ⟨some 6, .len, [.t 5], none⟩,
          ⟨some 7, .make 3600 2 (.st [.i 0, .i 0]), [.t 6, .t 6], none⟩,
          ⟨some 3, .mv, [.t 7], none⟩] [5, 6, 7])
        (.seq
          (.seq
            (.region false [⟨some 4, .mv, [.c (.i 0)], none⟩] [])
            (.block 0
              F_laws_toTestS_W0))
          (.seq
            (.region false [⟨some 22, .mv, [.t 3], none⟩,
              ⟨some 2, .mv, [.t 22], none⟩] [0, 3, 4, 22])
            .ret)))) }
/-- impl.WeightOf -/
def F_impl_WeightOf_L0 : LC :=
  (.seq
    (.region false [⟨some 21, .bin .lss, [.t 20, .t 19], none⟩] [])
    (.seq
      (.cond (.t 21) [21]
        .skip
        (.exit 0))
      (.seq
        (.block 1
          (.seq
            (.region false [⟨some 22, .mv, [.t 20], none⟩,
              ⟨some 23, .idxa 2, [.t 18, .t 20], none⟩,
              ⟨some 24, .load 2 true, [.t 23], none⟩,
              ⟨some 7, .alloc 3600 (.st [.i 0, .i 0]), [], none⟩,
              ⟨some 6, .mv, [.t 22], none⟩,
              ⟨none, .store 2, [.t 7, .t 24], none⟩] [22, 23, 24])
            (.seq
              (.region false [⟨some 25, .mv, [.t 1], none⟩,
                ⟨some 26, .mv, [.t 6], none⟩,
                ⟨some 27, .call n_impl_outcomeIn 13824, [.t 25, .t 26], none⟩,
                ⟨some 28, .bin .eql, [.t 27, .c (.i 1)], none⟩] [6, 25, 26, 27])
              (.cond (.t 28) [28]
                (.region false [⟨some 29, .mv, [.t 5], none⟩,
                  ⟨some 30, .fld 1 1 false, [.t 7], none⟩,
                  ⟨some 31, .load 1 false, [.t 30], none⟩,
                  ⟨some 32, .bin .mul, [.t 29, .t 31], none⟩,
                  ⟨some 5, .mv, [.t 32], none⟩] [7, 29, 30, 31, 32])
                (.region false [⟨some 33, .mv, [.t 5], none⟩,
                  ⟨some 34, .fld 1 1 false, [.t 7], none⟩,
                  ⟨some 35, .load 1 false, [.t 34], none⟩,
                  ⟨some 36, .bin .sub, [.c (.i 6), .t 35], none⟩,
                  ⟨some 37, .bin .mul, [.t 33, .t 36], none⟩,
                  ⟨some 5, .mv, [.t 37], none⟩] [7, 33, 34, 35, 36, 37])))))
        (.region false [⟨some 38, .bin .add, [.t 20, .c (.i 1)], none⟩,
          ⟨some 20, .mv, [.t 38], none⟩] [38]))))
def F_impl_WeightOf_W0 : LC := .loop F_impl_WeightOf_L0
def F_impl_WeightOf : LF :=
  { nparams := 2, results := [.t 4], body :=
    (.seq
      (.region false [⟨some 4, .mv, [.c (.i 0)], none⟩] [4])
      (.seq
        (.seq
          (.region false [⟨some 8, .mv, [.t 0], none⟩,
            ⟨some 9, .call n_impl_TestsOk 4608, [.t 8], none⟩,
            ⟨some 10, .un .not, [.t 9], none⟩,
            ⟨some 11, .mv, [.t 10], none⟩,
            ⟨some 12, .mv, [.t 0], some (11, false)⟩,
            ⟨some 13, .len, [.t 12], some (11, false)⟩,
            ⟨some 14, .mv, [.t 1], some (11, false)⟩,
            ⟨some 15, .call n_impl_StateOk 7680, [.t 13, .t 14], some (11, false)⟩,
            ⟨some 16, .un .not, [.t 15], some (11, false)⟩,
            ⟨some 17, .pick, [.t 11, .c (.b true), .t 16], none⟩] [8, 9, 10, 11, 12, 13, 14, 15, 16])
          (.cond (.t 17) [17]
            (.seq
              (.region false [⟨some 4, .mv, [.c (.i (-1))], none⟩] [0, 1])
              .ret)
            .skip))
        (.seq
          (.region false [⟨some 5, .mv, [.c (.i 1)], none⟩] [])
          (.seq
            (.seq
              (.region false [⟨some 18, .mv, [.t 0], none⟩,
                ⟨some 19, .len, [.t 18], none⟩,
                ⟨some 20, .mv, [.c (.i 0)], none⟩] [0])
              (.block 0
                F_impl_WeightOf_W0))
            (.seq
              (.region false [⟨some 39, .mv, [.t 5], none⟩,
                ⟨some 4, .mv, [.t 39], none⟩] [1, 5, 18, 19, 20, 39])
              .ret))))) }
/-- laws.eqTestS -/
def F_laws_eqTestS_L0 : LC :=
  (.seq
    (.seq
      (.region false [⟨some 11, .mv, [.t 5], none⟩,
        ⟨some 12, .mv, [.t 0], none⟩,
        ⟨some 13, .len, [.t 12], none⟩,
        ⟨some 14, .bin .lss, [.t 11, .t 13], none⟩] [11, 12, 13])
      (.cond (.t 14) [14]
        .skip
        (.exit 0)))
    (.seq
      (.block 1
        (.seq
          (.region true [⟨some 17, .mv, [.t 0], none⟩,
            ⟨some 18, .mv, [.t 5], none⟩,
            ⟨some 19, .idxa 2, [.t 17, .t 18], none⟩,
            ⟨some 20, .load 2 true, [.t 19], none⟩,
            ⟨some 21, .mv, [.t 1], none⟩,
            ⟨some 22, .mv, [.t 5], none⟩,
            ⟨some 23, .idxa 2, [.t 21, .t 22], none⟩,
            ⟨some 24, .load 2 true, [.t 23], none⟩,
            ⟨some 25, .call n_laws_eqTest 12800, [.t 20, .t 24], none⟩,
            ⟨some 26, .un .not, [.t 25], none⟩] [17, 18, 19, 20, 21, 22, 23, 24, 25])
          (.cond (.t 26) [26]
            (.seq
              (.region false [⟨some 4, .mv, [.c (.b false)], none⟩] [0, 1, 5])
              .ret)
            .skip)))
      (.region false [⟨some 15, .mv, [.t 5], none⟩,
        ⟨some 16, .bin .add, [.t 15, .c (.i 1)], none⟩,
        ⟨some 5, .mv, [.t 16], none⟩] [15, 16])))
def F_laws_eqTestS_W0 : LC := .loop F_laws_eqTestS_L0
def F_laws_eqTestS : LF :=
  { nparams := 2, results := [.t 4], body :=
    (.seq
      (.region false [⟨some 4, .mv, [.c (.b false)], none⟩] [4])
      (.seq
        (.seq
          (.region false [⟨some 6, .mv, [.t 0], none⟩,
            ⟨some 7, .len, [.t 6], none⟩,
            ⟨some 8, .mv, [.t 1], none⟩,
            ⟨some 9, .len, [.t 8], none⟩,
            ⟨some 10, .bin .neq, [.t 7, .t 9], none⟩] [6, 7, 8, 9])
          (.cond (.t 10) [10]
            (.seq
              (.region false [⟨some 4, .mv, [.c (.b false)], none⟩] [0, 1])
              .ret)
            .skip))
        (.seq
          (.seq
            (.region false [⟨some 5, .mv, [.c (.i 0)], none⟩] [])
            (.block 0
              F_laws_eqTestS_W0))
          (.seq
            (.region false [⟨some 4, .mv, [.c (.b true)], none⟩] [0, 1, 5])
            .ret)))) }
/-- spec.KnownOk -/
def F_spec_KnownOk_L0 : LC :=
  (.seq
    (.seq
      (.region false [⟨some 6, .mv, [.t 5], none⟩,
        ⟨some 7, .mv, [.t 1], none⟩,
        ⟨some 8, .len, [.t 7], none⟩,
        ⟨some 9, .bin .lss, [.t 6, .t 8], none⟩] [6, 7, 8])
      (.cond (.t 9) [9]
        .skip
        (.exit 0)))
    (.seq
      (.block 1
        (.seq
          (.region false [⟨some 12, .mv, [.t 1], none⟩,
            ⟨some 13, .mv, [.t 5], none⟩,
            ⟨some 14, .idxa 1, [.t 12, .t 13], none⟩,
            ⟨some 15, .load 1 false, [.t 14], none⟩,
            ⟨some 16, .call n_spec_l1In 8192, [.t 15, .c (.i (-1)), .c (.i 1)], none⟩,
            ⟨some 17, .un .not, [.t 16], none⟩] [12, 13, 14, 15, 16])
          (.cond (.t 17) [17]
            (.seq
              (.region false [⟨some 4, .mv, [.c (.b false)], none⟩] [0, 1, 5])
              .ret)
            .skip)))
      (.region false [⟨some 10, .mv, [.t 5], none⟩,
        ⟨some 11, .bin .add, [.t 10, .c (.i 1)], none⟩,
        ⟨some 5, .mv, [.t 11], none⟩] [10, 11])))
def F_spec_KnownOk_W0 : LC := .loop F_spec_KnownOk_L0
def F_spec_KnownOk : LF :=
  { nparams := 2, results := [.t 4], body :=
    (.seq
      (.region false [⟨some 4, .mv, [.c (.b false)], none⟩] [4])
      (.seq
        (.seq
          (.region false [⟨some 5, .mv, [.c (.i 0)], none⟩] [])
          (.block 0
            F_spec_KnownOk_W0))
        (.seq
          (.region false [⟨some 18, .mv, [.t 0], none⟩,
            ⟨some 19, .call n_spec_l1In 9728, [.t 18, .c (.i 1), .c (.i 5)], none⟩,
            ⟨some 20, .mv, [.t 19], none⟩,
            ⟨some 21, .mv, [.t 1], some (20, true)⟩,
            ⟨some 22, .len, [.t 21], some (20, true)⟩,
            ⟨some 23, .mv, [.t 0], some (20, true)⟩,
            ⟨some 24, .bin .eql, [.t 22, .t 23], some (20, true)⟩,
            ⟨some 25, .pick, [.t 20, .t 24, .c (.b false)], none⟩,
            ⟨some 4, .mv, [.t 25], none⟩] [0, 1, 5, 18, 19, 20, 21, 22, 23, 24, 25])
          .ret))) }
/-- laws.toIntS -/
def F_laws_toIntS_L0 : LC :=
  (.seq
    (.seq
      (.region false [⟨some 8, .mv, [.t 4], none⟩,
        ⟨some 9, .mv, [.t 0], none⟩,
        ⟨some 10, .len, [.t 9], none⟩,
        ⟨some 11, .bin .lss, [.t 8, .t 10], none⟩] [8, 9, 10])
      (.cond (.t 11) [11]
        .skip
        (.exit 0)))
    (.seq
      (.block 1
        (.region false [⟨some 14, .mv, [.t 3], none⟩,
          ⟨some 15, .mv, [.t 4], none⟩,
          ⟨some 16, .mv, [.t 0], none⟩,
          ⟨some 17, .mv, [.t 4], none⟩,
          ⟨some 18, .idxa 1, [.t 16, .t 17], none⟩,
          ⟨some 19, .load 1 false, [.t 18], none⟩,
          ⟨some 20, .idxa 1, [.t 14, .t 15], none⟩,
          ⟨none, .store 1, [.t 20, .t 19], none⟩] [14, 15, 16, 17, 18, 19, 20]))
      (.region false [⟨some 12, .mv, [.t 4], none⟩,
        ⟨some 13, .bin .add, [.t 12, .c (.i 1)], none⟩,
        ⟨some 4, .mv, [.t 13], none⟩] [12, 13])))
def F_laws_toIntS_W0 : LC := .loop F_laws_toIntS_L0
def F_laws_toIntS : LF :=
  { nparams := 1, results := [.t 2], body :=
    (.seq
      (.region false [⟨some 2, .newnil 1032, [], none⟩] [2])
      (.seq
        (.region false [⟨some 5, .mv, [.t 0], none⟩,
          ⟨some 6, .len, [.t 5], none⟩,
          ⟨some 7, .make 3592 1 (.i 0), [.t 6, .t 6], none⟩,
          ⟨some 3, .mv, [.t 7], none⟩] [5, 6, 7])
        (.seq
          (.seq
            (.region false [⟨some 4, .mv, [.c (.i 0)], none⟩] [])
            (.block 0
              F_laws_toIntS_W0))
          (.seq
            (.region false [⟨some 21, .mv, [.t 3], none⟩,
              ⟨some 2, .mv, [.t 21], none⟩] [0, 3, 4, 21])
            .ret)))) }
/-- impl.KnownOk -/
def F_impl_KnownOk_L0 : LC :=
  (.seq
    (.region false [⟨some 19, .bin .lss, [.t 18, .t 17], none⟩] [])
    (.seq
      (.cond (.t 19) [19]
        .skip
        (.exit 0))
      (.seq
        (.block 1
          (.seq
            (.region false [⟨some 20, .idxa 1, [.t 16, .t 18], none⟩,
              ⟨some 21, .load 1 false, [.t 20], none⟩,
              ⟨some 6, .mv, [.t 21], none⟩] [20, 21])
            (.seq
              (.region false [⟨some 22, .mv, [.t 6], none⟩,
                ⟨some 23, .bin .neq, [.t 22, .c (.i (-1))], none⟩,
                ⟨some 24, .mv, [.t 23], none⟩,
                ⟨some 25, .mv, [.t 6], some (24, true)⟩,
                ⟨some 26, .bin .neq, [.t 25, .c (.i 0)], some (24, true)⟩,
                ⟨some 27, .pick, [.t 24, .t 26, .c (.b false)], none⟩,
                ⟨some 28, .mv, [.t 27], none⟩,
                ⟨some 29, .mv, [.t 6], some (28, true)⟩,
                ⟨some 30, .bin .neq, [.t 29, .c (.i 1)], some (28, true)⟩,
                ⟨some 31, .pick, [.t 28, .t 30, .c (.b false)], none⟩] [6, 22, 23, 24, 25, 26, 27, 28, 29, 30])
              (.cond (.t 31) [31]
                (.seq
                  (.region false [⟨some 4, .mv, [.c (.b false)], none⟩] [16, 17, 18])
                  .ret)
                .skip))))
        (.region false [⟨some 32, .bin .add, [.t 18, .c (.i 1)], none⟩,
          ⟨some 18, .mv, [.t 32], none⟩] [32]))))
def F_impl_KnownOk_W0 : LC := .loop F_impl_KnownOk_L0
def F_impl_KnownOk : LF :=
  { nparams := 2, results := [.t 4], body :=
    (.seq
      (.region false [⟨some 4, .mv, [.c (.b false)], none⟩] [4])
      (.seq
        (.seq
          (.region false [⟨some 7, .mv, [.t 0], none⟩,
            ⟨some 8, .call n_impl_manyOk 4096, [.t 7], none⟩,
            ⟨some 9, .un .not, [.t 8], none⟩,
            ⟨some 10, .mv, [.t 9], none⟩,
            ⟨some 11, .mv, [.t 1], some (10, false)⟩,
            ⟨some 12, .len, [.t 11], some (10, false)⟩,
            ⟨some 13, .mv, [.t 0], some (10, false)⟩,
            ⟨some 14, .bin .neq, [.t 12, .t 13], some (10, false)⟩,
            ⟨some 15, .pick, [.t 10, .c (.b true), .t 14], none⟩] [0, 7, 8, 9, 10, 11, 12, 13, 14])
          (.cond (.t 15) [15]
            (.seq
              (.region false [⟨some 4, .mv, [.c (.b false)], none⟩] [1])
              .ret)
            .skip))
        (.seq
          (.seq
            (.region false [⟨some 16, .mv, [.t 1], none⟩,
              ⟨some 17, .len, [.t 16], none⟩,
              ⟨some 18, .mv, [.c (.i 0)], none⟩] [1])
            (.block 0
              F_impl_KnownOk_W0))
          (.seq
            (.region false [⟨some 4, .mv, [.c (.b true)], none⟩] [16, 17, 18])
            .ret)))) }
/-- laws.eqIntS -/
def F_laws_eqIntS_L0 : LC :=
  (.seq
    (.seq
      (.region false [⟨some 11, .mv, [.t 5], none⟩,
        ⟨some 12, .mv, [.t 0], none⟩,
        ⟨some 13, .len, [.t 12], none⟩,
        ⟨some 14, .bin .lss, [.t 11, .t 13], none⟩] [11, 12, 13])
      (.cond (.t 14) [14]
        .skip
        (.exit 0)))
    (.seq
      (.block 1
        (.seq
          (.region true [⟨some 17, .mv, [.t 0], none⟩,
            ⟨some 18, .mv, [.t 5], none⟩,
            ⟨some 19, .idxa 1, [.t 17, .t 18], none⟩,
            ⟨some 20, .load 1 false, [.t 19], none⟩,
            ⟨some 21, .mv, [.t 1], none⟩,
            ⟨some 22, .mv, [.t 5], none⟩,
            ⟨some 23, .idxa 1, [.t 21, .t 22], none⟩,
            ⟨some 24, .load 1 false, [.t 23], none⟩,
            ⟨some 25, .bin .neq, [.t 20, .t 24], none⟩] [17, 18, 19, 20, 21, 22, 23, 24])
          (.cond (.t 25) [25]
            (.seq
              (.region false [⟨some 4, .mv, [.c (.b false)], none⟩] [0, 1, 5])
              .ret)
            .skip)))
      (.region false [⟨some 15, .mv, [.t 5], none⟩,
        ⟨some 16, .bin .add, [.t 15, .c (.i 1)], none⟩,
        ⟨some 5, .mv, [.t 16], none⟩] [15, 16])))
def F_laws_eqIntS_W0 : LC := .loop F_laws_eqIntS_L0
def F_laws_eqIntS : LF :=
  { nparams := 2, results := [.t 4], body :=
    (.seq
      (.region false [⟨some 4, .mv, [.c (.b false)], none⟩] [4])
      (.seq
        (.seq
          (.region false [⟨some 6, .mv, [.t 0], none⟩,
            ⟨some 7, .len, [.t 6], none⟩,
            ⟨some 8, .mv, [.t 1], none⟩,
            ⟨some 9, .len, [.t 8], none⟩,
            ⟨some 10, .bin .neq, [.t 7, .t 9], none⟩] [6, 7, 8, 9])
          (.cond (.t 10) [10]
            (.seq
              (.region false [⟨some 4, .mv, [.c (.b false)], none⟩] [0, 1])
              .ret)
            .skip))
        (.seq
          (.seq
            (.region false [⟨some 5, .mv, [.c (.i 0)], none⟩] [])
            (.block 0
              F_laws_eqIntS_W0))
          (.seq
            (.region false [⟨some 4, .mv, [.c (.b true)], none⟩] [0, 1, 5])
            .ret)))) }
/-- spec.AgreesOk -/
def F_spec_AgreesOk : LF :=
  { nparams := 3, results := [.t 6], body :=
    (.seq
      (.region false [⟨some 6, .mv, [.c (.b false)], none⟩] [6])
      (.seq
        (.region false [⟨some 7, .mv, [.t 0], none⟩,
          ⟨some 8, .mv, [.t 1], none⟩,
          ⟨some 9, .call n_spec_KnownOk 4608, [.t 7, .t 8], none⟩,
          ⟨some 10, .mv, [.t 9], none⟩,
          ⟨some 11, .mv, [.t 0], some (10, true)⟩,
          ⟨some 12, .mv, [.t 2], some (10, true)⟩,
          ⟨some 13, .call n_spec_StateOk 6656, [.t 11, .t 12], some (10, true)⟩,
          ⟨some 14, .pick, [.t 10, .t 13, .c (.b false)], none⟩,
          ⟨some 15, .mv, [.t 14], none⟩,
          ⟨some 16, .mv, [.t 1], some (15, true)⟩,
          ⟨some 17, .mv, [.t 2], some (15, true)⟩,
          ⟨some 18, .call n_spec_l1Agrees 9216, [.t 16, .t 17], some (15, true)⟩,
          ⟨some 19, .pick, [.t 15, .t 18, .c (.b false)], none⟩,
          ⟨some 6, .mv, [.t 19], none⟩] [0, 1, 2, 7, 8, 9, 10, 11, 12, 13, 14, 15, 16, 17, 18, 19])
        .ret)) }
/-- impl.AgreesOk -/
def F_impl_AgreesOk_L0 : LC :=
  (.seq
    (.region false [⟨some 22, .bin .lss, [.t 21, .t 20], none⟩] [])
    (.seq
      (.cond (.t 22) [22]
        .skip
        (.exit 0))
      (.seq
        (.block 1
          (.seq
            (.region false [⟨some 23, .mv, [.t 21], none⟩,
              ⟨some 24, .idxa 1, [.t 19, .t 21], none⟩,
              ⟨some 25, .load 1 false, [.t 24], none⟩,
              ⟨some 7, .mv, [.t 23], none⟩,
              ⟨some 8, .mv, [.t 25], none⟩] [23, 24, 25])
            (.seq
              (.region false [⟨some 26, .mv, [.t 8], none⟩,
                ⟨some 27, .bin .neq, [.t 26, .c (.i (-1))], none⟩,
                ⟨some 28, .mv, [.t 27], none⟩,
                ⟨some 29, .mv, [.t 8], some (28, true)⟩,
                ⟨some 30, .mv, [.t 2], some (28, true)⟩,
                ⟨some 31, .mv, [.t 7], some (28, true)⟩,
                ⟨some 32, .call n_impl_outcomeIn 16384, [.t 30, .t 31], some (28, true)⟩,
                ⟨some 33, .bin .neq, [.t 29, .t 32], some (28, true)⟩,
                ⟨some 34, .pick, [.t 28, .t 33, .c (.b false)], none⟩] [7, 8, 26, 27, 28, 29, 30, 31, 32, 33])
              (.cond (.t 34) [34]
                (.seq
                  (.region false [⟨some 6, .mv, [.c (.b false)], none⟩] [2, 19, 20, 21])
                  .ret)
                .skip))))
        (.region false [⟨some 35, .bin .add, [.t 21, .c (.i 1)], none⟩,
          ⟨some 21, .mv, [.t 35], none⟩] [35]))))
def F_impl_AgreesOk_W0 : LC := .loop F_impl_AgreesOk_L0
def F_impl_AgreesOk : LF :=
  { nparams := 3, results := [.t 6], body :=
    (.seq
      (.region false [⟨some 6, .mv, [.c (.b false)], none⟩] [6])
      (.seq
        (.seq
          (.region false [⟨some 9, .mv, [.t 0], none⟩,
            ⟨some 10, .mv, [.t 2], none⟩,
            ⟨some 11, .call n_impl_StateOk 5632, [.t 9, .t 10], none⟩,
            ⟨some 12, .un .not, [.t 11], none⟩,
            ⟨some 13, .mv, [.t 12], none⟩,
            ⟨some 14, .mv, [.t 0], some (13, false)⟩,
            ⟨some 15, .mv, [.t 1], some (13, false)⟩,
            ⟨some 16, .call n_impl_KnownOk 8192, [.t 14, .t 15], some (13, false)⟩,
            ⟨some 17, .un .not, [.t 16], some (13, false)⟩,
            ⟨some 18, .pick, [.t 13, .c (.b true), .t 17], none⟩] [0, 9, 10, 11, 12, 13, 14, 15, 16, 17])
          (.cond (.t 18) [18]
            (.seq
              (.region false [⟨some 6, .mv, [.c (.b false)], none⟩] [1, 2])
              .ret)
            .skip))
        (.seq
          (.seq
            (.region false [⟨some 19, .mv, [.t 1], none⟩,
              ⟨some 20, .len, [.t 19], none⟩,
              ⟨some 21, .mv, [.c (.i 0)], none⟩] [1])
            (.block 0
              F_impl_AgreesOk_W0))
          (.seq
            (.region false [⟨some 6, .mv, [.c (.b true)], none⟩] [2, 19, 20, 21])
            .ret)))) }
/-- spec.WeightWhere -/
def F_spec_WeightWhere_L0 : LC :=
  (.seq
    (.seq
      (.region false [⟨some 17, .mv, [.t 6], none⟩,
        ⟨some 18, .mv, [.t 0], none⟩,
        ⟨some 19, .len, [.t 18], none⟩,
        ⟨some 20, .bin .shl, [.c (.i 1), .t 19], none⟩,
        ⟨some 21, .bin .lss, [.t 17, .t 20], none⟩] [17, 18, 19, 20])
      (.cond (.t 21) [21]
        .skip
        (.exit 0)))
    (.seq
      (.block 1
        (.seq
          (.region false [⟨some 24, .mv, [.t 1], none⟩,
            ⟨some 25, .mv, [.t 6], none⟩,
            ⟨some 26, .call n_spec_l1Agrees 13312, [.t 24, .t 25], none⟩] [24, 25])
          (.cond (.t 26) [26]
            (.region false [⟨some 27, .mv, [.t 5], none⟩,
              ⟨some 28, .mv, [.t 0], none⟩,
              ⟨some 29, .mv, [.t 6], none⟩,
              ⟨some 30, .call n_spec_l1Weight 15360, [.t 28, .t 29], none⟩,
              ⟨some 31, .bin .add, [.t 27, .t 30], none⟩,
              ⟨some 5, .mv, [.t 31], none⟩] [27, 28, 29, 30, 31])
            .skip)))
      (.region false [⟨some 22, .mv, [.t 6], none⟩,
        ⟨some 23, .bin .add, [.t 22, .c (.i 1)], none⟩,
        ⟨some 6, .mv, [.t 23], none⟩] [22, 23])))
def F_spec_WeightWhere_W0 : LC := .loop F_spec_WeightWhere_L0
def F_spec_WeightWhere : LF :=
  { nparams := 2, results := [.t 4], body :=
    (.seq
      (.region false [⟨some 4, .mv, [.c (.i 0)], none⟩] [4])
      (.seq
        (.seq
          (.region false [⟨some 7, .mv, [.t 0], none⟩,
            ⟨some 8, .call n_spec_TestsOk 4096, [.t 7], none⟩,
            ⟨some 9, .un .not, [.t 8], none⟩,
            ⟨some 10, .mv, [.t 9], none⟩,
            ⟨some 11, .mv, [.t 0], some (10, false)⟩,
            ⟨some 12, .len, [.t 11], some (10, false)⟩,
            ⟨some 13, .mv, [.t 1], some (10, false)⟩,
            ⟨some 14, .call n_spec_KnownOk 7168, [.t 12, .t 13], some (10, false)⟩,
            ⟨some 15, .un .not, [.t 14], some (10, false)⟩,
            ⟨some 16, .pick, [.t 10, .c (.b true), .t 15], none⟩] [7, 8, 9, 10, 11, 12, 13, 14, 15])
          (.cond (.t 16) [16]
            (.seq
              (.region false [⟨some 4, .mv, [.c (.i (-1))], none⟩] [0, 1])
              .ret)
            .skip))
        (.seq
          (.region false [⟨some 5, .mv, [.c (.i 0)], none⟩] [])
          (.seq
            (.seq
              (.region false [⟨some 6, .mv, [.c (.i 0)], none⟩] [])
              (.block 0
                F_spec_WeightWhere_W0))
            (.seq
              (.region false [⟨some 32, .mv, [.t 5], none⟩,
                ⟨some 4, .mv, [.t 32], none⟩] [0, 1, 5, 6, 32])
              .ret))))) }
/-- impl.WeightWhere -/
def F_impl_WeightWhere_L0 : LC :=
  (.seq
    (.region false [⟨some 22, .bin .lss, [.t 21, .t 20], none⟩] [])
    (.seq
      (.cond (.t 22) [22]
        .skip
        (.exit 0))
      (.seq
        (.block 1
          (.seq
            (.region false [⟨some 23, .mv, [.t 21], none⟩,
              ⟨some 7, .mv, [.t 23], none⟩] [23])
            (.seq
              (.region false [⟨some 24, .mv, [.t 5], none⟩,
                ⟨some 25, .mv, [.t 1], none⟩,
                ⟨some 26, .mv, [.t 7], none⟩,
                ⟨some 27, .call n_impl_AgreesOk 13824, [.t 24, .t 25, .t 26], none⟩] [24, 25, 26])
              (.cond (.t 27) [27]
                (.region false [⟨some 28, .mv, [.t 6], none⟩,
                  ⟨some 29, .mv, [.t 0], none⟩,
                  ⟨some 30, .mv, [.t 7], none⟩,
                  ⟨some 31, .call n_impl_WeightOf 15872, [.t 29, .t 30], none⟩,
                  ⟨some 32, .bin .add, [.t 28, .t 31], none⟩,
                  ⟨some 6, .mv, [.t 32], none⟩] [7, 28, 29, 30, 31, 32])
                .skip))))
        (.region false [⟨some 33, .bin .add, [.t 21, .c (.i 1)], none⟩,
          ⟨some 21, .mv, [.t 33], none⟩] [7, 33]))))
def F_impl_WeightWhere_W0 : LC := .loop F_impl_WeightWhere_L0
def F_impl_WeightWhere : LF :=
  { nparams := 2, results := [.t 4], body :=
    (.seq
      (.region false [⟨some 4, .mv, [.c (.i 0)], none⟩] [4])
      (.seq
        (.region false [⟨some 8, .mv, [.t 0], none⟩,
          ⟨some 9, .len, [.t 8], none⟩,
          ⟨some 5, .mv, [.t 9], none⟩] [8, 9])
        (.seq
          (.seq
            (.region false [⟨some 10, .mv, [.t 0], none⟩,
              ⟨some 11, .call n_impl_TestsOk 5632, [.t 10], none⟩,
              ⟨some 12, .un .not, [.t 11], none⟩,
              ⟨some 13, .mv, [.t 12], none⟩,
              ⟨some 14, .mv, [.t 5], some (13, false)⟩,
              ⟨some 15, .mv, [.t 1], some (13, false)⟩,
              ⟨some 16, .call n_impl_KnownOk 8192, [.t 14, .t 15], some (13, false)⟩,
              ⟨some 17, .un .not, [.t 16], some (13, false)⟩,
              ⟨some 18, .pick, [.t 13, .c (.b true), .t 17], none⟩] [10, 11, 12, 13, 14, 15, 16, 17])
            (.cond (.t 18) [18]
              (.seq
                (.region false [⟨some 4, .mv, [.c (.i (-1))], none⟩] [0, 1, 5])
                .ret)
              .skip))
          (.seq
            (.region false [⟨some 6, .mv, [.c (.i 0)], none⟩] [])
            (.seq
              (.seq
                (.region false [⟨some 19, .mv, [.t 5], none⟩,
                  ⟨some 20, .call n_impl_statesOf 10240, [.t 19], none⟩,
                  ⟨some 21, .mv, [.c (.i 0)], none⟩] [19])
                (.block 0
                  F_impl_WeightWhere_W0))
              (.seq
                (.region false [⟨some 34, .mv, [.t 6], none⟩,
                  ⟨some 4, .mv, [.t 34], none⟩] [0, 1, 5, 6, 20, 21, 34])
                .ret)))))) }
/-- spec.CostOf -/
def F_spec_CostOf_L0 : LC :=
  (.seq
    (.seq
      (.region false [⟨some 8, .mv, [.t 4], none⟩,
        ⟨some 9, .mv, [.t 0], none⟩,
        ⟨some 10, .len, [.t 9], none⟩,
        ⟨some 11, .bin .lss, [.t 8, .t 10], none⟩] [8, 9, 10])
      (.cond (.t 11) [11]
        .skip
        (.exit 0)))
    (.seq
      (.block 1
        (.region false [⟨some 14, .mv, [.t 3], none⟩,
          ⟨some 15, .mv, [.t 0], none⟩,
          ⟨some 16, .mv, [.t 4], none⟩,
          ⟨some 17, .idxa 2, [.t 15, .t 16], none⟩,
          ⟨some 18, .fld 0 1 false, [.t 17], none⟩,
          ⟨some 19, .load 1 false, [.t 18], none⟩,
          ⟨some 20, .bin .add, [.t 14, .t 19], none⟩,
          ⟨some 3, .mv, [.t 20], none⟩] [14, 15, 16, 17, 18, 19, 20]))
      (.region false [⟨some 12, .mv, [.t 4], none⟩,
        ⟨some 13, .bin .add, [.t 12, .c (.i 1)], none⟩,
        ⟨some 4, .mv, [.t 13], none⟩] [12, 13])))
def F_spec_CostOf_W0 : LC := .loop F_spec_CostOf_L0
def F_spec_CostOf : LF :=
  { nparams := 1, results := [.t 2], body :=
    (.seq
      (.region false [⟨some 2, .mv, [.c (.i 0)], none⟩] [2])
      (.seq
        (.seq
          (.region false [⟨some 5, .mv, [.t 0], none⟩,
            ⟨some 6, .call n_spec_TestsOk 3072, [.t 5], none⟩,
            ⟨some 7, .un .not, [.t 6], none⟩] [5, 6])
          (.cond (.t 7) [7]
            (.seq
              (.region false [⟨some 2, .mv, [.c (.i (-1))], none⟩] [0])
              .ret)
            .skip))
        (.seq
          (.region false [⟨some 3, .mv, [.c (.i 0)], none⟩] [])
          (.seq
            (.seq
              (.region false [⟨some 4, .mv, [.c (.i 0)], none⟩] [])
              (.block 0
                F_spec_CostOf_W0))
            (.seq
              (.region false [⟨some 21, .mv, [.t 3], none⟩,
                ⟨some 2, .mv, [.t 21], none⟩] [0, 3, 4, 21])
              .ret))))) }
/-- impl.CostOf -/
def F_impl_CostOf_L0 : LC :=
  (.seq
    (.region false [⟨some 12, .bin .lss, [.t 11, .t 10], none⟩] [])
    (.seq
      (.cond (.t 12) [12]
        .skip
        (.exit 0))
      (.seq
        (.block 1
          (.seq
            (.region false [⟨some 13, .idxa 2, [.t 9, .t 11], none⟩,
              ⟨some 14, .load 2 true, [.t 13], none⟩,
              ⟨some 5, .alloc 2576 (.st [.i 0, .i 0]), [], none⟩,
              ⟨none, .store 2, [.t 5, .t 14], none⟩] [13, 14])
            (.region false [⟨some 15, .mv, [.t 3], none⟩,
              ⟨some 16, .fld 0 1 false, [.t 5], none⟩,
              ⟨some 17, .load 1 false, [.t 16], none⟩,
              ⟨some 18, .bin .add, [.t 15, .t 17], none⟩,
              ⟨some 3, .mv, [.t 18], none⟩] [5, 15, 16, 17, 18])))
        (.region false [⟨some 19, .bin .add, [.t 11, .c (.i 1)], none⟩,
          ⟨some 11, .mv, [.t 19], none⟩] [19]))))
def F_impl_CostOf_W0 : LC := .loop F_impl_CostOf_L0
def F_impl_CostOf : LF :=
  { nparams := 1, results := [.t 2], body :=
    (.seq
      (.region false [⟨some 2, .mv, [.c (.i 0)], none⟩] [2])
      (.seq
        (.seq
          (.region false [⟨some 6, .mv, [.t 0], none⟩,
            ⟨some 7, .call n_impl_TestsOk 3584, [.t 6], none⟩,
            ⟨some 8, .un .not, [.t 7], none⟩] [6, 7])
          (.cond (.t 8) [8]
            (.seq
              (.region false [⟨some 2, .mv, [.c (.i (-1))], none⟩] [0])
              .ret)
            .skip))
        (.seq
          (.region false [⟨some 3, .mv, [.c (.i 0)], none⟩] [])
          (.seq
            (.seq
              (.region false [⟨some 9, .mv, [.t 0], none⟩,
                ⟨some 10, .len, [.t 9], none⟩,
                ⟨some 11, .mv, [.c (.i 0)], none⟩] [0])
              (.block 0
                F_impl_CostOf_W0))
            (.seq
              (.region false [⟨some 20, .mv, [.t 3], none⟩,
                ⟨some 2, .mv, [.t 20], none⟩] [3, 9, 10, 11, 20])
              .ret))))) }
/-- spec.LikeliestState -/
def F_spec_LikeliestState_L0 : LC :=
  (.seq
    (.seq
      (.region false [⟨some 5, .mv, [.t 0], none⟩,
        ⟨some 6, .call n_spec_TestsOk 3072, [.t 5], none⟩,
        ⟨some 7, .mv, [.t 6], none⟩,
        ⟨some 8, .mv, [.t 4], some (7, true)⟩,
        ⟨some 9, .mv, [.t 0], some (7, true)⟩,
        ⟨some 10, .len, [.t 9], some (7, true)⟩,
        ⟨some 11, .bin .shl, [.c (.i 1), .t 10], some (7, true)⟩,
        ⟨some 12, .bin .lss, [.t 8, .t 11], some (7, true)⟩,
        ⟨some 13, .pick, [.t 7, .t 12, .c (.b false)], none⟩] [5, 6, 7, 8, 9, 10, 11, 12])
      (.cond (.t 13) [13]
        .skip
        (.exit 0)))
    (.seq
      (.block 1
        (.seq
          (.region false [⟨some 16, .mv, [.t 3], none⟩,
            ⟨some 17, .bin .lss, [.t 16, .c (.i 0)], none⟩,
            ⟨some 18, .mv, [.t 17], none⟩,
            ⟨some 19, .mv, [.t 0], some (18, false)⟩,
            ⟨some 20, .mv, [.t 4], some (18, false)⟩,
            ⟨some 21, .call n_spec_l1Weight 10752, [.t 19, .t 20], some (18, false)⟩,
            ⟨some 22, .mv, [.t 0], some (18, false)⟩,
            ⟨some 23, .mv, [.t 3], some (18, false)⟩,
            ⟨some 24, .call n_spec_l1Weight 12288, [.t 22, .t 23], some (18, false)⟩,
            ⟨some 25, .bin .gtr, [.t 21, .t 24], some (18, false)⟩,
            ⟨some 26, .pick, [.t 18, .c (.b true), .t 25], none⟩] [16, 17, 18, 19, 20, 21, 22, 23, 24, 25])
          (.cond (.t 26) [26]
            (.region false [⟨some 27, .mv, [.t 4], none⟩,
              ⟨some 3, .mv, [.t 27], none⟩] [27])
            .skip)))
      (.region false [⟨some 14, .mv, [.t 4], none⟩,
        ⟨some 15, .bin .add, [.t 14, .c (.i 1)], none⟩,
        ⟨some 4, .mv, [.t 15], none⟩] [14, 15])))
def F_spec_LikeliestState_W0 : LC := .loop F_spec_LikeliestState_L0
def F_spec_LikeliestState : LF :=
  { nparams := 1, results := [.t 2], body :=
    (.seq
      (.region false [⟨some 2, .mv, [.c (.i 0)], none⟩] [2])
      (.seq
        (.region false [⟨some 3, .mv, [.c (.i (-1))], none⟩] [])
        (.seq
          (.seq
            (.region false [⟨some 4, .mv, [.c (.i 0)], none⟩] [])
            (.block 0
              F_spec_LikeliestState_W0))
          (.seq
            (.region false [⟨some 28, .mv, [.t 3], none⟩,
              ⟨some 2, .mv, [.t 28], none⟩] [0, 3, 4, 28])
            .ret)))) }
/-- impl.LikeliestState -/
def F_impl_LikeliestState_L0 : LC :=
  (.seq
    (.region false [⟨some 12, .bin .lss, [.t 11, .t 10], none⟩] [])
    (.seq
      (.cond (.t 12) [12]
        .skip
        (.exit 0))
      (.seq
        (.block 1
          (.seq
            (.region false [⟨some 13, .mv, [.t 11], none⟩,
              ⟨some 4, .mv, [.t 13], none⟩] [13])
            (.seq
              (.region false [⟨some 14, .mv, [.t 0], none⟩,
                ⟨some 15, .mv, [.t 4], none⟩,
                ⟨some 16, .call n_impl_WeightOf 8192, [.t 14, .t 15], none⟩,
                ⟨some 17, .mv, [.t 0], none⟩,
                ⟨some 18, .mv, [.t 3], none⟩,
                ⟨some 19, .call n_impl_WeightOf 9728, [.t 17, .t 18], none⟩,
                ⟨some 20, .bin .gtr, [.t 16, .t 19], none⟩] [14, 15, 16, 17, 18, 19])
              (.cond (.t 20) [20]
                (.region false [⟨some 21, .mv, [.t 4], none⟩,
                  ⟨some 3, .mv, [.t 21], none⟩] [4, 21])
                .skip))))
        (.region false [⟨some 22, .bin .add, [.t 11, .c (.i 1)], none⟩,
          ⟨some 11, .mv, [.t 22], none⟩] [4, 22]))))
def F_impl_LikeliestState_W0 : LC := .loop F_impl_LikeliestState_L0
def F_impl_LikeliestState : LF :=
  { nparams := 1, results := [.t 2], body :=
    (.seq
      (.region false [⟨some 2, .mv, [.c (.i 0)], none⟩] [2])
      (.seq
        (.seq
          (.region false [⟨some 5, .mv, [.t 0], none⟩,
            ⟨some 6, .call n_impl_TestsOk 3072, [.t 5], none⟩,
            ⟨some 7, .un .not, [.t 6], none⟩] [5, 6])
          (.cond (.t 7) [7]
            (.seq
              (.region false [⟨some 2, .mv, [.c (.i (-1))], none⟩] [0])
              .ret)
            .skip))
        (.seq
          (.region false [⟨some 3, .mv, [.c (.i 0)], none⟩] [])
          (.seq
            (.seq
              (.region false [⟨some 8, .mv, [.t 0], none⟩,
                ⟨some 9, .len, [.t 8], none⟩,
                ⟨some 10, .call n_impl_statesOf 5120, [.t 9], none⟩,
                ⟨some 11, .mv, [.c (.i 0)], none⟩] [8, 9])
              (.block 0
                F_impl_LikeliestState_W0))
            (.seq
              (.region false [⟨some 23, .mv, [.t 3], none⟩,
                ⟨some 2, .mv, [.t 23], none⟩] [0, 3, 10, 11, 23])
              .ret))))) }
/-- laws.szMarkS -/
def F_laws_szMarkS : LF :=
  { nparams := 2, results := [.t 4], body :=
    (.seq
      (.region false [⟨some 4, .mv, [.c (.i 0)], none⟩] [4])
      (.seq
        (.region false [⟨some 5, .mv, [.t 1], none⟩,
          ⟨some 6, .mv, [.t 0], none⟩,
          ⟨some 7, .len, [.t 6], none⟩,
          ⟨some 8, .bin .sub, [.t 5, .t 7], none⟩,
          ⟨some 1, .mv, [.t 8], none⟩] [0, 5, 6, 7, 8])
        (.seq
          (.seq
            (.region false [⟨some 9, .mv, [.t 1], none⟩,
              ⟨some 10, .bin .lss, [.t 9, .c (.i 0)], none⟩] [9])
            (.cond (.t 10) [10]
              (.seq
                (.region false [⟨some 4, .mv, [.c (.i (-1))], none⟩] [1])
                .ret)
              .skip))
          (.seq
            (.region false [⟨some 11, .mv, [.t 1], none⟩,
              ⟨some 4, .mv, [.t 11], none⟩] [1, 11])
            .ret)))) }
/-- spec.TermOk -/
def F_spec_TermOk_L0 : LC :=
  (.seq
    (.seq
      (.region false [⟨some 7, .mv, [.t 6], none⟩,
        ⟨some 8, .mv, [.t 1], none⟩,
        ⟨some 9, .len, [.t 8], none⟩,
        ⟨some 10, .bin .lss, [.t 7, .t 9], none⟩] [7, 8, 9])
      (.cond (.t 10) [10]
        .skip
        (.exit 0)))
    (.seq
      (.block 1
        (.block 2
          (.seq
            (.region false [⟨some 14, .mv, [.t 1], none⟩,
              ⟨some 15, .mv, [.t 6], none⟩,
              ⟨some 16, .idxa 2, [.t 14, .t 15], none⟩,
              ⟨some 17, .fld 0 1 false, [.t 16], none⟩,
              ⟨some 18, .load 1 false, [.t 17], none⟩,
              ⟨some 19, .bin .eql, [.t 18, .c (.i 0)], none⟩,
              ⟨some 20, .mv, [.t 19], none⟩,
              ⟨some 21, .mv, [.t 1], some (20, true)⟩,
              ⟨some 22, .mv, [.t 6], some (20, true)⟩,
              ⟨some 23, .idxa 2, [.t 21, .t 22], some (20, true)⟩,
              ⟨some 24, .fld 1 1 false, [.t 23], some (20, true)⟩,
              ⟨some 25, .load 1 false, [.t 24], some (20, true)⟩,
              ⟨some 26, .bin .geq, [.t 25, .c (.i 0)], some (20, true)⟩,
              ⟨some 27, .pick, [.t 20, .t 26, .c (.b false)], none⟩,
              ⟨some 28, .mv, [.t 27], none⟩,
              ⟨some 29, .mv, [.t 1], some (28, true)⟩,
              ⟨some 30, .mv, [.t 6], some (28, true)⟩,
              ⟨some 31, .idxa 2, [.t 29, .t 30], some (28, true)⟩,
              ⟨some 32, .fld 1 1 false, [.t 31], some (28, true)⟩,
              ⟨some 33, .load 1 false, [.t 32], some (28, true)⟩,
              ⟨some 34, .mv, [.t 0], some (28, true)⟩,
              ⟨some 35, .bin .lss, [.t 33, .t 34], some (28, true)⟩,
              ⟨some 36, .pick, [.t 28, .t 35, .c (.b false)], none⟩,
              ⟨some 13, .mv, [.t 36], none⟩] [14, 15, 16, 17, 18, 19, 20, 21, 22, 23, 24, 25, 26, 27, 28, 29, 30, 31, 32, 33, 34, 35, 36])
            (.cond (.t 13) [13]
              (.region false [⟨some 37, .mv, [.t 5], none⟩,
                ⟨some 38, .bin .add, [.t 37, .c (.i 1)], none⟩,
                ⟨some 5, .mv, [.t 38], none⟩] [37, 38])
              (.seq
                (.region false [⟨some 40, .mv, [.t 1], none⟩,
                  ⟨some 41, .mv, [.t 6], none⟩,
                  ⟨some 42, .idxa 2, [.t 40, .t 41], none⟩,
                  ⟨some 43, .load 2 true, [.t 42], none⟩,
                  ⟨some 44, .build [.i 0, .i 0] [(0, 1)], [.c (.i 1)], none⟩,
                  ⟨some 45, .eqs false 2, [.t 43, .t 44], none⟩,
                  ⟨some 46, .mv, [.t 45], none⟩,
                  ⟨some 47, .mv, [.t 5], some (46, true)⟩,
                  ⟨some 48, .bin .geq, [.t 47, .c (.i 1)], some (46, true)⟩,
                  ⟨some 49, .pick, [.t 46, .t 48, .c (.b false)], none⟩,
                  ⟨some 39, .mv, [.t 49], none⟩] [40, 41, 42, 43, 44, 45, 46, 47, 48, 49])
                (.cond (.t 39) [39]
                  .skip
                  (.seq
                    (.region false [⟨some 51, .mv, [.t 1], none⟩,
                      ⟨some 52, .mv, [.t 6], none⟩,
                      ⟨some 53, .idxa 2, [.t 51, .t 52], none⟩,
                      ⟨some 54, .load 2 true, [.t 53], none⟩,
                      ⟨some 55, .build [.i 0, .i 0] [(0, 1)], [.c (.i 2)], none⟩,
                      ⟨some 56, .eqs false 2, [.t 54, .t 55], none⟩,
                      ⟨some 57, .mv, [.t 56], none⟩,
                      ⟨some 58, .mv, [.t 1], some (57, false)⟩,
                      ⟨some 59, .mv, [.t 6], some (57, false)⟩,
                      ⟨some 60, .idxa 2, [.t 58, .t 59], some (57, false)⟩,
                      ⟨some 61, .load 2 true, [.t 60], some (57, false)⟩,
                      ⟨some 62, .build [.i 0, .i 0] [(0, 1)], [.c (.i 3)], some (57, false)⟩,
                      ⟨some 63, .eqs false 2, [.t 61, .t 62], some (57, false)⟩,
                      ⟨some 64, .pick, [.t 57, .c (.b true), .t 63], none⟩,
                      ⟨some 65, .mv, [.t 64], none⟩,
                      ⟨some 66, .mv, [.t 5], some (65, true)⟩,
                      ⟨some 67, .bin .geq, [.t 66, .c (.i 2)], some (65, true)⟩,
                      ⟨some 68, .pick, [.t 65, .t 67, .c (.b false)], none⟩,
                      ⟨some 50, .mv, [.t 68], none⟩] [51, 52, 53, 54, 55, 56, 57, 58, 59, 60, 61, 62, 63, 64, 65, 66, 67, 68])
                    (.cond (.t 50) [50]
                      (.region false [⟨some 69, .mv, [.t 5], none⟩,
                        ⟨some 70, .bin .sub, [.t 69, .c (.i 1)], none⟩,
                        ⟨some 5, .mv, [.t 70], none⟩] [69, 70])
                      (.seq
                        (.region false [⟨some 4, .mv, [.c (.b false)], none⟩] [0, 1, 5, 6])
                        .ret)))))))))
      (.region false [⟨some 11, .mv, [.t 6], none⟩,
        ⟨some 12, .bin .add, [.t 11, .c (.i 1)], none⟩,
        ⟨some 6, .mv, [.t 12], none⟩] [11, 12])))
def F_spec_TermOk_W0 : LC := .loop F_spec_TermOk_L0
def F_spec_TermOk : LF :=
  { nparams := 2, results := [.t 4], body :=
    (.seq
      (.region false [⟨some 4, .mv, [.c (.b false)], none⟩] [4])
      (.seq
        (.region false [⟨some 5, .mv, [.c (.i 0)], none⟩] [])
        (.seq
          (.seq
            (.region false [⟨some 6, .mv, [.c (.i 0)], none⟩] [])
            (.block 0
              F_spec_TermOk_W0))
          (.seq
            (.region false [⟨some 71, .mv, [.t 0], none⟩,
              ⟨some 72, .call n_spec_l1In 36864, [.t 71, .c (.i 1), .c (.i 5)], none⟩,
              ⟨some 73, .mv, [.t 72], none⟩,
              ⟨some 74, .mv, [.t 5], some (73, true)⟩,
              ⟨some 75, .bin .eql, [.t 74, .c (.i 1)], some (73, true)⟩,
              ⟨some 76, .pick, [.t 73, .t 75, .c (.b false)], none⟩,
              ⟨some 77, .mv, [.t 76], none⟩,
              ⟨some 78, .mv, [.t 1], some (77, true)⟩,
              ⟨some 79, .len, [.t 78], some (77, true)⟩,
              ⟨some 80, .bin .leq, [.t 79, .c (.i 13)], some (77, true)⟩,
              ⟨some 81, .pick, [.t 77, .t 80, .c (.b false)], none⟩,
              ⟨some 4, .mv, [.t 81], none⟩] [0, 1, 5, 6, 71, 72, 73, 74, 75, 76, 77, 78, 79, 80, 81])
            .ret)))) }
/-- laws.toMarkS -/
def F_laws_toMarkS_L0 : LC :=
  (.seq
    (.seq
      (.region false [⟨some 8, .mv, [.t 4], none⟩,
        ⟨some 9, .mv, [.t 0], none⟩,
        ⟨some 10, .len, [.t 9], none⟩,
        ⟨some 11, .bin .lss, [.t 8, .t 10], none⟩] [8, 9, 10])
      (.cond (.t 11) [11]
        .skip
        (.exit 0)))
    (.seq
      (.block 1
        (.region false [⟨some 14, .mv, [.t 3], none⟩,
          ⟨some 15, .mv, [.t 4], none⟩,
          ⟨some 16, .mv, [.t 0], none⟩,
          ⟨some 17, .mv, [.t 4], none⟩,
          ⟨some 18, .idxa 2, [.t 16, .t 17], none⟩,
          ⟨some 19, .load 2 true, [.t 18], none⟩,
          ⟨some 20, .call n_laws_toMark 10240, [.t 19], none⟩,
          ⟨some 21, .idxa 2, [.t 14, .t 15], none⟩,
          ⟨none, .store 2, [.t 21, .t 20], none⟩] [14, 15, 16, 17, 18, 19, 20, 21]))
      (.region false [⟨some 12, .mv, [.t 4], none⟩,
        ⟨some 13, .bin .add, [.t 12, .c (.i 1)], none⟩,
        ⟨some 4, .mv, [.t 13], none⟩] [12, 13])))
def F_laws_toMarkS_W0 : LC := .loop F_laws_toMarkS_L0
def F_laws_toMarkS : LF :=
  { nparams := 1, results := [.t 2], body :=
    (.seq
      (.region false [⟨some 2, .newnil 1040, [], none⟩] [2])
      (.seq
        (.region false [⟨some 5, .mv, [.t 0], none⟩,
          ⟨some 6, .len, [.t 5], none⟩,
          ⟨some 7, .make 3600 2 (.st [.i 0, .i 0]), [.t 6, .t 6], none⟩,
          ⟨some 3, .mv, [.t 7], none⟩] [5, 6, 7])
        (.seq
          (.seq
            (.region false [⟨some 4, .mv, [.c (.i 0)], none⟩] [])
            (.block 0
              F_laws_toMarkS_W0))
          (.seq
            (.region false [⟨some 22, .mv, [.t 3], none⟩,
              ⟨some 2, .mv, [.t 22], none⟩] [0, 3, 4, 22])
            .ret)))) }
/-- impl.TermOk -/
def F_impl_TermOk_L0 : LC :=
  (.seq
    (.region false [⟨some 21, .bin .lss, [.t 20, .t 19], none⟩] [])
    (.seq
      (.cond (.t 21) [21]
        .skip
        (.exit 0))
      (.seq
        (.block 1
          (.seq
            (.region false [⟨some 22, .idxa 2, [.t 18, .t 20], none⟩,
              ⟨some 23, .load 2 true, [.t 22], none⟩,
              ⟨some 7, .alloc 3600 (.st [.i 0, .i 0]), [], none⟩,
              ⟨none, .store 2, [.t 7, .t 23], none⟩] [22, 23])
            (.seq
              (.region false [⟨some 24, .fld 0 1 false, [.t 7], none⟩,
                ⟨some 25, .load 1 false, [.t 24], none⟩,
                ⟨some 26, .call n_impl_partsTaken 13312, [.t 25], none⟩,
                ⟨some 8, .mv, [.t 26], none⟩] [24, 25, 26])
              (.seq
                (.seq
                  (.region false [⟨some 27, .mv, [.t 0], none⟩,
                    ⟨some 28, .load 2 true, [.t 7], none⟩,
                    ⟨some 29, .call n_impl_markOk 14848, [.t 27, .t 28], none⟩,
                    ⟨some 30, .un .not, [.t 29], none⟩,
                    ⟨some 31, .mv, [.t 30], none⟩,
                    ⟨some 32, .mv, [.t 5], some (31, false)⟩,
                    ⟨some 33, .mv, [.t 8], some (31, false)⟩,
                    ⟨some 34, .bin .lss, [.t 32, .t 33], some (31, false)⟩,
                    ⟨some 35, .pick, [.t 31, .c (.b true), .t 34], none⟩] [7, 27, 28, 29, 30, 31, 32, 33, 34])
                  (.cond (.t 35) [35]
                    (.seq
                      (.region false [⟨some 4, .mv, [.c (.b false)], none⟩] [0, 5, 8, 18, 19, 20])
                      .ret)
                    .skip))
                (.region false [⟨some 36, .mv, [.t 5], none⟩,
                  ⟨some 37, .mv, [.t 8], none⟩,
                  ⟨some 38, .bin .sub, [.c (.i 1), .t 37], none⟩,
                  ⟨some 39, .bin .add, [.t 36, .t 38], none⟩,
                  ⟨some 5, .mv, [.t 39], none⟩] [8, 36, 37, 38, 39])))))
        (.region false [⟨some 40, .bin .add, [.t 20, .c (.i 1)], none⟩,
          ⟨some 20, .mv, [.t 40], none⟩] [40]))))
def F_impl_TermOk_W0 : LC := .loop F_impl_TermOk_L0
def F_impl_TermOk : LF :=
  { nparams := 2, results := [.t 4], body :=
    (.seq
      (.region false [⟨some 4, .mv, [.c (.b false)], none⟩] [4])
      (.seq
        (.seq
          (.region false [⟨some 9, .mv, [.t 0], none⟩,
            ⟨some 10, .call n_impl_manyOk 5120, [.t 9], none⟩,
            ⟨some 11, .un .not, [.t 10], none⟩,
            ⟨some 12, .mv, [.t 11], none⟩,
            ⟨some 13, .mv, [.t 1], some (12, false)⟩,
            ⟨some 14, .len, [.t 13], some (12, false)⟩,
            ⟨some 15, .call n_impl_isWithin 7680, [.t 14, .c (.i 1), .c (.i 13)], some (12, false)⟩,
            ⟨some 16, .un .not, [.t 15], some (12, false)⟩,
            ⟨some 17, .pick, [.t 12, .c (.b true), .t 16], none⟩] [9, 10, 11, 12, 13, 14, 15, 16])
          (.cond (.t 17) [17]
            (.seq
              (.region false [⟨some 4, .mv, [.c (.b false)], none⟩] [0, 1])
              .ret)
            .skip))
        (.seq
          (.region false [⟨some 5, .mv, [.c (.i 0)], none⟩] [])
          (.seq
            (.seq
              (.region false [⟨some 18, .mv, [.t 1], none⟩,
                ⟨some 19, .len, [.t 18], none⟩,
                ⟨some 20, .mv, [.c (.i 0)], none⟩] [1])
              (.block 0
                F_impl_TermOk_W0))
            (.seq
              (.region false [⟨some 41, .mv, [.t 5], none⟩,
                ⟨some 42, .bin .eql, [.t 41, .c (.i 1)], none⟩,
                ⟨some 4, .mv, [.t 42], none⟩] [0, 5, 18, 19, 20, 41, 42])
              .ret))))) }
/-- laws.eqMarkS -/
def F_laws_eqMarkS_L0 : LC :=
  (.seq
    (.seq
      (.region false [⟨some 11, .mv, [.t 5], none⟩,
        ⟨some 12, .mv, [.t 0], none⟩,
        ⟨some 13, .len, [.t 12], none⟩,
        ⟨some 14, .bin .lss, [.t 11, .t 13], none⟩] [11, 12, 13])
      (.cond (.t 14) [14]
        .skip
        (.exit 0)))
    (.seq
      (.block 1
        (.seq
          (.region true [⟨some 17, .mv, [.t 0], none⟩,
            ⟨some 18, .mv, [.t 5], none⟩,
            ⟨some 19, .idxa 2, [.t 17, .t 18], none⟩,
            ⟨some 20, .load 2 true, [.t 19], none⟩,
            ⟨some 21, .mv, [.t 1], none⟩,
            ⟨some 22, .mv, [.t 5], none⟩,
            ⟨some 23, .idxa 2, [.t 21, .t 22], none⟩,
            ⟨some 24, .load 2 true, [.t 23], none⟩,
            ⟨some 25, .call n_laws_eqMark 12800, [.t 20, .t 24], none⟩,
            ⟨some 26, .un .not, [.t 25], none⟩] [17, 18, 19, 20, 21, 22, 23, 24, 25])
          (.cond (.t 26) [26]
            (.seq
              (.region false [⟨some 4, .mv, [.c (.b false)], none⟩] [0, 1, 5])
              .ret)
            .skip)))
      (.region false [⟨some 15, .mv, [.t 5], none⟩,
        ⟨some 16, .bin .add, [.t 15, .c (.i 1)], none⟩,
        ⟨some 5, .mv, [.t 16], none⟩] [15, 16])))
def F_laws_eqMarkS_W0 : LC := .loop F_laws_eqMarkS_L0
def F_laws_eqMarkS : LF :=
  { nparams := 2, results := [.t 4], body :=
    (.seq
      (.region false [⟨some 4, .mv, [.c (.b false)], none⟩] [4])
      (.seq
        (.seq
          (.region false [⟨some 6, .mv, [.t 0], none⟩,
            ⟨some 7, .len, [.t 6], none⟩,
            ⟨some 8, .mv, [.t 1], none⟩,
            ⟨some 9, .len, [.t 8], none⟩,
            ⟨some 10, .bin .neq, [.t 7, .t 9], none⟩] [6, 7, 8, 9])
          (.cond (.t 10) [10]
            (.seq
              (.region false [⟨some 4, .mv, [.c (.b false)], none⟩] [0, 1])
              .ret)
            .skip))
        (.seq
          (.seq
            (.region false [⟨some 5, .mv, [.c (.i 0)], none⟩] [])
            (.block 0
              F_laws_eqMarkS_W0))
          (.seq
            (.region false [⟨some 4, .mv, [.c (.b true)], none⟩] [0, 1, 5])
            .ret)))) }
/-- spec.LettersOf -/
def F_spec_LettersOf_L0 : LC :=
  (.seq
    (.seq
      (.region false [⟨some 11, .mv, [.t 6], none⟩,
        ⟨some 12, .mv, [.t 1], none⟩,
        ⟨some 13, .len, [.t 12], none⟩,
        ⟨some 14, .bin .lss, [.t 11, .t 13], none⟩] [11, 12, 13])
      (.cond (.t 14) [14]
        .skip
        (.exit 0)))
    (.seq
      (.block 1
        (.seq
          (.region false [⟨some 17, .mv, [.t 1], none⟩,
            ⟨some 18, .mv, [.t 6], none⟩,
            ⟨some 19, .idxa 2, [.t 17, .t 18], none⟩,
            ⟨some 20, .fld 0 1 false, [.t 19], none⟩,
            ⟨some 21, .load 1 false, [.t 20], none⟩,
            ⟨some 22, .bin .eql, [.t 21, .c (.i 0)], none⟩] [17, 18, 19, 20, 21])
          (.cond (.t 22) [22]
            (.region false [⟨some 23, .mv, [.t 5], none⟩,
              ⟨some 24, .mv, [.t 1], none⟩,
              ⟨some 25, .mv, [.t 6], none⟩,
              ⟨some 26, .idxa 2, [.t 24, .t 25], none⟩,
              ⟨some 27, .fld 1 1 false, [.t 26], none⟩,
              ⟨some 28, .load 1 false, [.t 27], none⟩,
              ⟨some 29, .bin .shl, [.c (.i 1), .t 28], none⟩,
              ⟨some 30, .bin .or, [.t 23, .t 29], none⟩,
              ⟨some 5, .mv, [.t 30], none⟩] [23, 24, 25, 26, 27, 28, 29, 30])
            .skip)))
      (.region false [⟨some 15, .mv, [.t 6], none⟩,
        ⟨some 16, .bin .add, [.t 15, .c (.i 1)], none⟩,
        ⟨some 6, .mv, [.t 16], none⟩] [15, 16])))
def F_spec_LettersOf_W0 : LC := .loop F_spec_LettersOf_L0
def F_spec_LettersOf : LF :=
  { nparams := 2, results := [.t 4], body :=
    (.seq
      (.region false [⟨some 4, .mv, [.c (.i 0)], none⟩] [4])
      (.seq
        (.seq
          (.region false [⟨some 7, .mv, [.t 0], none⟩,
            ⟨some 8, .mv, [.t 1], none⟩,
            ⟨some 9, .call n_spec_TermOk 4608, [.t 7, .t 8], none⟩,
            ⟨some 10, .un .not, [.t 9], none⟩] [0, 7, 8, 9])
          (.cond (.t 10) [10]
            (.seq
              (.region false [⟨some 4, .mv, [.c (.i (-1))], none⟩] [1])
              .ret)
            .skip))
        (.seq
          (.region false [⟨some 5, .mv, [.c (.i 0)], none⟩] [])
          (.seq
            (.seq
              (.region false [⟨some 6, .mv, [.c (.i 0)], none⟩] [])
              (.block 0
                F_spec_LettersOf_W0))
            (.seq
              (.region false [⟨some 31, .mv, [.t 5], none⟩,
                ⟨some 4, .mv, [.t 31], none⟩] [1, 5, 6, 31])
              .ret))))) }
/-- impl.LettersOf -/
def F_impl_LettersOf_L0 : LC :=
  (.seq
    (.region false [⟨some 15, .bin .lss, [.t 14, .t 13], none⟩] [])
    (.seq
      (.cond (.t 15) [15]
        .skip
        (.exit 0))
      (.seq
        (.block 1
          (.seq
            (.region false [⟨some 16, .idxa 2, [.t 12, .t 14], none⟩,
              ⟨some 17, .load 2 true, [.t 16], none⟩,
              ⟨some 7, .alloc 3600 (.st [.i 0, .i 0]), [], none⟩,
              ⟨none, .store 2, [.t 7, .t 17], none⟩] [16, 17])
            (.seq
              (.region false [⟨some 18, .fld 0 1 false, [.t 7], none⟩,
                ⟨some 19, .load 1 false, [.t 18], none⟩,
                ⟨some 20, .bin .eql, [.t 19, .c (.i 0)], none⟩] [18, 19])
              (.cond (.t 20) [20]
                (.region false [⟨some 21, .mv, [.t 5], none⟩,
                  ⟨some 22, .fld 1 1 false, [.t 7], none⟩,
                  ⟨some 23, .load 1 false, [.t 22], none⟩,
                  ⟨some 24, .bin .shl, [.c (.i 1), .t 23], none⟩,
                  ⟨some 25, .bin .or, [.t 21, .t 24], none⟩,
                  ⟨some 5, .mv, [.t 25], none⟩] [7, 21, 22, 23, 24, 25])
                .skip))))
        (.region false [⟨some 26, .bin .add, [.t 14, .c (.i 1)], none⟩,
          ⟨some 14, .mv, [.t 26], none⟩] [7, 26]))))
def F_impl_LettersOf_W0 : LC := .loop F_impl_LettersOf_L0
def F_impl_LettersOf : LF :=
  { nparams := 2, results := [.t 4], body :=
    (.seq
      (.region false [⟨some 4, .mv, [.c (.i 0)], none⟩] [4])
      (.seq
        (.seq
          (.region false [⟨some 8, .mv, [.t 0], none⟩,
            ⟨some 9, .mv, [.t 1], none⟩,
            ⟨some 10, .call n_impl_TermOk 5120, [.t 8, .t 9], none⟩,
            ⟨some 11, .un .not, [.t 10], none⟩] [0, 8, 9, 10])
          (.cond (.t 11) [11]
            (.seq
              (.region false [⟨some 4, .mv, [.c (.i (-1))], none⟩] [1])
              .ret)
            .skip))
        (.seq
          (.region false [⟨some 5, .mv, [.c (.i 0)], none⟩] [])
          (.seq
            (.seq
              (.region false [⟨some 12, .mv, [.t 1], none⟩,
                ⟨some 13, .len, [.t 12], none⟩,
                ⟨some 14, .mv, [.c (.i 0)], none⟩] [1])
              (.block 0
                F_impl_LettersOf_W0))
            (.seq
              (.region false [⟨some 27, .mv, [.t 5], none⟩,
                ⟨some 4, .mv, [.t 27], none⟩] [5, 12, 13, 14, 27])
              .ret))))) }
/-- spec.OnceOk -/
def F_spec_OnceOk_L0 : LC :=
  (.seq
    (.seq
      (.region false [⟨some 7, .mv, [.t 6], none⟩,
        ⟨some 8, .mv, [.t 1], none⟩,
        ⟨some 9, .len, [.t 8], none⟩,
        ⟨some 10, .bin .lss, [.t 7, .t 9], none⟩,
        ⟨some 11, .mv, [.t 10], none⟩,
        ⟨some 12, .mv, [.t 0], some (11, true)⟩,
        ⟨some 13, .mv, [.t 1], some (11, true)⟩,
        ⟨some 14, .call n_spec_TermOk 7168, [.t 12, .t 13], some (11, true)⟩,
        ⟨some 15, .pick, [.t 11, .t 14, .c (.b false)], none⟩] [7, 8, 9, 10, 11, 12, 13, 14])
      (.cond (.t 15) [15]
        .skip
        (.exit 0)))
    (.seq
      (.block 1
        (.seq
          (.seq
            (.region false [⟨some 18, .mv, [.t 1], none⟩,
              ⟨some 19, .mv, [.t 6], none⟩,
              ⟨some 20, .idxa 2, [.t 18, .t 19], none⟩,
              ⟨some 21, .fld 0 1 false, [.t 20], none⟩,
              ⟨some 22, .load 1 false, [.t 21], none⟩,
              ⟨some 23, .bin .neq, [.t 22, .c (.i 0)], none⟩] [18, 19, 20, 21, 22])
            (.cond (.t 23) [23]
              (.exit 1)
              .skip))
          (.seq
            (.seq
              (.region false [⟨some 24, .mv, [.t 5], none⟩,
                ⟨some 25, .mv, [.t 1], none⟩,
                ⟨some 26, .mv, [.t 6], none⟩,
                ⟨some 27, .idxa 2, [.t 25, .t 26], none⟩,
                ⟨some 28, .fld 1 1 false, [.t 27], none⟩,
                ⟨some 29, .load 1 false, [.t 28], none⟩,
                ⟨some 30, .bin .shr, [.t 24, .t 29], none⟩,
                ⟨some 31, .bin .rem, [.t 30, .c (.i 2)], none⟩,
                ⟨some 32, .bin .eql, [.t 31, .c (.i 1)], none⟩] [24, 25, 26, 27, 28, 29, 30, 31])
              (.cond (.t 32) [32]
                (.seq
                  (.region false [⟨some 4, .mv, [.c (.b false)], none⟩] [0, 1, 5, 6])
                  .ret)
                .skip))
            (.region false [⟨some 33, .mv, [.t 5], none⟩,
              ⟨some 34, .mv, [.t 1], none⟩,
              ⟨some 35, .mv, [.t 6], none⟩,
              ⟨some 36, .idxa 2, [.t 34, .t 35], none⟩,
              ⟨some 37, .fld 1 1 false, [.t 36], none⟩,
              ⟨some 38, .load 1 false, [.t 37], none⟩,
              ⟨some 39, .bin .shl, [.c (.i 1), .t 38], none⟩,
              ⟨some 40, .bin .or, [.t 33, .t 39], none⟩,
              ⟨some 5, .mv, [.t 40], none⟩] [33, 34, 35, 36, 37, 38, 39, 40]))))
      (.region false [⟨some 16, .mv, [.t 6], none⟩,
        ⟨some 17, .bin .add, [.t 16, .c (.i 1)], none⟩,
        ⟨some 6, .mv, [.t 17], none⟩] [16, 17])))
def F_spec_OnceOk_W0 : LC := .loop F_spec_OnceOk_L0
def F_spec_OnceOk : LF :=
  { nparams := 2, results := [.t 4], body :=
    (.seq
      (.region false [⟨some 4, .mv, [.c (.b false)], none⟩] [4])
      (.seq
        (.region false [⟨some 5, .mv, [.c (.i 0)], none⟩] [])
        (.seq
          (.seq
            (.region false [⟨some 6, .mv, [.c (.i 0)], none⟩] [])
            (.block 0
              F_spec_OnceOk_W0))
          (.seq
            (.region false [⟨some 41, .mv, [.t 0], none⟩,
              ⟨some 42, .mv, [.t 1], none⟩,
              ⟨some 43, .call n_spec_TermOk 22016, [.t 41, .t 42], none⟩,
              ⟨some 4, .mv, [.t 43], none⟩] [0, 1, 5, 6, 41, 42, 43])
            .ret)))) }
/-- impl.OnceOk -/
def F_impl_OnceOk_L0 : LC :=
  (.seq
    (.region false [⟨some 15, .bin .lss, [.t 14, .t 13], none⟩] [])
    (.seq
      (.cond (.t 15) [15]
        .skip
        (.exit 0))
      (.seq
        (.block 1
          (.seq
            (.region false [⟨some 16, .idxa 2, [.t 12, .t 14], none⟩,
              ⟨some 17, .load 2 true, [.t 16], none⟩,
              ⟨some 7, .alloc 3600 (.st [.i 0, .i 0]), [], none⟩,
              ⟨none, .store 2, [.t 7, .t 17], none⟩] [16, 17])
            (.seq
              (.seq
                (.region false [⟨some 18, .fld 0 1 false, [.t 7], none⟩,
                  ⟨some 19, .load 1 false, [.t 18], none⟩,
                  ⟨some 20, .bin .neq, [.t 19, .c (.i 0)], none⟩] [18, 19])
                (.cond (.t 20) [20]
                  (.exit 1)
                  .skip))
              (.seq
                (.seq
                  (.region false [⟨some 21, .fld 1 1 false, [.t 7], none⟩,
                    ⟨some 22, .load 1 false, [.t 21], none⟩,
                    ⟨some 23, .idxp 5 1, [.t 5, .t 22], none⟩,
                    ⟨some 24, .load 1 false, [.t 23], none⟩] [21, 22, 23])
                  (.cond (.t 24) [24]
                    (.seq
                      (.region false [⟨some 4, .mv, [.c (.b false)], none⟩] [5, 7, 12, 13, 14])
                      .ret)
                    .skip))
                (.region false [⟨some 25, .fld 1 1 false, [.t 7], none⟩,
                  ⟨some 26, .load 1 false, [.t 25], none⟩,
                  ⟨some 27, .idxp 5 1, [.t 5, .t 26], none⟩,
                  ⟨none, .store 1, [.t 27, .c (.b true)], none⟩] [7, 25, 26, 27])))))
        (.region false [⟨some 28, .bin .add, [.t 14, .c (.i 1)], none⟩,
          ⟨some 14, .mv, [.t 28], none⟩] [7, 28]))))
def F_impl_OnceOk_W0 : LC := .loop F_impl_OnceOk_L0
def F_impl_OnceOk : LF :=
  { nparams := 2, results := [.t 4], body :=
    (.seq
      (.region false [⟨some 4, .mv, [.c (.b false)], none⟩] [4])
      (.seq
        (.seq
          (.region false [⟨some 8, .mv, [.t 0], none⟩,
            ⟨some 9, .mv, [.t 1], none⟩,
            ⟨some 10, .call n_impl_TermOk 5120, [.t 8, .t 9], none⟩,
            ⟨some 11, .un .not, [.t 10], none⟩] [0, 8, 9, 10])
          (.cond (.t 11) [11]
            (.seq
              (.region false [⟨some 4, .mv, [.c (.b false)], none⟩] [1])
              .ret)
            .skip))
        (.seq
          (.region false [⟨some 5, .alloc 2600 (.st [.b false, .b false, .b false, .b false, .b false]), [], none⟩] [])
          (.seq
            (.seq
              (.region false [⟨some 12, .mv, [.t 1], none⟩,
                ⟨some 13, .len, [.t 12], none⟩,
                ⟨some 14, .mv, [.c (.i 0)], none⟩] [1])
              (.block 0
                F_impl_OnceOk_W0))
            (.seq
              (.region false [⟨some 4, .mv, [.c (.b true)], none⟩] [5, 12, 13, 14])
              .ret))))) }
/-- spec.TestsOk -/
def F_spec_TestsOk_L0 : LC :=
  (.seq
    (.seq
      (.region false [⟨some 4, .mv, [.t 3], none⟩,
        ⟨some 5, .mv, [.t 0], none⟩,
        ⟨some 6, .len, [.t 5], none⟩,
        ⟨some 7, .bin .lss, [.t 4, .t 6], none⟩] [4, 5, 6])
      (.cond (.t 7) [7]
        .skip
        (.exit 0)))
    (.seq
      (.block 1
        (.seq
          (.region false [⟨some 10, .mv, [.t 0], none⟩,
            ⟨some 11, .mv, [.t 3], none⟩,
            ⟨some 12, .idxa 2, [.t 10, .t 11], none⟩,
            ⟨some 13, .fld 0 1 false, [.t 12], none⟩,
            ⟨some 14, .load 1 false, [.t 13], none⟩,
            ⟨some 15, .call n_spec_l1In 7680, [.t 14, .c (.i 1), .c (.i 9)], none⟩,
            ⟨some 16, .un .not, [.t 15], none⟩,
            ⟨some 17, .mv, [.t 16], none⟩,
            ⟨some 18, .mv, [.t 0], some (17, false)⟩,
            ⟨some 19, .mv, [.t 3], some (17, false)⟩,
            ⟨some 20, .idxa 2, [.t 18, .t 19], some (17, false)⟩,
            ⟨some 21, .fld 1 1 false, [.t 20], some (17, false)⟩,
            ⟨some 22, .load 1 false, [.t 21], some (17, false)⟩,
            ⟨some 23, .call n_spec_l1In 11776, [.t 22, .c (.i 1), .c (.i 5)], some (17, false)⟩,
            ⟨some 24, .un .not, [.t 23], some (17, false)⟩,
            ⟨some 25, .pick, [.t 17, .c (.b true), .t 24], none⟩] [10, 11, 12, 13, 14, 15, 16, 17, 18, 19, 20, 21, 22, 23, 24])
          (.cond (.t 25) [25]
            (.seq
              (.region false [⟨some 2, .mv, [.c (.b false)], none⟩] [0, 3])
              .ret)
            .skip)))
      (.region false [⟨some 8, .mv, [.t 3], none⟩,
        ⟨some 9, .bin .add, [.t 8, .c (.i 1)], none⟩,
        ⟨some 3, .mv, [.t 9], none⟩] [8, 9])))
def F_spec_TestsOk_W0 : LC := .loop F_spec_TestsOk_L0
def F_spec_TestsOk : LF :=
  { nparams := 1, results := [.t 2], body :=
    (.seq
      (.region false [⟨some 2, .mv, [.c (.b false)], none⟩] [2])
      (.seq
        (.seq
          (.region false [⟨some 3, .mv, [.c (.i 0)], none⟩] [])
          (.block 0
            F_spec_TestsOk_W0))
        (.seq
          (.region false [⟨some 26, .mv, [.t 0], none⟩,
            ⟨some 27, .len, [.t 26], none⟩,
            ⟨some 28, .call n_spec_l1In 14336, [.t 27, .c (.i 1), .c (.i 5)], none⟩,
            ⟨some 2, .mv, [.t 28], none⟩] [0, 3, 26, 27, 28])
          .ret))) }
/-- spec.StateOk -/
def F_spec_StateOk : LF :=
  { nparams := 2, results := [.t 4], body :=
    (.seq
      (.region false [⟨some 4, .mv, [.c (.b false)], none⟩] [4])
      (.seq
        (.region false [⟨some 5, .mv, [.t 0], none⟩,
          ⟨some 6, .call n_spec_l1In 3072, [.t 5, .c (.i 1), .c (.i 5)], none⟩,
          ⟨some 7, .mv, [.t 6], none⟩,
          ⟨some 8, .mv, [.t 1], some (7, true)⟩,
          ⟨some 9, .mv, [.t 0], some (7, true)⟩,
          ⟨some 10, .bin .shl, [.c (.i 1), .t 9], some (7, true)⟩,
          ⟨some 11, .bin .sub, [.t 10, .c (.i 1)], some (7, true)⟩,
          ⟨some 12, .call n_spec_l1In 6144, [.t 8, .c (.i 0), .t 11], some (7, true)⟩,
          ⟨some 13, .pick, [.t 7, .t 12, .c (.b false)], none⟩,
          ⟨some 4, .mv, [.t 13], none⟩] [0, 1, 5, 6, 7, 8, 9, 10, 11, 12, 13])
        .ret)) }
/-- spec.l1Weight -/
def F_spec_l1Weight_L0 : LC :=
  (.seq
    (.seq
      (.region false [⟨some 7, .mv, [.t 6], none⟩,
        ⟨some 8, .mv, [.t 0], none⟩,
        ⟨some 9, .len, [.t 8], none⟩,
        ⟨some 10, .bin .lss, [.t 7, .t 9], none⟩] [7, 8, 9])
      (.cond (.t 10) [10]
        .skip
        (.exit 0)))
    (.seq
      (.block 1
        (.seq
          (.region false [⟨some 13, .mv, [.t 1], none⟩,
            ⟨some 14, .mv, [.t 6], none⟩,
            ⟨some 15, .bin .shr, [.t 13, .t 14], none⟩,
            ⟨some 16, .bin .rem, [.t 15, .c (.i 2)], none⟩,
            ⟨some 17, .bin .eql, [.t 16, .c (.i 1)], none⟩] [13, 14, 15, 16])
          (.cond (.t 17) [17]
            (.region false [⟨some 18, .mv, [.t 5], none⟩,
              ⟨some 19, .mv, [.t 0], none⟩,
              ⟨some 20, .mv, [.t 6], none⟩,
              ⟨some 21, .idxa 2, [.t 19, .t 20], none⟩,
              ⟨some 22, .fld 1 1 false, [.t 21], none⟩,
              ⟨some 23, .load 1 false, [.t 22], none⟩,
              ⟨some 24, .bin .mul, [.t 18, .t 23], none⟩,
              ⟨some 5, .mv, [.t 24], none⟩] [18, 19, 20, 21, 22, 23, 24])
            (.region false [⟨some 25, .mv, [.t 5], none⟩,
              ⟨some 26, .mv, [.t 0], none⟩,
              ⟨some 27, .mv, [.t 6], none⟩,
              ⟨some 28, .idxa 2, [.t 26, .t 27], none⟩,
              ⟨some 29, .fld 1 1 false, [.t 28], none⟩,
              ⟨some 30, .load 1 false, [.t 29], none⟩,
              ⟨some 31, .bin .sub, [.c (.i 6), .t 30], none⟩,
              ⟨some 32, .bin .mul, [.t 25, .t 31], none⟩,
              ⟨some 5, .mv, [.t 32], none⟩] [25, 26, 27, 28, 29, 30, 31, 32]))))
      (.region false [⟨some 11, .mv, [.t 6], none⟩,
        ⟨some 12, .bin .add, [.t 11, .c (.i 1)], none⟩,
        ⟨some 6, .mv, [.t 12], none⟩] [11, 12])))
def F_spec_l1Weight_W0 : LC := .loop F_spec_l1Weight_L0
def F_spec_l1Weight : LF :=
  { nparams := 2, results := [.t 4], body :=
    (.seq
      (.region false [⟨some 4, .mv, [.c (.i 0)], none⟩] [4])
      (.seq
        (.region false [⟨some 5, .mv, [.c (.i 1)], none⟩] [])
        (.seq
          (.seq
            (.region false [⟨some 6, .mv, [.c (.i 0)], none⟩] [])
            (.block 0
              F_spec_l1Weight_W0))
          (.seq
            (.region false [⟨some 33, .mv, [.t 5], none⟩,
              ⟨some 4, .mv, [.t 33], none⟩] [0, 1, 5, 6, 33])
            .ret)))) }
/-- laws.toTest -/
def F_laws_toTest : LF :=
  { nparams := 1, results := [.c 2 2 true], body :=
    (.seq
      (.region false [⟨some 1, .box 528, [.t 0], none⟩,
        ⟨some 2, .alloc 1040 (.st [.i 0, .i 0]), [], none⟩] [0])
      (.seq
        (.region false [⟨some 3, .alloc 1552 (.st [.i 0, .i 0]), [], none⟩] [])
        (.seq
          (.region false [⟨some 4, .fld 0 1 false, [.t 1], none⟩,
            ⟨some 5, .load 1 false, [.t 4], none⟩,
            ⟨some 6, .fld 0 1 false, [.t 3], none⟩,
            ⟨none, .store 1, [.t 6, .t 5], none⟩] [4, 5, 6])
          (.seq
            (.region false [⟨some 7, .fld 1 1 false, [.t 1], none⟩,
              ⟨some 8, .load 1 false, [.t 7], none⟩,
              ⟨some 9, .fld 1 1 false, [.t 3], none⟩,
              ⟨none, .store 1, [.t 9, .t 8], none⟩] [1, 7, 8, 9])
            (.seq
              (.region false [⟨some 10, .load 2 true, [.t 3], none⟩,
                ⟨none, .store 2, [.t 2, .t 10], none⟩] [3, 10])
              .ret))))) }
/-- impl.TestsOk -/
def F_impl_TestsOk_L0 : LC :=
  (.seq
    (.region false [⟨some 12, .bin .lss, [.t 11, .t 10], none⟩] [])
    (.seq
      (.cond (.t 12) [12]
        .skip
        (.exit 0))
      (.seq
        (.block 1
          (.seq
            (.region false [⟨some 13, .idxa 2, [.t 9, .t 11], none⟩,
              ⟨some 14, .load 2 true, [.t 13], none⟩,
              ⟨some 4, .alloc 2064 (.st [.i 0, .i 0]), [], none⟩,
              ⟨none, .store 2, [.t 4, .t 14], none⟩] [13, 14])
            (.seq
              (.region false [⟨some 15, .fld 0 1 false, [.t 4], none⟩,
                ⟨some 16, .load 1 false, [.t 15], none⟩,
                ⟨some 17, .call n_impl_isWithin 8704, [.t 16, .c (.i 1), .c (.i 9)], none⟩,
                ⟨some 18, .un .not, [.t 17], none⟩,
                ⟨some 19, .mv, [.t 18], none⟩,
                ⟨some 20, .fld 1 1 false, [.t 4], some (19, false)⟩,
                ⟨some 21, .load 1 false, [.t 20], some (19, false)⟩,
                ⟨some 22, .call n_impl_isWithin 11264, [.t 21, .c (.i 1), .c (.i 5)], some (19, false)⟩,
                ⟨some 23, .un .not, [.t 22], some (19, false)⟩,
                ⟨some 24, .pick, [.t 19, .c (.b true), .t 23], none⟩] [4, 15, 16, 17, 18, 19, 20, 21, 22, 23])
              (.cond (.t 24) [24]
                (.seq
                  (.region false [⟨some 2, .mv, [.c (.b false)], none⟩] [9, 10, 11])
                  .ret)
                .skip))))
        (.region false [⟨some 25, .bin .add, [.t 11, .c (.i 1)], none⟩,
          ⟨some 11, .mv, [.t 25], none⟩] [25]))))
def F_impl_TestsOk_W0 : LC := .loop F_impl_TestsOk_L0
def F_impl_TestsOk : LF :=
  { nparams := 1, results := [.t 2], body :=
    (.seq
      (.region false [⟨some 2, .mv, [.c (.b false)], none⟩] [2])
      (.seq
        (.seq
          (.region false [⟨some 5, .mv, [.t 0], none⟩,
            ⟨some 6, .len, [.t 5], none⟩,
            ⟨some 7, .call n_impl_manyOk 3584, [.t 6], none⟩,
            ⟨some 8, .un .not, [.t 7], none⟩] [5, 6, 7])
          (.cond (.t 8) [8]
            (.seq
              (.region false [⟨some 2, .mv, [.c (.b false)], none⟩] [0])
              .ret)
            .skip))
        (.seq
          (.seq
            (.region false [⟨some 9, .mv, [.t 0], none⟩,
              ⟨some 10, .len, [.t 9], none⟩,
              ⟨some 11, .mv, [.c (.i 0)], none⟩] [0])
            (.block 0
              F_impl_TestsOk_W0))
          (.seq
            (.region false [⟨some 2, .mv, [.c (.b true)], none⟩] [9, 10, 11])
            .ret)))) }
/-- impl.StateOk -/
def F_impl_StateOk : LF :=
  { nparams := 2, results := [.t 4], body :=
    (.seq
      (.region false [⟨some 4, .mv, [.c (.b false)], none⟩] [4])
      (.seq
        (.region false [⟨some 5, .mv, [.t 0], none⟩,
          ⟨some 6, .call n_impl_manyOk 3072, [.t 5], none⟩,
          ⟨some 7, .mv, [.t 6], none⟩,
          ⟨some 8, .mv, [.t 1], some (7, true)⟩,
          ⟨some 9, .mv, [.t 0], some (7, true)⟩,
          ⟨some 10, .call n_impl_statesOf 5120, [.t 9], some (7, true)⟩,
          ⟨some 11, .bin .sub, [.t 10, .c (.i 1)], some (7, true)⟩,
          ⟨some 12, .call n_impl_isWithin 6144, [.t 8, .c (.i 0), .t 11], some (7, true)⟩,
          ⟨some 13, .pick, [.t 7, .t 12, .c (.b false)], none⟩,
          ⟨some 4, .mv, [.t 13], none⟩] [0, 1, 5, 6, 7, 8, 9, 10, 11, 12, 13])
        .ret)) }
/-- impl.outcomeIn -/
def F_impl_outcomeIn : LF :=
  { nparams := 2, results := [.t 4], body :=
    (.seq
      (.region false [⟨some 4, .mv, [.c (.i 0)], none⟩] [4])
      (.seq
        (.region false [⟨some 5, .mv, [.t 0], none⟩,
          ⟨some 6, .mv, [.t 1], none⟩,
          ⟨some 7, .bin .shr, [.t 5, .t 6], none⟩,
          ⟨some 8, .bin .and, [.t 7, .c (.i 1)], none⟩,
          ⟨some 4, .mv, [.t 8], none⟩] [0, 1, 5, 6, 7, 8])
        .ret)) }
/-- laws.eqTest -/
def F_laws_eqTest : LF :=
  { nparams := 2, results := [.t 4], body :=
    (.seq
      (.region false [⟨some 2, .box 1040, [.t 0], none⟩,
        ⟨some 3, .box 1552, [.t 1], none⟩,
        ⟨some 4, .mv, [.c (.b false)], none⟩] [0, 1, 4])
      (.seq
        (.seq
          (.region false [⟨some 5, .fld 0 1 false, [.t 2], none⟩,
            ⟨some 6, .load 1 false, [.t 5], none⟩,
            ⟨some 7, .fld 0 1 false, [.t 3], none⟩,
            ⟨some 8, .load 1 false, [.t 7], none⟩,
            ⟨some 9, .bin .neq, [.t 6, .t 8], none⟩] [5, 6, 7, 8])
          (.cond (.t 9) [9]
            (.seq
              (.region false [⟨some 4, .mv, [.c (.b false)], none⟩] [2, 3])
              .ret)
            .skip))
        (.seq
          (.seq
            (.region false [⟨some 10, .fld 1 1 false, [.t 2], none⟩,
              ⟨some 11, .load 1 false, [.t 10], none⟩,
              ⟨some 12, .fld 1 1 false, [.t 3], none⟩,
              ⟨some 13, .load 1 false, [.t 12], none⟩,
              ⟨some 14, .bin .neq, [.t 11, .t 13], none⟩] [2, 3, 10, 11, 12, 13])
            (.cond (.t 14) [14]
              (.seq
                (.region false [⟨some 4, .mv, [.c (.b false)], none⟩] [])
                .ret)
              .skip))
          (.seq
            (.region false [⟨some 4, .mv, [.c (.b true)], none⟩] [])
            .ret)))) }
/-- spec.l1In -/
def F_spec_l1In : LF :=
  { nparams := 3, results := [.t 6], body :=
    (.seq
      (.region false [⟨some 6, .mv, [.c (.b false)], none⟩] [6])
      (.seq
        (.region false [⟨some 7, .mv, [.t 0], none⟩,
          ⟨some 8, .mv, [.t 1], none⟩,
          ⟨some 9, .bin .geq, [.t 7, .t 8], none⟩,
          ⟨some 10, .mv, [.t 9], none⟩,
          ⟨some 11, .mv, [.t 0], some (10, true)⟩,
          ⟨some 12, .mv, [.t 2], some (10, true)⟩,
          ⟨some 13, .bin .leq, [.t 11, .t 12], some (10, true)⟩,
          ⟨some 14, .pick, [.t 10, .t 13, .c (.b false)], none⟩,
          ⟨some 6, .mv, [.t 14], none⟩] [0, 1, 2, 7, 8, 9, 10, 11, 12, 13, 14])
        .ret)) }
/-- impl.manyOk -/
def F_impl_manyOk : LF :=
  { nparams := 1, results := [.t 2], body :=
    (.seq
      (.region false [⟨some 2, .mv, [.c (.b false)], none⟩] [2])
      (.seq
        (.region false [⟨some 3, .mv, [.t 0], none⟩,
          ⟨some 4, .call n_impl_isWithin 2048, [.t 3, .c (.i 1), .c (.i 5)], none⟩,
          ⟨some 2, .mv, [.t 4], none⟩] [0, 3, 4])
        .ret)) }
/-- spec.l1Agrees -/
def F_spec_l1Agrees_L0 : LC :=
  (.seq
    (.seq
      (.region false [⟨some 6, .mv, [.t 5], none⟩,
        ⟨some 7, .mv, [.t 0], none⟩,
        ⟨some 8, .len, [.t 7], none⟩,
        ⟨some 9, .bin .lss, [.t 6, .t 8], none⟩] [6, 7, 8])
      (.cond (.t 9) [9]
        .skip
        (.exit 0)))
    (.seq
      (.block 1
        (.seq
          (.region true [⟨some 12, .mv, [.t 0], none⟩,
            ⟨some 13, .mv, [.t 5], none⟩,
            ⟨some 14, .idxa 1, [.t 12, .t 13], none⟩,
            ⟨some 15, .load 1 false, [.t 14], none⟩,
            ⟨some 16, .bin .neq, [.t 15, .c (.i (-1))], none⟩,
            ⟨some 17, .mv, [.t 16], none⟩,
            ⟨some 18, .mv, [.t 0], some (17, true)⟩,
            ⟨some 19, .mv, [.t 5], some (17, true)⟩,
            ⟨some 20, .idxa 1, [.t 18, .t 19], some (17, true)⟩,
            ⟨some 21, .load 1 false, [.t 20], some (17, true)⟩,
            ⟨some 22, .mv, [.t 1], some (17, true)⟩,
            ⟨some 23, .mv, [.t 5], some (17, true)⟩,
            ⟨some 24, .bin .shr, [.t 22, .t 23], some (17, true)⟩,
            ⟨some 25, .bin .rem, [.t 24, .c (.i 2)], some (17, true)⟩,
            ⟨some 26, .bin .neq, [.t 21, .t 25], some (17, true)⟩,
            ⟨some 27, .pick, [.t 17, .t 26, .c (.b false)], none⟩] [12, 13, 14, 15, 16, 17, 18, 19, 20, 21, 22, 23, 24, 25, 26])
          (.cond (.t 27) [27]
            (.seq
              (.region false [⟨some 4, .mv, [.c (.b false)], none⟩] [0, 1, 5])
              .ret)
            .skip)))
      (.region false [⟨some 10, .mv, [.t 5], none⟩,
        ⟨some 11, .bin .add, [.t 10, .c (.i 1)], none⟩,
        ⟨some 5, .mv, [.t 11], none⟩] [10, 11])))
def F_spec_l1Agrees_W0 : LC := .loop F_spec_l1Agrees_L0
def F_spec_l1Agrees : LF :=
  { nparams := 2, results := [.t 4], body :=
    (.seq
      (.region false [⟨some 4, .mv, [.c (.b false)], none⟩] [4])
      (.seq
        (.seq
          (.region false [⟨some 5, .mv, [.c (.i 0)], none⟩] [])
          (.block 0
            F_spec_l1Agrees_W0))
        (.seq
          (.region false [⟨some 4, .mv, [.c (.b true)], none⟩] [0, 1, 5])
          .ret))) }
/-- impl.statesOf -/
def F_impl_statesOf : LF :=
  { nparams := 1, results := [.t 2], body :=
    (.seq
      (.region false [⟨some 2, .mv, [.c (.i 0)], none⟩] [2])
      (.seq
        (.region false [⟨some 3, .mv, [.t 0], none⟩,
          ⟨some 4, .bin .shl, [.c (.i 1), .t 3], none⟩,
          ⟨some 2, .mv, [.t 4], none⟩] [0, 3, 4])
        .ret)) }
/-- laws.toMark -/
def F_laws_toMark : LF :=
  { nparams := 1, results := [.c 2 2 true], body :=
    (.seq
      (.region false [⟨some 1, .box 528, [.t 0], none⟩,
        ⟨some 2, .alloc 1040 (.st [.i 0, .i 0]), [], none⟩] [0])
      (.seq
        (.region false [⟨some 3, .alloc 1552 (.st [.i 0, .i 0]), [], none⟩] [])
        (.seq
          (.region false [⟨some 4, .fld 0 1 false, [.t 1], none⟩,
            ⟨some 5, .load 1 false, [.t 4], none⟩,
            ⟨some 6, .fld 0 1 false, [.t 3], none⟩,
            ⟨none, .store 1, [.t 6, .t 5], none⟩] [4, 5, 6])
          (.seq
            (.region false [⟨some 7, .fld 1 1 false, [.t 1], none⟩,
              ⟨some 8, .load 1 false, [.t 7], none⟩,
              ⟨some 9, .fld 1 1 false, [.t 3], none⟩,
              ⟨none, .store 1, [.t 9, .t 8], none⟩] [1, 7, 8, 9])
            (.seq
              (.region false [⟨some 10, .load 2 true, [.t 3], none⟩,
                ⟨none, .store 2, [.t 2, .t 10], none⟩] [3, 10])
              .ret))))) }
/-- impl.isWithin -/
def F_impl_isWithin : LF :=
  { nparams := 3, results := [.t 6], body :=
    (.seq
      (.region false [⟨some 6, .mv, [.c (.b false)], none⟩] [6])
      (.seq
        (.region false [⟨some 7, .mv, [.t 1], none⟩,
          ⟨some 8, .mv, [.t 0], none⟩,
          ⟨some 9, .bin .leq, [.t 7, .t 8], none⟩,
          ⟨some 10, .mv, [.t 9], none⟩,
          ⟨some 11, .mv, [.t 0], some (10, true)⟩,
          ⟨some 12, .mv, [.t 2], some (10, true)⟩,
          ⟨some 13, .bin .leq, [.t 11, .t 12], some (10, true)⟩,
          ⟨some 14, .pick, [.t 10, .t 13, .c (.b false)], none⟩,
          ⟨some 6, .mv, [.t 14], none⟩] [0, 1, 2, 7, 8, 9, 10, 11, 12, 13, 14])
        .ret)) }
/-- impl.partsTaken -/
def F_impl_partsTaken : LF :=
  { nparams := 1, results := [.t 2], body :=
    (.seq
      (.region false [⟨some 2, .mv, [.c (.i 0)], none⟩] [2])
      (.seq
        (.seq
          (.region false [⟨some 3, .mv, [.t 0], none⟩] [0])
          (.block 0
            (.seq
              (.region false [⟨some 5, .bin .eql, [.t 3, .c (.i 0)], none⟩,
                ⟨some 4, .mv, [.t 5], none⟩] [5])
              (.cond (.t 4) [4]
                (.seq
                  (.region false [⟨some 2, .mv, [.c (.i 0)], none⟩] [3])
                  .ret)
                (.seq
                  (.region false [⟨some 7, .bin .eql, [.t 3, .c (.i 1)], none⟩,
                    ⟨some 6, .mv, [.t 7], none⟩] [3, 7])
                  (.cond (.t 6) [6]
                    (.seq
                      (.region false [⟨some 2, .mv, [.c (.i 1)], none⟩] [])
                      .ret)
                    .skip))))))
        (.seq
          (.region false [⟨some 2, .mv, [.c (.i 2)], none⟩] [])
          .ret))) }
/-- impl.markOk -/
def F_impl_markOk : LF :=
  { nparams := 2, results := [.t 4], body :=
    (.seq
      (.region false [⟨some 3, .box 1552, [.t 1], none⟩,
        ⟨some 4, .mv, [.c (.b false)], none⟩] [1, 4])
      (.seq
        (.seq
          (.region false [⟨some 5, .fld 0 1 false, [.t 3], none⟩,
            ⟨some 6, .load 1 false, [.t 5], none⟩,
            ⟨some 7, .bin .eql, [.t 6, .c (.i 0)], none⟩] [5, 6])
          (.cond (.t 7) [7]
            (.seq
              (.region false [⟨some 8, .fld 1 1 false, [.t 3], none⟩,
                ⟨some 9, .load 1 false, [.t 8], none⟩,
                ⟨some 10, .mv, [.t 0], none⟩,
                ⟨some 11, .bin .sub, [.t 10, .c (.i 1)], none⟩,
                ⟨some 12, .call n_impl_isWithin 6144, [.t 9, .c (.i 0), .t 11], none⟩,
                ⟨some 4, .mv, [.t 12], none⟩] [0, 3, 8, 9, 10, 11, 12])
              .ret)
            .skip))
        (.seq
          (.region false [⟨some 13, .fld 0 1 false, [.t 3], none⟩,
            ⟨some 14, .load 1 false, [.t 13], none⟩,
            ⟨some 15, .call n_impl_isWithin 7680, [.t 14, .c (.i 1), .c (.i 3)], none⟩,
            ⟨some 16, .mv, [.t 15], none⟩,
            ⟨some 17, .fld 1 1 false, [.t 3], some (16, true)⟩,
            ⟨some 18, .load 1 false, [.t 17], some (16, true)⟩,
            ⟨some 19, .bin .eql, [.t 18, .c (.i 0)], some (16, true)⟩,
            ⟨some 20, .pick, [.t 16, .t 19, .c (.b false)], none⟩,
            ⟨some 4, .mv, [.t 20], none⟩] [0, 3, 13, 14, 15, 16, 17, 18, 19, 20])
          .ret))) }
/-- laws.eqMark -/
def F_laws_eqMark : LF :=
  { nparams := 2, results := [.t 4], body :=
    (.seq
      (.region false [⟨some 2, .box 1040, [.t 0], none⟩,
        ⟨some 3, .box 1552, [.t 1], none⟩,
        ⟨some 4, .mv, [.c (.b false)], none⟩] [0, 1, 4])
      (.seq
        (.seq
          (.region false [⟨some 5, .fld 0 1 false, [.t 2], none⟩,
            ⟨some 6, .load 1 false, [.t 5], none⟩,
            ⟨some 7, .fld 0 1 false, [.t 3], none⟩,
            ⟨some 8, .load 1 false, [.t 7], none⟩,
            ⟨some 9, .bin .neq, [.t 6, .t 8], none⟩] [5, 6, 7, 8])
          (.cond (.t 9) [9]
            (.seq
              (.region false [⟨some 4, .mv, [.c (.b false)], none⟩] [2, 3])
              .ret)
            .skip))
        (.seq
          (.seq
            (.region false [⟨some 10, .fld 1 1 false, [.t 2], none⟩,
              ⟨some 11, .load 1 false, [.t 10], none⟩,
              ⟨some 12, .fld 1 1 false, [.t 3], none⟩,
              ⟨some 13, .load 1 false, [.t 12], none⟩,
              ⟨some 14, .bin .neq, [.t 11, .t 13], none⟩] [2, 3, 10, 11, 12, 13])
            (.cond (.t 14) [14]
              (.seq
                (.region false [⟨some 4, .mv, [.c (.b false)], none⟩] [])
                .ret)
              .skip))
          (.seq
            (.region false [⟨some 4, .mv, [.c (.b true)], none⟩] [])
            .ret)))) }
def lf : Nat → Option LF
  | 3 => some F_laws_FnExactWeightOf
  | 5 => some F_laws_FnExactKnownOk
  | 6 => some F_laws_FnExactAgreesOk
  | 7 => some F_laws_FnExactWeightWhere
  | 8 => some F_laws_FnExactCostOf
  | 9 => some F_laws_FnExactLikeliestState
  | 10 => some F_laws_FnExactTermOk
  | 11 => some F_laws_FnExactLettersOf
  | 12 => some F_laws_FnExactOnceOk
  | 15 => some F_laws_szTestS
  | 16 => some F_spec_WeightOf
  | 17 => some F_laws_toTestS
  | 18 => some F_impl_WeightOf
  | 19 => some F_laws_eqTestS
  | 24 => some F_spec_KnownOk
  | 25 => some F_laws_toIntS
  | 26 => some F_impl_KnownOk
  | 27 => some F_laws_eqIntS
  | 28 => some F_spec_AgreesOk
  | 29 => some F_impl_AgreesOk
  | 30 => some F_spec_WeightWhere
  | 31 => some F_impl_WeightWhere
  | 32 => some F_spec_CostOf
  | 33 => some F_impl_CostOf
  | 34 => some F_spec_LikeliestState
  | 35 => some F_impl_LikeliestState
  | 36 => some F_laws_szMarkS
  | 37 => some F_spec_TermOk
  | 38 => some F_laws_toMarkS
  | 39 => some F_impl_TermOk
  | 40 => some F_laws_eqMarkS
  | 41 => some F_spec_LettersOf
  | 42 => some F_impl_LettersOf
  | 43 => some F_spec_OnceOk
  | 44 => some F_impl_OnceOk
  | 51 => some F_spec_TestsOk
  | 52 => some F_spec_StateOk
  | 53 => some F_spec_l1Weight
  | 54 => some F_laws_toTest
  | 55 => some F_impl_TestsOk
  | 56 => some F_impl_StateOk
  | 57 => some F_impl_outcomeIn
  | 58 => some F_laws_eqTest
  | 59 => some F_spec_l1In
  | 60 => some F_impl_manyOk
  | 61 => some F_spec_l1Agrees
  | 62 => some F_impl_statesOf
  | 63 => some F_laws_toMark
  | 64 => some F_impl_isWithin
  | 65 => some F_impl_partsTaken
  | 66 => some F_impl_markOk
  | 67 => some F_laws_eqMark
  | _ => none
theorem w_laws_toTestS_0 (S : LS) : ex lf F_laws_toTestS_W0 S = match ex lf F_laws_toTestS_L0 S with | some (.normal, S1) => ex lf F_laws_toTestS_W0 S1 | r => r := ex_loop lf F_laws_toTestS_L0 S
theorem w_impl_WeightOf_0 (S : LS) : ex lf F_impl_WeightOf_W0 S = match ex lf F_impl_WeightOf_L0 S with | some (.normal, S1) => ex lf F_impl_WeightOf_W0 S1 | r => r := ex_loop lf F_impl_WeightOf_L0 S
theorem w_laws_eqTestS_0 (S : LS) : ex lf F_laws_eqTestS_W0 S = match ex lf F_laws_eqTestS_L0 S with | some (.normal, S1) => ex lf F_laws_eqTestS_W0 S1 | r => r := ex_loop lf F_laws_eqTestS_L0 S
theorem w_spec_KnownOk_0 (S : LS) : ex lf F_spec_KnownOk_W0 S = match ex lf F_spec_KnownOk_L0 S with | some (.normal, S1) => ex lf F_spec_KnownOk_W0 S1 | r => r := ex_loop lf F_spec_KnownOk_L0 S
theorem w_laws_toIntS_0 (S : LS) : ex lf F_laws_toIntS_W0 S = match ex lf F_laws_toIntS_L0 S with | some (.normal, S1) => ex lf F_laws_toIntS_W0 S1 | r => r := ex_loop lf F_laws_toIntS_L0 S
theorem w_impl_KnownOk_0 (S : LS) : ex lf F_impl_KnownOk_W0 S = match ex lf F_impl_KnownOk_L0 S with | some (.normal, S1) => ex lf F_impl_KnownOk_W0 S1 | r => r := ex_loop lf F_impl_KnownOk_L0 S
theorem w_laws_eqIntS_0 (S : LS) : ex lf F_laws_eqIntS_W0 S = match ex lf F_laws_eqIntS_L0 S with | some (.normal, S1) => ex lf F_laws_eqIntS_W0 S1 | r => r := ex_loop lf F_laws_eqIntS_L0 S
theorem w_impl_AgreesOk_0 (S : LS) : ex lf F_impl_AgreesOk_W0 S = match ex lf F_impl_AgreesOk_L0 S with | some (.normal, S1) => ex lf F_impl_AgreesOk_W0 S1 | r => r := ex_loop lf F_impl_AgreesOk_L0 S
theorem w_spec_WeightWhere_0 (S : LS) : ex lf F_spec_WeightWhere_W0 S = match ex lf F_spec_WeightWhere_L0 S with | some (.normal, S1) => ex lf F_spec_WeightWhere_W0 S1 | r => r := ex_loop lf F_spec_WeightWhere_L0 S
theorem w_impl_WeightWhere_0 (S : LS) : ex lf F_impl_WeightWhere_W0 S = match ex lf F_impl_WeightWhere_L0 S with | some (.normal, S1) => ex lf F_impl_WeightWhere_W0 S1 | r => r := ex_loop lf F_impl_WeightWhere_L0 S
theorem w_spec_CostOf_0 (S : LS) : ex lf F_spec_CostOf_W0 S = match ex lf F_spec_CostOf_L0 S with | some (.normal, S1) => ex lf F_spec_CostOf_W0 S1 | r => r := ex_loop lf F_spec_CostOf_L0 S
theorem w_impl_CostOf_0 (S : LS) : ex lf F_impl_CostOf_W0 S = match ex lf F_impl_CostOf_L0 S with | some (.normal, S1) => ex lf F_impl_CostOf_W0 S1 | r => r := ex_loop lf F_impl_CostOf_L0 S
theorem w_spec_LikeliestState_0 (S : LS) : ex lf F_spec_LikeliestState_W0 S = match ex lf F_spec_LikeliestState_L0 S with | some (.normal, S1) => ex lf F_spec_LikeliestState_W0 S1 | r => r := ex_loop lf F_spec_LikeliestState_L0 S
theorem w_impl_LikeliestState_0 (S : LS) : ex lf F_impl_LikeliestState_W0 S = match ex lf F_impl_LikeliestState_L0 S with | some (.normal, S1) => ex lf F_impl_LikeliestState_W0 S1 | r => r := ex_loop lf F_impl_LikeliestState_L0 S
theorem w_spec_TermOk_0 (S : LS) : ex lf F_spec_TermOk_W0 S = match ex lf F_spec_TermOk_L0 S with | some (.normal, S1) => ex lf F_spec_TermOk_W0 S1 | r => r := ex_loop lf F_spec_TermOk_L0 S
theorem w_laws_toMarkS_0 (S : LS) : ex lf F_laws_toMarkS_W0 S = match ex lf F_laws_toMarkS_L0 S with | some (.normal, S1) => ex lf F_laws_toMarkS_W0 S1 | r => r := ex_loop lf F_laws_toMarkS_L0 S
theorem w_impl_TermOk_0 (S : LS) : ex lf F_impl_TermOk_W0 S = match ex lf F_impl_TermOk_L0 S with | some (.normal, S1) => ex lf F_impl_TermOk_W0 S1 | r => r := ex_loop lf F_impl_TermOk_L0 S
theorem w_laws_eqMarkS_0 (S : LS) : ex lf F_laws_eqMarkS_W0 S = match ex lf F_laws_eqMarkS_L0 S with | some (.normal, S1) => ex lf F_laws_eqMarkS_W0 S1 | r => r := ex_loop lf F_laws_eqMarkS_L0 S
theorem w_spec_LettersOf_0 (S : LS) : ex lf F_spec_LettersOf_W0 S = match ex lf F_spec_LettersOf_L0 S with | some (.normal, S1) => ex lf F_spec_LettersOf_W0 S1 | r => r := ex_loop lf F_spec_LettersOf_L0 S
theorem w_impl_LettersOf_0 (S : LS) : ex lf F_impl_LettersOf_W0 S = match ex lf F_impl_LettersOf_L0 S with | some (.normal, S1) => ex lf F_impl_LettersOf_W0 S1 | r => r := ex_loop lf F_impl_LettersOf_L0 S
theorem w_spec_OnceOk_0 (S : LS) : ex lf F_spec_OnceOk_W0 S = match ex lf F_spec_OnceOk_L0 S with | some (.normal, S1) => ex lf F_spec_OnceOk_W0 S1 | r => r := ex_loop lf F_spec_OnceOk_L0 S
theorem w_impl_OnceOk_0 (S : LS) : ex lf F_impl_OnceOk_W0 S = match ex lf F_impl_OnceOk_L0 S with | some (.normal, S1) => ex lf F_impl_OnceOk_W0 S1 | r => r := ex_loop lf F_impl_OnceOk_L0 S
theorem w_spec_TestsOk_0 (S : LS) : ex lf F_spec_TestsOk_W0 S = match ex lf F_spec_TestsOk_L0 S with | some (.normal, S1) => ex lf F_spec_TestsOk_W0 S1 | r => r := ex_loop lf F_spec_TestsOk_L0 S
theorem w_spec_l1Weight_0 (S : LS) : ex lf F_spec_l1Weight_W0 S = match ex lf F_spec_l1Weight_L0 S with | some (.normal, S1) => ex lf F_spec_l1Weight_W0 S1 | r => r := ex_loop lf F_spec_l1Weight_L0 S
theorem w_impl_TestsOk_0 (S : LS) : ex lf F_impl_TestsOk_W0 S = match ex lf F_impl_TestsOk_L0 S with | some (.normal, S1) => ex lf F_impl_TestsOk_W0 S1 | r => r := ex_loop lf F_impl_TestsOk_L0 S
theorem w_spec_l1Agrees_0 (S : LS) : ex lf F_spec_l1Agrees_W0 S = match ex lf F_spec_l1Agrees_L0 S with | some (.normal, S1) => ex lf F_spec_l1Agrees_W0 S1 | r => r := ex_loop lf F_spec_l1Agrees_L0 S
end Zz
