/- The functions of the program, read as data. No conditions. -/
import Derived.Test.YtjallbfleicfnaaLgC
set_option linter.unusedSectionVars false
set_option linter.unusedVariables false
set_option linter.unusedSimpArgs false
namespace Zz
open Go.Lg
instance : GL := ⟨[], [14, 21]⟩
def n_laws_FnExactOtherTests : Nat := 3
def n_laws_FnExactDualTerm : Nat := 4
def n_laws_szTestS : Nat := 9
def n_spec_OtherTests : Nat := 10
def n_laws_toTestS : Nat := 11
def n_impl_OtherTests : Nat := 12
def n_laws_eqTestS : Nat := 13
def n_laws_markTestS : Nat := 14
def n_laws_heldTestS : Nat := 15
def n_laws_szMarkS : Nat := 16
def n_spec_DualTerm : Nat := 17
def n_laws_toMarkS : Nat := 18
def n_impl_DualTerm : Nat := 19
def n_laws_eqMarkS : Nat := 20
def n_laws_markMarkS : Nat := 21
def n_laws_heldMarkS : Nat := 22
def n_impl_TermOk : Nat := 28
def n_spec_TestsOk : Nat := 32
def n_laws_toTest : Nat := 33
def n_impl_TestsOk : Nat := 34
def n_laws_eqTest : Nat := 35
def n_spec_TermOk : Nat := 36
def n_laws_toMark : Nat := 37
def n_laws_eqMark : Nat := 38
def n_impl_manyOk : Nat := 46
def n_impl_isWithin : Nat := 47
def n_impl_partsTaken : Nat := 48
def n_impl_markOk : Nat := 49
def n_spec_l1In : Nat := 52
/-- laws.FnExactOtherTests -/
def F_laws_FnExactOtherTests : LF :=
  { nparams := 1, results := [.t 2], body :=
    (.seq
      (.region false [⟨some 2, .mv, [.c (.b false)], none⟩] [2])
      (.seq
        (.region false [⟨some 3, .mv, [.c (.i 1048576)], none⟩] [])
        (.seq
          (.region false [⟨some 11, .mv, [.t 0], none⟩,
            ⟨some 12, .mv, [.t 3], none⟩,
            ⟨some 13, .call n_laws_szTestS 6656, [.t 11, .t 12], none⟩,
            ⟨some 3, .mv, [.t 13], none⟩] [11, 12, 13])
          (.seq
            (.seq
              (.region false [⟨some 14, .mv, [.t 3], none⟩,
                ⟨some 15, .bin .lss, [.t 14, .c (.i 0)], none⟩] [3, 14])
              (.cond (.t 15) [15]
                (.seq
                  (.region false [⟨some 2, .mv, [.c (.b true)], none⟩] [0])
                  .ret)
                .skip))
            (.seq
              (.region false [⟨some 16, .mv, [.t 0], none⟩,
                ⟨some 17, .call n_laws_toTestS 8704, [.t 16], none⟩,
                ⟨some 18, .call n_spec_OtherTests 9216, [.t 17], none⟩,
                ⟨some 4, .mv, [.t 18], none⟩] [16, 17, 18])
              (.seq
                (.region false [⟨some 19, .mv, [.t 0], none⟩,
                  ⟨some 20, .call n_laws_toTestS 10240, [.t 19], none⟩,
                  ⟨some 5, .mv, [.t 20], none⟩] [19, 20])
                (.seq
                  (.region false [⟨some 21, .mv, [.t 5], none⟩,
                    ⟨some 22, .call n_impl_OtherTests 11264, [.t 21], none⟩,
                    ⟨some 6, .mv, [.t 22], none⟩] [21, 22])
                  (.seq
                    (.seq
                      (.region false [⟨some 23, .mv, [.t 6], none⟩,
                        ⟨some 24, .mv, [.t 4], none⟩,
                        ⟨some 25, .call n_laws_eqTestS 12800, [.t 23, .t 24], none⟩,
                        ⟨some 26, .un .not, [.t 25], none⟩] [23, 24, 25])
                      (.cond (.t 26) [26]
                        (.seq
                          (.region false [⟨some 2, .mv, [.c (.b false)], none⟩] [0, 4, 5, 6])
                          .ret)
                        .skip))
                    (.seq
                      (.seq
                        (.region false [⟨some 27, .mv, [.t 5], none⟩,
                          ⟨some 28, .mv, [.t 0], none⟩,
                          ⟨some 29, .call n_laws_toTestS 14848, [.t 28], none⟩,
                          ⟨some 30, .call n_laws_eqTestS 15360, [.t 27, .t 29], none⟩,
                          ⟨some 31, .un .not, [.t 30], none⟩] [27, 28, 29, 30])
                        (.cond (.t 31) [31]
                          (.seq
                            (.region false [⟨some 2, .mv, [.c (.b false)], none⟩] [0, 4, 5, 6])
                            .ret)
                          .skip))
                      (.seq
                        (.region false [⟨some 7, .mv, [.c (.i 1)], none⟩] [])
                        (.seq
                          (.region false [⟨some 32, .mv, [.t 5], none⟩,
                            ⟨some 33, .mv, [.t 7], none⟩,
                            ⟨some 34, .call n_laws_markTestS 17412, [.t 32, .t 33], none⟩,
                            ⟨some 7, .mv, [.t 34], none⟩] [5, 32, 33, 34])
                          (.seq
                            (.seq
                              (.region false [⟨some 35, .mv, [.t 7], none⟩,
                                ⟨some 36, .bin .lss, [.t 35, .c (.i 0)], none⟩,
                                ⟨some 37, .mv, [.t 36], none⟩,
                                ⟨some 38, .mv, [.t 6], some (37, false)⟩,
                                ⟨some 39, .mv, [.t 4], some (37, false)⟩,
                                ⟨some 40, .call n_laws_eqTestS 20480, [.t 38, .t 39], some (37, false)⟩,
                                ⟨some 41, .un .not, [.t 40], some (37, false)⟩,
                                ⟨some 42, .pick, [.t 37, .c (.b true), .t 41], none⟩] [7, 35, 36, 37, 38, 39, 40, 41])
                              (.cond (.t 42) [42]
                                (.seq
                                  (.region false [⟨some 2, .mv, [.c (.b false)], none⟩] [0, 4, 6])
                                  .ret)
                                .skip))
                            (.seq
                              (.region false [⟨some 8, .mv, [.c (.i 1)], none⟩] [])
                              (.seq
                                (.region false [⟨some 43, .mv, [.t 6], none⟩,
                                  ⟨some 44, .mv, [.t 8], none⟩,
                                  ⟨some 45, .call n_laws_markTestS 23044, [.t 43, .t 44], none⟩,
                                  ⟨some 8, .mv, [.t 45], none⟩] [43, 44, 45])
                                (.seq
                                  (.region false [⟨some 9, .mv, [.c (.i 1)], none⟩] [])
                                  (.seq
                                    (.region false [⟨some 46, .mv, [.t 6], none⟩,
                                      ⟨some 47, .mv, [.t 9], none⟩,
                                      ⟨some 48, .call n_laws_heldTestS 24576, [.t 46, .t 47], none⟩,
                                      ⟨some 9, .mv, [.t 48], none⟩] [46, 47, 48])
                                    (.seq
                                      (.seq
                                        (.region false [⟨some 49, .mv, [.t 9], none⟩,
                                          ⟨some 50, .bin .lss, [.t 49, .c (.i 0)], none⟩] [49])
                                        (.cond (.t 50) [50]
                                          (.seq
                                            (.region false [⟨some 2, .mv, [.c (.b false)], none⟩] [0, 4, 6, 8, 9])
                                            .ret)
                                          .skip))
                                      (.seq
                                        (.seq
                                          (.region false [⟨some 51, .mv, [.t 9], none⟩,
                                            ⟨some 52, .mv, [.t 8], none⟩,
                                            ⟨some 53, .bin .neq, [.t 51, .t 52], none⟩] [9, 51, 52])
                                          (.cond (.t 53) [53]
                                            (.seq
                                              (.region false [⟨some 2, .mv, [.c (.b false)], none⟩] [0, 4, 6, 8])
                                              .ret)
                                            .skip))
                                        (.seq
                                          (.region false [⟨some 54, .mv, [.t 0], none⟩,
                                            ⟨some 55, .call n_laws_toTestS 28160, [.t 54], none⟩,
                                            ⟨some 56, .call n_impl_OtherTests 28672, [.t 55], none⟩,
                                            ⟨some 10, .mv, [.t 56], none⟩] [0, 54, 55, 56])
                                          (.seq
                                            (.seq
                                              (.region false [⟨some 57, .mv, [.t 10], none⟩,
                                                ⟨some 58, .mv, [.t 4], none⟩,
                                                ⟨some 59, .call n_laws_eqTestS 30208, [.t 57, .t 58], none⟩,
                                                ⟨some 60, .un .not, [.t 59], none⟩] [4, 10, 57, 58, 59])
                                              (.cond (.t 60) [60]
                                                (.seq
                                                  (.region false [⟨some 2, .mv, [.c (.b false)], none⟩] [6, 8])
                                                  .ret)
                                                .skip))
                                            (.seq
                                              (.region false [⟨some 9, .mv, [.c (.i 1)], none⟩] [])
                                              (.seq
                                                (.region false [⟨some 61, .mv, [.t 6], none⟩,
                                                  ⟨some 62, .mv, [.t 9], none⟩,
                                                  ⟨some 63, .call n_laws_heldTestS 32256, [.t 61, .t 62], none⟩,
                                                  ⟨some 9, .mv, [.t 63], none⟩] [6, 61, 62, 63])
                                                (.seq
                                                  (.seq
                                                    (.region false [⟨some 64, .mv, [.t 9], none⟩,
                                                      ⟨some 65, .bin .lss, [.t 64, .c (.i 0)], none⟩] [64])
                                                    (.cond (.t 65) [65]
                                                      (.seq
                                                        (.region false [⟨some 2, .mv, [.c (.b false)], none⟩] [8, 9])
                                                        .ret)
                                                      .skip))
                                                  (.seq
                                                    (.seq
                                                      (.region false [⟨some 66, .mv, [.t 9], none⟩,
                                                        ⟨some 67, .mv, [.t 8], none⟩,
                                                        ⟨some 68, .bin .neq, [.t 66, .t 67], none⟩] [8, 9, 66, 67])
                                                      (.cond (.t 68) [68]
                                                        (.seq
                                                          (.region false [⟨some 2, .mv, [.c (.b false)], none⟩] [])
                                                          .ret)
                                                        .skip))
                                                    (.seq
                                                      (.region false [⟨some 2, .mv, [.c (.b true)], none⟩] [])
                                                      .ret))))))))))))))))))))))))) }
/-- laws.FnExactDualTerm -/
def F_laws_FnExactDualTerm : LF :=
  { nparams := 2, results := [.t 4], body :=
    (.seq
      (.region false [⟨some 4, .mv, [.c (.b false)], none⟩] [4])
      (.seq
        (.region false [⟨some 5, .mv, [.c (.i 1048576)], none⟩] [])
        (.seq
          (.region false [⟨some 13, .mv, [.t 1], none⟩,
            ⟨some 14, .mv, [.t 5], none⟩,
            ⟨some 15, .call n_laws_szMarkS 7680, [.t 13, .t 14], none⟩,
            ⟨some 5, .mv, [.t 15], none⟩] [13, 14, 15])
          (.seq
            (.seq
              (.region false [⟨some 16, .mv, [.t 5], none⟩,
                ⟨some 17, .bin .lss, [.t 16, .c (.i 0)], none⟩] [5, 16])
              (.cond (.t 17) [17]
                (.seq
                  (.region false [⟨some 4, .mv, [.c (.b true)], none⟩] [0, 1])
                  .ret)
                .skip))
            (.seq
              (.region false [⟨some 18, .mv, [.t 0], none⟩,
                ⟨some 19, .mv, [.t 1], none⟩,
                ⟨some 20, .call n_laws_toMarkS 10240, [.t 19], none⟩,
                ⟨some 21, .call n_spec_DualTerm 10752, [.t 18, .t 20], none⟩,
                ⟨some 6, .mv, [.t 21], none⟩] [18, 19, 20, 21])
              (.seq
                (.region false [⟨some 22, .mv, [.t 1], none⟩,
                  ⟨some 23, .call n_laws_toMarkS 11776, [.t 22], none⟩,
                  ⟨some 7, .mv, [.t 23], none⟩] [22, 23])
                (.seq
                  (.region false [⟨some 24, .mv, [.t 0], none⟩,
                    ⟨some 25, .mv, [.t 7], none⟩,
                    ⟨some 26, .call n_impl_DualTerm 13312, [.t 24, .t 25], none⟩,
                    ⟨some 8, .mv, [.t 26], none⟩] [24, 25, 26])
                  (.seq
                    (.seq
                      (.region false [⟨some 27, .mv, [.t 8], none⟩,
                        ⟨some 28, .mv, [.t 6], none⟩,
                        ⟨some 29, .call n_laws_eqMarkS 14848, [.t 27, .t 28], none⟩,
                        ⟨some 30, .un .not, [.t 29], none⟩] [27, 28, 29])
                      (.cond (.t 30) [30]
                        (.seq
                          (.region false [⟨some 4, .mv, [.c (.b false)], none⟩] [0, 1, 6, 7, 8])
                          .ret)
                        .skip))
                    (.seq
                      (.seq
                        (.region false [⟨some 31, .mv, [.t 7], none⟩,
                          ⟨some 32, .mv, [.t 1], none⟩,
                          ⟨some 33, .call n_laws_toMarkS 16896, [.t 32], none⟩,
                          ⟨some 34, .call n_laws_eqMarkS 17408, [.t 31, .t 33], none⟩,
                          ⟨some 35, .un .not, [.t 34], none⟩] [31, 32, 33, 34])
                        (.cond (.t 35) [35]
                          (.seq
                            (.region false [⟨some 4, .mv, [.c (.b false)], none⟩] [0, 1, 6, 7, 8])
                            .ret)
                          .skip))
                      (.seq
                        (.region false [⟨some 9, .mv, [.c (.i 1)], none⟩] [])
                        (.seq
                          (.region false [⟨some 36, .mv, [.t 7], none⟩,
                            ⟨some 37, .mv, [.t 9], none⟩,
                            ⟨some 38, .call n_laws_markMarkS 19460, [.t 36, .t 37], none⟩,
                            ⟨some 9, .mv, [.t 38], none⟩] [7, 36, 37, 38])
                          (.seq
                            (.seq
                              (.region false [⟨some 39, .mv, [.t 9], none⟩,
                                ⟨some 40, .bin .lss, [.t 39, .c (.i 0)], none⟩,
                                ⟨some 41, .mv, [.t 40], none⟩,
                                ⟨some 42, .mv, [.t 8], some (41, false)⟩,
                                ⟨some 43, .mv, [.t 6], some (41, false)⟩,
                                ⟨some 44, .call n_laws_eqMarkS 22528, [.t 42, .t 43], some (41, false)⟩,
                                ⟨some 45, .un .not, [.t 44], some (41, false)⟩,
                                ⟨some 46, .pick, [.t 41, .c (.b true), .t 45], none⟩] [9, 39, 40, 41, 42, 43, 44, 45])
                              (.cond (.t 46) [46]
                                (.seq
                                  (.region false [⟨some 4, .mv, [.c (.b false)], none⟩] [0, 1, 6, 8])
                                  .ret)
                                .skip))
                            (.seq
                              (.region false [⟨some 10, .mv, [.c (.i 1)], none⟩] [])
                              (.seq
                                (.region false [⟨some 47, .mv, [.t 8], none⟩,
                                  ⟨some 48, .mv, [.t 10], none⟩,
                                  ⟨some 49, .call n_laws_markMarkS 25092, [.t 47, .t 48], none⟩,
                                  ⟨some 10, .mv, [.t 49], none⟩] [47, 48, 49])
                                (.seq
                                  (.region false [⟨some 11, .mv, [.c (.i 1)], none⟩] [])
                                  (.seq
                                    (.region false [⟨some 50, .mv, [.t 8], none⟩,
                                      ⟨some 51, .mv, [.t 11], none⟩,
                                      ⟨some 52, .call n_laws_heldMarkS 26624, [.t 50, .t 51], none⟩,
                                      ⟨some 11, .mv, [.t 52], none⟩] [50, 51, 52])
                                    (.seq
                                      (.seq
                                        (.region false [⟨some 53, .mv, [.t 11], none⟩,
                                          ⟨some 54, .bin .lss, [.t 53, .c (.i 0)], none⟩] [53])
                                        (.cond (.t 54) [54]
                                          (.seq
                                            (.region false [⟨some 4, .mv, [.c (.b false)], none⟩] [0, 1, 6, 8, 10, 11])
                                            .ret)
                                          .skip))
                                      (.seq
                                        (.seq
                                          (.region false [⟨some 55, .mv, [.t 11], none⟩,
                                            ⟨some 56, .mv, [.t 10], none⟩,
                                            ⟨some 57, .bin .neq, [.t 55, .t 56], none⟩] [11, 55, 56])
                                          (.cond (.t 57) [57]
                                            (.seq
                                              (.region false [⟨some 4, .mv, [.c (.b false)], none⟩] [0, 1, 6, 8, 10])
                                              .ret)
                                            .skip))
                                        (.seq
                                          (.region false [⟨some 58, .mv, [.t 0], none⟩,
                                            ⟨some 59, .mv, [.t 1], none⟩,
                                            ⟨some 60, .call n_laws_toMarkS 30720, [.t 59], none⟩,
                                            ⟨some 61, .call n_impl_DualTerm 31232, [.t 58, .t 60], none⟩,
                                            ⟨some 12, .mv, [.t 61], none⟩] [0, 1, 58, 59, 60, 61])
                                          (.seq
                                            (.seq
                                              (.region false [⟨some 62, .mv, [.t 12], none⟩,
                                                ⟨some 63, .mv, [.t 6], none⟩,
                                                ⟨some 64, .call n_laws_eqMarkS 32768, [.t 62, .t 63], none⟩,
                                                ⟨some 65, .un .not, [.t 64], none⟩] [6, 12, 62, 63, 64])
                                              (.cond (.t 65) [65]
                                                (.seq
                                                  (.region false [⟨some 4, .mv, [.c (.b false)], none⟩] [8, 10])
                                                  .ret)
                                                .skip))
                                            (.seq
                                              (.region false [⟨some 11, .mv, [.c (.i 1)], none⟩] [])
                                              (.seq
                                                (.region false [⟨some 66, .mv, [.t 8], none⟩,
                                                  ⟨some 67, .mv, [.t 11], none⟩,
                                                  ⟨some 68, .call n_laws_heldMarkS 34816, [.t 66, .t 67], none⟩,
                                                  ⟨some 11, .mv, [.t 68], none⟩] [8, 66, 67, 68])
                                                (.seq
                                                  (.seq
                                                    (.region false [⟨some 69, .mv, [.t 11], none⟩,
                                                      ⟨some 70, .bin .lss, [.t 69, .c (.i 0)], none⟩] [69])
                                                    (.cond (.t 70) [70]
                                                      (.seq
                                                        (.region false [⟨some 4, .mv, [.c (.b false)], none⟩] [10, 11])
                                                        .ret)
                                                      .skip))
                                                  (.seq
                                                    (.seq
                                                      (.region false [⟨some 71, .mv, [.t 11], none⟩,
                                                        ⟨some 72, .mv, [.t 10], none⟩,
                                                        ⟨some 73, .bin .neq, [.t 71, .t 72], none⟩] [10, 11, 71, 72])
                                                      (.cond (.t 73) [73]
                                                        (.seq
                                                          (.region false [⟨some 4, .mv, [.c (.b false)], none⟩] [])
                                                          .ret)
                                                        .skip))
                                                    (.seq
                                                      (.region false [⟨some 4, .mv, [.c (.b true)], none⟩] [])
                                                      .ret))))))))))))))))))))))))) }
/-- laws.szTestS -/
def F_laws_szTestS : LF :=
  { nparams := 2, results := [.t 4], body :=
    (.seq
      (.region false [⟨some 4, .mv, [.c (.i 0)], none⟩] [4])
      (.seq
        (.region false [⟨some 5, .mv, [.t 1], none⟩,
          ⟨some 6, .mv, [.t 0], none⟩,
          ⟨some 7, .len, [.t 6], none⟩,
          ⟨some 8, .bin .sub, [.t 5, .t 7], none⟩,
          ⟨some 1, .mv, [.t 8], none⟩] [0, 5, 6, 7, 8])
        (.seq
          (.seq
            (.region false [⟨some 9, .mv, [.t 1], none⟩,
              ⟨some 10, .bin .lss, [.t 9, .c (.i 0)], none⟩] [9])
            (.cond (.t 10) [10]
              (.seq
                (.region false [⟨some 4, .mv, [.c (.i (-1))], none⟩] [1])
                .ret)
              .skip))
          (.seq
            (.region false [⟨some 11, .mv, [.t 1], none⟩,
              ⟨some 4, .mv, [.t 11], none⟩] [1, 11])
            .ret)))) }
/-- spec.OtherTests -/
def F_spec_OtherTests_L0 : LC :=
  (.seq
    (.seq
      (.region false [⟨some 6, .mv, [.t 4], none⟩,
        ⟨some 7, .mv, [.t 0], none⟩,
        ⟨some 8, .len, [.t 7], none⟩,
        ⟨some 9, .bin .lss, [.t 6, .t 8], none⟩,
        ⟨some 10, .mv, [.t 9], none⟩,
        ⟨some 11, .mv, [.t 0], some (10, true)⟩,
        ⟨some 12, .call n_spec_TestsOk 6144, [.t 11], some (10, true)⟩,
        ⟨some 13, .pick, [.t 10, .t 12, .c (.b false)], none⟩] [6, 7, 8, 9, 10, 11, 12])
      (.cond (.t 13) [13]
        .skip
        (.exit 0)))
    (.seq
      (.block 1
        (.region true [⟨some 16, .mv, [.t 3], none⟩,
          ⟨some 17, .mv, [.t 0], none⟩,
          ⟨some 18, .mv, [.t 4], none⟩,
          ⟨some 19, .idxa 2, [.t 17, .t 18], none⟩,
          ⟨some 20, .fld 0 1 false, [.t 19], none⟩,
          ⟨some 21, .load 1 false, [.t 20], none⟩,
          ⟨some 22, .mv, [.t 0], none⟩,
          ⟨some 23, .mv, [.t 4], none⟩,
          ⟨some 24, .idxa 2, [.t 22, .t 23], none⟩,
          ⟨some 25, .fld 1 1 false, [.t 24], none⟩,
          ⟨some 26, .load 1 false, [.t 25], none⟩,
          ⟨some 27, .bin .sub, [.c (.i 6), .t 26], none⟩,
          ⟨some 28, .build [.i 0, .i 0] [(0, 1), (1, 1)], [.t 21, .t 27], none⟩,
          ⟨some 29, .bslice 14864 1 2 (.st [.i 0, .i 0]) [0], [.t 28], none⟩,
          ⟨some 30, .app 15376 2, [.t 16, .t 29], none⟩,
          ⟨some 3, .mv, [.t 30], none⟩] [16, 17, 18, 19, 20, 21, 22, 23, 24, 25, 26, 27, 28, 29, 30]))
      (.region false [⟨some 14, .mv, [.t 4], none⟩,
        ⟨some 15, .bin .add, [.t 14, .c (.i 1)], none⟩,
        ⟨some 4, .mv, [.t 15], none⟩] [14, 15])))
def F_spec_OtherTests_W0 : LC := .loop F_spec_OtherTests_L0
def F_spec_OtherTests : LF :=
  { nparams := 1, results := [.t 2], body :=
    (.seq
      (.region false [⟨some 2, .newnil 1040, [], none⟩] [2])
      (.seq
        (.region false [⟨some 5, .bslice 2576 0 2 (.st [.i 0, .i 0]) [], [], none⟩,
          ⟨some 3, .mv, [.t 5], none⟩] [5])
        (.seq
          (.seq
            (.region false [⟨some 4, .mv, [.c (.i 0)], none⟩] [])
            (.block 0
              F_spec_OtherTests_W0))
          (.seq
            (.region false [⟨some 31, .mv, [.t 3], none⟩,
              ⟨some 2, .mv, [.t 31], none⟩] [0, 3, 4, 31])
            .ret)))) }
/-- laws.toTestS -/
def F_laws_toTestS_L0 : LC :=
  (.seq
    (.seq
      (.region false [⟨some 8, .mv, [.t 4], none⟩,
        ⟨some 9, .mv, [.t 0], none⟩,
        ⟨some 10, .len, [.t 9], none⟩,
        ⟨some 11, .bin .lss, [.t 8, .t 10], none⟩] [8, 9, 10])
      (.cond (.t 11) [11]
        .skip
        (.exit 0)))
    (.seq
      (.block 1
        (.region false [⟨some 14, .mv, [.t 3], none⟩,
          ⟨some 15, .mv, [.t 4], none⟩,
          ⟨some 16, .mv, [.t 0], none⟩,
          ⟨some 17, .mv, [.t 4], none⟩,
          ⟨some 18, .idxa 2, [.t 16, .t 17], none⟩,
          ⟨some 19, .load 2 true, [.t 18], none⟩,
          ⟨some 20, .call n_laws_toTest 10240, [.t 19], none⟩,
          ⟨some 21, .idxa 2, [.t 14, .t 15], none⟩,
          ⟨none, .store 2, [.t 21, .t 20], none⟩] [14, 15, 16, 17, 18, 19, 20, 21]))
      (.region false [⟨some 12, .mv, [.t 4], none⟩,
        ⟨some 13, .bin .add, [.t 12, .c (.i 1)], none⟩,
        ⟨some 4, .mv, [.t 13], none⟩] [12, 13])))
def F_laws_toTestS_W0 : LC := .loop F_laws_toTestS_L0
def F_laws_toTestS : LF :=
  { nparams := 1, results := [.t 2], body :=
    (.seq
      (.region false [⟨some 2, .newnil 1040, [], none⟩] [2])
      (.seq
        (.region false [⟨some 5, .mv, [.t 0], none⟩,
          ⟨some 6, .len, [.t 5], none⟩,
          ⟨some 7, .make 3600 2 (.st [.i 0, .i 0]), [.t 6, .t 6], none⟩,
          ⟨some 3, .mv, [.t 7], none⟩] [5, 6, 7])
        (.seq
          (.seq
            (.region false [⟨some 4, .mv, [.c (.i 0)], none⟩] [])
            (.block 0
              F_laws_toTestS_W0))
          (.seq
            (.region false [⟨some 22, .mv, [.t 3], none⟩,
              ⟨some 2, .mv, [.t 22], none⟩] [0, 3, 4, 22])
            .ret)))) }
/-- impl.OtherTests -/
def F_impl_OtherTests_L0 : LC :=
  (.seq
    (.region false [⟨some 15, .bin .lss, [.t 14, .t 13], none⟩] [])
    (.seq
      (.cond (.t 15) [15]
        .skip
        (.exit 0))
      (.seq
        (.block 1
          (.seq
            (.region false [⟨some 16, .mv, [.t 14], none⟩,
              ⟨some 17, .idxa 2, [.t 12, .t 14], none⟩,
              ⟨some 18, .load 2 true, [.t 17], none⟩,
              ⟨some 5, .alloc 2576 (.st [.i 0, .i 0]), [], none⟩,
              ⟨some 4, .mv, [.t 16], none⟩,
              ⟨none, .store 2, [.t 5, .t 18], none⟩] [16, 17, 18])
            (.region false [⟨some 19, .mv, [.t 3], none⟩,
              ⟨some 20, .mv, [.t 4], none⟩,
              ⟨some 21, .fld 0 1 false, [.t 5], none⟩,
              ⟨some 22, .load 1 false, [.t 21], none⟩,
              ⟨some 23, .fld 1 1 false, [.t 5], none⟩,
              ⟨some 24, .load 1 false, [.t 23], none⟩,
              ⟨some 25, .bin .sub, [.c (.i 6), .t 24], none⟩,
              ⟨some 26, .build [.i 0, .i 0] [(0, 1), (1, 1)], [.t 22, .t 25], none⟩,
              ⟨some 27, .idxa 2, [.t 19, .t 20], none⟩,
              ⟨none, .store 2, [.t 27, .t 26], none⟩] [4, 5, 19, 20, 21, 22, 23, 24, 25, 26, 27])))
        (.region false [⟨some 28, .bin .add, [.t 14, .c (.i 1)], none⟩,
          ⟨some 14, .mv, [.t 28], none⟩] [28]))))
def F_impl_OtherTests_W0 : LC := .loop F_impl_OtherTests_L0
def F_impl_OtherTests : LF :=
  { nparams := 1, results := [.t 2], body :=
    (.seq
      (.region false [⟨some 2, .newnil 1040, [], none⟩] [2])
      (.seq
        (.seq
          (.region false [⟨some 6, .mv, [.t 0], none⟩,
            ⟨some 7, .call n_impl_TestsOk 3584, [.t 6], none⟩,
            ⟨some 8, .un .not, [.t 7], none⟩] [6, 7])
          (.cond (.t 8) [8]
            (.seq
              (.region false [⟨some 2, .newnil 1040, [], none⟩] [0])
              .ret)
            .skip))
        (.seq
          (.region false [⟨some 9, .mv, [.t 0], none⟩,
            ⟨some 10, .len, [.t 9], none⟩,
            ⟨some 11, .make 5648 2 (.st [.i 0, .i 0]), [.t 10, .t 10], none⟩,
            ⟨some 3, .mv, [.t 11], none⟩] [9, 10, 11])
          (.seq
            (.seq
              (.region false [⟨some 12, .mv, [.t 0], none⟩,
                ⟨some 13, .len, [.t 12], none⟩,
                ⟨some 14, .mv, [.c (.i 0)], none⟩] [0])
              (.block 0
                F_impl_OtherTests_W0))
            (.seq
              (.region false [⟨some 29, .mv, [.t 3], none⟩,
                ⟨some 2, .mv, [.t 29], none⟩] [3, 12, 13, 14, 29])
              .ret))))) }
/-- laws.eqTestS -/
def F_laws_eqTestS_L0 : LC :=
  (.seq
    (.seq
      (.region false [⟨some 11, .mv, [.t 5], none⟩,
        ⟨some 12, .mv, [.t 0], none⟩,
        ⟨some 13, .len, [.t 12], none⟩,
        ⟨some 14, .bin .lss, [.t 11, .t 13], none⟩] [11, 12, 13])
      (.cond (.t 14) [14]
        .skip
        (.exit 0)))
    (.seq
      (.block 1
        (.seq
          (.region true [⟨some 17, .mv, [.t 0], none⟩,
            ⟨some 18, .mv, [.t 5], none⟩,
            ⟨some 19, .idxa 2, [.t 17, .t 18], none⟩,
            ⟨some 20, .load 2 true, [.t 19], none⟩,
            ⟨some 21, .mv, [.t 1], none⟩,
            ⟨some 22, .mv, [.t 5], none⟩,
            ⟨some 23, .idxa 2, [.t 21, .t 22], none⟩,
            ⟨some 24, .load 2 true, [.t 23], none⟩,
            ⟨some 25, .call n_laws_eqTest 12800, [.t 20, .t 24], none⟩,
            ⟨some 26, .un .not, [.t 25], none⟩] [17, 18, 19, 20, 21, 22, 23, 24, 25])
          (.cond (.t 26) [26]
            (.seq
              (.region false [⟨some 4, .mv, [.c (.b false)], none⟩] [0, 1, 5])
              .ret)
            .skip)))
      (.region false [⟨some 15, .mv, [.t 5], none⟩,
        ⟨some 16, .bin .add, [.t 15, .c (.i 1)], none⟩,
        ⟨some 5, .mv, [.t 16], none⟩] [15, 16])))
def F_laws_eqTestS_W0 : LC := .loop F_laws_eqTestS_L0
def F_laws_eqTestS : LF :=
  { nparams := 2, results := [.t 4], body :=
    (.seq
      (.region false [⟨some 4, .mv, [.c (.b false)], none⟩] [4])
      (.seq
        (.seq
          (.region false [⟨some 6, .mv, [.t 0], none⟩,
            ⟨some 7, .len, [.t 6], none⟩,
            ⟨some 8, .mv, [.t 1], none⟩,
            ⟨some 9, .len, [.t 8], none⟩,
            ⟨some 10, .bin .neq, [.t 7, .t 9], none⟩] [6, 7, 8, 9])
          (.cond (.t 10) [10]
            (.seq
              (.region false [⟨some 4, .mv, [.c (.b false)], none⟩] [0, 1])
              .ret)
            .skip))
        (.seq
          (.seq
            (.region false [⟨some 5, .mv, [.c (.i 0)], none⟩] [])
            (.block 0
              F_laws_eqTestS_W0))
          (.seq
            (.region false [⟨some 4, .mv, [.c (.b true)], none⟩] [0, 1, 5])
            .ret)))) }
/-- laws.markTestS -/
def F_laws_markTestS_L0 : LC :=
  (.seq
    (.seq
      (.region false [⟨some 6, .mv, [.t 5], none⟩,
        ⟨some 7, .mv, [.t 0], none⟩,
        ⟨some 8, .len, [.t 7], none⟩,
        ⟨some 9, .bin .lss, [.t 6, .t 8], none⟩] [6, 7, 8])
      (.cond (.t 9) [9]
        .skip
        (.exit 0)))
    (.seq
      (.block 1
        (.seq
          (.region false [⟨some 12, .mv, [.t 0], none⟩,
            ⟨some 13, .mv, [.t 5], none⟩,
            ⟨some 14, .mv, [.t 1], none⟩,
            ⟨some 15, .idxa 2, [.t 12, .t 13], none⟩,
            ⟨some 16, .fld 0 1 false, [.t 15], none⟩,
            ⟨none, .store 1, [.t 16, .t 14], none⟩] [12, 13, 14, 15, 16])
          (.seq
            (.region false [⟨some 17, .mv, [.t 1], none⟩,
              ⟨some 18, .bin .add, [.t 17, .c (.i 1)], none⟩,
              ⟨some 1, .mv, [.t 18], none⟩] [17, 18])
            (.seq
              (.region false [⟨some 19, .mv, [.t 0], none⟩,
                ⟨some 20, .mv, [.t 5], none⟩,
                ⟨some 21, .mv, [.t 1], none⟩,
                ⟨some 22, .idxa 2, [.t 19, .t 20], none⟩,
                ⟨some 23, .fld 1 1 false, [.t 22], none⟩,
                ⟨none, .store 1, [.t 23, .t 21], none⟩] [19, 20, 21, 22, 23])
              (.region false [⟨some 24, .mv, [.t 1], none⟩,
                ⟨some 25, .bin .add, [.t 24, .c (.i 1)], none⟩,
                ⟨some 1, .mv, [.t 25], none⟩] [24, 25])))))
      (.region false [⟨some 10, .mv, [.t 5], none⟩,
        ⟨some 11, .bin .add, [.t 10, .c (.i 1)], none⟩,
        ⟨some 5, .mv, [.t 11], none⟩] [10, 11])))
def F_laws_markTestS_W0 : LC := .loop F_laws_markTestS_L0
def F_laws_markTestS : LF :=
  { nparams := 2, results := [.t 4], body :=
    (.seq
      (.region false [⟨some 4, .mv, [.c (.i 0)], none⟩] [4])
      (.seq
        (.seq
          (.region false [⟨some 5, .mv, [.c (.i 0)], none⟩] [])
          (.block 0
            F_laws_markTestS_W0))
        (.seq
          (.region false [⟨some 26, .mv, [.t 1], none⟩,
            ⟨some 4, .mv, [.t 26], none⟩] [1, 5, 26])
          .ret))) }
/-- laws.heldTestS -/
def F_laws_heldTestS_L0 : LC :=
  (.seq
    (.seq
      (.region false [⟨some 6, .mv, [.t 5], none⟩,
        ⟨some 7, .mv, [.t 0], none⟩,
        ⟨some 8, .len, [.t 7], none⟩,
        ⟨some 9, .bin .lss, [.t 6, .t 8], none⟩] [6, 7, 8])
      (.cond (.t 9) [9]
        .skip
        (.exit 0)))
    (.seq
      (.block 1
        (.seq
          (.seq
            (.region false [⟨some 12, .mv, [.t 0], none⟩,
              ⟨some 13, .mv, [.t 5], none⟩,
              ⟨some 14, .idxa 2, [.t 12, .t 13], none⟩,
              ⟨some 15, .fld 0 1 false, [.t 14], none⟩,
              ⟨some 16, .load 1 false, [.t 15], none⟩,
              ⟨some 17, .mv, [.t 1], none⟩,
              ⟨some 18, .bin .neq, [.t 16, .t 17], none⟩] [12, 13, 14, 15, 16, 17])
            (.cond (.t 18) [18]
              (.seq
                (.region false [⟨some 4, .mv, [.c (.i (-1))], none⟩] [0, 1, 5])
                .ret)
              .skip))
          (.seq
            (.region false [⟨some 19, .mv, [.t 1], none⟩,
              ⟨some 20, .bin .add, [.t 19, .c (.i 1)], none⟩,
              ⟨some 1, .mv, [.t 20], none⟩] [19, 20])
            (.seq
              (.seq
                (.region false [⟨some 21, .mv, [.t 0], none⟩,
                  ⟨some 22, .mv, [.t 5], none⟩,
                  ⟨some 23, .idxa 2, [.t 21, .t 22], none⟩,
                  ⟨some 24, .fld 1 1 false, [.t 23], none⟩,
                  ⟨some 25, .load 1 false, [.t 24], none⟩,
                  ⟨some 26, .mv, [.t 1], none⟩,
                  ⟨some 27, .bin .neq, [.t 25, .t 26], none⟩] [21, 22, 23, 24, 25, 26])
                (.cond (.t 27) [27]
                  (.seq
                    (.region false [⟨some 4, .mv, [.c (.i (-1))], none⟩] [0, 1, 5])
                    .ret)
                  .skip))
              (.region false [⟨some 28, .mv, [.t 1], none⟩,
                ⟨some 29, .bin .add, [.t 28, .c (.i 1)], none⟩,
                ⟨some 1, .mv, [.t 29], none⟩] [28, 29])))))
      (.region false [⟨some 10, .mv, [.t 5], none⟩,
        ⟨some 11, .bin .add, [.t 10, .c (.i 1)], none⟩,
        ⟨some 5, .mv, [.t 11], none⟩] [10, 11])))
def F_laws_heldTestS_W0 : LC := .loop F_laws_heldTestS_L0
def F_laws_heldTestS : LF :=
  { nparams := 2, results := [.t 4], body :=
    (.seq
      (.region false [⟨some 4, .mv, [.c (.i 0)], none⟩] [4])
      (.seq
        (.seq
          (.region false [⟨some 5, .mv, [.c (.i 0)], none⟩] [])
          (.block 0
            F_laws_heldTestS_W0))
        (.seq
          (.region false [⟨some 30, .mv, [.t 1], none⟩,
            ⟨some 4, .mv, [.t 30], none⟩] [0, 1, 5, 30])
          .ret))) }
/-- laws.szMarkS -/
def F_laws_szMarkS : LF :=
  { nparams := 2, results := [.t 4], body :=
    (.seq
      (.region false [⟨some 4, .mv, [.c (.i 0)], none⟩] [4])
      (.seq
        (.region false [⟨some 5, .mv, [.t 1], none⟩,
          ⟨some 6, .mv, [.t 0], none⟩,
          ⟨some 7, .len, [.t 6], none⟩,
          ⟨some 8, .bin .sub, [.t 5, .t 7], none⟩,
          ⟨some 1, .mv, [.t 8], none⟩] [0, 5, 6, 7, 8])
        (.seq
          (.seq
            (.region false [⟨some 9, .mv, [.t 1], none⟩,
              ⟨some 10, .bin .lss, [.t 9, .c (.i 0)], none⟩] [9])
            (.cond (.t 10) [10]
              (.seq
                (.region false [⟨some 4, .mv, [.c (.i (-1))], none⟩] [1])
                .ret)
              .skip))
          (.seq
            (.region false [⟨some 11, .mv, [.t 1], none⟩,
              ⟨some 4, .mv, [.t 11], none⟩] [1, 11])
            .ret)))) }
/-- spec.DualTerm -/
def F_spec_DualTerm_L0 : LC :=
  (.seq
    (.seq
      (.region false [⟨some 8, .mv, [.t 6], none⟩,
        ⟨some 9, .mv, [.t 1], none⟩,
        ⟨some 10, .len, [.t 9], none⟩,
        ⟨some 11, .bin .lss, [.t 8, .t 10], none⟩,
        ⟨some 12, .mv, [.t 11], none⟩,
        ⟨some 13, .mv, [.t 0], some (12, true)⟩,
        ⟨some 14, .mv, [.t 1], some (12, true)⟩,
        ⟨some 15, .call n_spec_TermOk 7680, [.t 13, .t 14], some (12, true)⟩,
        ⟨some 16, .pick, [.t 12, .t 15, .c (.b false)], none⟩] [8, 9, 10, 11, 12, 13, 14, 15])
      (.cond (.t 16) [16]
        .skip
        (.exit 0)))
    (.seq
      (.block 1
        (.seq
          (.region false [⟨some 19, .mv, [.t 1], none⟩,
            ⟨some 20, .mv, [.t 6], none⟩,
            ⟨some 21, .idxa 2, [.t 19, .t 20], none⟩,
            ⟨some 22, .fld 0 1 false, [.t 21], none⟩,
            ⟨some 23, .load 1 false, [.t 22], none⟩] [19, 20, 21, 22])
          (.block 2
            (.seq
              (.region false [⟨some 32, .bin .eql, [.t 23, .c (.i 2)], none⟩,
                ⟨some 31, .mv, [.t 32], none⟩] [32])
              (.cond (.t 31) [31]
                (.region false [⟨some 33, .mv, [.t 5], none⟩,
                  ⟨some 34, .build [.i 0, .i 0] [(0, 1)], [.c (.i 3)], none⟩,
                  ⟨some 35, .bslice 17936 1 2 (.st [.i 0, .i 0]) [0], [.t 34], none⟩,
                  ⟨some 36, .app 18448 2, [.t 33, .t 35], none⟩,
                  ⟨some 5, .mv, [.t 36], none⟩] [23, 33, 34, 35, 36])
                (.seq
                  (.region false [⟨some 38, .bin .eql, [.t 23, .c (.i 3)], none⟩,
                    ⟨some 37, .mv, [.t 38], none⟩] [23, 38])
                  (.cond (.t 37) [37]
                    (.region false [⟨some 39, .mv, [.t 5], none⟩,
                      ⟨some 40, .build [.i 0, .i 0] [(0, 1)], [.c (.i 2)], none⟩,
                      ⟨some 41, .bslice 21008 1 2 (.st [.i 0, .i 0]) [0], [.t 40], none⟩,
                      ⟨some 42, .app 21520 2, [.t 39, .t 41], none⟩,
                      ⟨some 5, .mv, [.t 42], none⟩] [39, 40, 41, 42])
                    (.region false [⟨some 24, .mv, [.t 5], none⟩,
                      ⟨some 25, .mv, [.t 1], none⟩,
                      ⟨some 26, .mv, [.t 6], none⟩,
                      ⟨some 27, .idxa 2, [.t 25, .t 26], none⟩,
                      ⟨some 28, .load 2 true, [.t 27], none⟩,
                      ⟨some 29, .bslice 14864 1 2 (.st [.i 0, .i 0]) [0], [.t 28], none⟩,
                      ⟨some 30, .app 15376 2, [.t 24, .t 29], none⟩,
                      ⟨some 5, .mv, [.t 30], none⟩] [24, 25, 26, 27, 28, 29, 30]))))))))
      (.region false [⟨some 17, .mv, [.t 6], none⟩,
        ⟨some 18, .bin .add, [.t 17, .c (.i 1)], none⟩,
        ⟨some 6, .mv, [.t 18], none⟩] [17, 18])))
def F_spec_DualTerm_W0 : LC := .loop F_spec_DualTerm_L0
def F_spec_DualTerm : LF :=
  { nparams := 2, results := [.t 4], body :=
    (.seq
      (.region false [⟨some 4, .newnil 2064, [], none⟩] [4])
      (.seq
        (.region false [⟨some 7, .bslice 3600 0 2 (.st [.i 0, .i 0]) [], [], none⟩,
          ⟨some 5, .mv, [.t 7], none⟩] [7])
        (.seq
          (.seq
            (.region false [⟨some 6, .mv, [.c (.i 0)], none⟩] [])
            (.block 0
              F_spec_DualTerm_W0))
          (.seq
            (.region false [⟨some 43, .mv, [.t 5], none⟩,
              ⟨some 4, .mv, [.t 43], none⟩] [0, 1, 5, 6, 43])
            .ret)))) }
/-- laws.toMarkS -/
def F_laws_toMarkS_L0 : LC :=
  (.seq
    (.seq
      (.region false [⟨some 8, .mv, [.t 4], none⟩,
        ⟨some 9, .mv, [.t 0], none⟩,
        ⟨some 10, .len, [.t 9], none⟩,
        ⟨some 11, .bin .lss, [.t 8, .t 10], none⟩] [8, 9, 10])
      (.cond (.t 11) [11]
        .skip
        (.exit 0)))
    (.seq
      (.block 1
        (.region false [⟨some 14, .mv, [.t 3], none⟩,
          ⟨some 15, .mv, [.t 4], none⟩,
          ⟨some 16, .mv, [.t 0], none⟩,
          ⟨some 17, .mv, [.t 4], none⟩,
          ⟨some 18, .idxa 2, [.t 16, .t 17], none⟩,
          ⟨some 19, .load 2 true, [.t 18], none⟩,
          ⟨some 20, .call n_laws_toMark 10240, [.t 19], none⟩,
          ⟨some 21, .idxa 2, [.t 14, .t 15], none⟩,
          ⟨none, .store 2, [.t 21, .t 20], none⟩] [14, 15, 16, 17, 18, 19, 20, 21]))
      (.region false [⟨some 12, .mv, [.t 4], none⟩,
        ⟨some 13, .bin .add, [.t 12, .c (.i 1)], none⟩,
        ⟨some 4, .mv, [.t 13], none⟩] [12, 13])))
def F_laws_toMarkS_W0 : LC := .loop F_laws_toMarkS_L0
def F_laws_toMarkS : LF :=
  { nparams := 1, results := [.t 2], body :=
    (.seq
      (.region false [⟨some 2, .newnil 1040, [], none⟩] [2])
      (.seq
        (.region false [⟨some 5, .mv, [.t 0], none⟩,
          ⟨some 6, .len, [.t 5], none⟩,
          ⟨some 7, .make 3600 2 (.st [.i 0, .i 0]), [.t 6, .t 6], none⟩,
          ⟨some 3, .mv, [.t 7], none⟩] [5, 6, 7])
        (.seq
          (.seq
            (.region false [⟨some 4, .mv, [.c (.i 0)], none⟩] [])
            (.block 0
              F_laws_toMarkS_W0))
          (.seq
            (.region false [⟨some 22, .mv, [.t 3], none⟩,
              ⟨some 2, .mv, [.t 22], none⟩] [0, 3, 4, 22])
            .ret)))) }
/-- impl.DualTerm -/
def F_impl_DualTerm_L0 : LC :=
  (.seq
    (.region false [⟨some 18, .bin .lss, [.t 17, .t 16], none⟩] [])
    (.seq
      (.cond (.t 18) [18]
        .skip
        (.exit 0))
      (.seq
        (.block 1
          (.seq
            (.region false [⟨some 19, .mv, [.t 17], none⟩,
              ⟨some 20, .idxa 2, [.t 15, .t 17], none⟩,
              ⟨some 21, .load 2 true, [.t 20], none⟩,
              ⟨some 7, .alloc 3600 (.st [.i 0, .i 0]), [], none⟩,
              ⟨some 6, .mv, [.t 19], none⟩,
              ⟨none, .store 2, [.t 7, .t 21], none⟩] [19, 20, 21])
            (.seq
              (.region false [⟨some 22, .fld 0 1 false, [.t 7], none⟩,
                ⟨some 23, .load 1 false, [.t 22], none⟩] [22])
              (.block 2
                (.seq
                  (.region false [⟨some 29, .bin .eql, [.t 23, .c (.i 2)], none⟩,
                    ⟨some 28, .mv, [.t 29], none⟩] [29])
                  (.cond (.t 28) [28]
                    (.region false [⟨some 30, .mv, [.t 5], none⟩,
                      ⟨some 31, .mv, [.t 6], none⟩,
                      ⟨some 32, .build [.i 0, .i 0] [(0, 1)], [.c (.i 3)], none⟩,
                      ⟨some 33, .idxa 2, [.t 30, .t 31], none⟩,
                      ⟨none, .store 2, [.t 33, .t 32], none⟩] [6, 7, 23, 30, 31, 32, 33])
                    (.seq
                      (.region false [⟨some 35, .bin .eql, [.t 23, .c (.i 3)], none⟩,
                        ⟨some 34, .mv, [.t 35], none⟩] [23, 35])
                      (.cond (.t 34) [34]
                        (.region false [⟨some 36, .mv, [.t 5], none⟩,
                          ⟨some 37, .mv, [.t 6], none⟩,
                          ⟨some 38, .build [.i 0, .i 0] [(0, 1)], [.c (.i 2)], none⟩,
                          ⟨some 39, .idxa 2, [.t 36, .t 37], none⟩,
                          ⟨none, .store 2, [.t 39, .t 38], none⟩] [6, 7, 36, 37, 38, 39])
                        (.region false [⟨some 24, .mv, [.t 5], none⟩,
                          ⟨some 25, .mv, [.t 6], none⟩,
                          ⟨some 26, .load 2 true, [.t 7], none⟩,
                          ⟨some 27, .idxa 2, [.t 24, .t 25], none⟩,
                          ⟨none, .store 2, [.t 27, .t 26], none⟩] [6, 7, 24, 25, 26, 27])))))))))
        (.region false [⟨some 40, .bin .add, [.t 17, .c (.i 1)], none⟩,
          ⟨some 17, .mv, [.t 40], none⟩] [40]))))
def F_impl_DualTerm_W0 : LC := .loop F_impl_DualTerm_L0
def F_impl_DualTerm : LF :=
  { nparams := 2, results := [.t 4], body :=
    (.seq
      (.region false [⟨some 4, .newnil 2064, [], none⟩] [4])
      (.seq
        (.seq
          (.region false [⟨some 8, .mv, [.t 0], none⟩,
            ⟨some 9, .mv, [.t 1], none⟩,
            ⟨some 10, .call n_impl_TermOk 5120, [.t 8, .t 9], none⟩,
            ⟨some 11, .un .not, [.t 10], none⟩] [0, 8, 9, 10])
          (.cond (.t 11) [11]
            (.seq
              (.region false [⟨some 4, .newnil 2064, [], none⟩] [1])
              .ret)
            .skip))
        (.seq
          (.region false [⟨some 12, .mv, [.t 1], none⟩,
            ⟨some 13, .len, [.t 12], none⟩,
            ⟨some 14, .make 7184 2 (.st [.i 0, .i 0]), [.t 13, .t 13], none⟩,
            ⟨some 5, .mv, [.t 14], none⟩] [12, 13, 14])
          (.seq
            (.seq
              (.region false [⟨some 15, .mv, [.t 1], none⟩,
                ⟨some 16, .len, [.t 15], none⟩,
                ⟨some 17, .mv, [.c (.i 0)], none⟩] [1])
              (.block 0
                F_impl_DualTerm_W0))
            (.seq
              (.region false [⟨some 41, .mv, [.t 5], none⟩,
                ⟨some 4, .mv, [.t 41], none⟩] [5, 15, 16, 17, 41])
              .ret))))) }
/-- laws.eqMarkS -/
def F_laws_eqMarkS_L0 : LC :=
  (.seq
    (.seq
      (.region false [⟨some 11, .mv, [.t 5], none⟩,
        ⟨some 12, .mv, [.t 0], none⟩,
        ⟨some 13, .len, [.t 12], none⟩,
        ⟨some 14, .bin .lss, [.t 11, .t 13], none⟩] [11, 12, 13])
      (.cond (.t 14) [14]
        .skip
        (.exit 0)))
    (.seq
      (.block 1
        (.seq
          (.region true [⟨some 17, .mv, [.t 0], none⟩,
            ⟨some 18, .mv, [.t 5], none⟩,
            ⟨some 19, .idxa 2, [.t 17, .t 18], none⟩,
            ⟨some 20, .load 2 true, [.t 19], none⟩,
            ⟨some 21, .mv, [.t 1], none⟩,
            ⟨some 22, .mv, [.t 5], none⟩,
            ⟨some 23, .idxa 2, [.t 21, .t 22], none⟩,
            ⟨some 24, .load 2 true, [.t 23], none⟩,
            ⟨some 25, .call n_laws_eqMark 12800, [.t 20, .t 24], none⟩,
            ⟨some 26, .un .not, [.t 25], none⟩] [17, 18, 19, 20, 21, 22, 23, 24, 25])
          (.cond (.t 26) [26]
            (.seq
              (.region false [⟨some 4, .mv, [.c (.b false)], none⟩] [0, 1, 5])
              .ret)
            .skip)))
      (.region false [⟨some 15, .mv, [.t 5], none⟩,
        ⟨some 16, .bin .add, [.t 15, .c (.i 1)], none⟩,
        ⟨some 5, .mv, [.t 16], none⟩] [15, 16])))
def F_laws_eqMarkS_W0 : LC := .loop F_laws_eqMarkS_L0
def F_laws_eqMarkS : LF :=
  { nparams := 2, results := [.t 4], body :=
    (.seq
      (.region false [⟨some 4, .mv, [.c (.b false)], none⟩] [4])
      (.seq
        (.seq
          (.region false [⟨some 6, .mv, [.t 0], none⟩,
            ⟨some 7, .len, [.t 6], none⟩,
            ⟨some 8, .mv, [.t 1], none⟩,
            ⟨some 9, .len, [.t 8], none⟩,
            ⟨some 10, .bin .neq, [.t 7, .t 9], none⟩] [6, 7, 8, 9])
          (.cond (.t 10) [10]
            (.seq
              (.region false [⟨some 4, .mv, [.c (.b false)], none⟩] [0, 1])
              .ret)
            .skip))
        (.seq
          (.seq
            (.region false [⟨some 5, .mv, [.c (.i 0)], none⟩] [])
            (.block 0
              F_laws_eqMarkS_W0))
          (.seq
            (.region false [⟨some 4, .mv, [.c (.b true)], none⟩] [0, 1, 5])
            .ret)))) }
/-- laws.markMarkS -/
def F_laws_markMarkS_L0 : LC :=
  (.seq
    (.seq
      (.region false [⟨some 6, .mv, [.t 5], none⟩,
        ⟨some 7, .mv, [.t 0], none⟩,
        ⟨some 8, .len, [.t 7], none⟩,
        ⟨some 9, .bin .lss, [.t 6, .t 8], none⟩] [6, 7, 8])
      (.cond (.t 9) [9]
        .skip
        (.exit 0)))
    (.seq
      (.block 1
        (.seq
          (.region false [⟨some 12, .mv, [.t 0], none⟩,
            ⟨some 13, .mv, [.t 5], none⟩,
            ⟨some 14, .mv, [.t 1], none⟩,
            ⟨some 15, .idxa 2, [.t 12, .t 13], none⟩,
            ⟨some 16, .fld 0 1 false, [.t 15], none⟩,
            ⟨none, .store 1, [.t 16, .t 14], none⟩] [12, 13, 14, 15, 16])
          (.seq
            (.region false [⟨some 17, .mv, [.t 1], none⟩,
              ⟨some 18, .bin .add, [.t 17, .c (.i 1)], none⟩,
              ⟨some 1, .mv, [.t 18], none⟩] [17, 18])
            (.seq
              (.region false [⟨some 19, .mv, [.t 0], none⟩,
                ⟨some 20, .mv, [.t 5], none⟩,
                ⟨some 21, .mv, [.t 1], none⟩,
                ⟨some 22, .idxa 2, [.t 19, .t 20], none⟩,
                ⟨some 23, .fld 1 1 false, [.t 22], none⟩,
                ⟨none, .store 1, [.t 23, .t 21], none⟩] [19, 20, 21, 22, 23])
              (.region false [⟨some 24, .mv, [.t 1], none⟩,
                ⟨some 25, .bin .add, [.t 24, .c (.i 1)], none⟩,
                ⟨some 1, .mv, [.t 25], none⟩] [24, 25])))))
      (.region false [⟨some 10, .mv, [.t 5], none⟩,
        ⟨some 11, .bin .add, [.t 10, .c (.i 1)], none⟩,
        ⟨some 5, .mv, [.t 11], none⟩] [10, 11])))
def F_laws_markMarkS_W0 : LC := .loop F_laws_markMarkS_L0
def F_laws_markMarkS : LF :=
  { nparams := 2, results := [.t 4], body :=
    (.seq
      (.region false [⟨some 4, .mv, [.c (.i 0)], none⟩] [4])
      (.seq
        (.seq
          (.region false [⟨some 5, .mv, [.c (.i 0)], none⟩] [])
          (.block 0
            F_laws_markMarkS_W0))
        (.seq
          (.region false [⟨some 26, .mv, [.t 1], none⟩,
            ⟨some 4, .mv, [.t 26], none⟩] [1, 5, 26])
          .ret))) }
/-- laws.heldMarkS -/
def F_laws_heldMarkS_L0 : LC :=
  (.seq
    (.seq
      (.region false [⟨some 6, .mv, [.t 5], none⟩,
        ⟨some 7, .mv, [.t 0], none⟩,
        ⟨some 8, .len, [.t 7], none⟩,
        ⟨some 9, .bin .lss, [.t 6, .t 8], none⟩] [6, 7, 8])
      (.cond (.t 9) [9]
        .skip
        (.exit 0)))
    (.seq
      (.block 1
        (.seq
          (.seq
            (.region false [⟨some 12, .mv, [.t 0], none⟩,
              ⟨some 13, .mv, [.t 5], none⟩,
              ⟨some 14, .idxa 2, [.t 12, .t 13], none⟩,
              ⟨some 15, .fld 0 1 false, [.t 14], none⟩,
              ⟨some 16, .load 1 false, [.t 15], none⟩,
              ⟨some 17, .mv, [.t 1], none⟩,
              ⟨some 18, .bin .neq, [.t 16, .t 17], none⟩] [12, 13, 14, 15, 16, 17])
            (.cond (.t 18) [18]
              (.seq
                (.region false [⟨some 4, .mv, [.c (.i (-1))], none⟩] [0, 1, 5])
                .ret)
              .skip))
          (.seq
            (.region false [⟨some 19, .mv, [.t 1], none⟩,
              ⟨some 20, .bin .add, [.t 19, .c (.i 1)], none⟩,
              ⟨some 1, .mv, [.t 20], none⟩] [19, 20])
            (.seq
              (.seq
                (.region false [⟨some 21, .mv, [.t 0], none⟩,
                  ⟨some 22, .mv, [.t 5], none⟩,
                  ⟨some 23, .idxa 2, [.t 21, .t 22], none⟩,
                  ⟨some 24, .fld 1 1 false, [.t 23], none⟩,
                  ⟨some 25, .load 1 false, [.t 24], none⟩,
                  ⟨some 26, .mv, [.t 1], none⟩,
                  ⟨some 27, .bin .neq, [.t 25, .t 26], none⟩] [21, 22, 23, 24, 25, 26])
                (.cond (.t 27) [27]
                  (.seq
                    (.region false [⟨some 4, .mv, [.c (.i (-1))], none⟩] [0, 1, 5])
                    .ret)
                  .skip))
              (.region false [⟨some 28, .mv, [.t 1], none⟩,
                ⟨some 29, .bin .add, [.t 28, .c (.i 1)], none⟩,
                ⟨some 1, .mv, [.t 29], none⟩] [28, 29])))))
      (.region false [⟨some 10, .mv, [.t 5], none⟩,
        ⟨some 11, .bin .add, [.t 10, .c (.i 1)], none⟩,
        ⟨some 5, .mv, [.t 11], none⟩] [10, 11])))
def F_laws_heldMarkS_W0 : LC := .loop F_laws_heldMarkS_L0
def F_laws_heldMarkS : LF :=
  { nparams := 2, results := [.t 4], body :=
    (.seq
      (.region false [⟨some 4, .mv, [.c (.i 0)], none⟩] [4])
      (.seq
        (.seq
          (.region false [⟨some 5, .mv, [.c (.i 0)], none⟩] [])
          (.block 0
            F_laws_heldMarkS_W0))
        (.seq
          (.region false [⟨some 30, .mv, [.t 1], none⟩,
            ⟨some 4, .mv, [.t 30], none⟩] [0, 1, 5, 30])
          .ret))) }
/-- impl.TermOk -/
def F_impl_TermOk_L0 : LC :=
  (.seq
    (.region false [⟨some 21, .bin .lss, [.t 20, .t 19], none⟩] [])
    (.seq
      (.cond (.t 21) [21]
        .skip
        (.exit 0))
      (.seq
        (.block 1
          (.seq
            (.region false [⟨some 22, .idxa 2, [.t 18, .t 20], none⟩,
              ⟨some 23, .load 2 true, [.t 22], none⟩,
              ⟨some 7, .alloc 3600 (.st [.i 0, .i 0]), [], none⟩,
              ⟨none, .store 2, [.t 7, .t 23], none⟩] [22, 23])
            (.seq
              (.region false [⟨some 24, .fld 0 1 false, [.t 7], none⟩,
                ⟨some 25, .load 1 false, [.t 24], none⟩,
                ⟨some 26, .call n_impl_partsTaken 13312, [.t 25], none⟩,
                ⟨some 8, .mv, [.t 26], none⟩] [24, 25, 26])
              (.seq
                (.seq
                  (.region false [⟨some 27, .mv, [.t 0], none⟩,
                    ⟨some 28, .load 2 true, [.t 7], none⟩,
                    ⟨some 29, .call n_impl_markOk 14848, [.t 27, .t 28], none⟩,
                    ⟨some 30, .un .not, [.t 29], none⟩,
                    ⟨some 31, .mv, [.t 30], none⟩,
                    ⟨some 32, .mv, [.t 5], some (31, false)⟩,
                    ⟨some 33, .mv, [.t 8], some (31, false)⟩,
                    ⟨some 34, .bin .lss, [.t 32, .t 33], some (31, false)⟩,
                    ⟨some 35, .pick, [.t 31, .c (.b true), .t 34], none⟩] [7, 27, 28, 29, 30, 31, 32, 33, 34])
                  (.cond (.t 35) [35]
                    (.seq
                      (.region false [⟨some 4, .mv, [.c (.b false)], none⟩] [0, 5, 8, 18, 19, 20])
                      .ret)
                    .skip))
                (.region false [⟨some 36, .mv, [.t 5], none⟩,
                  ⟨some 37, .mv, [.t 8], none⟩,
                  ⟨some 38, .bin .sub, [.c (.i 1), .t 37], none⟩,
                  ⟨some 39, .bin .add, [.t 36, .t 38], none⟩,
                  ⟨some 5, .mv, [.t 39], none⟩] [8, 36, 37, 38, 39])))))
        (.region false [⟨some 40, .bin .add, [.t 20, .c (.i 1)], none⟩,
          ⟨some 20, .mv, [.t 40], none⟩] [40]))))
def F_impl_TermOk_W0 : LC := .loop F_impl_TermOk_L0
def F_impl_TermOk : LF :=
  { nparams := 2, results := [.t 4], body :=
    (.seq
      (.region false [⟨some 4, .mv, [.c (.b false)], none⟩] [4])
      (.seq
        (.seq
          (.region false [⟨some 9, .mv, [.t 0], none⟩,
            ⟨some 10, .call n_impl_manyOk 5120, [.t 9], none⟩,
            ⟨some 11, .un .not, [.t 10], none⟩,
            ⟨some 12, .mv, [.t 11], none⟩,
            ⟨some 13, .mv, [.t 1], some (12, false)⟩,
            ⟨some 14, .len, [.t 13], some (12, false)⟩,
            ⟨some 15, .call n_impl_isWithin 7680, [.t 14, .c (.i 1), .c (.i 13)], some (12, false)⟩,
            ⟨some 16, .un .not, [.t 15], some (12, false)⟩,
            ⟨some 17, .pick, [.t 12, .c (.b true), .t 16], none⟩] [9, 10, 11, 12, 13, 14, 15, 16])
          (.cond (.t 17) [17]
            (.seq
              (.region false [⟨some 4, .mv, [.c (.b false)], none⟩] [0, 1])
              .ret)
            .skip))
        (.seq
          (.region false [⟨some 5, .mv, [.c (.i 0)], none⟩] [])
          (.seq
            (.seq
              (.region false [⟨some 18, .mv, [.t 1], none⟩,
                ⟨some 19, .len, [.t 18], none⟩,
                ⟨some 20, .mv, [.c (.i 0)], none⟩] [1])
              (.block 0
                F_impl_TermOk_W0))
            (.seq
              (.region false [⟨some 41, .mv, [.t 5], none⟩,
                ⟨some 42, .bin .eql, [.t 41, .c (.i 1)], none⟩,
                ⟨some 4, .mv, [.t 42], none⟩] [0, 5, 18, 19, 20, 41, 42])
              .ret))))) }
/-- spec.TestsOk -/
def F_spec_TestsOk_L0 : LC :=
  (.seq
    (.seq
      (.region false [⟨some 4, .mv, [.t 3], none⟩,
        ⟨some 5, .mv, [.t 0], none⟩,
        ⟨some 6, .len, [.t 5], none⟩,
        ⟨some 7, .bin .lss, [.t 4, .t 6], none⟩] [4, 5, 6])
      (.cond (.t 7) [7]
        .skip
        (.exit 0)))
    (.seq
      (.block 1
        (.seq
          (.region false [⟨some 10, .mv, [.t 0], none⟩,
            ⟨some 11, .mv, [.t 3], none⟩,
            ⟨some 12, .idxa 2, [.t 10, .t 11], none⟩,
            ⟨some 13, .fld 0 1 false, [.t 12], none⟩,
            ⟨some 14, .load 1 false, [.t 13], none⟩,
            ⟨some 15, .call n_spec_l1In 7680, [.t 14, .c (.i 1), .c (.i 9)], none⟩,
            ⟨some 16, .un .not, [.t 15], none⟩,
            ⟨some 17, .mv, [.t 16], none⟩,
            ⟨some 18, .mv, [.t 0], some (17, false)⟩,
            ⟨some 19, .mv, [.t 3], some (17, false)⟩,
            ⟨some 20, .idxa 2, [.t 18, .t 19], some (17, false)⟩,
            ⟨some 21, .fld 1 1 false, [.t 20], some (17, false)⟩,
            ⟨some 22, .load 1 false, [.t 21], some (17, false)⟩,
            ⟨some 23, .call n_spec_l1In 11776, [.t 22, .c (.i 1), .c (.i 5)], some (17, false)⟩,
            ⟨some 24, .un .not, [.t 23], some (17, false)⟩,
            ⟨some 25, .pick, [.t 17, .c (.b true), .t 24], none⟩] [10, 11, 12, 13, 14, 15, 16, 17, 18, 19, 20, 21, 22, 23, 24])
          (.cond (.t 25) [25]
            (.seq
              (.region false [⟨some 2, .mv, [.c (.b false)], none⟩] [0, 3])
              .ret)
            .skip)))
      (.region false [⟨some 8, .mv, [.t 3], none⟩,
        ⟨some 9, .bin .add, [.t 8, .c (.i 1)], none⟩,
        ⟨some 3, .mv, [.t 9], none⟩] [8, 9])))
def F_spec_TestsOk_W0 : LC := .loop F_spec_TestsOk_L0
def F_spec_TestsOk : LF :=
  { nparams := 1, results := [.t 2], body :=
    (.seq
      (.region false [⟨some 2, .mv, [.c (.b false)], none⟩] [2])
      (.seq
        (.seq
          (.region false [⟨some 3, .mv, [.c (.i 0)], none⟩] [])
          (.block 0
            F_spec_TestsOk_W0))
        (.seq
          (.region false [⟨some 26, .mv, [.t 0], none⟩,
            ⟨some 27, .len, [.t 26], none⟩,
            ⟨some 28, .call n_spec_l1In 14336, [.t 27, .c (.i 1), .c (.i 5)], none⟩,
            ⟨some 2, .mv, [.t 28], none⟩] [0, 3, 26, 27, 28])
          .ret))) }
/-- laws.toTest -/
def F_laws_toTest : LF :=
  { nparams := 1, results := [.c 2 2 true], body :=
    (.seq
      (.region false [⟨some 1, .box 528, [.t 0], none⟩,
        ⟨some 2, .alloc 1040 (.st [.i 0, .i 0]), [], none⟩] [0])
      (.seq
        (.region false [⟨some 3, .alloc 1552 (.st [.i 0, .i 0]), [], none⟩] [])
        (.seq
          (.region false [⟨some 4, .fld 0 1 false, [.t 1], none⟩,
            ⟨some 5, .load 1 false, [.t 4], none⟩,
            ⟨some 6, .fld 0 1 false, [.t 3], none⟩,
            ⟨none, .store 1, [.t 6, .t 5], none⟩] [4, 5, 6])
          (.seq
            (.region false [⟨some 7, .fld 1 1 false, [.t 1], none⟩,
              ⟨some 8, .load 1 false, [.t 7], none⟩,
              ⟨some 9, .fld 1 1 false, [.t 3], none⟩,
              ⟨none, .store 1, [.t 9, .t 8], none⟩] [1, 7, 8, 9])
            (.seq
              (.region false [⟨some 10, .load 2 true, [.t 3], none⟩,
                ⟨none, .store 2, [.t 2, .t 10], none⟩] [3, 10])
              .ret))))) }
/-- impl.TestsOk -/
def F_impl_TestsOk_L0 : LC :=
  (.seq
    (.region false [⟨some 12, .bin .lss, [.t 11, .t 10], none⟩] [])
    (.seq
      (.cond (.t 12) [12]
        .skip
        (.exit 0))
      (.seq
        (.block 1
          (.seq
            (.region false [⟨some 13, .idxa 2, [.t 9, .t 11], none⟩,
              ⟨some 14, .load 2 true, [.t 13], none⟩,
              ⟨some 4, .alloc 2064 (.st [.i 0, .i 0]), [], none⟩,
              ⟨none, .store 2, [.t 4, .t 14], none⟩] [13, 14])
            (.seq
              (.region false [⟨some 15, .fld 0 1 false, [.t 4], none⟩,
                ⟨some 16, .load 1 false, [.t 15], none⟩,
                ⟨some 17, .call n_impl_isWithin 8704, [.t 16, .c (.i 1), .c (.i 9)], none⟩,
                ⟨some 18, .un .not, [.t 17], none⟩,
                ⟨some 19, .mv, [.t 18], none⟩,
                ⟨some 20, .fld 1 1 false, [.t 4], some (19, false)⟩,
                ⟨some 21, .load 1 false, [.t 20], some (19, false)⟩,
                ⟨some 22, .call n_impl_isWithin 11264, [.t 21, .c (.i 1), .c (.i 5)], some (19, false)⟩,
                ⟨some 23, .un .not, [.t 22], some (19, false)⟩,
                ⟨some 24, .pick, [.t 19, .c (.b true), .t 23], none⟩] [4, 15, 16, 17, 18, 19, 20, 21, 22, 23])
              (.cond (.t 24) [24]
                (.seq
                  (.region false [⟨some 2, .mv, [.c (.b false)], none⟩] [9, 10, 11])
                  .ret)
                .skip))))
        (.region false [⟨some 25, .bin .add, [.t 11, .c (.i 1)], none⟩,
          ⟨some 11, .mv, [.t 25], none⟩] [25]))))
def F_impl_TestsOk_W0 : LC := .loop F_impl_TestsOk_L0
def F_impl_TestsOk : LF :=
  { nparams := 1, results := [.t 2], body :=
    (.seq
      (.region false [⟨some 2, .mv, [.c (.b false)], none⟩] [2])
      (.seq
        (.seq
          (.region false [⟨some 5, .mv, [.t 0], none⟩,
            ⟨some 6, .len, [.t 5], none⟩,
            ⟨some 7, .call n_impl_manyOk 3584, [.t 6], none⟩,
            ⟨some 8, .un .not, [.t 7], none⟩] [5, 6, 7])
          (.cond (.t 8) [8]
            (.seq
              (.region false [⟨some 2, .mv, [.c (.b false)], none⟩] [0])
              .ret)
            .skip))
        (.seq
          (.seq
            (.region false [⟨some 9, .mv, [.t 0], none⟩,
              ⟨some 10, .len, [.t 9], none⟩,
              ⟨some 11, .mv, [.c (.i 0)], none⟩] [0])
            (.block 0
              F_impl_TestsOk_W0))
          (.seq
            (.region false [⟨some 2, .mv, [.c (.b true)], none⟩] [9, 10, 11])
            .ret)))) }
/-- laws.eqTest -/
def F_laws_eqTest : LF :=
  { nparams := 2, results := [.t 4], body :=
    (.seq
      (.region false [⟨some 2, .box 1040, [.t 0], none⟩,
        ⟨some 3, .box 1552, [.t 1], none⟩,
        ⟨some 4, .mv, [.c (.b false)], none⟩] [0, 1, 4])
      (.seq
        (.seq
          (.region false [⟨some 5, .fld 0 1 false, [.t 2], none⟩,
            ⟨some 6, .load 1 false, [.t 5], none⟩,
            ⟨some 7, .fld 0 1 false, [.t 3], none⟩,
            ⟨some 8, .load 1 false, [.t 7], none⟩,
            ⟨some 9, .bin .neq, [.t 6, .t 8], none⟩] [5, 6, 7, 8])
          (.cond (.t 9) [9]
            (.seq
              (.region false [⟨some 4, .mv, [.c (.b false)], none⟩] [2, 3])
              .ret)
            .skip))
        (.seq
          (.seq
            (.region false [⟨some 10, .fld 1 1 false, [.t 2], none⟩,
              ⟨some 11, .load 1 false, [.t 10], none⟩,
              ⟨some 12, .fld 1 1 false, [.t 3], none⟩,
              ⟨some 13, .load 1 false, [.t 12], none⟩,
              ⟨some 14, .bin .neq, [.t 11, .t 13], none⟩] [2, 3, 10, 11, 12, 13])
            (.cond (.t 14) [14]
              (.seq
                (.region false [⟨some 4, .mv, [.c (.b false)], none⟩] [])
                .ret)
              .skip))
          (.seq
            (.region false [⟨some 4, .mv, [.c (.b true)], none⟩] [])
            .ret)))) }
/-- spec.TermOk -/
def F_spec_TermOk_L0 : LC :=
  (.seq
    (.seq
      (.region false [⟨some 7, .mv, [.t 6], none⟩,
        ⟨some 8, .mv, [.t 1], none⟩,
        ⟨some 9, .len, [.t 8], none⟩,
        ⟨some 10, .bin .lss, [.t 7, .t 9], none⟩] [7, 8, 9])
      (.cond (.t 10) [10]
        .skip
        (.exit 0)))
    (.seq
      (.block 1
        (.block 2
          (.seq
            (.region false [⟨some 14, .mv, [.t 1], none⟩,
              ⟨some 15, .mv, [.t 6], none⟩,
              ⟨some 16, .idxa 2, [.t 14, .t 15], none⟩,
              ⟨some 17, .fld 0 1 false, [.t 16], none⟩,
              ⟨some 18, .load 1 false, [.t 17], none⟩,
              ⟨some 19, .bin .eql, [.t 18, .c (.i 0)], none⟩,
              ⟨some 20, .mv, [.t 19], none⟩,
              ⟨some 21, .mv, [.t 1], some (20, true)⟩,
              ⟨some 22, .mv, [.t 6], some (20, true)⟩,
              ⟨some 23, .idxa 2, [.t 21, .t 22], some (20, true)⟩,
              ⟨some 24, .fld 1 1 false, [.t 23], some (20, true)⟩,
              ⟨some 25, .load 1 false, [.t 24], some (20, true)⟩,
              ⟨some 26, .bin .geq, [.t 25, .c (.i 0)], some (20, true)⟩,
              ⟨some 27, .pick, [.t 20, .t 26, .c (.b false)], none⟩,
              ⟨some 28, .mv, [.t 27], none⟩,
              ⟨some 29, .mv, [.t 1], some (28, true)⟩,
              ⟨some 30, .mv, [.t 6], some (28, true)⟩,
              ⟨some 31, .idxa 2, [.t 29, .t 30], some (28, true)⟩,
              ⟨some 32, .fld 1 1 false, [.t 31], some (28, true)⟩,
              ⟨some 33, .load 1 false, [.t 32], some (28, true)⟩,
              ⟨some 34, .mv, [.t 0], some (28, true)⟩,
              ⟨some 35, .bin .lss, [.t 33, .t 34], some (28, true)⟩,
              ⟨some 36, .pick, [.t 28, .t 35, .c (.b false)], none⟩,
              ⟨some 13, .mv, [.t 36], none⟩] [14, 15, 16, 17, 18, 19, 20, 21, 22, 23, 24, 25, 26, 27, 28, 29, 30, 31, 32, 33, 34, 35, 36])
            (.cond (.t 13) [13]
              (.region false [⟨some 37, .mv, [.t 5], none⟩,
                ⟨some 38, .bin .add, [.t 37, .c (.i 1)], none⟩,
                ⟨some 5, .mv, [.t 38], none⟩] [37, 38])
              (.seq
                (.region false [⟨some 40, .mv, [.t 1], none⟩,
                  ⟨some 41, .mv, [.t 6], none⟩,
                  ⟨some 42, .idxa 2, [.t 40, .t 41], none⟩,
                  ⟨some 43, .load 2 true, [.t 42], none⟩,
                  ⟨some 44, .build [.i 0, .i 0] [(0, 1)], [.c (.i 1)], none⟩,
                  ⟨some 45, .eqs false 2, [.t 43, .t 44], none⟩,
                  ⟨some 46, .mv, [.t 45], none⟩,
                  ⟨some 47, .mv, [.t 5], some (46, true)⟩,
                  ⟨some 48, .bin .geq, [.t 47, .c (.i 1)], some (46, true)⟩,
                  ⟨some 49, .pick, [.t 46, .t 48, .c (.b false)], none⟩,
                  ⟨some 39, .mv, [.t 49], none⟩] [40, 41, 42, 43, 44, 45, 46, 47, 48, 49])
                (.cond (.t 39) [39]
                  .skip
                  (.seq
                    (.region false [⟨some 51, .mv, [.t 1], none⟩,
                      ⟨some 52, .mv, [.t 6], none⟩,
                      ⟨some 53, .idxa 2, [.t 51, .t 52], none⟩,
                      ⟨some 54, .load 2 true, [.t 53], none⟩,
                      ⟨some 55, .build [.i 0, .i 0] [(0, 1)], [.c (.i 2)], none⟩,
                      ⟨some 56, .eqs false 2, [.t 54, .t 55], none⟩,
                      ⟨some 57, .mv, [.t 56], none⟩,
                      ⟨some 58, .mv, [.t 1], some (57, false)⟩,
                      ⟨some 59, .mv, [.t 6], some (57, false)⟩,
                      ⟨some 60, .idxa 2, [.t 58, .t 59], some (57, false)⟩,
                      ⟨some 61, .load 2 true, [.t 60], some (57, false)⟩,
                      ⟨some 62, .build [.i 0, .i 0] [(0, 1)], [.c (.i 3)], some (57, false)⟩,
                      ⟨some 63, .eqs false 2, [.t 61, .t 62], some (57, false)⟩,
                      ⟨some 64, .pick, [.t 57, .c (.b true), .t 63], none⟩,
                      ⟨some 65, .mv, [.t 64], none⟩,
                      ⟨some 66, .mv, [.t 5], some (65, true)⟩,
                      ⟨some 67, .bin .geq, [.t 66, .c (.i 2)], some (65, true)⟩,
                      ⟨some 68, .pick, [.t 65, .t 67, .c (.b false)], none⟩,
                      ⟨some 50, .mv, [.t 68], none⟩] [51, 52, 53, 54, 55, 56, 57, 58, 59, 60, 61, 62, 63, 64, 65, 66, 67, 68])
                    (.cond (.t 50) [50]
                      (.region false [⟨some 69, .mv, [.t 5], none⟩,
                        ⟨some 70, .bin .sub, [.t 69, .c (.i 1)], none⟩,
                        ⟨some 5, .mv, [.t 70], none⟩] [69, 70])
                      (.seq
                        (.region false [⟨some 4, .mv, [.c (.b false)], none⟩] [0, 1, 5, 6])
                        .ret)))))))))
      (.region false [⟨some 11, .mv, [.t 6], none⟩,
        ⟨some 12, .bin .add, [.t 11, .c (.i 1)], none⟩,
        ⟨some 6, .mv, [.t 12], none⟩] [11, 12])))
def F_spec_TermOk_W0 : LC := .loop F_spec_TermOk_L0
def F_spec_TermOk : LF :=
  { nparams := 2, results := [.t 4], body :=
    (.seq
      (.region false [⟨some 4, .mv, [.c (.b false)], none⟩] [4])
      (.seq
        (.region false [⟨some 5, .mv, [.c (.i 0)], none⟩] [])
        (.seq
          (.seq
            (.region false [⟨some 6, .mv, [.c (.i 0)], none⟩] [])
            (.block 0
              F_spec_TermOk_W0))
          (.seq
            (.region false [⟨some 71, .mv, [.t 0], none⟩,
              ⟨some 72, .call n_spec_l1In 36864, [.t 71, .c (.i 1), .c (.i 5)], none⟩,
              ⟨some 73, .mv, [.t 72], none⟩,
              ⟨some 74, .mv, [.t 5], some (73, true)⟩,
              ⟨some 75, .bin .eql, [.t 74, .c (.i 1)], some (73, true)⟩,
              ⟨some 76, .pick, [.t 73, .t 75, .c (.b false)], none⟩,
              ⟨some 77, .mv, [.t 76], none⟩,
              ⟨some 78, .mv, [.t 1], some (77, true)⟩,
              ⟨some 79, .len, [.t 78], some (77, true)⟩,
              ⟨some 80, .bin .leq, [.t 79, .c (.i 13)], some (77, true)⟩,
              ⟨some 81, .pick, [.t 77, .t 80, .c (.b false)], none⟩,
              ⟨some 4, .mv, [.t 81], none⟩] [0, 1, 5, 6, 71, 72, 73, 74, 75, 76, 77, 78, 79, 80, 81])
            .ret)))) }
/-- laws.toMark -/
def F_laws_toMark : LF :=
  { nparams := 1, results := [.c 2 2 true], body :=
    (.seq
      (.region false [⟨some 1, .box 528, [.t 0], none⟩,
        ⟨some 2, .alloc 1040 (.st [.i 0, .i 0]), [], none⟩] [0])
      (.seq
        (.region false [⟨some 3, .alloc 1552 (.st [.i 0, .i 0]), [], none⟩] [])
        (.seq
          (.region false [⟨some 4, .fld 0 1 false, [.t 1], none⟩,
            ⟨some 5, .load 1 false, [.t 4], none⟩,
            ⟨some 6, .fld 0 1 false, [.t 3], none⟩,
            ⟨none, .store 1, [.t 6, .t 5], none⟩] [4, 5, 6])
          (.seq
            (.region false [⟨some 7, .fld 1 1 false, [.t 1], none⟩,
              ⟨some 8, .load 1 false, [.t 7], none⟩,
              ⟨some 9, .fld 1 1 false, [.t 3], none⟩,
              ⟨none, .store 1, [.t 9, .t 8], none⟩] [1, 7, 8, 9])
            (.seq
              (.region false [⟨some 10, .load 2 true, [.t 3], none⟩,
                ⟨none, .store 2, [.t 2, .t 10], none⟩] [3, 10])
              .ret))))) }
/-- laws.eqMark -/
def F_laws_eqMark : LF :=
  { nparams := 2, results := [.t 4], body :=
    (.seq
      (.region false [⟨some 2, .box 1040, [.t 0], none⟩,
        ⟨some 3, .box 1552, [.t 1], none⟩,
        ⟨some 4, .mv, [.c (.b false)], none⟩] [0, 1, 4])
      (.seq
        (.seq
          (.region false [⟨some 5, .fld 0 1 false, [.t 2], none⟩,
            ⟨some 6, .load 1 false, [.t 5], none⟩,
            ⟨some 7, .fld 0 1 false, [.t 3], none⟩,
            ⟨some 8, .load 1 false, [.t 7], none⟩,
            ⟨some 9, .bin .neq, [.t 6, .t 8], none⟩] [5, 6, 7, 8])
          (.cond (.t 9) [9]
            (.seq
              (.region false [⟨some 4, .mv, [.c (.b false)], none⟩] [2, 3])
              .ret)
            .skip))
        (.seq
          (.seq
            (.region false [⟨some 10, .fld 1 1 false, [.t 2], none⟩,
              ⟨some 11, .load 1 false, [.t 10], none⟩,
              ⟨some 12, .fld 1 1 false, [.t 3], none⟩,
              ⟨some 13, .load 1 false, [.t 12], none⟩,
              ⟨some 14, .bin .neq, [.t 11, .t 13], none⟩] [2, 3, 10, 11, 12, 13])
            (.cond (.t 14) [14]
              (.seq
                (.region false [⟨some 4, .mv, [.c (.b false)], none⟩] [])
                .ret)
              .skip))
          (.seq
            (.region false [⟨some 4, .mv, [.c (.b true)], none⟩] [])
            .ret)))) }
/-- impl.manyOk -/
def F_impl_manyOk : LF :=
  { nparams := 1, results := [.t 2], body :=
    (.seq
      (.region false [⟨some 2, .mv, [.c (.b false)], none⟩] [2])
      (.seq
        (.region false [⟨some 3, .mv, [.t 0], none⟩,
          ⟨some 4, .call n_impl_isWithin 2048, [.t 3, .c (.i 1), .c (.i 5)], none⟩,
          ⟨some 2, .mv, [.t 4], none⟩] [0, 3, 4])
        .ret)) }
/-- impl.isWithin -/
def F_impl_isWithin : LF :=
  { nparams := 3, results := [.t 6], body :=
    (.seq
      (.region false [⟨some 6, .mv, [.c (.b false)], none⟩] [6])
      (.seq
        (.region false [⟨some 7, .mv, [.t 1], none⟩,
          ⟨some 8, .mv, [.t 0], none⟩,
          ⟨some 9, .bin .leq, [.t 7, .t 8], none⟩,
          ⟨some 10, .mv, [.t 9], none⟩,
          ⟨some 11, .mv, [.t 0], some (10, true)⟩,
          ⟨some 12, .mv, [.t 2], some (10, true)⟩,
          ⟨some 13, .bin .leq, [.t 11, .t 12], some (10, true)⟩,
          ⟨some 14, .pick, [.t 10, .t 13, .c (.b false)], none⟩,
          ⟨some 6, .mv, [.t 14], none⟩] [0, 1, 2, 7, 8, 9, 10, 11, 12, 13, 14])
        .ret)) }
/-- impl.partsTaken -/
def F_impl_partsTaken : LF :=
  { nparams := 1, results := [.t 2], body :=
    (.seq
      (.region false [⟨some 2, .mv, [.c (.i 0)], none⟩] [2])
      (.seq
        (.seq
          (.region false [⟨some 3, .mv, [.t 0], none⟩] [0])
          (.block 0
            (.seq
              (.region false [⟨some 5, .bin .eql, [.t 3, .c (.i 0)], none⟩,
                ⟨some 4, .mv, [.t 5], none⟩] [5])
              (.cond (.t 4) [4]
                (.seq
                  (.region false [⟨some 2, .mv, [.c (.i 0)], none⟩] [3])
                  .ret)
                (.seq
                  (.region false [⟨some 7, .bin .eql, [.t 3, .c (.i 1)], none⟩,
                    ⟨some 6, .mv, [.t 7], none⟩] [3, 7])
                  (.cond (.t 6) [6]
                    (.seq
                      (.region false [⟨some 2, .mv, [.c (.i 1)], none⟩] [])
                      .ret)
                    .skip))))))
        (.seq
          (.region false [⟨some 2, .mv, [.c (.i 2)], none⟩] [])
          .ret))) }
/-- impl.markOk -/
def F_impl_markOk : LF :=
  { nparams := 2, results := [.t 4], body :=
    (.seq
      (.region false [⟨some 3, .box 1552, [.t 1], none⟩,
        ⟨some 4, .mv, [.c (.b false)], none⟩] [1, 4])
      (.seq
        (.seq
          (.region false [⟨some 5, .fld 0 1 false, [.t 3], none⟩,
            ⟨some 6, .load 1 false, [.t 5], none⟩,
            ⟨some 7, .bin .eql, [.t 6, .c (.i 0)], none⟩] [5, 6])
          (.cond (.t 7) [7]
            (.seq
              (.region false [⟨some 8, .fld 1 1 false, [.t 3], none⟩,
                ⟨some 9, .load 1 false, [.t 8], none⟩,
                ⟨some 10, .mv, [.t 0], none⟩,
                ⟨some 11, .bin .sub, [.t 10, .c (.i 1)], none⟩,
                ⟨some 12, .call n_impl_isWithin 6144, [.t 9, .c (.i 0), .t 11], none⟩,
                ⟨some 4, .mv, [.t 12], none⟩] [0, 3, 8, 9, 10, 11, 12])
              .ret)
            .skip))
        (.seq
          (.region false [⟨some 13, .fld 0 1 false, [.t 3], none⟩,
            ⟨some 14, .load 1 false, [.t 13], none⟩,
            ⟨some 15, .call n_impl_isWithin 7680, [.t 14, .c (.i 1), .c (.i 3)], none⟩,
            ⟨some 16, .mv, [.t 15], none⟩,
            ⟨some 17, .fld 1 1 false, [.t 3], some (16, true)⟩,
            ⟨some 18, .load 1 false, [.t 17], some (16, true)⟩,
            ⟨some 19, .bin .eql, [.t 18, .c (.i 0)], some (16, true)⟩,
            ⟨some 20, .pick, [.t 16, .t 19, .c (.b false)], none⟩,
            ⟨some 4, .mv, [.t 20], none⟩] [0, 3, 13, 14, 15, 16, 17, 18, 19, 20])
          .ret))) }
/-- spec.l1In -/
def F_spec_l1In : LF :=
  { nparams := 3, results := [.t 6], body :=
    (.seq
      (.region false [⟨some 6, .mv, [.c (.b false)], none⟩] [6])
      (.seq
        (.region false [⟨some 7, .mv, [.t 0], none⟩,
          ⟨some 8, .mv, [.t 1], none⟩,
          ⟨some 9, .bin .geq, [.t 7, .t 8], none⟩,
          ⟨some 10, .mv, [.t 9], none⟩,
          ⟨some 11, .mv, [.t 0], some (10, true)⟩,
          ⟨some 12, .mv, [.t 2], some (10, true)⟩,
          ⟨some 13, .bin .leq, [.t 11, .t 12], some (10, true)⟩,
          ⟨some 14, .pick, [.t 10, .t 13, .c (.b false)], none⟩,
          ⟨some 6, .mv, [.t 14], none⟩] [0, 1, 2, 7, 8, 9, 10, 11, 12, 13, 14])
        .ret)) }
def lf : Nat → Option LF
  | 3 => some F_laws_FnExactOtherTests
  | 4 => some F_laws_FnExactDualTerm
  | 9 => some F_laws_szTestS
  | 10 => some F_spec_OtherTests
  | 11 => some F_laws_toTestS
  | 12 => some F_impl_OtherTests
  | 13 => some F_laws_eqTestS
  | 14 => some F_laws_markTestS
  | 15 => some F_laws_heldTestS
  | 16 => some F_laws_szMarkS
  | 17 => some F_spec_DualTerm
  | 18 => some F_laws_toMarkS
  | 19 => some F_impl_DualTerm
  | 20 => some F_laws_eqMarkS
  | 21 => some F_laws_markMarkS
  | 22 => some F_laws_heldMarkS
  | 28 => some F_impl_TermOk
  | 32 => some F_spec_TestsOk
  | 33 => some F_laws_toTest
  | 34 => some F_impl_TestsOk
  | 35 => some F_laws_eqTest
  | 36 => some F_spec_TermOk
  | 37 => some F_laws_toMark
  | 38 => some F_laws_eqMark
  | 46 => some F_impl_manyOk
  | 47 => some F_impl_isWithin
  | 48 => some F_impl_partsTaken
  | 49 => some F_impl_markOk
  | 52 => some F_spec_l1In
  | _ => none
theorem w_spec_OtherTests_0 (S : LS) : ex lf F_spec_OtherTests_W0 S = match ex lf F_spec_OtherTests_L0 S with | some (.normal, S1) => ex lf F_spec_OtherTests_W0 S1 | r => r := ex_loop lf F_spec_OtherTests_L0 S
theorem w_laws_toTestS_0 (S : LS) : ex lf F_laws_toTestS_W0 S = match ex lf F_laws_toTestS_L0 S with | some (.normal, S1) => ex lf F_laws_toTestS_W0 S1 | r => r := ex_loop lf F_laws_toTestS_L0 S
theorem w_impl_OtherTests_0 (S : LS) : ex lf F_impl_OtherTests_W0 S = match ex lf F_impl_OtherTests_L0 S with | some (.normal, S1) => ex lf F_impl_OtherTests_W0 S1 | r => r := ex_loop lf F_impl_OtherTests_L0 S
theorem w_laws_eqTestS_0 (S : LS) : ex lf F_laws_eqTestS_W0 S = match ex lf F_laws_eqTestS_L0 S with | some (.normal, S1) => ex lf F_laws_eqTestS_W0 S1 | r => r := ex_loop lf F_laws_eqTestS_L0 S
theorem w_laws_markTestS_0 (S : LS) : ex lf F_laws_markTestS_W0 S = match ex lf F_laws_markTestS_L0 S with | some (.normal, S1) => ex lf F_laws_markTestS_W0 S1 | r => r := ex_loop lf F_laws_markTestS_L0 S
theorem w_laws_heldTestS_0 (S : LS) : ex lf F_laws_heldTestS_W0 S = match ex lf F_laws_heldTestS_L0 S with | some (.normal, S1) => ex lf F_laws_heldTestS_W0 S1 | r => r := ex_loop lf F_laws_heldTestS_L0 S
theorem w_spec_DualTerm_0 (S : LS) : ex lf F_spec_DualTerm_W0 S = match ex lf F_spec_DualTerm_L0 S with | some (.normal, S1) => ex lf F_spec_DualTerm_W0 S1 | r => r := ex_loop lf F_spec_DualTerm_L0 S
theorem w_laws_toMarkS_0 (S : LS) : ex lf F_laws_toMarkS_W0 S = match ex lf F_laws_toMarkS_L0 S with | some (.normal, S1) => ex lf F_laws_toMarkS_W0 S1 | r => r := ex_loop lf F_laws_toMarkS_L0 S
theorem w_impl_DualTerm_0 (S : LS) : ex lf F_impl_DualTerm_W0 S = match ex lf F_impl_DualTerm_L0 S with | some (.normal, S1) => ex lf F_impl_DualTerm_W0 S1 | r => r := ex_loop lf F_impl_DualTerm_L0 S
theorem w_laws_eqMarkS_0 (S : LS) : ex lf F_laws_eqMarkS_W0 S = match ex lf F_laws_eqMarkS_L0 S with | some (.normal, S1) => ex lf F_laws_eqMarkS_W0 S1 | r => r := ex_loop lf F_laws_eqMarkS_L0 S
theorem w_laws_markMarkS_0 (S : LS) : ex lf F_laws_markMarkS_W0 S = match ex lf F_laws_markMarkS_L0 S with | some (.normal, S1) => ex lf F_laws_markMarkS_W0 S1 | r => r := ex_loop lf F_laws_markMarkS_L0 S
theorem w_laws_heldMarkS_0 (S : LS) : ex lf F_laws_heldMarkS_W0 S = match ex lf F_laws_heldMarkS_L0 S with | some (.normal, S1) => ex lf F_laws_heldMarkS_W0 S1 | r => r := ex_loop lf F_laws_heldMarkS_L0 S
theorem w_impl_TermOk_0 (S : LS) : ex lf F_impl_TermOk_W0 S = match ex lf F_impl_TermOk_L0 S with | some (.normal, S1) => ex lf F_impl_TermOk_W0 S1 | r => r := ex_loop lf F_impl_TermOk_L0 S
theorem w_spec_TestsOk_0 (S : LS) : ex lf F_spec_TestsOk_W0 S = match ex lf F_spec_TestsOk_L0 S with | some (.normal, S1) => ex lf F_spec_TestsOk_W0 S1 | r => r := ex_loop lf F_spec_TestsOk_L0 S
theorem w_impl_TestsOk_0 (S : LS) : ex lf F_impl_TestsOk_W0 S = match ex lf F_impl_TestsOk_L0 S with | some (.normal, S1) => ex lf F_impl_TestsOk_W0 S1 | r => r := ex_loop lf F_impl_TestsOk_L0 S
theorem w_spec_TermOk_0 (S : LS) : ex lf F_spec_TermOk_W0 S = match ex lf F_spec_TermOk_L0 S with | some (.normal, S1) => ex lf F_spec_TermOk_W0 S1 | r => r := ex_loop lf F_spec_TermOk_L0 S
end Zz
