/- The functions of the program, read as data. No conditions. -/
import Derived.Test.YtaolcmhkmkgmpaaLgC
set_option linter.unusedSectionVars false
set_option linter.unusedVariables false
set_option linter.unusedSimpArgs false
namespace Zz
open Go.Lg
instance : GL := ⟨[], [13], ["l4_orders.go:82"], []⟩
def n_laws_FnExactOrderOk : Nat := 3
def n_laws_FnExactSwappedOrder : Nat := 4
def n_laws_FnOrderOk : Nat := 5
def n_laws_FnSwappedOrder : Nat := 6
def n_spec_OrderOk : Nat := 7
def n_laws_toIntS : Nat := 8
def n_impl_OrderOk : Nat := 9
def n_laws_eqIntS : Nat := 10
def n_spec_SwappedOrder : Nat := 11
def n_impl_SwappedOrder : Nat := 12
def n_laws_markIntS : Nat := 13
def n_laws_heldIntS : Nat := 14
def n_spec_DrawOrderOk : Nat := 15
def n_laws_alive : Nat := 16
def n_spec_DrawSwappedOrder : Nat := 17
def n_laws_sameInts : Nat := 18
def n_spec_l1In : Nat := 19
def n_impl_manyOk : Nat := 20
def n_impl_isWithin : Nat := 21
def n_impl_hasTest : Nat := 22
def n_slices_Clone_int_int : Nat := 23
def n_spec_l20Open : Nat := 24
def n_spec_l20Rd_pick : Nat := 25
def n_spec_l20Order : Nat := 26
def n_impl_TestsOk : Nat := 27
def n_spec_l20Rd_odd : Nat := 28
/-- laws.FnExactOrderOk -/
def F_laws_FnExactOrderOk : LF :=
  { nparams := 2, results := [.t 4], body :=
    (.seq
      (.region false [⟨some 4, .mv, [.c (.b false)], none⟩] [4])
      (.seq
        (.seq
          (.region false [⟨some 8, .mv, [.t 1], none⟩,
            ⟨some 9, .len, [.t 8], none⟩,
            ⟨some 10, .bin .gtr, [.t 9, .c (.i 1048576)], none⟩] [8, 9])
          (.cond (.t 10) [10]
            (.seq
              (.region false [⟨some 4, .mv, [.c (.b true)], none⟩] [0, 1])
              .ret)
            .skip))
        (.seq
          (.region false [⟨some 11, .mv, [.t 0], none⟩,
            ⟨some 12, .mv, [.t 1], none⟩,
            ⟨some 13, .call n_laws_toIntS 6656, [.t 12], none⟩,
            ⟨some 14, .call n_spec_OrderOk 7168, [.t 11, .t 13], none⟩,
            ⟨some 5, .mv, [.t 14], none⟩] [11, 12, 13, 14])
          (.seq
            (.region false [⟨some 15, .mv, [.t 1], none⟩,
              ⟨some 16, .call n_laws_toIntS 8192, [.t 15], none⟩,
              ⟨some 6, .mv, [.t 16], none⟩] [15, 16])
            (.seq
              (.region false [⟨some 17, .mv, [.t 0], none⟩,
                ⟨some 18, .mv, [.t 6], none⟩,
                ⟨some 19, .call n_impl_OrderOk 9728, [.t 17, .t 18], none⟩,
                ⟨some 7, .mv, [.t 19], none⟩] [0, 17, 18, 19])
              (.seq
                (.seq
                  (.region false [⟨some 20, .mv, [.t 7], none⟩,
                    ⟨some 21, .mv, [.t 5], none⟩,
                    ⟨some 22, .eqb true, [.t 20, .t 21], none⟩] [5, 7, 20, 21])
                  (.cond (.t 22) [22]
                    (.seq
                      (.region false [⟨some 4, .mv, [.c (.b false)], none⟩] [1, 6])
                      .ret)
                    .skip))
                (.seq
                  (.seq
                    (.region false [⟨some 23, .mv, [.t 6], none⟩,
                      ⟨some 24, .mv, [.t 1], none⟩,
                      ⟨some 25, .call n_laws_toIntS 12800, [.t 24], none⟩,
                      ⟨some 26, .call n_laws_eqIntS 13312, [.t 23, .t 25], none⟩,
                      ⟨some 27, .un .not, [.t 26], none⟩] [1, 6, 23, 24, 25, 26])
                    (.cond (.t 27) [27]
                      (.seq
                        (.region false [⟨some 4, .mv, [.c (.b false)], none⟩] [])
                        .ret)
                      .skip))
                  (.seq
                    (.region false [⟨some 4, .mv, [.c (.b true)], none⟩] [])
                    .ret)))))))) }
/-- laws.FnExactSwappedOrder -/
def F_laws_FnExactSwappedOrder : LF :=
  { nparams := 3, results := [.t 6], body :=
    (.seq
      (.region false [⟨some 6, .mv, [.c (.b false)], none⟩] [6])
      (.seq
        (.seq
          (.region false [⟨some 17, .mv, [.t 1], none⟩,
            ⟨some 18, .len, [.t 17], none⟩,
            ⟨some 19, .bin .gtr, [.t 18, .c (.i 1048576)], none⟩] [17, 18])
          (.cond (.t 19) [19]
            (.seq
              (.region false [⟨some 6, .mv, [.c (.b true)], none⟩] [0, 1, 2])
              .ret)
            .skip))
        (.seq
          (.region false [⟨some 21, .mv, [.t 0], none⟩,
            ⟨some 22, .mv, [.t 1], none⟩,
            ⟨some 23, .call n_laws_toIntS 11776, [.t 22], none⟩,
            ⟨some 24, .mv, [.t 2], none⟩,
            ⟨some 25, .call n_spec_SwappedOrder 12800, [.t 21, .t 23, .t 24], none⟩,
            ⟨some 20, .mv, [.t 25], none⟩,
            ⟨some 26, .ext 0, [.t 20], none⟩,
            ⟨some 27, .ext 1, [.t 20], none⟩,
            ⟨some 7, .mv, [.t 26], none⟩,
            ⟨some 8, .mv, [.t 27], none⟩] [20, 21, 22, 23, 24, 25, 26, 27])
          (.seq
            (.region false [⟨some 28, .mv, [.t 1], none⟩,
              ⟨some 29, .call n_laws_toIntS 14848, [.t 28], none⟩,
              ⟨some 9, .mv, [.t 29], none⟩] [28, 29])
            (.seq
              (.region false [⟨some 31, .mv, [.t 0], none⟩,
                ⟨some 32, .mv, [.t 9], none⟩,
                ⟨some 33, .mv, [.t 2], none⟩,
                ⟨some 34, .call n_impl_SwappedOrder 17408, [.t 31, .t 32, .t 33], none⟩,
                ⟨some 30, .mv, [.t 34], none⟩,
                ⟨some 35, .ext 0, [.t 30], none⟩,
                ⟨some 36, .ext 1, [.t 30], none⟩,
                ⟨some 10, .mv, [.t 35], none⟩,
                ⟨some 11, .mv, [.t 36], none⟩] [30, 31, 32, 33, 34, 35, 36])
              (.seq
                (.seq
                  (.region false [⟨some 37, .mv, [.t 10], none⟩,
                    ⟨some 38, .mv, [.t 7], none⟩,
                    ⟨some 39, .call n_laws_eqIntS 19968, [.t 37, .t 38], none⟩,
                    ⟨some 40, .un .not, [.t 39], none⟩,
                    ⟨some 41, .mv, [.t 40], none⟩,
                    ⟨some 42, .mv, [.t 11], some (41, false)⟩,
                    ⟨some 43, .mv, [.t 8], some (41, false)⟩,
                    ⟨some 44, .eqb true, [.t 42, .t 43], some (41, false)⟩,
                    ⟨some 45, .pick, [.t 41, .c (.b true), .t 44], none⟩] [37, 38, 39, 40, 41, 42, 43, 44])
                  (.cond (.t 45) [45]
                    (.seq
                      (.region false [⟨some 6, .mv, [.c (.b false)], none⟩] [0, 1, 2, 7, 8, 9, 10, 11])
                      .ret)
                    .skip))
                (.seq
                  (.seq
                    (.region false [⟨some 46, .mv, [.t 9], none⟩,
                      ⟨some 47, .mv, [.t 1], none⟩,
                      ⟨some 48, .call n_laws_toIntS 24576, [.t 47], none⟩,
                      ⟨some 49, .call n_laws_eqIntS 25088, [.t 46, .t 48], none⟩,
                      ⟨some 50, .un .not, [.t 49], none⟩] [46, 47, 48, 49])
                    (.cond (.t 50) [50]
                      (.seq
                        (.region false [⟨some 6, .mv, [.c (.b false)], none⟩] [0, 1, 2, 7, 8, 9, 10, 11])
                        .ret)
                      .skip))
                  (.seq
                    (.region false [⟨some 12, .mv, [.c (.i 1)], none⟩] [])
                    (.seq
                      (.region false [⟨some 51, .mv, [.t 9], none⟩,
                        ⟨some 52, .mv, [.t 12], none⟩,
                        ⟨some 53, .call n_laws_markIntS 27140, [.t 51, .t 52], none⟩,
                        ⟨some 12, .mv, [.t 53], none⟩] [9, 51, 52, 53])
                      (.seq
                        (.seq
                          (.region false [⟨some 54, .mv, [.t 12], none⟩,
                            ⟨some 55, .bin .lss, [.t 54, .c (.i 0)], none⟩,
                            ⟨some 56, .mv, [.t 55], none⟩,
                            ⟨some 57, .mv, [.t 10], some (56, false)⟩,
                            ⟨some 58, .mv, [.t 7], some (56, false)⟩,
                            ⟨some 59, .call n_laws_eqIntS 30208, [.t 57, .t 58], some (56, false)⟩,
                            ⟨some 60, .un .not, [.t 59], some (56, false)⟩,
                            ⟨some 61, .pick, [.t 56, .c (.b true), .t 60], none⟩,
                            ⟨some 62, .mv, [.t 61], none⟩,
                            ⟨some 63, .mv, [.t 11], some (62, false)⟩,
                            ⟨some 64, .mv, [.t 8], some (62, false)⟩,
                            ⟨some 65, .eqb true, [.t 63, .t 64], some (62, false)⟩,
                            ⟨some 66, .pick, [.t 62, .c (.b true), .t 65], none⟩] [11, 12, 54, 55, 56, 57, 58, 59, 60, 61, 62, 63, 64, 65])
                          (.cond (.t 66) [66]
                            (.seq
                              (.region false [⟨some 6, .mv, [.c (.b false)], none⟩] [0, 1, 2, 7, 8, 10])
                              .ret)
                            .skip))
                        (.seq
                          (.region false [⟨some 13, .mv, [.c (.i 1)], none⟩] [])
                          (.seq
                            (.region false [⟨some 67, .mv, [.t 10], none⟩,
                              ⟨some 68, .mv, [.t 13], none⟩,
                              ⟨some 69, .call n_laws_markIntS 35332, [.t 67, .t 68], none⟩,
                              ⟨some 13, .mv, [.t 69], none⟩] [67, 68, 69])
                            (.seq
                              (.region false [⟨some 14, .mv, [.c (.i 1)], none⟩] [])
                              (.seq
                                (.region false [⟨some 70, .mv, [.t 10], none⟩,
                                  ⟨some 71, .mv, [.t 14], none⟩,
                                  ⟨some 72, .call n_laws_heldIntS 36864, [.t 70, .t 71], none⟩,
                                  ⟨some 14, .mv, [.t 72], none⟩] [70, 71, 72])
                                (.seq
                                  (.seq
                                    (.region false [⟨some 73, .mv, [.t 14], none⟩,
                                      ⟨some 74, .bin .lss, [.t 73, .c (.i 0)], none⟩] [73])
                                    (.cond (.t 74) [74]
                                      (.seq
                                        (.region false [⟨some 6, .mv, [.c (.b false)], none⟩] [0, 1, 2, 7, 8, 10, 13, 14])
                                        .ret)
                                      .skip))
                                  (.seq
                                    (.seq
                                      (.region false [⟨some 75, .mv, [.t 14], none⟩,
                                        ⟨some 76, .mv, [.t 13], none⟩,
                                        ⟨some 77, .bin .neq, [.t 75, .t 76], none⟩] [14, 75, 76])
                                      (.cond (.t 77) [77]
                                        (.seq
                                          (.region false [⟨some 6, .mv, [.c (.b false)], none⟩] [0, 1, 2, 7, 8, 10, 13])
                                          .ret)
                                        .skip))
                                    (.seq
                                      (.region false [⟨some 79, .mv, [.t 0], none⟩,
                                        ⟨some 80, .mv, [.t 1], none⟩,
                                        ⟨some 81, .call n_laws_toIntS 41472, [.t 80], none⟩,
                                        ⟨some 82, .mv, [.t 2], none⟩,
                                        ⟨some 83, .call n_impl_SwappedOrder 42496, [.t 79, .t 81, .t 82], none⟩,
                                        ⟨some 78, .mv, [.t 83], none⟩,
                                        ⟨some 84, .ext 0, [.t 78], none⟩,
                                        ⟨some 85, .ext 1, [.t 78], none⟩,
                                        ⟨some 15, .mv, [.t 84], none⟩,
                                        ⟨some 16, .mv, [.t 85], none⟩] [0, 1, 2, 78, 79, 80, 81, 82, 83, 84, 85])
                                      (.seq
                                        (.seq
                                          (.region false [⟨some 86, .mv, [.t 15], none⟩,
                                            ⟨some 87, .mv, [.t 7], none⟩,
                                            ⟨some 88, .call n_laws_eqIntS 45056, [.t 86, .t 87], none⟩,
                                            ⟨some 89, .un .not, [.t 88], none⟩,
                                            ⟨some 90, .mv, [.t 89], none⟩,
                                            ⟨some 91, .mv, [.t 16], some (90, false)⟩,
                                            ⟨some 92, .mv, [.t 8], some (90, false)⟩,
                                            ⟨some 93, .eqb true, [.t 91, .t 92], some (90, false)⟩,
                                            ⟨some 94, .pick, [.t 90, .c (.b true), .t 93], none⟩] [7, 8, 15, 16, 86, 87, 88, 89, 90, 91, 92, 93])
                                          (.cond (.t 94) [94]
                                            (.seq
                                              (.region false [⟨some 6, .mv, [.c (.b false)], none⟩] [10, 13])
                                              .ret)
                                            .skip))
                                        (.seq
                                          (.region false [⟨some 14, .mv, [.c (.i 1)], none⟩] [])
                                          (.seq
                                            (.region false [⟨some 95, .mv, [.t 10], none⟩,
                                              ⟨some 96, .mv, [.t 14], none⟩,
                                              ⟨some 97, .call n_laws_heldIntS 49664, [.t 95, .t 96], none⟩,
                                              ⟨some 14, .mv, [.t 97], none⟩] [10, 95, 96, 97])
                                            (.seq
                                              (.seq
                                                (.region false [⟨some 98, .mv, [.t 14], none⟩,
                                                  ⟨some 99, .bin .lss, [.t 98, .c (.i 0)], none⟩] [98])
                                                (.cond (.t 99) [99]
                                                  (.seq
                                                    (.region false [⟨some 6, .mv, [.c (.b false)], none⟩] [13, 14])
                                                    .ret)
                                                  .skip))
                                              (.seq
                                                (.seq
                                                  (.region false [⟨some 100, .mv, [.t 14], none⟩,
                                                    ⟨some 101, .mv, [.t 13], none⟩,
                                                    ⟨some 102, .bin .neq, [.t 100, .t 101], none⟩] [13, 14, 100, 101])
                                                  (.cond (.t 102) [102]
                                                    (.seq
                                                      (.region false [⟨some 6, .mv, [.c (.b false)], none⟩] [])
                                                      .ret)
                                                    .skip))
                                                (.seq
                                                  (.region false [⟨some 6, .mv, [.c (.b true)], none⟩] [])
                                                  .ret))))))))))))))))))))))) }
/-- laws.FnOrderOk -/
def F_laws_FnOrderOk_L0 : LC :=
  (.seq
    (.seq
      (.region false [⟨some 38, .mv, [.t 7], none⟩,
        ⟨some 39, .mv, [.t 3], none⟩,
        ⟨some 40, .bin .lss, [.t 38, .t 39], none⟩] [38, 39])
      (.cond (.t 40) [40]
        .skip
        (.exit 0)))
    (.seq
      (.block 1
        (.region false [⟨some 43, .mv, [.t 6], none⟩,
          ⟨some 44, .mv, [.t 7], none⟩,
          ⟨some 45, .bslice 23048 1 1 (.i 0) [0], [.t 44], none⟩,
          ⟨some 46, .app 23560 1, [.t 43, .t 45], none⟩,
          ⟨some 6, .mv, [.t 46], none⟩] [43, 44, 45, 46]))
      (.region false [⟨some 41, .mv, [.t 7], none⟩,
        ⟨some 42, .bin .add, [.t 41, .c (.i 1)], none⟩,
        ⟨some 7, .mv, [.t 42], none⟩] [41, 42])))
def F_laws_FnOrderOk_W0 : LC := .loop F_laws_FnOrderOk_L0
def F_laws_FnOrderOk_L1 : LC :=
  (.ghost (.rename 8 24072)
  (.seq
    (.seq
      (.region false [⟨some 48, .mv, [.t 9], none⟩,
        ⟨some 49, .mv, [.t 4], none⟩,
        ⟨some 50, .len, [.t 49], none⟩,
        ⟨some 51, .bin .lss, [.t 48, .t 50], none⟩] [48, 49, 50])
      (.cond (.t 51) [51]
        .skip
        (.exit 2)))
    (.seq
      (.block 3
        (.region false [⟨some 54, .mv, [.t 4], none⟩,
          ⟨some 55, .mv, [.t 9], none⟩,
          ⟨some 56, .idxa 1, [.t 54, .t 55], none⟩,
          ⟨some 57, .load 1 false, [.t 56], none⟩,
          ⟨some 58, .bslice 29704 1 1 (.i 0) [0], [.t 57], none⟩,
          ⟨some 59, .mv, [.t 8], none⟩,
          ⟨some 60, .app 30728 1, [.t 58, .t 59], none⟩,
          ⟨some 8, .mv, [.t 60], none⟩] [54, 55, 56, 57, 58, 59, 60]))
      (.region false [⟨some 52, .mv, [.t 9], none⟩,
        ⟨some 53, .bin .add, [.t 52, .c (.i 1)], none⟩,
        ⟨some 9, .mv, [.t 53], none⟩] [52, 53]))))
def F_laws_FnOrderOk_W1 : LC := .loop F_laws_FnOrderOk_L1
def F_laws_FnOrderOk : LF :=
  { nparams := 1, results := [.t 2], body :=
    (.seq
      (.region false [⟨some 2, .mv, [.c (.b false)], none⟩] [2])
      (.seq
        (.seq
          (.region false [⟨some 10, .mv, [.t 0], none⟩,
            ⟨some 11, .len, [.t 10], none⟩,
            ⟨some 12, .bin .gtr, [.t 11, .c (.i 1048576)], none⟩] [10, 11])
          (.cond (.t 12) [12]
            (.seq
              (.region false [⟨some 2, .mv, [.c (.b true)], none⟩] [0])
              .ret)
            .skip))
        (.seq
          (.region false [⟨some 14, .mv, [.t 0], none⟩,
            ⟨some 15, .call n_spec_DrawOrderOk 7680, [.t 14], none⟩,
            ⟨some 13, .mv, [.t 15], none⟩,
            ⟨some 16, .ext 0, [.t 13], none⟩,
            ⟨some 17, .ext 1, [.t 13], none⟩,
            ⟨some 3, .mv, [.t 16], none⟩,
            ⟨some 4, .mv, [.t 17], none⟩] [0, 13, 14, 15, 16, 17])
          (.seq
            (.region false [⟨some 18, .mv, [.t 3], none⟩,
              ⟨some 19, .mv, [.t 4], none⟩,
              ⟨some 20, .call n_impl_OrderOk 10240, [.t 18, .t 19], none⟩,
              ⟨some 5, .mv, [.t 20], none⟩] [18, 19, 20])
            (.seq
              (.seq
                (.region false [⟨some 21, .mv, [.t 5], none⟩,
                  ⟨some 22, .mv, [.t 3], none⟩,
                  ⟨some 23, .mv, [.t 4], none⟩,
                  ⟨some 24, .call n_spec_OrderOk 12288, [.t 22, .t 23], none⟩,
                  ⟨some 25, .eqb true, [.t 21, .t 24], none⟩] [21, 22, 23, 24])
                (.cond (.t 25) [25]
                  (.seq
                    (.region false [⟨some 2, .mv, [.c (.b false)], none⟩] [3, 4, 5])
                    .ret)
                  .skip))
              (.seq
                (.seq
                  (.region false [⟨some 26, .mv, [.t 3], none⟩,
                    ⟨some 27, .bin .lss, [.t 26, .c (.i 1)], none⟩,
                    ⟨some 28, .mv, [.t 27], none⟩,
                    ⟨some 29, .mv, [.t 3], some (28, false)⟩,
                    ⟨some 30, .bin .gtr, [.t 29, .c (.i 5)], some (28, false)⟩,
                    ⟨some 31, .pick, [.t 28, .c (.b true), .t 30], none⟩] [26, 27, 28, 29, 30])
                  (.cond (.t 31) [31]
                    (.seq
                      (.region false [⟨some 32, .mv, [.t 5], none⟩,
                        ⟨some 33, .un .not, [.t 32], none⟩,
                        ⟨some 34, .mv, [.t 33], none⟩,
                        ⟨some 35, .call n_laws_alive 17920, [], some (34, true)⟩,
                        ⟨some 36, .pick, [.t 34, .t 35, .c (.b false)], none⟩,
                        ⟨some 2, .mv, [.t 36], none⟩] [3, 4, 5, 32, 33, 34, 35, 36])
                      .ret)
                    .skip))
                (.seq
                  (.region false [⟨some 37, .bslice 18952 0 1 (.i 0) [], [], none⟩,
                    ⟨some 6, .mv, [.t 37], none⟩] [37])
                  (.seq
                    (.seq
                      (.region false [⟨some 7, .mv, [.c (.i 0)], none⟩] [])
                      (.block 0
                        F_laws_FnOrderOk_W0))
                    (.seq
                      (.region false [⟨some 47, .bslice 24072 0 1 (.i 0) [], [], none⟩,
                        ⟨some 8, .mv, [.t 47], none⟩] [7, 47])
                      (.seq
                        (.seq
                          (.region false [⟨some 9, .mv, [.c (.i 0)], none⟩] [])
                          (.block 2
                            F_laws_FnOrderOk_W1))
                        (.seq
                          (.region false [⟨some 61, .mv, [.t 3], none⟩,
                            ⟨some 62, .mv, [.t 6], none⟩,
                            ⟨some 63, .call n_impl_OrderOk 32256, [.t 61, .t 62], none⟩,
                            ⟨some 64, .mv, [.t 63], none⟩,
                            ⟨some 65, .mv, [.t 3], some (64, true)⟩,
                            ⟨some 66, .mv, [.t 8], some (64, true)⟩,
                            ⟨some 67, .call n_impl_OrderOk 34304, [.t 65, .t 66], some (64, true)⟩,
                            ⟨some 68, .mv, [.t 5], some (64, true)⟩,
                            ⟨some 69, .eqb false, [.t 67, .t 68], some (64, true)⟩,
                            ⟨some 70, .pick, [.t 64, .t 69, .c (.b false)], none⟩,
                            ⟨some 71, .mv, [.t 70], none⟩,
                            ⟨some 72, .call n_laws_alive 36864, [], some (71, true)⟩,
                            ⟨some 73, .pick, [.t 71, .t 72, .c (.b false)], none⟩,
                            ⟨some 2, .mv, [.t 73], none⟩] [3, 4, 5, 6, 8, 9, 61, 62, 63, 64, 65, 66, 67, 68, 69, 70, 71, 72, 73])
                          .ret))))))))))) }
/-- laws.FnSwappedOrder -/
def F_laws_FnSwappedOrder : LF :=
  { nparams := 1, results := [.t 2], body :=
    (.seq
      (.region false [⟨some 2, .mv, [.c (.b false)], none⟩] [2])
      (.seq
        (.seq
          (.region false [⟨some 12, .mv, [.t 0], none⟩,
            ⟨some 13, .len, [.t 12], none⟩,
            ⟨some 14, .bin .gtr, [.t 13, .c (.i 1048576)], none⟩] [12, 13])
          (.cond (.t 14) [14]
            (.seq
              (.region false [⟨some 2, .mv, [.c (.b true)], none⟩] [0])
              .ret)
            .skip))
        (.seq
          (.region false [⟨some 16, .mv, [.t 0], none⟩,
            ⟨some 17, .call n_spec_DrawSwappedOrder 8704, [.t 16], none⟩,
            ⟨some 15, .mv, [.t 17], none⟩,
            ⟨some 18, .ext 0, [.t 15], none⟩,
            ⟨some 19, .ext 1, [.t 15], none⟩,
            ⟨some 20, .ext 2, [.t 15], none⟩,
            ⟨some 3, .mv, [.t 18], none⟩,
            ⟨some 4, .mv, [.t 19], none⟩,
            ⟨some 5, .mv, [.t 20], none⟩] [0, 15, 16, 17, 18, 19, 20])
          (.seq
            (.region false [⟨some 22, .mv, [.t 3], none⟩,
              ⟨some 23, .mv, [.t 4], none⟩,
              ⟨some 24, .mv, [.t 5], none⟩,
              ⟨some 25, .call n_impl_SwappedOrder 12800, [.t 22, .t 23, .t 24], none⟩,
              ⟨some 21, .mv, [.t 25], none⟩,
              ⟨some 26, .ext 0, [.t 21], none⟩,
              ⟨some 27, .ext 1, [.t 21], none⟩,
              ⟨some 6, .mv, [.t 26], none⟩,
              ⟨some 7, .mv, [.t 27], none⟩] [21, 22, 23, 24, 25, 26, 27])
            (.seq
              (.region false [⟨some 29, .mv, [.t 3], none⟩,
                ⟨some 30, .mv, [.t 4], none⟩,
                ⟨some 31, .mv, [.t 5], none⟩,
                ⟨some 32, .call n_spec_SwappedOrder 16384, [.t 29, .t 30, .t 31], none⟩,
                ⟨some 28, .mv, [.t 32], none⟩,
                ⟨some 33, .ext 0, [.t 28], none⟩,
                ⟨some 34, .ext 1, [.t 28], none⟩,
                ⟨some 8, .mv, [.t 33], none⟩,
                ⟨some 9, .mv, [.t 34], none⟩] [28, 29, 30, 31, 32, 33, 34])
              (.seq
                (.seq
                  (.region false [⟨some 35, .mv, [.t 6], none⟩,
                    ⟨some 36, .mv, [.t 8], none⟩,
                    ⟨some 37, .call n_laws_sameInts 18944, [.t 35, .t 36], none⟩,
                    ⟨some 38, .un .not, [.t 37], none⟩,
                    ⟨some 39, .mv, [.t 38], none⟩,
                    ⟨some 40, .mv, [.t 7], some (39, false)⟩,
                    ⟨some 41, .mv, [.t 9], some (39, false)⟩,
                    ⟨some 42, .eqb true, [.t 40, .t 41], some (39, false)⟩,
                    ⟨some 43, .pick, [.t 39, .c (.b true), .t 42], none⟩] [8, 9, 35, 36, 37, 38, 39, 40, 41, 42])
                  (.cond (.t 43) [43]
                    (.seq
                      (.region false [⟨some 2, .mv, [.c (.b false)], none⟩] [3, 4, 5, 6, 7])
                      .ret)
                    .skip))
                (.seq
                  (.seq
                    (.region false [⟨some 44, .mv, [.t 7], none⟩,
                      ⟨some 45, .un .not, [.t 44], none⟩] [7, 44])
                    (.cond (.t 45) [45]
                      (.seq
                        (.region false [⟨some 46, .mv, [.t 6], none⟩,
                          ⟨some 47, .len, [.t 46], none⟩,
                          ⟨some 48, .bin .eql, [.t 47, .c (.i 0)], none⟩,
                          ⟨some 49, .mv, [.t 48], none⟩,
                          ⟨some 50, .call n_laws_alive 25600, [], some (49, true)⟩,
                          ⟨some 51, .pick, [.t 49, .t 50, .c (.b false)], none⟩,
                          ⟨some 2, .mv, [.t 51], none⟩] [3, 4, 5, 6, 46, 47, 48, 49, 50, 51])
                        .ret)
                      .skip))
                  (.seq
                    (.region false [⟨some 53, .mv, [.t 3], none⟩,
                      ⟨some 54, .mv, [.t 6], none⟩,
                      ⟨some 55, .mv, [.t 5], none⟩,
                      ⟨some 56, .call n_impl_SwappedOrder 28672, [.t 53, .t 54, .t 55], none⟩,
                      ⟨some 52, .mv, [.t 56], none⟩,
                      ⟨some 57, .ext 0, [.t 52], none⟩,
                      ⟨some 58, .ext 1, [.t 52], none⟩,
                      ⟨some 10, .mv, [.t 57], none⟩,
                      ⟨some 11, .mv, [.t 58], none⟩] [5, 52, 53, 54, 55, 56, 57, 58])
                    (.seq
                      (.region false [⟨some 59, .mv, [.t 3], none⟩,
                        ⟨some 60, .mv, [.t 6], none⟩,
                        ⟨some 61, .call n_impl_OrderOk 31232, [.t 59, .t 60], none⟩,
                        ⟨some 62, .mv, [.t 61], none⟩,
                        ⟨some 63, .mv, [.t 11], some (62, true)⟩,
                        ⟨some 64, .pick, [.t 62, .t 63, .c (.b false)], none⟩,
                        ⟨some 65, .mv, [.t 64], none⟩,
                        ⟨some 66, .mv, [.t 10], some (65, true)⟩,
                        ⟨some 67, .mv, [.t 4], some (65, true)⟩,
                        ⟨some 68, .call n_laws_sameInts 34816, [.t 66, .t 67], some (65, true)⟩,
                        ⟨some 69, .pick, [.t 65, .t 68, .c (.b false)], none⟩,
                        ⟨some 2, .mv, [.t 69], none⟩] [3, 4, 6, 10, 11, 59, 60, 61, 62, 63, 64, 65, 66, 67, 68, 69])
                      .ret))))))))) }
/-- spec.OrderOk -/
def F_spec_OrderOk_L0 : LC :=
  (.seq
    (.seq
      (.region false [⟨some 7, .mv, [.t 6], none⟩,
        ⟨some 8, .mv, [.t 1], none⟩,
        ⟨some 9, .len, [.t 8], none⟩,
        ⟨some 10, .bin .lss, [.t 7, .t 9], none⟩] [7, 8, 9])
      (.cond (.t 10) [10]
        .skip
        (.exit 0)))
    (.seq
      (.block 1
        (.seq
          (.seq
            (.region false [⟨some 13, .mv, [.t 1], none⟩,
              ⟨some 14, .mv, [.t 6], none⟩,
              ⟨some 15, .idxa 1, [.t 13, .t 14], none⟩,
              ⟨some 16, .load 1 false, [.t 15], none⟩,
              ⟨some 17, .bin .lss, [.t 16, .c (.i 0)], none⟩,
              ⟨some 18, .mv, [.t 17], none⟩,
              ⟨some 19, .mv, [.t 1], some (18, false)⟩,
              ⟨some 20, .mv, [.t 6], some (18, false)⟩,
              ⟨some 21, .idxa 1, [.t 19, .t 20], some (18, false)⟩,
              ⟨some 22, .load 1 false, [.t 21], some (18, false)⟩,
              ⟨some 23, .mv, [.t 0], some (18, false)⟩,
              ⟨some 24, .bin .geq, [.t 22, .t 23], some (18, false)⟩,
              ⟨some 25, .pick, [.t 18, .c (.b true), .t 24], none⟩,
              ⟨some 26, .mv, [.t 25], none⟩,
              ⟨some 27, .mv, [.t 1], some (26, false)⟩,
              ⟨some 28, .mv, [.t 6], some (26, false)⟩,
              ⟨some 29, .idxa 1, [.t 27, .t 28], some (26, false)⟩,
              ⟨some 30, .load 1 false, [.t 29], some (26, false)⟩,
              ⟨some 31, .bin .geq, [.t 30, .c (.i 5)], some (26, false)⟩,
              ⟨some 32, .pick, [.t 26, .c (.b true), .t 31], none⟩,
              ⟨some 33, .mv, [.t 32], none⟩,
              ⟨some 34, .mv, [.t 5], some (33, false)⟩,
              ⟨some 35, .mv, [.t 1], some (33, false)⟩,
              ⟨some 36, .mv, [.t 6], some (33, false)⟩,
              ⟨some 37, .idxa 1, [.t 35, .t 36], some (33, false)⟩,
              ⟨some 38, .load 1 false, [.t 37], some (33, false)⟩,
              ⟨some 39, .bin .shr, [.t 34, .t 38], some (33, false)⟩,
              ⟨some 40, .bin .rem, [.t 39, .c (.i 2)], some (33, false)⟩,
              ⟨some 41, .bin .eql, [.t 40, .c (.i 1)], some (33, false)⟩,
              ⟨some 42, .pick, [.t 33, .c (.b true), .t 41], none⟩] [13, 14, 15, 16, 17, 18, 19, 20, 21, 22, 23, 24, 25, 26, 27, 28, 29, 30, 31, 32, 33, 34, 35, 36, 37, 38, 39, 40, 41])
            (.cond (.t 42) [42]
              (.seq
                (.region false [⟨some 4, .mv, [.c (.b false)], none⟩] [0, 1, 5, 6])
                .ret)
              .skip))
          (.region false [⟨some 43, .mv, [.t 5], none⟩,
            ⟨some 44, .mv, [.t 1], none⟩,
            ⟨some 45, .mv, [.t 6], none⟩,
            ⟨some 46, .idxa 1, [.t 44, .t 45], none⟩,
            ⟨some 47, .load 1 false, [.t 46], none⟩,
            ⟨some 48, .bin .shl, [.c (.i 1), .t 47], none⟩,
            ⟨some 49, .bin .or, [.t 43, .t 48], none⟩,
            ⟨some 5, .mv, [.t 49], none⟩] [43, 44, 45, 46, 47, 48, 49])))
      (.region false [⟨some 11, .mv, [.t 6], none⟩,
        ⟨some 12, .bin .add, [.t 11, .c (.i 1)], none⟩,
        ⟨some 6, .mv, [.t 12], none⟩] [11, 12])))
def F_spec_OrderOk_W0 : LC := .loop F_spec_OrderOk_L0
def F_spec_OrderOk : LF :=
  { nparams := 2, results := [.t 4], body :=
    (.seq
      (.region false [⟨some 4, .mv, [.c (.b false)], none⟩] [4])
      (.seq
        (.region false [⟨some 5, .mv, [.c (.i 0)], none⟩] [])
        (.seq
          (.seq
            (.region false [⟨some 6, .mv, [.c (.i 0)], none⟩] [])
            (.block 0
              F_spec_OrderOk_W0))
          (.seq
            (.region false [⟨some 50, .mv, [.t 0], none⟩,
              ⟨some 51, .call n_spec_l1In 26112, [.t 50, .c (.i 1), .c (.i 5)], none⟩,
              ⟨some 52, .mv, [.t 51], none⟩,
              ⟨some 53, .mv, [.t 1], some (52, true)⟩,
              ⟨some 54, .len, [.t 53], some (52, true)⟩,
              ⟨some 55, .mv, [.t 0], some (52, true)⟩,
              ⟨some 56, .bin .eql, [.t 54, .t 55], some (52, true)⟩,
              ⟨some 57, .pick, [.t 52, .t 56, .c (.b false)], none⟩,
              ⟨some 4, .mv, [.t 57], none⟩] [0, 1, 5, 6, 50, 51, 52, 53, 54, 55, 56, 57])
            .ret)))) }
/-- laws.toIntS -/
def F_laws_toIntS_L0 : LC :=
  (.seq
    (.seq
      (.region false [⟨some 8, .mv, [.t 4], none⟩,
        ⟨some 9, .mv, [.t 0], none⟩,
        ⟨some 10, .len, [.t 9], none⟩,
        ⟨some 11, .bin .lss, [.t 8, .t 10], none⟩] [8, 9, 10])
      (.cond (.t 11) [11]
        .skip
        (.exit 0)))
    (.seq
      (.block 1
        (.region false [⟨some 14, .mv, [.t 3], none⟩,
          ⟨some 15, .mv, [.t 4], none⟩,
          ⟨some 16, .mv, [.t 0], none⟩,
          ⟨some 17, .mv, [.t 4], none⟩,
          ⟨some 18, .idxa 1, [.t 16, .t 17], none⟩,
          ⟨some 19, .load 1 false, [.t 18], none⟩,
          ⟨some 20, .idxa 1, [.t 14, .t 15], none⟩,
          ⟨none, .store 1, [.t 20, .t 19], none⟩] [14, 15, 16, 17, 18, 19, 20]))
      (.region false [⟨some 12, .mv, [.t 4], none⟩,
        ⟨some 13, .bin .add, [.t 12, .c (.i 1)], none⟩,
        ⟨some 4, .mv, [.t 13], none⟩] [12, 13])))
def F_laws_toIntS_W0 : LC := .loop F_laws_toIntS_L0
def F_laws_toIntS : LF :=
  { nparams := 1, results := [.t 2], body :=
    (.seq
      (.region false [⟨some 2, .newnil 1032, [], none⟩] [2])
      (.seq
        (.region false [⟨some 5, .mv, [.t 0], none⟩,
          ⟨some 6, .len, [.t 5], none⟩,
          ⟨some 7, .make 3592 1 (.i 0), [.t 6, .t 6], none⟩,
          ⟨some 3, .mv, [.t 7], none⟩] [5, 6, 7])
        (.seq
          (.seq
            (.region false [⟨some 4, .mv, [.c (.i 0)], none⟩] [])
            (.block 0
              F_laws_toIntS_W0))
          (.seq
            (.region false [⟨some 21, .mv, [.t 3], none⟩,
              ⟨some 2, .mv, [.t 21], none⟩] [0, 3, 4, 21])
            .ret)))) }
/-- impl.OrderOk -/
def F_impl_OrderOk_L0 : LC :=
  (.seq
    (.region false [⟨some 20, .bin .lss, [.t 19, .t 18], none⟩] [])
    (.seq
      (.cond (.t 20) [20]
        .skip
        (.exit 0))
      (.seq
        (.block 1
          (.seq
            (.region false [⟨some 21, .idxa 1, [.t 17, .t 19], none⟩,
              ⟨some 22, .load 1 false, [.t 21], none⟩,
              ⟨some 7, .mv, [.t 22], none⟩] [21, 22])
            (.seq
              (.seq
                (.region false [⟨some 23, .mv, [.t 7], none⟩,
                  ⟨some 24, .mv, [.t 0], none⟩,
                  ⟨some 25, .bin .sub, [.t 24, .c (.i 1)], none⟩,
                  ⟨some 26, .call n_impl_isWithin 13312, [.t 23, .c (.i 0), .t 25], none⟩,
                  ⟨some 27, .un .not, [.t 26], none⟩,
                  ⟨some 28, .mv, [.t 27], none⟩,
                  ⟨some 29, .mv, [.t 5], some (28, false)⟩,
                  ⟨some 30, .mv, [.t 7], some (28, false)⟩,
                  ⟨some 31, .call n_impl_hasTest 15872, [.t 29, .t 30], some (28, false)⟩,
                  ⟨some 32, .pick, [.t 28, .c (.b true), .t 31], none⟩] [23, 24, 25, 26, 27, 28, 29, 30, 31])
                (.cond (.t 32) [32]
                  (.seq
                    (.region false [⟨some 4, .mv, [.c (.b false)], none⟩] [0, 5, 7, 17, 18, 19])
                    .ret)
                  .skip))
              (.region false [⟨some 33, .mv, [.t 5], none⟩,
                ⟨some 34, .mv, [.t 7], none⟩,
                ⟨some 35, .bin .shl, [.c (.i 1), .t 34], none⟩,
                ⟨some 36, .bin .or, [.t 33, .t 35], none⟩,
                ⟨some 5, .mv, [.t 36], none⟩] [7, 33, 34, 35, 36]))))
        (.region false [⟨some 37, .bin .add, [.t 19, .c (.i 1)], none⟩,
          ⟨some 19, .mv, [.t 37], none⟩] [37]))))
def F_impl_OrderOk_W0 : LC := .loop F_impl_OrderOk_L0
def F_impl_OrderOk : LF :=
  { nparams := 2, results := [.t 4], body :=
    (.seq
      (.region false [⟨some 4, .mv, [.c (.b false)], none⟩] [4])
      (.seq
        (.seq
          (.region false [⟨some 8, .mv, [.t 0], none⟩,
            ⟨some 9, .call n_impl_manyOk 4608, [.t 8], none⟩,
            ⟨some 10, .un .not, [.t 9], none⟩,
            ⟨some 11, .mv, [.t 10], none⟩,
            ⟨some 12, .mv, [.t 1], some (11, false)⟩,
            ⟨some 13, .len, [.t 12], some (11, false)⟩,
            ⟨some 14, .mv, [.t 0], some (11, false)⟩,
            ⟨some 15, .bin .neq, [.t 13, .t 14], some (11, false)⟩,
            ⟨some 16, .pick, [.t 11, .c (.b true), .t 15], none⟩] [8, 9, 10, 11, 12, 13, 14, 15])
          (.cond (.t 16) [16]
            (.seq
              (.region false [⟨some 4, .mv, [.c (.b false)], none⟩] [0, 1])
              .ret)
            .skip))
        (.seq
          (.region false [⟨some 5, .mv, [.c (.i 0)], none⟩] [])
          (.seq
            (.seq
              (.region false [⟨some 17, .mv, [.t 1], none⟩,
                ⟨some 18, .len, [.t 17], none⟩,
                ⟨some 19, .mv, [.c (.i 0)], none⟩] [1])
              (.block 0
                F_impl_OrderOk_W0))
            (.seq
              (.region false [⟨some 4, .mv, [.c (.b true)], none⟩] [0, 5, 17, 18, 19])
              .ret))))) }
/-- laws.eqIntS -/
def F_laws_eqIntS_L0 : LC :=
  (.seq
    (.seq
      (.region false [⟨some 11, .mv, [.t 5], none⟩,
        ⟨some 12, .mv, [.t 0], none⟩,
        ⟨some 13, .len, [.t 12], none⟩,
        ⟨some 14, .bin .lss, [.t 11, .t 13], none⟩] [11, 12, 13])
      (.cond (.t 14) [14]
        .skip
        (.exit 0)))
    (.seq
      (.block 1
        (.seq
          (.region true [⟨some 17, .mv, [.t 0], none⟩,
            ⟨some 18, .mv, [.t 5], none⟩,
            ⟨some 19, .idxa 1, [.t 17, .t 18], none⟩,
            ⟨some 20, .load 1 false, [.t 19], none⟩,
            ⟨some 21, .mv, [.t 1], none⟩,
            ⟨some 22, .mv, [.t 5], none⟩,
            ⟨some 23, .idxa 1, [.t 21, .t 22], none⟩,
            ⟨some 24, .load 1 false, [.t 23], none⟩,
            ⟨some 25, .bin .neq, [.t 20, .t 24], none⟩] [17, 18, 19, 20, 21, 22, 23, 24])
          (.cond (.t 25) [25]
            (.seq
              (.region false [⟨some 4, .mv, [.c (.b false)], none⟩] [0, 1, 5])
              .ret)
            .skip)))
      (.region false [⟨some 15, .mv, [.t 5], none⟩,
        ⟨some 16, .bin .add, [.t 15, .c (.i 1)], none⟩,
        ⟨some 5, .mv, [.t 16], none⟩] [15, 16])))
def F_laws_eqIntS_W0 : LC := .loop F_laws_eqIntS_L0
def F_laws_eqIntS : LF :=
  { nparams := 2, results := [.t 4], body :=
    (.seq
      (.region false [⟨some 4, .mv, [.c (.b false)], none⟩] [4])
      (.seq
        (.seq
          (.region false [⟨some 6, .mv, [.t 0], none⟩,
            ⟨some 7, .len, [.t 6], none⟩,
            ⟨some 8, .mv, [.t 1], none⟩,
            ⟨some 9, .len, [.t 8], none⟩,
            ⟨some 10, .bin .neq, [.t 7, .t 9], none⟩] [6, 7, 8, 9])
          (.cond (.t 10) [10]
            (.seq
              (.region false [⟨some 4, .mv, [.c (.b false)], none⟩] [0, 1])
              .ret)
            .skip))
        (.seq
          (.seq
            (.region false [⟨some 5, .mv, [.c (.i 0)], none⟩] [])
            (.block 0
              F_laws_eqIntS_W0))
          (.seq
            (.region false [⟨some 4, .mv, [.c (.b true)], none⟩] [0, 1, 5])
            .ret)))) }
/-- spec.SwappedOrder -/
def F_spec_SwappedOrder : LF :=
  { nparams := 3, results := [.t 6, .t 7], body :=
    (.seq
      (.region false [⟨some 6, .newnil 3080, [], none⟩,
        ⟨some 7, .mv, [.c (.b false)], none⟩] [6, 7])
      (.seq
        (.seq
          (.region false [⟨some 9, .mv, [.t 0], none⟩,
            ⟨some 10, .mv, [.t 1], none⟩,
            ⟨some 11, .call n_spec_OrderOk 5632, [.t 9, .t 10], none⟩,
            ⟨some 12, .un .not, [.t 11], none⟩,
            ⟨some 13, .mv, [.t 12], none⟩,
            ⟨some 14, .mv, [.t 2], some (13, false)⟩,
            ⟨some 15, .mv, [.t 0], some (13, false)⟩,
            ⟨some 16, .bin .sub, [.t 15, .c (.i 2)], some (13, false)⟩,
            ⟨some 17, .call n_spec_l1In 8704, [.t 14, .c (.i 0), .t 16], some (13, false)⟩,
            ⟨some 18, .un .not, [.t 17], some (13, false)⟩,
            ⟨some 19, .pick, [.t 13, .c (.b true), .t 18], none⟩] [0, 9, 10, 11, 12, 13, 14, 15, 16, 17, 18])
          (.cond (.t 19) [19]
            (.seq
              (.region false [⟨some 20, .bslice 10248 0 1 (.i 0) [], [], none⟩,
                ⟨some 6, .mv, [.t 20], none⟩,
                ⟨some 7, .mv, [.c (.b false)], none⟩] [1, 2, 20])
              .ret)
            .skip))
        (.seq
          (.region false [⟨some 21, .bslice 10760 0 1 (.i 0) [], [], none⟩,
            ⟨some 22, .mv, [.t 1], none⟩,
            ⟨some 23, .mv, [.t 2], none⟩,
            ⟨some 24, .slice false true 1, [.t 22, .t 23], none⟩,
            ⟨some 25, .app 12808 1, [.t 21, .t 24], none⟩,
            ⟨some 8, .mv, [.t 25], none⟩] [21, 22, 23, 24, 25])
          (.seq
            (.region true [⟨some 26, .mv, [.t 8], none⟩,
              ⟨some 27, .mv, [.t 1], none⟩,
              ⟨some 28, .mv, [.t 2], none⟩,
              ⟨some 29, .bin .add, [.t 28, .c (.i 1)], none⟩,
              ⟨some 30, .idxa 1, [.t 27, .t 29], none⟩,
              ⟨some 31, .load 1 false, [.t 30], none⟩,
              ⟨some 32, .mv, [.t 1], none⟩,
              ⟨some 33, .mv, [.t 2], none⟩,
              ⟨some 34, .idxa 1, [.t 32, .t 33], none⟩,
              ⟨some 35, .load 1 false, [.t 34], none⟩,
              ⟨some 36, .bslice 18440 2 1 (.i 0) [0, 1], [.t 31, .t 35], none⟩,
              ⟨some 37, .app 18952 1, [.t 26, .t 36], none⟩,
              ⟨some 8, .mv, [.t 37], none⟩] [26, 27, 28, 29, 30, 31, 32, 33, 34, 35, 36, 37])
            (.seq
              (.region false [⟨some 38, .mv, [.t 8], none⟩,
                ⟨some 39, .mv, [.t 1], none⟩,
                ⟨some 40, .mv, [.t 2], none⟩,
                ⟨some 41, .bin .add, [.t 40, .c (.i 2)], none⟩,
                ⟨some 42, .slice true false 1, [.t 39, .t 41], none⟩,
                ⟨some 43, .app 22024 1, [.t 38, .t 42], none⟩,
                ⟨some 6, .mv, [.t 43], none⟩,
                ⟨some 7, .mv, [.c (.b true)], none⟩] [1, 2, 8, 38, 39, 40, 41, 42, 43])
              .ret))))) }
/-- impl.SwappedOrder -/
def F_impl_SwappedOrder : LF :=
  { nparams := 3, results := [.t 6, .t 7], body :=
    (.seq
      (.region false [⟨some 6, .newnil 3080, [], none⟩,
        ⟨some 7, .mv, [.c (.b false)], none⟩] [6, 7])
      (.seq
        (.seq
          (.region false [⟨some 9, .mv, [.t 0], none⟩,
            ⟨some 10, .mv, [.t 1], none⟩,
            ⟨some 11, .call n_impl_OrderOk 5632, [.t 9, .t 10], none⟩,
            ⟨some 12, .un .not, [.t 11], none⟩,
            ⟨some 13, .mv, [.t 12], none⟩,
            ⟨some 14, .mv, [.t 2], some (13, false)⟩,
            ⟨some 15, .mv, [.t 0], some (13, false)⟩,
            ⟨some 16, .bin .sub, [.t 15, .c (.i 2)], some (13, false)⟩,
            ⟨some 17, .call n_impl_isWithin 8704, [.t 14, .c (.i 0), .t 16], some (13, false)⟩,
            ⟨some 18, .un .not, [.t 17], some (13, false)⟩,
            ⟨some 19, .pick, [.t 13, .c (.b true), .t 18], none⟩] [0, 9, 10, 11, 12, 13, 14, 15, 16, 17, 18])
          (.cond (.t 19) [19]
            (.seq
              (.region false [⟨some 6, .newnil 3080, [], none⟩,
                ⟨some 7, .mv, [.c (.b false)], none⟩] [1, 2])
              .ret)
            .skip))
        (.seq
          (.region false [⟨some 20, .mv, [.t 1], none⟩,
            ⟨some 21, .call n_slices_Clone_int_int 10752, [.t 20], none⟩,
            ⟨some 8, .mv, [.t 21], none⟩] [1, 20, 21])
          (.seq
            (.region true [⟨some 22, .mv, [.t 8], none⟩,
              ⟨some 23, .mv, [.t 2], none⟩,
              ⟨some 24, .mv, [.t 8], none⟩,
              ⟨some 25, .mv, [.t 2], none⟩,
              ⟨some 26, .bin .add, [.t 25, .c (.i 1)], none⟩,
              ⟨some 27, .mv, [.t 8], none⟩,
              ⟨some 28, .mv, [.t 2], none⟩,
              ⟨some 29, .bin .add, [.t 28, .c (.i 1)], none⟩,
              ⟨some 30, .idxa 1, [.t 27, .t 29], none⟩,
              ⟨some 31, .load 1 false, [.t 30], none⟩,
              ⟨some 32, .mv, [.t 8], none⟩,
              ⟨some 33, .mv, [.t 2], none⟩,
              ⟨some 34, .idxa 1, [.t 32, .t 33], none⟩,
              ⟨some 35, .load 1 false, [.t 34], none⟩,
              ⟨some 36, .idxa 1, [.t 22, .t 23], none⟩,
              ⟨none, .store 1, [.t 36, .t 31], none⟩,
              ⟨some 37, .idxa 1, [.t 24, .t 26], none⟩,
              ⟨none, .store 1, [.t 37, .t 35], none⟩] [2, 22, 23, 24, 25, 26, 27, 28, 29, 30, 31, 32, 33, 34, 35, 36, 37])
            (.seq
              (.region false [⟨some 38, .mv, [.t 8], none⟩,
                ⟨some 6, .mv, [.t 38], none⟩,
                ⟨some 7, .mv, [.c (.b true)], none⟩] [8, 38])
              .ret))))) }
/-- laws.markIntS -/
def F_laws_markIntS_L0 : LC :=
  (.seq
    (.seq
      (.region false [⟨some 6, .mv, [.t 5], none⟩,
        ⟨some 7, .mv, [.t 0], none⟩,
        ⟨some 8, .len, [.t 7], none⟩,
        ⟨some 9, .bin .lss, [.t 6, .t 8], none⟩] [6, 7, 8])
      (.cond (.t 9) [9]
        .skip
        (.exit 0)))
    (.seq
      (.block 1
        (.seq
          (.region false [⟨some 12, .mv, [.t 0], none⟩,
            ⟨some 13, .mv, [.t 5], none⟩,
            ⟨some 14, .mv, [.t 1], none⟩,
            ⟨some 15, .idxa 1, [.t 12, .t 13], none⟩,
            ⟨none, .store 1, [.t 15, .t 14], none⟩] [12, 13, 14, 15])
          (.region false [⟨some 16, .mv, [.t 1], none⟩,
            ⟨some 17, .bin .add, [.t 16, .c (.i 1)], none⟩,
            ⟨some 1, .mv, [.t 17], none⟩] [16, 17])))
      (.region false [⟨some 10, .mv, [.t 5], none⟩,
        ⟨some 11, .bin .add, [.t 10, .c (.i 1)], none⟩,
        ⟨some 5, .mv, [.t 11], none⟩] [10, 11])))
def F_laws_markIntS_W0 : LC := .loop F_laws_markIntS_L0
def F_laws_markIntS : LF :=
  { nparams := 2, results := [.t 4], body :=
    (.seq
      (.region false [⟨some 4, .mv, [.c (.i 0)], none⟩] [4])
      (.seq
        (.seq
          (.region false [⟨some 5, .mv, [.c (.i 0)], none⟩] [])
          (.block 0
            F_laws_markIntS_W0))
        (.seq
          (.region false [⟨some 18, .mv, [.t 1], none⟩,
            ⟨some 4, .mv, [.t 18], none⟩] [1, 5, 18])
          .ret))) }
/-- laws.heldIntS -/
def F_laws_heldIntS_L0 : LC :=
  (.seq
    (.seq
      (.region false [⟨some 6, .mv, [.t 5], none⟩,
        ⟨some 7, .mv, [.t 0], none⟩,
        ⟨some 8, .len, [.t 7], none⟩,
        ⟨some 9, .bin .lss, [.t 6, .t 8], none⟩] [6, 7, 8])
      (.cond (.t 9) [9]
        .skip
        (.exit 0)))
    (.seq
      (.block 1
        (.seq
          (.seq
            (.region false [⟨some 12, .mv, [.t 0], none⟩,
              ⟨some 13, .mv, [.t 5], none⟩,
              ⟨some 14, .idxa 1, [.t 12, .t 13], none⟩,
              ⟨some 15, .load 1 false, [.t 14], none⟩,
              ⟨some 16, .mv, [.t 1], none⟩,
              ⟨some 17, .bin .neq, [.t 15, .t 16], none⟩] [12, 13, 14, 15, 16])
            (.cond (.t 17) [17]
              (.seq
                (.region false [⟨some 4, .mv, [.c (.i (-1))], none⟩] [0, 1, 5])
                .ret)
              .skip))
          (.region false [⟨some 18, .mv, [.t 1], none⟩,
            ⟨some 19, .bin .add, [.t 18, .c (.i 1)], none⟩,
            ⟨some 1, .mv, [.t 19], none⟩] [18, 19])))
      (.region false [⟨some 10, .mv, [.t 5], none⟩,
        ⟨some 11, .bin .add, [.t 10, .c (.i 1)], none⟩,
        ⟨some 5, .mv, [.t 11], none⟩] [10, 11])))
def F_laws_heldIntS_W0 : LC := .loop F_laws_heldIntS_L0
def F_laws_heldIntS : LF :=
  { nparams := 2, results := [.t 4], body :=
    (.seq
      (.region false [⟨some 4, .mv, [.c (.i 0)], none⟩] [4])
      (.seq
        (.seq
          (.region false [⟨some 5, .mv, [.c (.i 0)], none⟩] [])
          (.block 0
            F_laws_heldIntS_W0))
        (.seq
          (.region false [⟨some 20, .mv, [.t 1], none⟩,
            ⟨some 4, .mv, [.t 20], none⟩] [0, 1, 5, 20])
          .ret))) }
/-- spec.DrawOrderOk -/
def F_spec_DrawOrderOk : LF :=
  { nparams := 1, results := [.t 2, .t 3], body :=
    (.seq
      (.region false [⟨some 2, .mv, [.c (.i 0)], none⟩,
        ⟨some 3, .newnil 1544, [], none⟩] [2, 3])
      (.seq
        (.region false [⟨some 6, .mv, [.t 0], none⟩,
          ⟨some 7, .call n_spec_l20Open 3584, [.t 6], none⟩,
          ⟨some 4, .mv, [.t 7], none⟩] [0, 6, 7])
        (.seq
          (.region false [⟨some 8, .mv, [.t 4], none⟩,
            ⟨some 9, .call n_spec_l20Rd_pick 4608, [.t 8, .c (.i 5)], none⟩,
            ⟨some 10, .bin .add, [.c (.i 1), .t 9], none⟩,
            ⟨some 5, .mv, [.t 10], none⟩] [8, 9, 10])
          (.seq
            (.region false [⟨some 11, .mv, [.t 5], none⟩,
              ⟨some 12, .mv, [.t 4], none⟩,
              ⟨some 13, .call n_spec_l20Rd_pick 6656, [.t 12, .c (.i 20)], none⟩,
              ⟨some 14, .bin .quo, [.t 13, .c (.i 19)], none⟩,
              ⟨some 15, .bin .add, [.t 11, .t 14], none⟩,
              ⟨some 16, .mv, [.t 4], none⟩,
              ⟨some 17, .mv, [.t 5], none⟩,
              ⟨some 18, .call n_spec_l20Order 9216, [.t 16, .t 17, .c (.i 3)], none⟩,
              ⟨some 2, .mv, [.t 15], none⟩,
              ⟨some 3, .mv, [.t 18], none⟩] [4, 5, 11, 12, 13, 14, 15, 16, 17, 18])
            .ret)))) }
/-- laws.alive -/
def F_laws_alive : LF :=
  { nparams := 0, results := [.t 0], body :=
    (.seq
      (.region false [⟨some 0, .mv, [.c (.b false)], none⟩] [0])
      (.seq
        (.region false [⟨some 1, .build [.i 0, .i 0] [(0, 1), (1, 1)], [.c (.i 1), .c (.i 1)], none⟩,
          ⟨some 2, .bslice 1040 1 2 (.st [.i 0, .i 0]) [0], [.t 1], none⟩,
          ⟨some 3, .call n_impl_TestsOk 1536, [.t 2], none⟩,
          ⟨some 4, .mv, [.t 3], none⟩,
          ⟨some 5, .build [.i 0, .i 0] [], [], some (4, true)⟩,
          ⟨some 6, .bslice 3088 1 2 (.st [.i 0, .i 0]) [0], [.t 5], some (4, true)⟩,
          ⟨some 7, .call n_impl_TestsOk 3584, [.t 6], some (4, true)⟩,
          ⟨some 8, .un .not, [.t 7], some (4, true)⟩,
          ⟨some 9, .pick, [.t 4, .t 8, .c (.b false)], none⟩,
          ⟨some 0, .mv, [.t 9], none⟩] [1, 2, 3, 4, 5, 6, 7, 8, 9])
        .ret)) }
/-- spec.DrawSwappedOrder -/
def F_spec_DrawSwappedOrder : LF :=
  { nparams := 1, results := [.t 2, .t 3, .t 4], body :=
    (.seq
      (.region false [⟨some 2, .mv, [.c (.i 0)], none⟩,
        ⟨some 3, .newnil 1544, [], none⟩,
        ⟨some 4, .mv, [.c (.i 0)], none⟩] [2, 3, 4])
      (.seq
        (.region false [⟨some 7, .mv, [.t 0], none⟩,
          ⟨some 8, .call n_spec_l20Open 4096, [.t 7], none⟩,
          ⟨some 5, .mv, [.t 8], none⟩] [0, 7, 8])
        (.seq
          (.region false [⟨some 9, .mv, [.t 5], none⟩,
            ⟨some 10, .call n_spec_l20Rd_pick 5120, [.t 9, .c (.i 5)], none⟩,
            ⟨some 11, .bin .add, [.c (.i 1), .t 10], none⟩,
            ⟨some 6, .mv, [.t 11], none⟩] [9, 10, 11])
          (.seq
            (.region false [⟨some 12, .mv, [.t 6], none⟩,
              ⟨some 13, .mv, [.t 5], none⟩,
              ⟨some 14, .mv, [.t 6], none⟩,
              ⟨some 15, .call n_spec_l20Order 7680, [.t 13, .t 14, .c (.i 12)], none⟩,
              ⟨some 16, .mv, [.t 5], none⟩,
              ⟨some 17, .mv, [.t 6], none⟩,
              ⟨some 18, .call n_spec_l20Rd_pick 9216, [.t 16, .t 17], none⟩,
              ⟨some 19, .mv, [.t 5], none⟩,
              ⟨some 20, .call n_spec_l20Rd_pick 10240, [.t 19, .c (.i 40)], none⟩,
              ⟨some 21, .bin .quo, [.t 20, .c (.i 39)], none⟩,
              ⟨some 22, .bin .sub, [.t 18, .t 21], none⟩,
              ⟨some 2, .mv, [.t 12], none⟩,
              ⟨some 3, .mv, [.t 15], none⟩,
              ⟨some 4, .mv, [.t 22], none⟩] [5, 6, 12, 13, 14, 15, 16, 17, 18, 19, 20, 21, 22])
            .ret)))) }
/-- laws.sameInts -/
def F_laws_sameInts_L0 : LC :=
  (.seq
    (.seq
      (.region false [⟨some 11, .mv, [.t 5], none⟩,
        ⟨some 12, .mv, [.t 0], none⟩,
        ⟨some 13, .len, [.t 12], none⟩,
        ⟨some 14, .bin .lss, [.t 11, .t 13], none⟩] [11, 12, 13])
      (.cond (.t 14) [14]
        .skip
        (.exit 0)))
    (.seq
      (.block 1
        (.seq
          (.region true [⟨some 17, .mv, [.t 0], none⟩,
            ⟨some 18, .mv, [.t 5], none⟩,
            ⟨some 19, .idxa 1, [.t 17, .t 18], none⟩,
            ⟨some 20, .load 1 false, [.t 19], none⟩,
            ⟨some 21, .mv, [.t 1], none⟩,
            ⟨some 22, .mv, [.t 5], none⟩,
            ⟨some 23, .idxa 1, [.t 21, .t 22], none⟩,
            ⟨some 24, .load 1 false, [.t 23], none⟩,
            ⟨some 25, .bin .neq, [.t 20, .t 24], none⟩] [17, 18, 19, 20, 21, 22, 23, 24])
          (.cond (.t 25) [25]
            (.seq
              (.region false [⟨some 4, .mv, [.c (.b false)], none⟩] [0, 1, 5])
              .ret)
            .skip)))
      (.region false [⟨some 15, .mv, [.t 5], none⟩,
        ⟨some 16, .bin .add, [.t 15, .c (.i 1)], none⟩,
        ⟨some 5, .mv, [.t 16], none⟩] [15, 16])))
def F_laws_sameInts_W0 : LC := .loop F_laws_sameInts_L0
def F_laws_sameInts : LF :=
  { nparams := 2, results := [.t 4], body :=
    (.seq
      (.region false [⟨some 4, .mv, [.c (.b false)], none⟩] [4])
      (.seq
        (.seq
          (.region false [⟨some 6, .mv, [.t 0], none⟩,
            ⟨some 7, .len, [.t 6], none⟩,
            ⟨some 8, .mv, [.t 1], none⟩,
            ⟨some 9, .len, [.t 8], none⟩,
            ⟨some 10, .bin .neq, [.t 7, .t 9], none⟩] [6, 7, 8, 9])
          (.cond (.t 10) [10]
            (.seq
              (.region false [⟨some 4, .mv, [.c (.b false)], none⟩] [0, 1])
              .ret)
            .skip))
        (.seq
          (.seq
            (.region false [⟨some 5, .mv, [.c (.i 0)], none⟩] [])
            (.block 0
              F_laws_sameInts_W0))
          (.seq
            (.region false [⟨some 4, .mv, [.c (.b true)], none⟩] [0, 1, 5])
            .ret)))) }
/-- spec.l1In -/
def F_spec_l1In : LF :=
  { nparams := 3, results := [.t 6], body :=
    (.seq
      (.region false [⟨some 6, .mv, [.c (.b false)], none⟩] [6])
      (.seq
        (.region false [⟨some 7, .mv, [.t 0], none⟩,
          ⟨some 8, .mv, [.t 1], none⟩,
          ⟨some 9, .bin .geq, [.t 7, .t 8], none⟩,
          ⟨some 10, .mv, [.t 9], none⟩,
          ⟨some 11, .mv, [.t 0], some (10, true)⟩,
          ⟨some 12, .mv, [.t 2], some (10, true)⟩,
          ⟨some 13, .bin .leq, [.t 11, .t 12], some (10, true)⟩,
          ⟨some 14, .pick, [.t 10, .t 13, .c (.b false)], none⟩,
          ⟨some 6, .mv, [.t 14], none⟩] [0, 1, 2, 7, 8, 9, 10, 11, 12, 13, 14])
        .ret)) }
/-- impl.manyOk -/
def F_impl_manyOk : LF :=
  { nparams := 1, results := [.t 2], body :=
    (.seq
      (.region false [⟨some 2, .mv, [.c (.b false)], none⟩] [2])
      (.seq
        (.region false [⟨some 3, .mv, [.t 0], none⟩,
          ⟨some 4, .call n_impl_isWithin 2048, [.t 3, .c (.i 1), .c (.i 5)], none⟩,
          ⟨some 2, .mv, [.t 4], none⟩] [0, 3, 4])
        .ret)) }
/-- impl.isWithin -/
def F_impl_isWithin : LF :=
  { nparams := 3, results := [.t 6], body :=
    (.seq
      (.region false [⟨some 6, .mv, [.c (.b false)], none⟩] [6])
      (.seq
        (.region false [⟨some 7, .mv, [.t 1], none⟩,
          ⟨some 8, .mv, [.t 0], none⟩,
          ⟨some 9, .bin .leq, [.t 7, .t 8], none⟩,
          ⟨some 10, .mv, [.t 9], none⟩,
          ⟨some 11, .mv, [.t 0], some (10, true)⟩,
          ⟨some 12, .mv, [.t 2], some (10, true)⟩,
          ⟨some 13, .bin .leq, [.t 11, .t 12], some (10, true)⟩,
          ⟨some 14, .pick, [.t 10, .t 13, .c (.b false)], none⟩,
          ⟨some 6, .mv, [.t 14], none⟩] [0, 1, 2, 7, 8, 9, 10, 11, 12, 13, 14])
        .ret)) }
/-- impl.hasTest -/
def F_impl_hasTest : LF :=
  { nparams := 2, results := [.t 4], body :=
    (.seq
      (.region false [⟨some 4, .mv, [.c (.b false)], none⟩] [4])
      (.seq
        (.region false [⟨some 5, .mv, [.t 0], none⟩,
          ⟨some 6, .mv, [.t 1], none⟩,
          ⟨some 7, .bin .shr, [.t 5, .t 6], none⟩,
          ⟨some 8, .bin .and, [.t 7, .c (.i 1)], none⟩,
          ⟨some 9, .bin .eql, [.t 8, .c (.i 1)], none⟩,
          ⟨some 4, .mv, [.t 9], none⟩] [0, 1, 5, 6, 7, 8, 9])
        .ret)) }
/-- slices.Clone[[]int,int] -/
def F_slices_Clone_int_int : LF :=
  { nparams := 1, results := [.t 2], body :=
    (.seq
      (.region false [⟨some 2, .newnil 1032, [], none⟩] [2])
      (.seq
        (.seq
          (.region false [⟨some 3, .mv, [.t 0], none⟩,
            ⟨some 4, .eqn false, [.t 3], none⟩] [3])
          (.cond (.t 4) [4]
            (.seq
              (.region false [⟨some 2, .newnil 1032, [], none⟩] [0])
              .ret)
            .skip))
        (.seq
          (.region false [⟨some 5, .bslice 2568 0 1 (.i 0) [], [], none⟩,
            ⟨some 6, .mv, [.t 0], none⟩,
            ⟨some 7, .app 3592 1, [.t 5, .t 6], none⟩,
            ⟨some 2, .mv, [.t 7], none⟩] [0, 5, 6, 7])
          .ret))) }
/-- spec.l20Open -/
def F_spec_l20Open : LF :=
  { nparams := 1, results := [.t 2], body :=
    (.seq
      (.region false [⟨some 2, .mv, [.c (.np)], none⟩] [2])
      (.seq
        (.seq
          (.region false [⟨some 3, .mv, [.t 0], none⟩,
            ⟨some 4, .len, [.t 3], none⟩,
            ⟨some 5, .bin .gtr, [.t 4, .c (.i 2000)], none⟩] [3, 4])
          (.cond (.t 5) [5]
            (.region false [⟨some 6, .mv, [.t 0], none⟩,
              ⟨some 7, .slice false true 1, [.t 6, .c (.i 2000)], none⟩,
              ⟨some 0, .mv, [.t 7], none⟩] [6, 7])
            .skip))
        (.seq
          (.region false [⟨some 8, .mv, [.t 0], none⟩,
            ⟨some 9, .build [.sl 1 [], .i 0] [(0, 1)], [.t 8], none⟩,
            ⟨some 10, .box 5136, [.t 9], none⟩,
            ⟨some 2, .mv, [.t 10], none⟩] [0, 8, 9, 10])
          .ret))) }
/-- spec.l20Rd).pick -/
def F_spec_l20Rd_pick : LF :=
  { nparams := 2, results := [.t 4], body :=
    (.seq
      (.region false [⟨some 4, .mv, [.c (.i 0)], none⟩] [4])
      (.seq
        (.region false [⟨some 7, .mv, [.t 0], none⟩,
          ⟨some 8, .mv, [.t 0], none⟩,
          ⟨some 9, .chk, [.t 8], none⟩,
          ⟨some 10, .fld 1 1 false, [.t 9], none⟩,
          ⟨some 11, .load 1 false, [.t 10], none⟩,
          ⟨some 12, .bin .add, [.t 11, .c (.i 1)], none⟩,
          ⟨some 13, .chk, [.t 7], none⟩,
          ⟨some 14, .fld 1 1 false, [.t 13], none⟩,
          ⟨none, .store 1, [.t 14, .t 12], none⟩] [7, 8, 9, 10, 11, 12, 13, 14])
        (.seq
          (.seq
            (.region false [⟨some 15, .mv, [.t 1], none⟩,
              ⟨some 16, .bin .lss, [.t 15, .c (.i 1)], none⟩,
              ⟨some 17, .mv, [.t 16], none⟩,
              ⟨some 18, .mv, [.t 0], some (17, false)⟩,
              ⟨some 19, .chk, [.t 18], some (17, false)⟩,
              ⟨some 20, .fld 0 1 false, [.t 19], some (17, false)⟩,
              ⟨some 21, .load 1 false, [.t 20], some (17, false)⟩,
              ⟨some 22, .len, [.t 21], some (17, false)⟩,
              ⟨some 23, .bin .eql, [.t 22, .c (.i 0)], some (17, false)⟩,
              ⟨some 24, .pick, [.t 17, .c (.b true), .t 23], none⟩] [15, 16, 17, 18, 19, 20, 21, 22, 23])
            (.cond (.t 24) [24]
              (.seq
                (.region false [⟨some 4, .mv, [.c (.i 0)], none⟩] [1])
                .ret)
              .skip))
          (.seq
            (.region false [⟨some 25, .mv, [.t 0], none⟩,
              ⟨some 26, .chk, [.t 25], none⟩,
              ⟨some 27, .fld 1 1 false, [.t 26], none⟩,
              ⟨some 28, .load 1 false, [.t 27], none⟩,
              ⟨some 29, .bin .sub, [.t 28, .c (.i 1)], none⟩,
              ⟨some 5, .mv, [.t 29], none⟩] [25, 26, 27, 28, 29])
            (.seq
              (.seq
                (.region false [⟨some 30, .mv, [.t 5], none⟩,
                  ⟨some 31, .mv, [.t 0], none⟩,
                  ⟨some 32, .chk, [.t 31], none⟩,
                  ⟨some 33, .fld 0 1 false, [.t 32], none⟩,
                  ⟨some 34, .load 1 false, [.t 33], none⟩,
                  ⟨some 35, .len, [.t 34], none⟩,
                  ⟨some 36, .bin .lss, [.t 30, .t 35], none⟩] [30, 31, 32, 33, 34, 35])
                (.cond (.t 36) [36]
                  (.seq
                    (.region false [⟨some 37, .mv, [.t 0], none⟩,
                      ⟨some 38, .chk, [.t 37], none⟩,
                      ⟨some 39, .fld 0 1 false, [.t 38], none⟩,
                      ⟨some 40, .load 1 false, [.t 39], none⟩,
                      ⟨some 41, .mv, [.t 5], none⟩,
                      ⟨some 42, .idxa 1, [.t 40, .t 41], none⟩,
                      ⟨some 43, .load 1 false, [.t 42], none⟩,
                      ⟨some 44, .conv .b2i 22528, [.t 43], none⟩,
                      ⟨some 45, .mv, [.t 1], none⟩,
                      ⟨some 46, .bin .rem, [.t 44, .t 45], none⟩,
                      ⟨some 4, .mv, [.t 46], none⟩] [1, 5, 37, 38, 39, 40, 41, 42, 43, 44, 45, 46])
                    .ret)
                  .skip))
              (.seq
                (.region true [⟨some 47, .mv, [.t 0], none⟩,
                  ⟨some 48, .chk, [.t 47], none⟩,
                  ⟨some 49, .fld 0 1 false, [.t 48], none⟩,
                  ⟨some 50, .load 1 false, [.t 49], none⟩,
                  ⟨some 51, .mv, [.t 5], none⟩,
                  ⟨some 52, .mv, [.t 0], none⟩,
                  ⟨some 53, .chk, [.t 52], none⟩,
                  ⟨some 54, .fld 0 1 false, [.t 53], none⟩,
                  ⟨some 55, .load 1 false, [.t 54], none⟩,
                  ⟨some 56, .len, [.t 55], none⟩,
                  ⟨some 57, .bin .rem, [.t 51, .t 56], none⟩,
                  ⟨some 58, .idxa 1, [.t 50, .t 57], none⟩,
                  ⟨some 59, .load 1 false, [.t 58], none⟩,
                  ⟨some 60, .conv .b2i 30720, [.t 59], none⟩,
                  ⟨some 61, .bin .mul, [.t 60, .c (.i 131)], none⟩,
                  ⟨some 62, .mv, [.t 0], none⟩,
                  ⟨some 63, .chk, [.t 62], none⟩,
                  ⟨some 64, .fld 0 1 false, [.t 63], none⟩,
                  ⟨some 65, .load 1 false, [.t 64], none⟩,
                  ⟨some 66, .mv, [.t 5], none⟩,
                  ⟨some 67, .bin .mul, [.t 66, .c (.i 7)], none⟩,
                  ⟨some 68, .bin .add, [.t 67, .c (.i 3)], none⟩,
                  ⟨some 69, .mv, [.t 0], none⟩,
                  ⟨some 70, .chk, [.t 69], none⟩,
                  ⟨some 71, .fld 0 1 false, [.t 70], none⟩,
                  ⟨some 72, .load 1 false, [.t 71], none⟩,
                  ⟨some 73, .len, [.t 72], none⟩,
                  ⟨some 74, .bin .rem, [.t 68, .t 73], none⟩,
                  ⟨some 75, .idxa 1, [.t 65, .t 74], none⟩,
                  ⟨some 76, .load 1 false, [.t 75], none⟩,
                  ⟨some 77, .conv .b2i 39424, [.t 76], none⟩,
                  ⟨some 78, .bin .mul, [.t 77, .c (.i 1117)], none⟩,
                  ⟨some 79, .bin .add, [.t 61, .t 78], none⟩,
                  ⟨some 80, .mv, [.t 5], none⟩,
                  ⟨some 81, .bin .mul, [.t 80, .c (.i 29)], none⟩,
                  ⟨some 82, .bin .add, [.t 79, .t 81], none⟩,
                  ⟨some 83, .mv, [.t 5], none⟩,
                  ⟨some 84, .mv, [.t 0], none⟩,
                  ⟨some 85, .chk, [.t 84], none⟩,
                  ⟨some 86, .fld 0 1 false, [.t 85], none⟩,
                  ⟨some 87, .load 1 false, [.t 86], none⟩,
                  ⟨some 88, .len, [.t 87], none⟩,
                  ⟨some 89, .bin .quo, [.t 83, .t 88], none⟩,
                  ⟨some 90, .bin .mul, [.t 89, .c (.i 53)], none⟩,
                  ⟨some 91, .bin .add, [.t 82, .t 90], none⟩,
                  ⟨some 6, .mv, [.t 91], none⟩] [5, 47, 48, 49, 50, 51, 52, 53, 54, 55, 56, 57, 58, 59, 60, 61, 62, 63, 64, 65, 66, 67, 68, 69, 70, 71, 72, 73, 74, 75, 76, 77, 78, 79, 80, 81, 82, 83, 84, 85, 86, 87, 88, 89, 90, 91])
                (.seq
                  (.region false [⟨some 92, .mv, [.t 6], none⟩,
                    ⟨some 93, .mv, [.t 6], none⟩,
                    ⟨some 94, .bin .quo, [.t 93, .c (.i 64)], none⟩,
                    ⟨some 95, .bin .xor, [.t 92, .t 94], none⟩,
                    ⟨some 6, .mv, [.t 95], none⟩] [92, 93, 94, 95])
                  (.seq
                    (.region false [⟨some 96, .mv, [.t 6], none⟩,
                      ⟨some 97, .mv, [.t 1], none⟩,
                      ⟨some 98, .bin .rem, [.t 96, .t 97], none⟩,
                      ⟨some 4, .mv, [.t 98], none⟩] [1, 6, 96, 97, 98])
                    .ret)))))))) }
/-- spec.l20Order -/
def F_spec_l20Order_L0 : LC :=
  (.ghost (.rename 7 5640)
  (.seq
    (.seq
      (.region false [⟨some 12, .mv, [.t 8], none⟩,
        ⟨some 13, .mv, [.t 1], none⟩,
        ⟨some 14, .bin .lss, [.t 12, .t 13], none⟩] [12, 13])
      (.cond (.t 14) [14]
        .skip
        (.exit 0)))
    (.seq
      (.block 1
        (.seq
          (.region false [⟨some 17, .mv, [.t 0], none⟩,
            ⟨some 18, .mv, [.t 7], none⟩,
            ⟨some 19, .len, [.t 18], none⟩,
            ⟨some 20, .bin .add, [.t 19, .c (.i 1)], none⟩,
            ⟨some 21, .call n_spec_l20Rd_pick 10752, [.t 17, .t 20], none⟩,
            ⟨some 9, .mv, [.t 21], none⟩] [17, 18, 19, 20, 21])
          (.seq
            (.region false [⟨some 22, .bslice 11272 0 1 (.i 0) [], [], none⟩,
              ⟨some 23, .mv, [.t 7], none⟩,
              ⟨some 24, .mv, [.t 9], none⟩,
              ⟨some 25, .slice false true 1, [.t 23, .t 24], none⟩,
              ⟨some 26, .app 13320 1, [.t 22, .t 25], none⟩,
              ⟨some 10, .mv, [.t 26], none⟩] [22, 23, 24, 25, 26])
            (.seq
              (.region false [⟨some 27, .mv, [.t 10], none⟩,
                ⟨some 28, .mv, [.t 8], none⟩,
                ⟨some 29, .bslice 14856 1 1 (.i 0) [0], [.t 28], none⟩,
                ⟨some 30, .app 15368 1, [.t 27, .t 29], none⟩,
                ⟨some 10, .mv, [.t 30], none⟩] [27, 28, 29, 30])
              (.region false [⟨some 31, .mv, [.t 10], none⟩,
                ⟨some 32, .mv, [.t 7], none⟩,
                ⟨some 33, .mv, [.t 9], none⟩,
                ⟨some 34, .slice true false 1, [.t 32, .t 33], none⟩,
                ⟨some 35, .app 17928 1, [.t 31, .t 34], none⟩,
                ⟨some 7, .mv, [.t 35], none⟩] [9, 10, 31, 32, 33, 34, 35])))))
      (.region false [⟨some 15, .mv, [.t 8], none⟩,
        ⟨some 16, .bin .add, [.t 15, .c (.i 1)], none⟩,
        ⟨some 8, .mv, [.t 16], none⟩] [15, 16]))))
def F_spec_l20Order_W0 : LC := .loop F_spec_l20Order_L0
def F_spec_l20Order : LF :=
  { nparams := 3, results := [.t 6], body :=
    (.seq
      (.region false [⟨some 6, .newnil 3080, [], none⟩] [6])
      (.seq
        (.region false [⟨some 11, .bslice 5640 0 1 (.i 0) [], [], none⟩,
          ⟨some 7, .mv, [.t 11], none⟩] [11])
        (.seq
          (.seq
            (.region false [⟨some 8, .mv, [.c (.i 0)], none⟩] [])
            (.block 0
              F_spec_l20Order_W0))
          (.seq
            (.seq
              (.region false [⟨some 36, .mv, [.t 0], none⟩,
                ⟨some 37, .mv, [.t 2], none⟩,
                ⟨some 38, .call n_spec_l20Rd_odd 19456, [.t 36, .t 37], none⟩] [1, 2, 8, 36, 37])
              (.cond (.t 38) [38]
                (.seq
                  (.region false [⟨some 39, .mv, [.t 0], none⟩,
                    ⟨some 40, .call n_spec_l20Rd_pick 20480, [.t 39, .c (.i 2)], none⟩] [39])
                  (.block 2
                    (.seq
                      (.region false [⟨some 52, .bin .eql, [.t 40, .c (.i 0)], none⟩,
                        ⟨some 51, .mv, [.t 52], none⟩] [40, 52])
                      (.cond (.t 51) [51]
                        (.seq
                          (.region false [⟨some 53, .mv, [.t 7], none⟩,
                            ⟨some 54, .bslice 27656 1 1 (.i 0) [0], [.c (.i 0)], none⟩,
                            ⟨some 55, .app 28168 1, [.t 53, .t 54], none⟩,
                            ⟨some 6, .mv, [.t 55], none⟩] [7, 53, 54, 55])
                          .ret)
                        (.seq
                          (.region false [⟨some 41, .mv, [.t 7], none⟩,
                            ⟨some 42, .len, [.t 41], none⟩,
                            ⟨some 43, .bin .gtr, [.t 42, .c (.i 0)], none⟩] [41, 42])
                          (.cond (.t 43) [43]
                            (.region false [⟨some 44, .mv, [.t 7], none⟩,
                              ⟨some 45, .bslice 23048 2 1 (.i 0) [0, 1], [.c (.i 5), .c (.i (-1))], none⟩,
                              ⟨some 46, .mv, [.t 0], none⟩,
                              ⟨some 47, .call n_spec_l20Rd_pick 24064, [.t 46, .c (.i 2)], none⟩,
                              ⟨some 48, .idxa 1, [.t 45, .t 47], none⟩,
                              ⟨some 49, .load 1 false, [.t 48], none⟩,
                              ⟨some 50, .idxa 1, [.t 44, .c (.i 0)], none⟩,
                              ⟨none, .store 1, [.t 50, .t 49], none⟩] [44, 45, 46, 47, 48, 49, 50])
                            .skip))))))
                .skip))
            (.seq
              (.region false [⟨some 56, .mv, [.t 7], none⟩,
                ⟨some 6, .mv, [.t 56], none⟩] [7, 56])
              .ret))))) }
/-- impl.TestsOk -/
def F_impl_TestsOk_L0 : LC :=
  (.seq
    (.region false [⟨some 12, .bin .lss, [.t 11, .t 10], none⟩] [])
    (.seq
      (.cond (.t 12) [12]
        .skip
        (.exit 0))
      (.seq
        (.block 1
          (.seq
            (.region false [⟨some 13, .idxa 2, [.t 9, .t 11], none⟩,
              ⟨some 14, .load 2 true, [.t 13], none⟩,
              ⟨some 4, .alloc 2064 (.st [.i 0, .i 0]), [], none⟩,
              ⟨none, .store 2, [.t 4, .t 14], none⟩] [13, 14])
            (.seq
              (.region false [⟨some 15, .fld 0 1 false, [.t 4], none⟩,
                ⟨some 16, .load 1 false, [.t 15], none⟩,
                ⟨some 17, .call n_impl_isWithin 8704, [.t 16, .c (.i 1), .c (.i 9)], none⟩,
                ⟨some 18, .un .not, [.t 17], none⟩,
                ⟨some 19, .mv, [.t 18], none⟩,
                ⟨some 20, .fld 1 1 false, [.t 4], some (19, false)⟩,
                ⟨some 21, .load 1 false, [.t 20], some (19, false)⟩,
                ⟨some 22, .call n_impl_isWithin 11264, [.t 21, .c (.i 1), .c (.i 5)], some (19, false)⟩,
                ⟨some 23, .un .not, [.t 22], some (19, false)⟩,
                ⟨some 24, .pick, [.t 19, .c (.b true), .t 23], none⟩] [4, 15, 16, 17, 18, 19, 20, 21, 22, 23])
              (.cond (.t 24) [24]
                (.seq
                  (.region false [⟨some 2, .mv, [.c (.b false)], none⟩] [9, 10, 11])
                  .ret)
                .skip))))
        (.region false [⟨some 25, .bin .add, [.t 11, .c (.i 1)], none⟩,
          ⟨some 11, .mv, [.t 25], none⟩] [25]))))
def F_impl_TestsOk_W0 : LC := .loop F_impl_TestsOk_L0
def F_impl_TestsOk : LF :=
  { nparams := 1, results := [.t 2], body :=
    (.seq
      (.region false [⟨some 2, .mv, [.c (.b false)], none⟩] [2])
      (.seq
        (.seq
          (.region false [⟨some 5, .mv, [.t 0], none⟩,
            ⟨some 6, .len, [.t 5], none⟩,
            ⟨some 7, .call n_impl_manyOk 3584, [.t 6], none⟩,
            ⟨some 8, .un .not, [.t 7], none⟩] [5, 6, 7])
          (.cond (.t 8) [8]
            (.seq
              (.region false [⟨some 2, .mv, [.c (.b false)], none⟩] [0])
              .ret)
            .skip))
        (.seq
          (.seq
            (.region false [⟨some 9, .mv, [.t 0], none⟩,
              ⟨some 10, .len, [.t 9], none⟩,
              ⟨some 11, .mv, [.c (.i 0)], none⟩] [0])
            (.block 0
              F_impl_TestsOk_W0))
          (.seq
            (.region false [⟨some 2, .mv, [.c (.b true)], none⟩] [9, 10, 11])
            .ret)))) }
/-- spec.l20Rd).odd -/
def F_spec_l20Rd_odd : LF :=
  { nparams := 2, results := [.t 4], body :=
    (.seq
      (.region false [⟨some 4, .mv, [.c (.b false)], none⟩] [4])
      (.seq
        (.region false [⟨some 5, .mv, [.t 1], none⟩,
          ⟨some 6, .bin .gtr, [.t 5, .c (.i 0)], none⟩,
          ⟨some 7, .mv, [.t 6], none⟩,
          ⟨some 8, .mv, [.t 0], some (7, true)⟩,
          ⟨some 9, .mv, [.t 1], some (7, true)⟩,
          ⟨some 10, .call n_spec_l20Rd_pick 5120, [.t 8, .t 9], some (7, true)⟩,
          ⟨some 11, .mv, [.t 1], some (7, true)⟩,
          ⟨some 12, .bin .sub, [.t 11, .c (.i 1)], some (7, true)⟩,
          ⟨some 13, .bin .eql, [.t 10, .t 12], some (7, true)⟩,
          ⟨some 14, .pick, [.t 7, .t 13, .c (.b false)], none⟩,
          ⟨some 4, .mv, [.t 14], none⟩] [1, 5, 6, 7, 8, 9, 10, 11, 12, 13, 14])
        .ret)) }
def lf : Nat → Option LF
  | 3 => some F_laws_FnExactOrderOk
  | 4 => some F_laws_FnExactSwappedOrder
  | 5 => some F_laws_FnOrderOk
  | 6 => some F_laws_FnSwappedOrder
  | 7 => some F_spec_OrderOk
  | 8 => some F_laws_toIntS
  | 9 => some F_impl_OrderOk
  | 10 => some F_laws_eqIntS
  | 11 => some F_spec_SwappedOrder
  | 12 => some F_impl_SwappedOrder
  | 13 => some F_laws_markIntS
  | 14 => some F_laws_heldIntS
  | 15 => some F_spec_DrawOrderOk
  | 16 => some F_laws_alive
  | 17 => some F_spec_DrawSwappedOrder
  | 18 => some F_laws_sameInts
  | 19 => some F_spec_l1In
  | 20 => some F_impl_manyOk
  | 21 => some F_impl_isWithin
  | 22 => some F_impl_hasTest
  | 23 => some F_slices_Clone_int_int
  | 24 => some F_spec_l20Open
  | 25 => some F_spec_l20Rd_pick
  | 26 => some F_spec_l20Order
  | 27 => some F_impl_TestsOk
  | 28 => some F_spec_l20Rd_odd
  | _ => none
theorem w_laws_FnOrderOk_0 (S : LS) : ex lf F_laws_FnOrderOk_W0 S = match ex lf F_laws_FnOrderOk_L0 S with | some (.normal, S1) => ex lf F_laws_FnOrderOk_W0 S1 | r => r := ex_loop lf F_laws_FnOrderOk_L0 S
theorem w_laws_FnOrderOk_1 (S : LS) : ex lf F_laws_FnOrderOk_W1 S = match ex lf F_laws_FnOrderOk_L1 S with | some (.normal, S1) => ex lf F_laws_FnOrderOk_W1 S1 | r => r := ex_loop lf F_laws_FnOrderOk_L1 S
theorem w_spec_OrderOk_0 (S : LS) : ex lf F_spec_OrderOk_W0 S = match ex lf F_spec_OrderOk_L0 S with | some (.normal, S1) => ex lf F_spec_OrderOk_W0 S1 | r => r := ex_loop lf F_spec_OrderOk_L0 S
theorem w_laws_toIntS_0 (S : LS) : ex lf F_laws_toIntS_W0 S = match ex lf F_laws_toIntS_L0 S with | some (.normal, S1) => ex lf F_laws_toIntS_W0 S1 | r => r := ex_loop lf F_laws_toIntS_L0 S
theorem w_impl_OrderOk_0 (S : LS) : ex lf F_impl_OrderOk_W0 S = match ex lf F_impl_OrderOk_L0 S with | some (.normal, S1) => ex lf F_impl_OrderOk_W0 S1 | r => r := ex_loop lf F_impl_OrderOk_L0 S
theorem w_laws_eqIntS_0 (S : LS) : ex lf F_laws_eqIntS_W0 S = match ex lf F_laws_eqIntS_L0 S with | some (.normal, S1) => ex lf F_laws_eqIntS_W0 S1 | r => r := ex_loop lf F_laws_eqIntS_L0 S
theorem w_laws_markIntS_0 (S : LS) : ex lf F_laws_markIntS_W0 S = match ex lf F_laws_markIntS_L0 S with | some (.normal, S1) => ex lf F_laws_markIntS_W0 S1 | r => r := ex_loop lf F_laws_markIntS_L0 S
theorem w_laws_heldIntS_0 (S : LS) : ex lf F_laws_heldIntS_W0 S = match ex lf F_laws_heldIntS_L0 S with | some (.normal, S1) => ex lf F_laws_heldIntS_W0 S1 | r => r := ex_loop lf F_laws_heldIntS_L0 S
theorem w_laws_sameInts_0 (S : LS) : ex lf F_laws_sameInts_W0 S = match ex lf F_laws_sameInts_L0 S with | some (.normal, S1) => ex lf F_laws_sameInts_W0 S1 | r => r := ex_loop lf F_laws_sameInts_L0 S
theorem w_spec_l20Order_0 (S : LS) : ex lf F_spec_l20Order_W0 S = match ex lf F_spec_l20Order_L0 S with | some (.normal, S1) => ex lf F_spec_l20Order_W0 S1 | r => r := ex_loop lf F_spec_l20Order_L0 S
theorem w_impl_TestsOk_0 (S : LS) : ex lf F_impl_TestsOk_W0 S = match ex lf F_impl_TestsOk_L0 S with | some (.normal, S1) => ex lf F_impl_TestsOk_W0 S1 | r => r := ex_loop lf F_impl_TestsOk_L0 S
end Zz
