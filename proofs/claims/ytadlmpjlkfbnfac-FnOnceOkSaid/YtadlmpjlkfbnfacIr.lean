/- The functions of the program, read as data. No conditions. -/
import Derived.Test.YtadlmpjlkfbnfacLg22
namespace Zz
open Go.Lg
def n_laws_FnTermOk : Nat := 4
def n_laws_FnLettersOf : Nat := 5
def n_laws_FnOnceOk : Nat := 6
def n_laws_FnDualTerm : Nat := 7
def n_spec_DrawTermOk : Nat := 15
def n_impl_TermOk : Nat := 16
def n_spec_TermOk : Nat := 17
def n_laws_alive : Nat := 18
def n_spec_DrawLettersOf : Nat := 19
def n_impl_LettersOf : Nat := 20
def n_spec_LettersOf : Nat := 21
def n_impl_DualTerm : Nat := 22
def n_spec_DrawOnceOk : Nat := 23
def n_impl_OnceOk : Nat := 24
def n_spec_OnceOk : Nat := 25
def n_spec_DrawDualTerm : Nat := 26
def n_laws_sameMarks : Nat := 27
def n_spec_DualTerm : Nat := 28
def n_spec_l20Asked : Nat := 37
def n_spec_l20Open : Nat := 38
def n_impl_manyOk : Nat := 39
def n_impl_isWithin : Nat := 40
def n_impl_partsTaken : Nat := 41
def n_impl_markOk : Nat := 42
def n_spec_l1In : Nat := 43
def n_impl_TestsOk : Nat := 44
def n_spec_l20Rd_pick : Nat := 46
def n_spec_l20Term : Nat := 47
def n_spec_l20Rd_odd : Nat := 54
/-- laws.FnTermOk -/
def F_laws_FnTermOk : LF :=
  { nparams := 1, results := [.t 2], body :=
    (.seq
      (.region false [⟨some 2, .mv, [.c (.b false)], none⟩] [2])
      (.seq
        (.seq
          (.region false [⟨some 9, .mv, [.t 0], none⟩,
            ⟨some 10, .len, [.t 9], none⟩,
            ⟨some 11, .bin .gtr, [.t 10, .c (.i 1048576)], none⟩] [9, 10])
          (.cond (.t 11) [11]
            (.seq
              (.region false [⟨some 2, .mv, [.c (.b true)], none⟩] [0])
              .ret)
            .skip))
        (.seq
          (.region false [⟨some 13, .mv, [.t 0], none⟩,
            ⟨some 14, .call n_spec_DrawTermOk 7168, [.t 13], none⟩,
            ⟨some 12, .mv, [.t 14], none⟩,
            ⟨some 15, .ext 0, [.t 12], none⟩,
            ⟨some 16, .ext 1, [.t 12], none⟩,
            ⟨some 3, .mv, [.t 15], none⟩,
            ⟨some 4, .mv, [.t 16], none⟩] [0, 12, 13, 14, 15, 16])
          (.seq
            (.region false [⟨some 17, .mv, [.t 3], none⟩,
              ⟨some 18, .mv, [.t 4], none⟩,
              ⟨some 19, .call n_impl_TermOk 9728, [.t 17, .t 18], none⟩,
              ⟨some 5, .mv, [.t 19], none⟩] [17, 18, 19])
            (.seq
              (.seq
                (.region false [⟨some 20, .mv, [.t 5], none⟩,
                  ⟨some 21, .mv, [.t 3], none⟩,
                  ⟨some 22, .mv, [.t 4], none⟩,
                  ⟨some 23, .call n_spec_TermOk 11776, [.t 21, .t 22], none⟩,
                  ⟨some 24, .eqb true, [.t 20, .t 23], none⟩] [20, 21, 22, 23])
                (.cond (.t 24) [24]
                  (.seq
                    (.region false [⟨some 2, .mv, [.c (.b false)], none⟩] [3, 4, 5])
                    .ret)
                  .skip))
              (.seq
                (.seq
                  (.region false [⟨some 25, .mv, [.t 3], none⟩,
                    ⟨some 26, .bin .lss, [.t 25, .c (.i 1)], none⟩,
                    ⟨some 27, .mv, [.t 26], none⟩,
                    ⟨some 28, .mv, [.t 3], some (27, false)⟩,
                    ⟨some 29, .bin .gtr, [.t 28, .c (.i 5)], some (27, false)⟩,
                    ⟨some 30, .pick, [.t 27, .c (.b true), .t 29], none⟩] [25, 26, 27, 28, 29])
                  (.cond (.t 30) [30]
                    (.seq
                      (.region false [⟨some 31, .mv, [.t 5], none⟩,
                        ⟨some 32, .un .not, [.t 31], none⟩,
                        ⟨some 33, .mv, [.t 32], none⟩,
                        ⟨some 34, .call n_laws_alive 17408, [], some (33, true)⟩,
                        ⟨some 35, .pick, [.t 33, .t 34, .c (.b false)], none⟩,
                        ⟨some 2, .mv, [.t 35], none⟩] [3, 4, 5, 31, 32, 33, 34, 35])
                      .ret)
                    .skip))
                (.seq
                  (.region false [⟨some 36, .bslice 18448 0 2 (.st [.i 0, .i 0]) [], [], none⟩,
                    ⟨some 37, .mv, [.t 4], none⟩,
                    ⟨some 38, .app 19472 2, [.t 36, .t 37], none⟩,
                    ⟨some 39, .build [.i 0, .i 0] [], [], none⟩,
                    ⟨some 40, .build [.i 0, .i 0] [(0, 1)], [.c (.i 2)], none⟩,
                    ⟨some 41, .bslice 21008 2 2 (.st [.i 0, .i 0]) [0, 1], [.t 39, .t 40], none⟩,
                    ⟨some 42, .app 21520 2, [.t 38, .t 41], none⟩,
                    ⟨some 6, .mv, [.t 42], none⟩] [36, 37, 38, 39, 40, 41, 42])
                  (.seq
                    (.region false [⟨some 43, .bslice 22032 0 2 (.st [.i 0, .i 0]) [], [], none⟩,
                      ⟨some 44, .mv, [.t 4], none⟩,
                      ⟨some 45, .app 23056 2, [.t 43, .t 44], none⟩,
                      ⟨some 46, .build [.i 0, .i 0] [], [], none⟩,
                      ⟨some 47, .build [.i 0, .i 0] [(0, 1)], [.c (.i 3)], none⟩,
                      ⟨some 48, .bslice 24592 2 2 (.st [.i 0, .i 0]) [0, 1], [.t 46, .t 47], none⟩,
                      ⟨some 49, .app 25104 2, [.t 45, .t 48], none⟩,
                      ⟨some 7, .mv, [.t 49], none⟩] [43, 44, 45, 46, 47, 48, 49])
                    (.seq
                      (.region false [⟨some 50, .bslice 25616 0 2 (.st [.i 0, .i 0]) [], [], none⟩,
                        ⟨some 51, .mv, [.t 4], none⟩,
                        ⟨some 52, .app 26640 2, [.t 50, .t 51], none⟩,
                        ⟨some 53, .build [.i 0, .i 0] [(0, 1)], [.c (.i 1)], none⟩,
                        ⟨some 54, .bslice 27664 1 2 (.st [.i 0, .i 0]) [0], [.t 53], none⟩,
                        ⟨some 55, .app 28176 2, [.t 52, .t 54], none⟩,
                        ⟨some 8, .mv, [.t 55], none⟩] [50, 51, 52, 53, 54, 55])
                      (.seq
                        (.region false [⟨some 56, .mv, [.t 3], none⟩,
                          ⟨some 57, .mv, [.t 3], none⟩,
                          ⟨some 58, .bin .sub, [.t 57, .c (.i 1)], none⟩,
                          ⟨some 59, .build [.i 0, .i 0] [(1, 1)], [.t 58], none⟩,
                          ⟨some 60, .bslice 30736 1 2 (.st [.i 0, .i 0]) [0], [.t 59], none⟩,
                          ⟨some 61, .call n_impl_TermOk 31232, [.t 56, .t 60], none⟩,
                          ⟨some 62, .mv, [.t 61], none⟩,
                          ⟨some 63, .mv, [.t 3], some (62, true)⟩,
                          ⟨some 64, .mv, [.t 3], some (62, true)⟩,
                          ⟨some 65, .build [.i 0, .i 0] [(1, 1)], [.t 64], some (62, true)⟩,
                          ⟨some 66, .bslice 33808 1 2 (.st [.i 0, .i 0]) [0], [.t 65], some (62, true)⟩,
                          ⟨some 67, .call n_impl_TermOk 34304, [.t 63, .t 66], some (62, true)⟩,
                          ⟨some 68, .un .not, [.t 67], some (62, true)⟩,
                          ⟨some 69, .pick, [.t 62, .t 68, .c (.b false)], none⟩,
                          ⟨some 70, .mv, [.t 69], none⟩,
                          ⟨some 71, .mv, [.t 5], some (70, true)⟩,
                          ⟨some 72, .un .not, [.t 71], some (70, true)⟩,
                          ⟨some 73, .mv, [.t 72], some (70, true)⟩,
                          ⟨some 74, .mv, [.t 4], some (73, false)⟩,
                          ⟨some 75, .len, [.t 74], some (73, false)⟩,
                          ⟨some 76, .bin .gtr, [.t 75, .c (.i 11)], some (73, false)⟩,
                          ⟨some 77, .pick, [.t 73, .c (.b true), .t 76], some (70, true)⟩,
                          ⟨some 78, .mv, [.t 77], some (70, true)⟩,
                          ⟨some 79, .mv, [.t 3], some (78, false)⟩,
                          ⟨some 80, .mv, [.t 6], some (78, false)⟩,
                          ⟨some 81, .call n_impl_TermOk 41472, [.t 79, .t 80], some (78, false)⟩,
                          ⟨some 82, .mv, [.t 81], some (78, false)⟩,
                          ⟨some 83, .mv, [.t 3], some (82, true)⟩,
                          ⟨some 84, .mv, [.t 7], some (82, true)⟩,
                          ⟨some 85, .call n_impl_TermOk 43520, [.t 83, .t 84], some (82, true)⟩,
                          ⟨some 86, .pick, [.t 82, .t 85, .c (.b false)], some (78, false)⟩,
                          ⟨some 87, .mv, [.t 86], some (78, false)⟩,
                          ⟨some 88, .mv, [.t 3], some (87, true)⟩,
                          ⟨some 89, .mv, [.t 8], some (87, true)⟩,
                          ⟨some 90, .call n_impl_TermOk 46080, [.t 88, .t 89], some (87, true)⟩,
                          ⟨some 91, .pick, [.t 87, .t 90, .c (.b false)], some (78, false)⟩,
                          ⟨some 92, .pick, [.t 78, .c (.b true), .t 91], some (70, true)⟩,
                          ⟨some 93, .pick, [.t 70, .t 92, .c (.b false)], none⟩,
                          ⟨some 94, .mv, [.t 93], none⟩,
                          ⟨some 95, .call n_laws_alive 48640, [], some (94, true)⟩,
                          ⟨some 96, .pick, [.t 94, .t 95, .c (.b false)], none⟩,
                          ⟨some 2, .mv, [.t 96], none⟩] [3, 4, 5, 6, 7, 8, 56, 57, 58, 59, 60, 61, 62, 63, 64, 65, 66, 67, 68, 69, 70, 71, 72, 73, 74, 75, 76, 77, 78, 79, 80, 81, 82, 83, 84, 85, 86, 87, 88, 89, 90, 91, 92, 93, 94, 95, 96])
                        .ret)))))))))) }
/-- laws.FnLettersOf -/
def F_laws_FnLettersOf : LF :=
  { nparams := 1, results := [.t 2], body :=
    (.seq
      (.region false [⟨some 2, .mv, [.c (.b false)], none⟩] [2])
      (.seq
        (.seq
          (.region false [⟨some 8, .mv, [.t 0], none⟩,
            ⟨some 9, .len, [.t 8], none⟩,
            ⟨some 10, .bin .gtr, [.t 9, .c (.i 1048576)], none⟩] [8, 9])
          (.cond (.t 10) [10]
            (.seq
              (.region false [⟨some 2, .mv, [.c (.b true)], none⟩] [0])
              .ret)
            .skip))
        (.seq
          (.region false [⟨some 12, .mv, [.t 0], none⟩,
            ⟨some 13, .call n_spec_DrawLettersOf 6656, [.t 12], none⟩,
            ⟨some 11, .mv, [.t 13], none⟩,
            ⟨some 14, .ext 0, [.t 11], none⟩,
            ⟨some 15, .ext 1, [.t 11], none⟩,
            ⟨some 3, .mv, [.t 14], none⟩,
            ⟨some 4, .mv, [.t 15], none⟩] [0, 11, 12, 13, 14, 15])
          (.seq
            (.region false [⟨some 16, .mv, [.t 3], none⟩,
              ⟨some 17, .mv, [.t 4], none⟩,
              ⟨some 18, .call n_impl_LettersOf 9216, [.t 16, .t 17], none⟩,
              ⟨some 5, .mv, [.t 18], none⟩] [16, 17, 18])
            (.seq
              (.seq
                (.region false [⟨some 19, .mv, [.t 5], none⟩,
                  ⟨some 20, .mv, [.t 3], none⟩,
                  ⟨some 21, .mv, [.t 4], none⟩,
                  ⟨some 22, .call n_spec_LettersOf 11264, [.t 20, .t 21], none⟩,
                  ⟨some 23, .bin .neq, [.t 19, .t 22], none⟩] [19, 20, 21, 22])
                (.cond (.t 23) [23]
                  (.seq
                    (.region false [⟨some 2, .mv, [.c (.b false)], none⟩] [3, 4, 5])
                    .ret)
                  .skip))
              (.seq
                (.seq
                  (.region false [⟨some 24, .mv, [.t 5], none⟩,
                    ⟨some 25, .bin .lss, [.t 24, .c (.i 0)], none⟩] [24])
                  (.cond (.t 25) [25]
                    (.seq
                      (.region false [⟨some 26, .mv, [.t 5], none⟩,
                        ⟨some 27, .bin .eql, [.t 26, .c (.i (-1))], none⟩,
                        ⟨some 28, .mv, [.t 27], none⟩,
                        ⟨some 29, .mv, [.t 3], some (28, true)⟩,
                        ⟨some 30, .mv, [.t 4], some (28, true)⟩,
                        ⟨some 31, .call n_impl_TermOk 15872, [.t 29, .t 30], some (28, true)⟩,
                        ⟨some 32, .un .not, [.t 31], some (28, true)⟩,
                        ⟨some 33, .pick, [.t 28, .t 32, .c (.b false)], none⟩,
                        ⟨some 34, .mv, [.t 33], none⟩,
                        ⟨some 35, .call n_laws_alive 17920, [], some (34, true)⟩,
                        ⟨some 36, .pick, [.t 34, .t 35, .c (.b false)], none⟩,
                        ⟨some 2, .mv, [.t 36], none⟩] [3, 4, 5, 26, 27, 28, 29, 30, 31, 32, 33, 34, 35, 36])
                      .ret)
                    .skip))
                (.seq
                  (.region false [⟨some 37, .bslice 18960 0 2 (.st [.i 0, .i 0]) [], [], none⟩,
                    ⟨some 38, .mv, [.t 4], none⟩,
                    ⟨some 39, .app 19984 2, [.t 37, .t 38], none⟩,
                    ⟨some 40, .mv, [.t 3], none⟩,
                    ⟨some 41, .bin .sub, [.t 40, .c (.i 1)], none⟩,
                    ⟨some 42, .build [.i 0, .i 0] [(1, 1)], [.t 41], none⟩,
                    ⟨some 43, .build [.i 0, .i 0] [(0, 1)], [.c (.i 2)], none⟩,
                    ⟨some 44, .bslice 22544 2 2 (.st [.i 0, .i 0]) [0, 1], [.t 42, .t 43], none⟩,
                    ⟨some 45, .app 23056 2, [.t 39, .t 44], none⟩,
                    ⟨some 6, .mv, [.t 45], none⟩] [37, 38, 39, 40, 41, 42, 43, 44, 45])
                  (.seq
                    (.region false [⟨some 46, .mv, [.t 3], none⟩,
                      ⟨some 47, .mv, [.t 6], none⟩,
                      ⟨some 48, .call n_impl_LettersOf 24576, [.t 46, .t 47], none⟩,
                      ⟨some 7, .mv, [.t 48], none⟩] [6, 46, 47, 48])
                    (.seq
                      (.region false [⟨some 49, .mv, [.t 5], none⟩,
                        ⟨some 50, .bin .geq, [.t 49, .c (.i 1)], none⟩,
                        ⟨some 51, .mv, [.t 50], none⟩,
                        ⟨some 52, .mv, [.t 5], some (51, true)⟩,
                        ⟨some 53, .mv, [.t 3], some (51, true)⟩,
                        ⟨some 54, .bin .shl, [.c (.i 1), .t 53], some (51, true)⟩,
                        ⟨some 55, .bin .lss, [.t 52, .t 54], some (51, true)⟩,
                        ⟨some 56, .pick, [.t 51, .t 55, .c (.b false)], none⟩,
                        ⟨some 57, .mv, [.t 56], none⟩,
                        ⟨some 58, .mv, [.t 3], some (57, true)⟩,
                        ⟨some 59, .mv, [.t 3], some (57, true)⟩,
                        ⟨some 60, .mv, [.t 4], some (57, true)⟩,
                        ⟨some 61, .call n_impl_DualTerm 31232, [.t 59, .t 60], some (57, true)⟩,
                        ⟨some 62, .call n_impl_LettersOf 31744, [.t 58, .t 61], some (57, true)⟩,
                        ⟨some 63, .mv, [.t 5], some (57, true)⟩,
                        ⟨some 64, .bin .eql, [.t 62, .t 63], some (57, true)⟩,
                        ⟨some 65, .pick, [.t 57, .t 64, .c (.b false)], none⟩,
                        ⟨some 66, .mv, [.t 65], none⟩,
                        ⟨some 67, .mv, [.t 7], some (66, true)⟩,
                        ⟨some 68, .bin .lss, [.t 67, .c (.i 0)], some (66, true)⟩,
                        ⟨some 69, .mv, [.t 68], some (66, true)⟩,
                        ⟨some 70, .mv, [.t 7], some (69, false)⟩,
                        ⟨some 71, .mv, [.t 5], some (69, false)⟩,
                        ⟨some 72, .mv, [.t 3], some (69, false)⟩,
                        ⟨some 73, .bin .sub, [.t 72, .c (.i 1)], some (69, false)⟩,
                        ⟨some 74, .bin .shl, [.c (.i 1), .t 73], some (69, false)⟩,
                        ⟨some 75, .bin .or, [.t 71, .t 74], some (69, false)⟩,
                        ⟨some 76, .bin .eql, [.t 70, .t 75], some (69, false)⟩,
                        ⟨some 77, .pick, [.t 69, .c (.b true), .t 76], some (66, true)⟩,
                        ⟨some 78, .pick, [.t 66, .t 77, .c (.b false)], none⟩,
                        ⟨some 2, .mv, [.t 78], none⟩] [3, 4, 5, 7, 49, 50, 51, 52, 53, 54, 55, 56, 57, 58, 59, 60, 61, 62, 63, 64, 65, 66, 67, 68, 69, 70, 71, 72, 73, 74, 75, 76, 77, 78])
                      .ret))))))))) }
/-- laws.FnOnceOk -/
def F_laws_FnOnceOk_L0 : LC :=
  (.seq
    (.seq
      (.region false [⟨some 36, .mv, [.t 7], none⟩,
        ⟨some 37, .mv, [.t 4], none⟩,
        ⟨some 38, .len, [.t 37], none⟩,
        ⟨some 39, .bin .lss, [.t 36, .t 38], none⟩] [36, 37, 38])
      (.cond (.t 39) [39]
        .skip
        (.exit 0)))
    (.seq
      (.block 1
        (.seq
          (.region false [⟨some 42, .mv, [.t 4], none⟩,
            ⟨some 43, .mv, [.t 7], none⟩,
            ⟨some 44, .idxa 2, [.t 42, .t 43], none⟩,
            ⟨some 45, .fld 0 1 false, [.t 44], none⟩,
            ⟨some 46, .load 1 false, [.t 45], none⟩,
            ⟨some 47, .bin .eql, [.t 46, .c (.i 0)], none⟩] [42, 43, 44, 45, 46])
          (.cond (.t 47) [47]
            (.region false [⟨some 48, .mv, [.t 6], none⟩,
              ⟨some 49, .bin .add, [.t 48, .c (.i 1)], none⟩,
              ⟨some 6, .mv, [.t 49], none⟩] [48, 49])
            .skip)))
      (.region false [⟨some 40, .mv, [.t 7], none⟩,
        ⟨some 41, .bin .add, [.t 40, .c (.i 1)], none⟩,
        ⟨some 7, .mv, [.t 41], none⟩] [40, 41])))
def F_laws_FnOnceOk_W0 : LC := .loop F_laws_FnOnceOk_L0
def F_laws_FnOnceOk_L1 : LC :=
  (.seq
    (.seq
      (.region false [⟨some 53, .mv, [.t 10], none⟩,
        ⟨some 54, .mv, [.t 3], none⟩,
        ⟨some 55, .bin .lss, [.t 53, .t 54], none⟩] [53, 54])
      (.cond (.t 55) [55]
        .skip
        (.exit 2)))
    (.seq
      (.block 3
        (.region false [⟨some 58, .mv, [.t 8], none⟩,
          ⟨some 59, .mv, [.t 9], none⟩,
          ⟨some 60, .mv, [.t 10], none⟩,
          ⟨some 61, .bin .shr, [.t 59, .t 60], none⟩,
          ⟨some 62, .bin .rem, [.t 61, .c (.i 2)], none⟩,
          ⟨some 63, .bin .add, [.t 58, .t 62], none⟩,
          ⟨some 8, .mv, [.t 63], none⟩] [58, 59, 60, 61, 62, 63]))
      (.region false [⟨some 56, .mv, [.t 10], none⟩,
        ⟨some 57, .bin .add, [.t 56, .c (.i 1)], none⟩,
        ⟨some 10, .mv, [.t 57], none⟩] [56, 57])))
def F_laws_FnOnceOk_W1 : LC := .loop F_laws_FnOnceOk_L1
def F_laws_FnOnceOk : LF :=
  { nparams := 1, results := [.t 2], body :=
    (.seq
      (.region false [⟨some 2, .mv, [.c (.b false)], none⟩] [2])
      (.seq
        (.seq
          (.region false [⟨some 11, .mv, [.t 0], none⟩,
            ⟨some 12, .len, [.t 11], none⟩,
            ⟨some 13, .bin .gtr, [.t 12, .c (.i 1048576)], none⟩] [11, 12])
          (.cond (.t 13) [13]
            (.seq
              (.region false [⟨some 2, .mv, [.c (.b true)], none⟩] [0])
              .ret)
            .skip))
        (.seq
          (.region false [⟨some 15, .mv, [.t 0], none⟩,
            ⟨some 16, .call n_spec_DrawOnceOk 8192, [.t 15], none⟩,
            ⟨some 14, .mv, [.t 16], none⟩,
            ⟨some 17, .ext 0, [.t 14], none⟩,
            ⟨some 18, .ext 1, [.t 14], none⟩,
            ⟨some 3, .mv, [.t 17], none⟩,
            ⟨some 4, .mv, [.t 18], none⟩] [0, 14, 15, 16, 17, 18])
          (.seq
            (.region false [⟨some 19, .mv, [.t 3], none⟩,
              ⟨some 20, .mv, [.t 4], none⟩,
              ⟨some 21, .call n_impl_OnceOk 10752, [.t 19, .t 20], none⟩,
              ⟨some 5, .mv, [.t 21], none⟩] [19, 20, 21])
            (.seq
              (.seq
                (.region false [⟨some 22, .mv, [.t 5], none⟩,
                  ⟨some 23, .mv, [.t 3], none⟩,
                  ⟨some 24, .mv, [.t 4], none⟩,
                  ⟨some 25, .call n_spec_OnceOk 12800, [.t 23, .t 24], none⟩,
                  ⟨some 26, .eqb true, [.t 22, .t 25], none⟩] [22, 23, 24, 25])
                (.cond (.t 26) [26]
                  (.seq
                    (.region false [⟨some 2, .mv, [.c (.b false)], none⟩] [3, 4, 5])
                    .ret)
                  .skip))
              (.seq
                (.seq
                  (.region false [⟨some 27, .mv, [.t 3], none⟩,
                    ⟨some 28, .mv, [.t 4], none⟩,
                    ⟨some 29, .call n_spec_TermOk 14848, [.t 27, .t 28], none⟩,
                    ⟨some 30, .un .not, [.t 29], none⟩] [27, 28, 29])
                  (.cond (.t 30) [30]
                    (.seq
                      (.region false [⟨some 31, .mv, [.t 5], none⟩,
                        ⟨some 32, .un .not, [.t 31], none⟩,
                        ⟨some 33, .mv, [.t 32], none⟩,
                        ⟨some 34, .call n_laws_alive 17408, [], some (33, true)⟩,
                        ⟨some 35, .pick, [.t 33, .t 34, .c (.b false)], none⟩,
                        ⟨some 2, .mv, [.t 35], none⟩] [3, 4, 5, 31, 32, 33, 34, 35])
                      .ret)
                    .skip))
                (.seq
                  (.region false [⟨some 6, .mv, [.c (.i 0)], none⟩] [])
                  (.seq
                    (.seq
                      (.region false [⟨some 7, .mv, [.c (.i 0)], none⟩] [])
                      (.block 0
                        F_laws_FnOnceOk_W0))
                    (.seq
                      (.region false [⟨some 8, .mv, [.c (.i 0)], none⟩] [7])
                      (.seq
                        (.region false [⟨some 50, .mv, [.t 3], none⟩,
                          ⟨some 51, .mv, [.t 4], none⟩,
                          ⟨some 52, .call n_impl_LettersOf 26624, [.t 50, .t 51], none⟩,
                          ⟨some 9, .mv, [.t 52], none⟩] [50, 51, 52])
                        (.seq
                          (.seq
                            (.region false [⟨some 10, .mv, [.c (.i 0)], none⟩] [])
                            (.block 2
                              F_laws_FnOnceOk_W1))
                          (.seq
                            (.region false [⟨some 64, .mv, [.t 5], none⟩,
                              ⟨some 65, .mv, [.t 6], none⟩,
                              ⟨some 66, .mv, [.t 8], none⟩,
                              ⟨some 67, .bin .eql, [.t 65, .t 66], none⟩,
                              ⟨some 68, .eqb false, [.t 64, .t 67], none⟩,
                              ⟨some 69, .mv, [.t 68], none⟩,
                              ⟨some 70, .mv, [.t 3], some (69, true)⟩,
                              ⟨some 71, .mv, [.t 3], some (69, true)⟩,
                              ⟨some 72, .mv, [.t 4], some (69, true)⟩,
                              ⟨some 73, .call n_impl_DualTerm 37376, [.t 71, .t 72], some (69, true)⟩,
                              ⟨some 74, .call n_impl_OnceOk 37888, [.t 70, .t 73], some (69, true)⟩,
                              ⟨some 75, .mv, [.t 5], some (69, true)⟩,
                              ⟨some 76, .eqb false, [.t 74, .t 75], some (69, true)⟩,
                              ⟨some 77, .pick, [.t 69, .t 76, .c (.b false)], none⟩,
                              ⟨some 2, .mv, [.t 77], none⟩] [3, 4, 5, 6, 8, 9, 10, 64, 65, 66, 67, 68, 69, 70, 71, 72, 73, 74, 75, 76, 77])
                            .ret)))))))))))) }
/-- laws.FnDualTerm -/
def F_laws_FnDualTerm : LF :=
  { nparams := 1, results := [.t 2], body :=
    (.seq
      (.region false [⟨some 2, .mv, [.c (.b false)], none⟩] [2])
      (.seq
        (.seq
          (.region false [⟨some 6, .mv, [.t 0], none⟩,
            ⟨some 7, .len, [.t 6], none⟩,
            ⟨some 8, .bin .gtr, [.t 7, .c (.i 1048576)], none⟩] [6, 7])
          (.cond (.t 8) [8]
            (.seq
              (.region false [⟨some 2, .mv, [.c (.b true)], none⟩] [0])
              .ret)
            .skip))
        (.seq
          (.region false [⟨some 10, .mv, [.t 0], none⟩,
            ⟨some 11, .call n_spec_DrawDualTerm 5632, [.t 10], none⟩,
            ⟨some 9, .mv, [.t 11], none⟩,
            ⟨some 12, .ext 0, [.t 9], none⟩,
            ⟨some 13, .ext 1, [.t 9], none⟩,
            ⟨some 3, .mv, [.t 12], none⟩,
            ⟨some 4, .mv, [.t 13], none⟩] [0, 9, 10, 11, 12, 13])
          (.seq
            (.region false [⟨some 14, .mv, [.t 3], none⟩,
              ⟨some 15, .mv, [.t 4], none⟩,
              ⟨some 16, .call n_impl_DualTerm 8192, [.t 14, .t 15], none⟩,
              ⟨some 5, .mv, [.t 16], none⟩] [14, 15, 16])
            (.seq
              (.seq
                (.region false [⟨some 17, .mv, [.t 5], none⟩,
                  ⟨some 18, .mv, [.t 3], none⟩,
                  ⟨some 19, .mv, [.t 4], none⟩,
                  ⟨some 20, .call n_spec_DualTerm 10240, [.t 18, .t 19], none⟩,
                  ⟨some 21, .call n_laws_sameMarks 10752, [.t 17, .t 20], none⟩,
                  ⟨some 22, .un .not, [.t 21], none⟩] [17, 18, 19, 20, 21])
                (.cond (.t 22) [22]
                  (.seq
                    (.region false [⟨some 2, .mv, [.c (.b false)], none⟩] [3, 4, 5])
                    .ret)
                  .skip))
              (.seq
                (.seq
                  (.region false [⟨some 23, .mv, [.t 5], none⟩,
                    ⟨some 24, .len, [.t 23], none⟩,
                    ⟨some 25, .bin .eql, [.t 24, .c (.i 0)], none⟩] [23, 24])
                  (.cond (.t 25) [25]
                    (.seq
                      (.region false [⟨some 26, .mv, [.t 3], none⟩,
                        ⟨some 27, .mv, [.t 4], none⟩,
                        ⟨some 28, .call n_impl_TermOk 14336, [.t 26, .t 27], none⟩,
                        ⟨some 29, .un .not, [.t 28], none⟩,
                        ⟨some 30, .mv, [.t 29], none⟩,
                        ⟨some 31, .call n_laws_alive 15872, [], some (30, true)⟩,
                        ⟨some 32, .pick, [.t 30, .t 31, .c (.b false)], none⟩,
                        ⟨some 2, .mv, [.t 32], none⟩] [3, 4, 5, 26, 27, 28, 29, 30, 31, 32])
                      .ret)
                    .skip))
                (.seq
                  (.region false [⟨some 33, .mv, [.t 3], none⟩,
                    ⟨some 34, .mv, [.t 5], none⟩,
                    ⟨some 35, .call n_impl_TermOk 17920, [.t 33, .t 34], none⟩,
                    ⟨some 36, .mv, [.t 35], none⟩,
                    ⟨some 37, .mv, [.t 3], some (36, true)⟩,
                    ⟨some 38, .mv, [.t 5], some (36, true)⟩,
                    ⟨some 39, .call n_impl_DualTerm 19968, [.t 37, .t 38], some (36, true)⟩,
                    ⟨some 40, .mv, [.t 4], some (36, true)⟩,
                    ⟨some 41, .call n_laws_sameMarks 20992, [.t 39, .t 40], some (36, true)⟩,
                    ⟨some 42, .pick, [.t 36, .t 41, .c (.b false)], none⟩,
                    ⟨some 2, .mv, [.t 42], none⟩] [3, 4, 5, 33, 34, 35, 36, 37, 38, 39, 40, 41, 42])
                  .ret))))))) }
/-- spec.DrawTermOk -/
def F_spec_DrawTermOk : LF :=
  { nparams := 1, results := [.t 2, .t 3], body :=
    (.seq
      (.region false [⟨some 2, .mv, [.c (.i 0)], none⟩,
        ⟨some 3, .newnil 1552, [], none⟩] [2, 3])
      (.seq
        (.region false [⟨some 4, .mv, [.t 0], none⟩,
          ⟨some 5, .call n_spec_l20Open 2560, [.t 4], none⟩,
          ⟨some 6, .call n_spec_l20Asked 3072, [.t 5, .c (.i 2)], none⟩,
          ⟨some 7, .ext 0, [.t 6], none⟩,
          ⟨some 8, .ext 1, [.t 6], none⟩,
          ⟨some 2, .mv, [.t 7], none⟩,
          ⟨some 3, .mv, [.t 8], none⟩] [0, 4, 5, 6, 7, 8])
        .ret)) }
/-- impl.TermOk -/
def F_impl_TermOk_L0 : LC :=
  (.seq
    (.region false [⟨some 21, .bin .lss, [.t 20, .t 19], none⟩] [])
    (.seq
      (.cond (.t 21) [21]
        .skip
        (.exit 0))
      (.seq
        (.block 1
          (.seq
            (.region false [⟨some 22, .idxa 2, [.t 18, .t 20], none⟩,
              ⟨some 23, .load 2 true, [.t 22], none⟩,
              ⟨some 7, .alloc 3600 (.st [.i 0, .i 0]), [], none⟩,
              ⟨none, .store 2, [.t 7, .t 23], none⟩] [22, 23])
            (.seq
              (.region false [⟨some 24, .fld 0 1 false, [.t 7], none⟩,
                ⟨some 25, .load 1 false, [.t 24], none⟩,
                ⟨some 26, .call n_impl_partsTaken 13312, [.t 25], none⟩,
                ⟨some 8, .mv, [.t 26], none⟩] [24, 25, 26])
              (.seq
                (.seq
                  (.region false [⟨some 27, .mv, [.t 0], none⟩,
                    ⟨some 28, .load 2 true, [.t 7], none⟩,
                    ⟨some 29, .call n_impl_markOk 14848, [.t 27, .t 28], none⟩,
                    ⟨some 30, .un .not, [.t 29], none⟩,
                    ⟨some 31, .mv, [.t 30], none⟩,
                    ⟨some 32, .mv, [.t 5], some (31, false)⟩,
                    ⟨some 33, .mv, [.t 8], some (31, false)⟩,
                    ⟨some 34, .bin .lss, [.t 32, .t 33], some (31, false)⟩,
                    ⟨some 35, .pick, [.t 31, .c (.b true), .t 34], none⟩] [7, 27, 28, 29, 30, 31, 32, 33, 34])
                  (.cond (.t 35) [35]
                    (.seq
                      (.region false [⟨some 4, .mv, [.c (.b false)], none⟩] [0, 5, 8, 18, 19, 20])
                      .ret)
                    .skip))
                (.region false [⟨some 36, .mv, [.t 5], none⟩,
                  ⟨some 37, .mv, [.t 8], none⟩,
                  ⟨some 38, .bin .sub, [.c (.i 1), .t 37], none⟩,
                  ⟨some 39, .bin .add, [.t 36, .t 38], none⟩,
                  ⟨some 5, .mv, [.t 39], none⟩] [8, 36, 37, 38, 39])))))
        (.region false [⟨some 40, .bin .add, [.t 20, .c (.i 1)], none⟩,
          ⟨some 20, .mv, [.t 40], none⟩] [40]))))
def F_impl_TermOk_W0 : LC := .loop F_impl_TermOk_L0
def F_impl_TermOk : LF :=
  { nparams := 2, results := [.t 4], body :=
    (.seq
      (.region false [⟨some 4, .mv, [.c (.b false)], none⟩] [4])
      (.seq
        (.seq
          (.region false [⟨some 9, .mv, [.t 0], none⟩,
            ⟨some 10, .call n_impl_manyOk 5120, [.t 9], none⟩,
            ⟨some 11, .un .not, [.t 10], none⟩,
            ⟨some 12, .mv, [.t 11], none⟩,
            ⟨some 13, .mv, [.t 1], some (12, false)⟩,
            ⟨some 14, .len, [.t 13], some (12, false)⟩,
            ⟨some 15, .call n_impl_isWithin 7680, [.t 14, .c (.i 1), .c (.i 13)], some (12, false)⟩,
            ⟨some 16, .un .not, [.t 15], some (12, false)⟩,
            ⟨some 17, .pick, [.t 12, .c (.b true), .t 16], none⟩] [9, 10, 11, 12, 13, 14, 15, 16])
          (.cond (.t 17) [17]
            (.seq
              (.region false [⟨some 4, .mv, [.c (.b false)], none⟩] [0, 1])
              .ret)
            .skip))
        (.seq
          (.region false [⟨some 5, .mv, [.c (.i 0)], none⟩] [])
          (.seq
            (.seq
              (.region false [⟨some 18, .mv, [.t 1], none⟩,
                ⟨some 19, .len, [.t 18], none⟩,
                ⟨some 20, .mv, [.c (.i 0)], none⟩] [1])
              (.block 0
                F_impl_TermOk_W0))
            (.seq
              (.region false [⟨some 41, .mv, [.t 5], none⟩,
                ⟨some 42, .bin .eql, [.t 41, .c (.i 1)], none⟩,
                ⟨some 4, .mv, [.t 42], none⟩] [0, 5, 18, 19, 20, 41, 42])
              .ret))))) }
/-- spec.TermOk -/
def F_spec_TermOk_L0 : LC :=
  (.seq
    (.seq
      (.region false [⟨some 7, .mv, [.t 6], none⟩,
        ⟨some 8, .mv, [.t 1], none⟩,
        ⟨some 9, .len, [.t 8], none⟩,
        ⟨some 10, .bin .lss, [.t 7, .t 9], none⟩] [7, 8, 9])
      (.cond (.t 10) [10]
        .skip
        (.exit 0)))
    (.seq
      (.block 1
        (.block 2
          (.seq
            (.region false [⟨some 14, .mv, [.t 1], none⟩,
              ⟨some 15, .mv, [.t 6], none⟩,
              ⟨some 16, .idxa 2, [.t 14, .t 15], none⟩,
              ⟨some 17, .fld 0 1 false, [.t 16], none⟩,
              ⟨some 18, .load 1 false, [.t 17], none⟩,
              ⟨some 19, .bin .eql, [.t 18, .c (.i 0)], none⟩,
              ⟨some 20, .mv, [.t 19], none⟩,
              ⟨some 21, .mv, [.t 1], some (20, true)⟩,
              ⟨some 22, .mv, [.t 6], some (20, true)⟩,
              ⟨some 23, .idxa 2, [.t 21, .t 22], some (20, true)⟩,
              ⟨some 24, .fld 1 1 false, [.t 23], some (20, true)⟩,
              ⟨some 25, .load 1 false, [.t 24], some (20, true)⟩,
              ⟨some 26, .bin .geq, [.t 25, .c (.i 0)], some (20, true)⟩,
              ⟨some 27, .pick, [.t 20, .t 26, .c (.b false)], none⟩,
              ⟨some 28, .mv, [.t 27], none⟩,
              ⟨some 29, .mv, [.t 1], some (28, true)⟩,
              ⟨some 30, .mv, [.t 6], some (28, true)⟩,
              ⟨some 31, .idxa 2, [.t 29, .t 30], some (28, true)⟩,
              ⟨some 32, .fld 1 1 false, [.t 31], some (28, true)⟩,
              ⟨some 33, .load 1 false, [.t 32], some (28, true)⟩,
              ⟨some 34, .mv, [.t 0], some (28, true)⟩,
              ⟨some 35, .bin .lss, [.t 33, .t 34], some (28, true)⟩,
              ⟨some 36, .pick, [.t 28, .t 35, .c (.b false)], none⟩,
              ⟨some 13, .mv, [.t 36], none⟩] [14, 15, 16, 17, 18, 19, 20, 21, 22, 23, 24, 25, 26, 27, 28, 29, 30, 31, 32, 33, 34, 35, 36])
            (.cond (.t 13) [13]
              (.region false [⟨some 37, .mv, [.t 5], none⟩,
                ⟨some 38, .bin .add, [.t 37, .c (.i 1)], none⟩,
                ⟨some 5, .mv, [.t 38], none⟩] [37, 38])
              (.seq
                (.region false [⟨some 40, .mv, [.t 1], none⟩,
                  ⟨some 41, .mv, [.t 6], none⟩,
                  ⟨some 42, .idxa 2, [.t 40, .t 41], none⟩,
                  ⟨some 43, .load 2 true, [.t 42], none⟩,
                  ⟨some 44, .build [.i 0, .i 0] [(0, 1)], [.c (.i 1)], none⟩,
                  ⟨some 45, .eqs false 2, [.t 43, .t 44], none⟩,
                  ⟨some 46, .mv, [.t 45], none⟩,
                  ⟨some 47, .mv, [.t 5], some (46, true)⟩,
                  ⟨some 48, .bin .geq, [.t 47, .c (.i 1)], some (46, true)⟩,
                  ⟨some 49, .pick, [.t 46, .t 48, .c (.b false)], none⟩,
                  ⟨some 39, .mv, [.t 49], none⟩] [40, 41, 42, 43, 44, 45, 46, 47, 48, 49])
                (.cond (.t 39) [39]
                  .skip
                  (.seq
                    (.region false [⟨some 51, .mv, [.t 1], none⟩,
                      ⟨some 52, .mv, [.t 6], none⟩,
                      ⟨some 53, .idxa 2, [.t 51, .t 52], none⟩,
                      ⟨some 54, .load 2 true, [.t 53], none⟩,
                      ⟨some 55, .build [.i 0, .i 0] [(0, 1)], [.c (.i 2)], none⟩,
                      ⟨some 56, .eqs false 2, [.t 54, .t 55], none⟩,
                      ⟨some 57, .mv, [.t 56], none⟩,
                      ⟨some 58, .mv, [.t 1], some (57, false)⟩,
                      ⟨some 59, .mv, [.t 6], some (57, false)⟩,
                      ⟨some 60, .idxa 2, [.t 58, .t 59], some (57, false)⟩,
                      ⟨some 61, .load 2 true, [.t 60], some (57, false)⟩,
                      ⟨some 62, .build [.i 0, .i 0] [(0, 1)], [.c (.i 3)], some (57, false)⟩,
                      ⟨some 63, .eqs false 2, [.t 61, .t 62], some (57, false)⟩,
                      ⟨some 64, .pick, [.t 57, .c (.b true), .t 63], none⟩,
                      ⟨some 65, .mv, [.t 64], none⟩,
                      ⟨some 66, .mv, [.t 5], some (65, true)⟩,
                      ⟨some 67, .bin .geq, [.t 66, .c (.i 2)], some (65, true)⟩,
                      ⟨some 68, .pick, [.t 65, .t 67, .c (.b false)], none⟩,
                      ⟨some 50, .mv, [.t 68], none⟩] [51, 52, 53, 54, 55, 56, 57, 58, 59, 60, 61, 62, 63, 64, 65, 66, 67, 68])
                    (.cond (.t 50) [50]
                      (.region false [⟨some 69, .mv, [.t 5], none⟩,
                        ⟨some 70, .bin .sub, [.t 69, .c (.i 1)], none⟩,
                        ⟨some 5, .mv, [.t 70], none⟩] [69, 70])
                      (.seq
                        (.region false [⟨some 4, .mv, [.c (.b false)], none⟩] [0, 1, 5, 6])
                        .ret)))))))))
      (.region false [⟨some 11, .mv, [.t 6], none⟩,
        ⟨some 12, .bin .add, [.t 11, .c (.i 1)], none⟩,
        ⟨some 6, .mv, [.t 12], none⟩] [11, 12])))
def F_spec_TermOk_W0 : LC := .loop F_spec_TermOk_L0
def F_spec_TermOk : LF :=
  { nparams := 2, results := [.t 4], body :=
    (.seq
      (.region false [⟨some 4, .mv, [.c (.b false)], none⟩] [4])
      (.seq
        (.region false [⟨some 5, .mv, [.c (.i 0)], none⟩] [])
        (.seq
          (.seq
            (.region false [⟨some 6, .mv, [.c (.i 0)], none⟩] [])
            (.block 0
              F_spec_TermOk_W0))
          (.seq
            (.region false [⟨some 71, .mv, [.t 0], none⟩,
              ⟨some 72, .call n_spec_l1In 36864, [.t 71, .c (.i 1), .c (.i 5)], none⟩,
              ⟨some 73, .mv, [.t 72], none⟩,
              ⟨some 74, .mv, [.t 5], some (73, true)⟩,
              ⟨some 75, .bin .eql, [.t 74, .c (.i 1)], some (73, true)⟩,
              ⟨some 76, .pick, [.t 73, .t 75, .c (.b false)], none⟩,
              ⟨some 77, .mv, [.t 76], none⟩,
              ⟨some 78, .mv, [.t 1], some (77, true)⟩,
              ⟨some 79, .len, [.t 78], some (77, true)⟩,
              ⟨some 80, .bin .leq, [.t 79, .c (.i 13)], some (77, true)⟩,
              ⟨some 81, .pick, [.t 77, .t 80, .c (.b false)], none⟩,
              ⟨some 4, .mv, [.t 81], none⟩] [0, 1, 5, 6, 71, 72, 73, 74, 75, 76, 77, 78, 79, 80, 81])
            .ret)))) }
/-- laws.alive -/
def F_laws_alive : LF :=
  { nparams := 0, results := [.t 0], body :=
    (.seq
      (.region false [⟨some 0, .mv, [.c (.b false)], none⟩] [0])
      (.seq
        (.region false [⟨some 1, .build [.i 0, .i 0] [(0, 1), (1, 1)], [.c (.i 1), .c (.i 1)], none⟩,
          ⟨some 2, .bslice 1040 1 2 (.st [.i 0, .i 0]) [0], [.t 1], none⟩,
          ⟨some 3, .call n_impl_TestsOk 1536, [.t 2], none⟩,
          ⟨some 4, .mv, [.t 3], none⟩,
          ⟨some 5, .build [.i 0, .i 0] [], [], some (4, true)⟩,
          ⟨some 6, .bslice 3088 1 2 (.st [.i 0, .i 0]) [0], [.t 5], some (4, true)⟩,
          ⟨some 7, .call n_impl_TestsOk 3584, [.t 6], some (4, true)⟩,
          ⟨some 8, .un .not, [.t 7], some (4, true)⟩,
          ⟨some 9, .pick, [.t 4, .t 8, .c (.b false)], none⟩,
          ⟨some 0, .mv, [.t 9], none⟩] [1, 2, 3, 4, 5, 6, 7, 8, 9])
        .ret)) }
/-- spec.DrawLettersOf -/
def F_spec_DrawLettersOf : LF :=
  { nparams := 1, results := [.t 2, .t 3], body :=
    (.seq
      (.region false [⟨some 2, .mv, [.c (.i 0)], none⟩,
        ⟨some 3, .newnil 1552, [], none⟩] [2, 3])
      (.seq
        (.region false [⟨some 4, .mv, [.t 0], none⟩,
          ⟨some 5, .call n_spec_l20Open 2560, [.t 4], none⟩,
          ⟨some 6, .call n_spec_l20Asked 3072, [.t 5, .c (.i 9)], none⟩,
          ⟨some 7, .ext 0, [.t 6], none⟩,
          ⟨some 8, .ext 1, [.t 6], none⟩,
          ⟨some 2, .mv, [.t 7], none⟩,
          ⟨some 3, .mv, [.t 8], none⟩] [0, 4, 5, 6, 7, 8])
        .ret)) }
/-- impl.LettersOf -/
def F_impl_LettersOf_L0 : LC :=
  (.seq
    (.region false [⟨some 15, .bin .lss, [.t 14, .t 13], none⟩] [])
    (.seq
      (.cond (.t 15) [15]
        .skip
        (.exit 0))
      (.seq
        (.block 1
          (.seq
            (.region false [⟨some 16, .idxa 2, [.t 12, .t 14], none⟩,
              ⟨some 17, .load 2 true, [.t 16], none⟩,
              ⟨some 7, .alloc 3600 (.st [.i 0, .i 0]), [], none⟩,
              ⟨none, .store 2, [.t 7, .t 17], none⟩] [16, 17])
            (.seq
              (.region false [⟨some 18, .fld 0 1 false, [.t 7], none⟩,
                ⟨some 19, .load 1 false, [.t 18], none⟩,
                ⟨some 20, .bin .eql, [.t 19, .c (.i 0)], none⟩] [18, 19])
              (.cond (.t 20) [20]
                (.region false [⟨some 21, .mv, [.t 5], none⟩,
                  ⟨some 22, .fld 1 1 false, [.t 7], none⟩,
                  ⟨some 23, .load 1 false, [.t 22], none⟩,
                  ⟨some 24, .bin .shl, [.c (.i 1), .t 23], none⟩,
                  ⟨some 25, .bin .or, [.t 21, .t 24], none⟩,
                  ⟨some 5, .mv, [.t 25], none⟩] [7, 21, 22, 23, 24, 25])
                .skip))))
        (.region false [⟨some 26, .bin .add, [.t 14, .c (.i 1)], none⟩,
          ⟨some 14, .mv, [.t 26], none⟩] [7, 26]))))
def F_impl_LettersOf_W0 : LC := .loop F_impl_LettersOf_L0
def F_impl_LettersOf : LF :=
  { nparams := 2, results := [.t 4], body :=
    (.seq
      (.region false [⟨some 4, .mv, [.c (.i 0)], none⟩] [4])
      (.seq
        (.seq
          (.region false [⟨some 8, .mv, [.t 0], none⟩,
            ⟨some 9, .mv, [.t 1], none⟩,
            ⟨some 10, .call n_impl_TermOk 5120, [.t 8, .t 9], none⟩,
            ⟨some 11, .un .not, [.t 10], none⟩] [0, 8, 9, 10])
          (.cond (.t 11) [11]
            (.seq
              (.region false [⟨some 4, .mv, [.c (.i (-1))], none⟩] [1])
              .ret)
            .skip))
        (.seq
          (.region false [⟨some 5, .mv, [.c (.i 0)], none⟩] [])
          (.seq
            (.seq
              (.region false [⟨some 12, .mv, [.t 1], none⟩,
                ⟨some 13, .len, [.t 12], none⟩,
                ⟨some 14, .mv, [.c (.i 0)], none⟩] [1])
              (.block 0
                F_impl_LettersOf_W0))
            (.seq
              (.region false [⟨some 27, .mv, [.t 5], none⟩,
                ⟨some 4, .mv, [.t 27], none⟩] [5, 12, 13, 14, 27])
              .ret))))) }
/-- spec.LettersOf -/
def F_spec_LettersOf_L0 : LC :=
  (.seq
    (.seq
      (.region false [⟨some 11, .mv, [.t 6], none⟩,
        ⟨some 12, .mv, [.t 1], none⟩,
        ⟨some 13, .len, [.t 12], none⟩,
        ⟨some 14, .bin .lss, [.t 11, .t 13], none⟩] [11, 12, 13])
      (.cond (.t 14) [14]
        .skip
        (.exit 0)))
    (.seq
      (.block 1
        (.seq
          (.region false [⟨some 17, .mv, [.t 1], none⟩,
            ⟨some 18, .mv, [.t 6], none⟩,
            ⟨some 19, .idxa 2, [.t 17, .t 18], none⟩,
            ⟨some 20, .fld 0 1 false, [.t 19], none⟩,
            ⟨some 21, .load 1 false, [.t 20], none⟩,
            ⟨some 22, .bin .eql, [.t 21, .c (.i 0)], none⟩] [17, 18, 19, 20, 21])
          (.cond (.t 22) [22]
            (.region false [⟨some 23, .mv, [.t 5], none⟩,
              ⟨some 24, .mv, [.t 1], none⟩,
              ⟨some 25, .mv, [.t 6], none⟩,
              ⟨some 26, .idxa 2, [.t 24, .t 25], none⟩,
              ⟨some 27, .fld 1 1 false, [.t 26], none⟩,
              ⟨some 28, .load 1 false, [.t 27], none⟩,
              ⟨some 29, .bin .shl, [.c (.i 1), .t 28], none⟩,
              ⟨some 30, .bin .or, [.t 23, .t 29], none⟩,
              ⟨some 5, .mv, [.t 30], none⟩] [23, 24, 25, 26, 27, 28, 29, 30])
            .skip)))
      (.region false [⟨some 15, .mv, [.t 6], none⟩,
        ⟨some 16, .bin .add, [.t 15, .c (.i 1)], none⟩,
        ⟨some 6, .mv, [.t 16], none⟩] [15, 16])))
def F_spec_LettersOf_W0 : LC := .loop F_spec_LettersOf_L0
def F_spec_LettersOf : LF :=
  { nparams := 2, results := [.t 4], body :=
    (.seq
      (.region false [⟨some 4, .mv, [.c (.i 0)], none⟩] [4])
      (.seq
        (.seq
          (.region false [⟨some 7, .mv, [.t 0], none⟩,
            ⟨some 8, .mv, [.t 1], none⟩,
            ⟨some 9, .call n_spec_TermOk 4608, [.t 7, .t 8], none⟩,
            ⟨some 10, .un .not, [.t 9], none⟩] [0, 7, 8, 9])
          (.cond (.t 10) [10]
            (.seq
              (.region false [⟨some 4, .mv, [.c (.i (-1))], none⟩] [1])
              .ret)
            .skip))
        (.seq
          (.region false [⟨some 5, .mv, [.c (.i 0)], none⟩] [])
          (.seq
            (.seq
              (.region false [⟨some 6, .mv, [.c (.i 0)], none⟩] [])
              (.block 0
                F_spec_LettersOf_W0))
            (.seq
              (.region false [⟨some 31, .mv, [.t 5], none⟩,
                ⟨some 4, .mv, [.t 31], none⟩] [1, 5, 6, 31])
              .ret))))) }
/-- impl.DualTerm -/
def F_impl_DualTerm_L0 : LC :=
  (.seq
    (.region false [⟨some 18, .bin .lss, [.t 17, .t 16], none⟩] [])
    (.seq
      (.cond (.t 18) [18]
        .skip
        (.exit 0))
      (.seq
        (.block 1
          (.seq
            (.region false [⟨some 19, .mv, [.t 17], none⟩,
              ⟨some 20, .idxa 2, [.t 15, .t 17], none⟩,
              ⟨some 21, .load 2 true, [.t 20], none⟩,
              ⟨some 7, .alloc 3600 (.st [.i 0, .i 0]), [], none⟩,
              ⟨some 6, .mv, [.t 19], none⟩,
              ⟨none, .store 2, [.t 7, .t 21], none⟩] [19, 20, 21])
            (.seq
              (.region false [⟨some 22, .fld 0 1 false, [.t 7], none⟩,
                ⟨some 23, .load 1 false, [.t 22], none⟩] [22])
              (.block 2
                (.seq
                  (.region false [⟨some 29, .bin .eql, [.t 23, .c (.i 2)], none⟩,
                    ⟨some 28, .mv, [.t 29], none⟩] [29])
                  (.cond (.t 28) [28]
                    (.region false [⟨some 30, .mv, [.t 5], none⟩,
                      ⟨some 31, .mv, [.t 6], none⟩,
                      ⟨some 32, .build [.i 0, .i 0] [(0, 1)], [.c (.i 3)], none⟩,
                      ⟨some 33, .idxa 2, [.t 30, .t 31], none⟩,
                      ⟨none, .store 2, [.t 33, .t 32], none⟩] [6, 7, 23, 30, 31, 32, 33])
                    (.seq
                      (.region false [⟨some 35, .bin .eql, [.t 23, .c (.i 3)], none⟩,
                        ⟨some 34, .mv, [.t 35], none⟩] [23, 35])
                      (.cond (.t 34) [34]
                        (.region false [⟨some 36, .mv, [.t 5], none⟩,
                          ⟨some 37, .mv, [.t 6], none⟩,
                          ⟨some 38, .build [.i 0, .i 0] [(0, 1)], [.c (.i 2)], none⟩,
                          ⟨some 39, .idxa 2, [.t 36, .t 37], none⟩,
                          ⟨none, .store 2, [.t 39, .t 38], none⟩] [6, 7, 36, 37, 38, 39])
                        (.region false [⟨some 24, .mv, [.t 5], none⟩,
                          ⟨some 25, .mv, [.t 6], none⟩,
                          ⟨some 26, .load 2 true, [.t 7], none⟩,
                          ⟨some 27, .idxa 2, [.t 24, .t 25], none⟩,
                          ⟨none, .store 2, [.t 27, .t 26], none⟩] [6, 7, 24, 25, 26, 27])))))))))
        (.region false [⟨some 40, .bin .add, [.t 17, .c (.i 1)], none⟩,
          ⟨some 17, .mv, [.t 40], none⟩] [40]))))
def F_impl_DualTerm_W0 : LC := .loop F_impl_DualTerm_L0
def F_impl_DualTerm : LF :=
  { nparams := 2, results := [.t 4], body :=
    (.seq
      (.region false [⟨some 4, .newnil 2064, [], none⟩] [4])
      (.seq
        (.seq
          (.region false [⟨some 8, .mv, [.t 0], none⟩,
            ⟨some 9, .mv, [.t 1], none⟩,
            ⟨some 10, .call n_impl_TermOk 5120, [.t 8, .t 9], none⟩,
            ⟨some 11, .un .not, [.t 10], none⟩] [0, 8, 9, 10])
          (.cond (.t 11) [11]
            (.seq
              (.region false [⟨some 4, .newnil 2064, [], none⟩] [1])
              .ret)
            .skip))
        (.seq
          (.region false [⟨some 12, .mv, [.t 1], none⟩,
            ⟨some 13, .len, [.t 12], none⟩,
            ⟨some 14, .make 7184 2 (.st [.i 0, .i 0]), [.t 13, .t 13], none⟩,
            ⟨some 5, .mv, [.t 14], none⟩] [12, 13, 14])
          (.seq
            (.seq
              (.region false [⟨some 15, .mv, [.t 1], none⟩,
                ⟨some 16, .len, [.t 15], none⟩,
                ⟨some 17, .mv, [.c (.i 0)], none⟩] [1])
              (.block 0
                F_impl_DualTerm_W0))
            (.seq
              (.region false [⟨some 41, .mv, [.t 5], none⟩,
                ⟨some 4, .mv, [.t 41], none⟩] [5, 15, 16, 17, 41])
              .ret))))) }
/-- spec.DrawOnceOk -/
def F_spec_DrawOnceOk : LF :=
  { nparams := 1, results := [.t 2, .t 3], body :=
    (.seq
      (.region false [⟨some 2, .mv, [.c (.i 0)], none⟩,
        ⟨some 3, .newnil 1552, [], none⟩] [2, 3])
      (.seq
        (.region false [⟨some 4, .mv, [.t 0], none⟩,
          ⟨some 5, .call n_spec_l20Open 2560, [.t 4], none⟩,
          ⟨some 6, .call n_spec_l20Asked 3072, [.t 5, .c (.i 9)], none⟩,
          ⟨some 7, .ext 0, [.t 6], none⟩,
          ⟨some 8, .ext 1, [.t 6], none⟩,
          ⟨some 2, .mv, [.t 7], none⟩,
          ⟨some 3, .mv, [.t 8], none⟩] [0, 4, 5, 6, 7, 8])
        .ret)) }
/-- impl.OnceOk -/
def F_impl_OnceOk_L0 : LC :=
  (.seq
    (.region false [⟨some 15, .bin .lss, [.t 14, .t 13], none⟩] [])
    (.seq
      (.cond (.t 15) [15]
        .skip
        (.exit 0))
      (.seq
        (.block 1
          (.seq
            (.region false [⟨some 16, .idxa 2, [.t 12, .t 14], none⟩,
              ⟨some 17, .load 2 true, [.t 16], none⟩,
              ⟨some 7, .alloc 3600 (.st [.i 0, .i 0]), [], none⟩,
              ⟨none, .store 2, [.t 7, .t 17], none⟩] [16, 17])
            (.seq
              (.seq
                (.region false [⟨some 18, .fld 0 1 false, [.t 7], none⟩,
                  ⟨some 19, .load 1 false, [.t 18], none⟩,
                  ⟨some 20, .bin .neq, [.t 19, .c (.i 0)], none⟩] [18, 19])
                (.cond (.t 20) [20]
                  (.exit 1)
                  .skip))
              (.seq
                (.seq
                  (.region false [⟨some 21, .fld 1 1 false, [.t 7], none⟩,
                    ⟨some 22, .load 1 false, [.t 21], none⟩,
                    ⟨some 23, .idxp 5 1, [.t 5, .t 22], none⟩,
                    ⟨some 24, .load 1 false, [.t 23], none⟩] [21, 22, 23])
                  (.cond (.t 24) [24]
                    (.seq
                      (.region false [⟨some 4, .mv, [.c (.b false)], none⟩] [5, 7, 12, 13, 14])
                      .ret)
                    .skip))
                (.region false [⟨some 25, .fld 1 1 false, [.t 7], none⟩,
                  ⟨some 26, .load 1 false, [.t 25], none⟩,
                  ⟨some 27, .idxp 5 1, [.t 5, .t 26], none⟩,
                  ⟨none, .store 1, [.t 27, .c (.b true)], none⟩] [7, 25, 26, 27])))))
        (.region false [⟨some 28, .bin .add, [.t 14, .c (.i 1)], none⟩,
          ⟨some 14, .mv, [.t 28], none⟩] [7, 28]))))
def F_impl_OnceOk_W0 : LC := .loop F_impl_OnceOk_L0
def F_impl_OnceOk : LF :=
  { nparams := 2, results := [.t 4], body :=
    (.seq
      (.region false [⟨some 4, .mv, [.c (.b false)], none⟩] [4])
      (.seq
        (.seq
          (.region false [⟨some 8, .mv, [.t 0], none⟩,
            ⟨some 9, .mv, [.t 1], none⟩,
            ⟨some 10, .call n_impl_TermOk 5120, [.t 8, .t 9], none⟩,
            ⟨some 11, .un .not, [.t 10], none⟩] [0, 8, 9, 10])
          (.cond (.t 11) [11]
            (.seq
              (.region false [⟨some 4, .mv, [.c (.b false)], none⟩] [1])
              .ret)
            .skip))
        (.seq
          (.region false [⟨some 5, .alloc 2600 (.st [.b false, .b false, .b false, .b false, .b false]), [], none⟩] [])
          (.seq
            (.seq
              (.region false [⟨some 12, .mv, [.t 1], none⟩,
                ⟨some 13, .len, [.t 12], none⟩,
                ⟨some 14, .mv, [.c (.i 0)], none⟩] [1])
              (.block 0
                F_impl_OnceOk_W0))
            (.seq
              (.region false [⟨some 4, .mv, [.c (.b true)], none⟩] [5, 12, 13, 14])
              .ret))))) }
/-- spec.OnceOk -/
def F_spec_OnceOk_L0 : LC :=
  (.seq
    (.seq
      (.region false [⟨some 7, .mv, [.t 6], none⟩,
        ⟨some 8, .mv, [.t 1], none⟩,
        ⟨some 9, .len, [.t 8], none⟩,
        ⟨some 10, .bin .lss, [.t 7, .t 9], none⟩,
        ⟨some 11, .mv, [.t 10], none⟩,
        ⟨some 12, .mv, [.t 0], some (11, true)⟩,
        ⟨some 13, .mv, [.t 1], some (11, true)⟩,
        ⟨some 14, .call n_spec_TermOk 7168, [.t 12, .t 13], some (11, true)⟩,
        ⟨some 15, .pick, [.t 11, .t 14, .c (.b false)], none⟩] [7, 8, 9, 10, 11, 12, 13, 14])
      (.cond (.t 15) [15]
        .skip
        (.exit 0)))
    (.seq
      (.block 1
        (.seq
          (.seq
            (.region false [⟨some 18, .mv, [.t 1], none⟩,
              ⟨some 19, .mv, [.t 6], none⟩,
              ⟨some 20, .idxa 2, [.t 18, .t 19], none⟩,
              ⟨some 21, .fld 0 1 false, [.t 20], none⟩,
              ⟨some 22, .load 1 false, [.t 21], none⟩,
              ⟨some 23, .bin .neq, [.t 22, .c (.i 0)], none⟩] [18, 19, 20, 21, 22])
            (.cond (.t 23) [23]
              (.exit 1)
              .skip))
          (.seq
            (.seq
              (.region false [⟨some 24, .mv, [.t 5], none⟩,
                ⟨some 25, .mv, [.t 1], none⟩,
                ⟨some 26, .mv, [.t 6], none⟩,
                ⟨some 27, .idxa 2, [.t 25, .t 26], none⟩,
                ⟨some 28, .fld 1 1 false, [.t 27], none⟩,
                ⟨some 29, .load 1 false, [.t 28], none⟩,
                ⟨some 30, .bin .shr, [.t 24, .t 29], none⟩,
                ⟨some 31, .bin .rem, [.t 30, .c (.i 2)], none⟩,
                ⟨some 32, .bin .eql, [.t 31, .c (.i 1)], none⟩] [24, 25, 26, 27, 28, 29, 30, 31])
              (.cond (.t 32) [32]
                (.seq
                  (.region false [⟨some 4, .mv, [.c (.b false)], none⟩] [0, 1, 5, 6])
                  .ret)
                .skip))
            (.region false [⟨some 33, .mv, [.t 5], none⟩,
              ⟨some 34, .mv, [.t 1], none⟩,
              ⟨some 35, .mv, [.t 6], none⟩,
              ⟨some 36, .idxa 2, [.t 34, .t 35], none⟩,
              ⟨some 37, .fld 1 1 false, [.t 36], none⟩,
              ⟨some 38, .load 1 false, [.t 37], none⟩,
              ⟨some 39, .bin .shl, [.c (.i 1), .t 38], none⟩,
              ⟨some 40, .bin .or, [.t 33, .t 39], none⟩,
              ⟨some 5, .mv, [.t 40], none⟩] [33, 34, 35, 36, 37, 38, 39, 40]))))
      (.region false [⟨some 16, .mv, [.t 6], none⟩,
        ⟨some 17, .bin .add, [.t 16, .c (.i 1)], none⟩,
        ⟨some 6, .mv, [.t 17], none⟩] [16, 17])))
def F_spec_OnceOk_W0 : LC := .loop F_spec_OnceOk_L0
def F_spec_OnceOk : LF :=
  { nparams := 2, results := [.t 4], body :=
    (.seq
      (.region false [⟨some 4, .mv, [.c (.b false)], none⟩] [4])
      (.seq
        (.region false [⟨some 5, .mv, [.c (.i 0)], none⟩] [])
        (.seq
          (.seq
            (.region false [⟨some 6, .mv, [.c (.i 0)], none⟩] [])
            (.block 0
              F_spec_OnceOk_W0))
          (.seq
            (.region false [⟨some 41, .mv, [.t 0], none⟩,
              ⟨some 42, .mv, [.t 1], none⟩,
              ⟨some 43, .call n_spec_TermOk 22016, [.t 41, .t 42], none⟩,
              ⟨some 4, .mv, [.t 43], none⟩] [0, 1, 5, 6, 41, 42, 43])
            .ret)))) }
/-- spec.DrawDualTerm -/
def F_spec_DrawDualTerm : LF :=
  { nparams := 1, results := [.t 2, .t 3], body :=
    (.seq
      (.region false [⟨some 2, .mv, [.c (.i 0)], none⟩,
        ⟨some 3, .newnil 1552, [], none⟩] [2, 3])
      (.seq
        (.region false [⟨some 4, .mv, [.t 0], none⟩,
          ⟨some 5, .call n_spec_l20Open 2560, [.t 4], none⟩,
          ⟨some 6, .call n_spec_l20Asked 3072, [.t 5, .c (.i 9)], none⟩,
          ⟨some 7, .ext 0, [.t 6], none⟩,
          ⟨some 8, .ext 1, [.t 6], none⟩,
          ⟨some 2, .mv, [.t 7], none⟩,
          ⟨some 3, .mv, [.t 8], none⟩] [0, 4, 5, 6, 7, 8])
        .ret)) }
/-- laws.sameMarks -/
def F_laws_sameMarks_L0 : LC :=
  (.seq
    (.seq
      (.region false [⟨some 11, .mv, [.t 5], none⟩,
        ⟨some 12, .mv, [.t 0], none⟩,
        ⟨some 13, .len, [.t 12], none⟩,
        ⟨some 14, .bin .lss, [.t 11, .t 13], none⟩] [11, 12, 13])
      (.cond (.t 14) [14]
        .skip
        (.exit 0)))
    (.seq
      (.block 1
        (.seq
          (.region true [⟨some 17, .mv, [.t 0], none⟩,
            ⟨some 18, .mv, [.t 5], none⟩,
            ⟨some 19, .idxa 2, [.t 17, .t 18], none⟩,
            ⟨some 20, .load 2 true, [.t 19], none⟩,
            ⟨some 21, .mv, [.t 1], none⟩,
            ⟨some 22, .mv, [.t 5], none⟩,
            ⟨some 23, .idxa 2, [.t 21, .t 22], none⟩,
            ⟨some 24, .load 2 true, [.t 23], none⟩,
            ⟨some 25, .eqs true 2, [.t 20, .t 24], none⟩] [17, 18, 19, 20, 21, 22, 23, 24])
          (.cond (.t 25) [25]
            (.seq
              (.region false [⟨some 4, .mv, [.c (.b false)], none⟩] [0, 1, 5])
              .ret)
            .skip)))
      (.region false [⟨some 15, .mv, [.t 5], none⟩,
        ⟨some 16, .bin .add, [.t 15, .c (.i 1)], none⟩,
        ⟨some 5, .mv, [.t 16], none⟩] [15, 16])))
def F_laws_sameMarks_W0 : LC := .loop F_laws_sameMarks_L0
def F_laws_sameMarks : LF :=
  { nparams := 2, results := [.t 4], body :=
    (.seq
      (.region false [⟨some 4, .mv, [.c (.b false)], none⟩] [4])
      (.seq
        (.seq
          (.region false [⟨some 6, .mv, [.t 0], none⟩,
            ⟨some 7, .len, [.t 6], none⟩,
            ⟨some 8, .mv, [.t 1], none⟩,
            ⟨some 9, .len, [.t 8], none⟩,
            ⟨some 10, .bin .neq, [.t 7, .t 9], none⟩] [6, 7, 8, 9])
          (.cond (.t 10) [10]
            (.seq
              (.region false [⟨some 4, .mv, [.c (.b false)], none⟩] [0, 1])
              .ret)
            .skip))
        (.seq
          (.seq
            (.region false [⟨some 5, .mv, [.c (.i 0)], none⟩] [])
            (.block 0
              F_laws_sameMarks_W0))
          (.seq
            (.region false [⟨some 4, .mv, [.c (.b true)], none⟩] [0, 1, 5])
            .ret)))) }
/-- spec.DualTerm -/
def F_spec_DualTerm_L0 : LC :=
  (.seq
    (.seq
      (.region false [⟨some 8, .mv, [.t 6], none⟩,
        ⟨some 9, .mv, [.t 1], none⟩,
        ⟨some 10, .len, [.t 9], none⟩,
        ⟨some 11, .bin .lss, [.t 8, .t 10], none⟩,
        ⟨some 12, .mv, [.t 11], none⟩,
        ⟨some 13, .mv, [.t 0], some (12, true)⟩,
        ⟨some 14, .mv, [.t 1], some (12, true)⟩,
        ⟨some 15, .call n_spec_TermOk 7680, [.t 13, .t 14], some (12, true)⟩,
        ⟨some 16, .pick, [.t 12, .t 15, .c (.b false)], none⟩] [8, 9, 10, 11, 12, 13, 14, 15])
      (.cond (.t 16) [16]
        .skip
        (.exit 0)))
    (.seq
      (.block 1
        (.seq
          (.region false [⟨some 19, .mv, [.t 1], none⟩,
            ⟨some 20, .mv, [.t 6], none⟩,
            ⟨some 21, .idxa 2, [.t 19, .t 20], none⟩,
            ⟨some 22, .fld 0 1 false, [.t 21], none⟩,
            ⟨some 23, .load 1 false, [.t 22], none⟩] [19, 20, 21, 22])
          (.block 2
            (.seq
              (.region false [⟨some 32, .bin .eql, [.t 23, .c (.i 2)], none⟩,
                ⟨some 31, .mv, [.t 32], none⟩] [32])
              (.cond (.t 31) [31]
                (.region false [⟨some 33, .mv, [.t 5], none⟩,
                  ⟨some 34, .build [.i 0, .i 0] [(0, 1)], [.c (.i 3)], none⟩,
                  ⟨some 35, .bslice 17936 1 2 (.st [.i 0, .i 0]) [0], [.t 34], none⟩,
                  ⟨some 36, .app 18448 2, [.t 33, .t 35], none⟩,
                  ⟨some 5, .mv, [.t 36], none⟩] [23, 33, 34, 35, 36])
                (.seq
                  (.region false [⟨some 38, .bin .eql, [.t 23, .c (.i 3)], none⟩,
                    ⟨some 37, .mv, [.t 38], none⟩] [23, 38])
                  (.cond (.t 37) [37]
                    (.region false [⟨some 39, .mv, [.t 5], none⟩,
                      ⟨some 40, .build [.i 0, .i 0] [(0, 1)], [.c (.i 2)], none⟩,
                      ⟨some 41, .bslice 21008 1 2 (.st [.i 0, .i 0]) [0], [.t 40], none⟩,
                      ⟨some 42, .app 21520 2, [.t 39, .t 41], none⟩,
                      ⟨some 5, .mv, [.t 42], none⟩] [39, 40, 41, 42])
                    (.region false [⟨some 24, .mv, [.t 5], none⟩,
                      ⟨some 25, .mv, [.t 1], none⟩,
                      ⟨some 26, .mv, [.t 6], none⟩,
                      ⟨some 27, .idxa 2, [.t 25, .t 26], none⟩,
                      ⟨some 28, .load 2 true, [.t 27], none⟩,
                      ⟨some 29, .bslice 14864 1 2 (.st [.i 0, .i 0]) [0], [.t 28], none⟩,
                      ⟨some 30, .app 15376 2, [.t 24, .t 29], none⟩,
                      ⟨some 5, .mv, [.t 30], none⟩] [24, 25, 26, 27, 28, 29, 30]))))))))
      (.region false [⟨some 17, .mv, [.t 6], none⟩,
        ⟨some 18, .bin .add, [.t 17, .c (.i 1)], none⟩,
        ⟨some 6, .mv, [.t 18], none⟩] [17, 18])))
def F_spec_DualTerm_W0 : LC := .loop F_spec_DualTerm_L0
def F_spec_DualTerm : LF :=
  { nparams := 2, results := [.t 4], body :=
    (.seq
      (.region false [⟨some 4, .newnil 2064, [], none⟩] [4])
      (.seq
        (.region false [⟨some 7, .bslice 3600 0 2 (.st [.i 0, .i 0]) [], [], none⟩,
          ⟨some 5, .mv, [.t 7], none⟩] [7])
        (.seq
          (.seq
            (.region false [⟨some 6, .mv, [.c (.i 0)], none⟩] [])
            (.block 0
              F_spec_DualTerm_W0))
          (.seq
            (.region false [⟨some 43, .mv, [.t 5], none⟩,
              ⟨some 4, .mv, [.t 43], none⟩] [0, 1, 5, 6, 43])
            .ret)))) }
/-- spec.l20Asked -/
def F_spec_l20Asked : LF :=
  { nparams := 2, results := [.t 4, .t 5], body :=
    (.seq
      (.region false [⟨some 4, .mv, [.c (.i 0)], none⟩,
        ⟨some 5, .newnil 2576, [], none⟩] [4, 5])
      (.seq
        (.region false [⟨some 7, .mv, [.t 0], none⟩,
          ⟨some 8, .call n_spec_l20Rd_pick 4096, [.t 7, .c (.i 5)], none⟩,
          ⟨some 9, .bin .add, [.c (.i 1), .t 8], none⟩,
          ⟨some 6, .mv, [.t 9], none⟩] [7, 8, 9])
        (.seq
          (.region false [⟨some 10, .mv, [.t 6], none⟩,
            ⟨some 11, .mv, [.t 0], none⟩,
            ⟨some 12, .call n_spec_l20Rd_pick 6144, [.t 11, .c (.i 60)], none⟩,
            ⟨some 13, .bin .quo, [.t 12, .c (.i 59)], none⟩,
            ⟨some 14, .bin .mul, [.t 13, .c (.i 5)], none⟩,
            ⟨some 15, .bin .add, [.t 10, .t 14], none⟩,
            ⟨some 16, .mv, [.t 0], none⟩,
            ⟨some 17, .mv, [.t 6], none⟩,
            ⟨some 18, .mv, [.t 1], none⟩,
            ⟨some 19, .call n_spec_l20Term 9728, [.t 16, .t 17, .t 18], none⟩,
            ⟨some 4, .mv, [.t 15], none⟩,
            ⟨some 5, .mv, [.t 19], none⟩] [1, 6, 10, 11, 12, 13, 14, 15, 16, 17, 18, 19])
          .ret))) }
/-- spec.l20Open -/
def F_spec_l20Open : LF :=
  { nparams := 1, results := [.t 2], body :=
    (.seq
      (.region false [⟨some 2, .mv, [.c (.np)], none⟩] [2])
      (.seq
        (.seq
          (.region false [⟨some 3, .mv, [.t 0], none⟩,
            ⟨some 4, .len, [.t 3], none⟩,
            ⟨some 5, .bin .gtr, [.t 4, .c (.i 2000)], none⟩] [3, 4])
          (.cond (.t 5) [5]
            (.region false [⟨some 6, .mv, [.t 0], none⟩,
              ⟨some 7, .slice false true 1, [.t 6, .c (.i 2000)], none⟩,
              ⟨some 0, .mv, [.t 7], none⟩] [6, 7])
            .skip))
        (.seq
          (.region false [⟨some 8, .mv, [.t 0], none⟩,
            ⟨some 9, .build [.sl 1 [], .i 0] [(0, 1)], [.t 8], none⟩,
            ⟨some 10, .box 5136, [.t 9], none⟩,
            ⟨some 2, .mv, [.t 10], none⟩] [0, 8, 9, 10])
          .ret))) }
/-- impl.manyOk -/
def F_impl_manyOk : LF :=
  { nparams := 1, results := [.t 2], body :=
    (.seq
      (.region false [⟨some 2, .mv, [.c (.b false)], none⟩] [2])
      (.seq
        (.region false [⟨some 3, .mv, [.t 0], none⟩,
          ⟨some 4, .call n_impl_isWithin 2048, [.t 3, .c (.i 1), .c (.i 5)], none⟩,
          ⟨some 2, .mv, [.t 4], none⟩] [0, 3, 4])
        .ret)) }
/-- impl.isWithin -/
def F_impl_isWithin : LF :=
  { nparams := 3, results := [.t 6], body :=
    (.seq
      (.region false [⟨some 6, .mv, [.c (.b false)], none⟩] [6])
      (.seq
        (.region false [⟨some 7, .mv, [.t 1], none⟩,
          ⟨some 8, .mv, [.t 0], none⟩,
          ⟨some 9, .bin .leq, [.t 7, .t 8], none⟩,
          ⟨some 10, .mv, [.t 9], none⟩,
          ⟨some 11, .mv, [.t 0], some (10, true)⟩,
          ⟨some 12, .mv, [.t 2], some (10, true)⟩,
          ⟨some 13, .bin .leq, [.t 11, .t 12], some (10, true)⟩,
          ⟨some 14, .pick, [.t 10, .t 13, .c (.b false)], none⟩,
          ⟨some 6, .mv, [.t 14], none⟩] [0, 1, 2, 7, 8, 9, 10, 11, 12, 13, 14])
        .ret)) }
/-- impl.partsTaken -/
def F_impl_partsTaken : LF :=
  { nparams := 1, results := [.t 2], body :=
    (.seq
      (.region false [⟨some 2, .mv, [.c (.i 0)], none⟩] [2])
      (.seq
        (.seq
          (.region false [⟨some 3, .mv, [.t 0], none⟩] [0])
          (.block 0
            (.seq
              (.region false [⟨some 5, .bin .eql, [.t 3, .c (.i 0)], none⟩,
                ⟨some 4, .mv, [.t 5], none⟩] [5])
              (.cond (.t 4) [4]
                (.seq
                  (.region false [⟨some 2, .mv, [.c (.i 0)], none⟩] [3])
                  .ret)
                (.seq
                  (.region false [⟨some 7, .bin .eql, [.t 3, .c (.i 1)], none⟩,
                    ⟨some 6, .mv, [.t 7], none⟩] [3, 7])
                  (.cond (.t 6) [6]
                    (.seq
                      (.region false [⟨some 2, .mv, [.c (.i 1)], none⟩] [])
                      .ret)
                    .skip))))))
        (.seq
          (.region false [⟨some 2, .mv, [.c (.i 2)], none⟩] [])
          .ret))) }
/-- impl.markOk -/
def F_impl_markOk : LF :=
  { nparams := 2, results := [.t 4], body :=
    (.seq
      (.region false [⟨some 3, .box 1552, [.t 1], none⟩,
        ⟨some 4, .mv, [.c (.b false)], none⟩] [1, 4])
      (.seq
        (.seq
          (.region false [⟨some 5, .fld 0 1 false, [.t 3], none⟩,
            ⟨some 6, .load 1 false, [.t 5], none⟩,
            ⟨some 7, .bin .eql, [.t 6, .c (.i 0)], none⟩] [5, 6])
          (.cond (.t 7) [7]
            (.seq
              (.region false [⟨some 8, .fld 1 1 false, [.t 3], none⟩,
                ⟨some 9, .load 1 false, [.t 8], none⟩,
                ⟨some 10, .mv, [.t 0], none⟩,
                ⟨some 11, .bin .sub, [.t 10, .c (.i 1)], none⟩,
                ⟨some 12, .call n_impl_isWithin 6144, [.t 9, .c (.i 0), .t 11], none⟩,
                ⟨some 4, .mv, [.t 12], none⟩] [0, 3, 8, 9, 10, 11, 12])
              .ret)
            .skip))
        (.seq
          (.region false [⟨some 13, .fld 0 1 false, [.t 3], none⟩,
            ⟨some 14, .load 1 false, [.t 13], none⟩,
            ⟨some 15, .call n_impl_isWithin 7680, [.t 14, .c (.i 1), .c (.i 3)], none⟩,
            ⟨some 16, .mv, [.t 15], none⟩,
            ⟨some 17, .fld 1 1 false, [.t 3], some (16, true)⟩,
            ⟨some 18, .load 1 false, [.t 17], some (16, true)⟩,
            ⟨some 19, .bin .eql, [.t 18, .c (.i 0)], some (16, true)⟩,
            ⟨some 20, .pick, [.t 16, .t 19, .c (.b false)], none⟩,
            ⟨some 4, .mv, [.t 20], none⟩] [0, 3, 13, 14, 15, 16, 17, 18, 19, 20])
          .ret))) }
/-- spec.l1In -/
def F_spec_l1In : LF :=
  { nparams := 3, results := [.t 6], body :=
    (.seq
      (.region false [⟨some 6, .mv, [.c (.b false)], none⟩] [6])
      (.seq
        (.region false [⟨some 7, .mv, [.t 0], none⟩,
          ⟨some 8, .mv, [.t 1], none⟩,
          ⟨some 9, .bin .geq, [.t 7, .t 8], none⟩,
          ⟨some 10, .mv, [.t 9], none⟩,
          ⟨some 11, .mv, [.t 0], some (10, true)⟩,
          ⟨some 12, .mv, [.t 2], some (10, true)⟩,
          ⟨some 13, .bin .leq, [.t 11, .t 12], some (10, true)⟩,
          ⟨some 14, .pick, [.t 10, .t 13, .c (.b false)], none⟩,
          ⟨some 6, .mv, [.t 14], none⟩] [0, 1, 2, 7, 8, 9, 10, 11, 12, 13, 14])
        .ret)) }
/-- impl.TestsOk -/
def F_impl_TestsOk_L0 : LC :=
  (.seq
    (.region false [⟨some 12, .bin .lss, [.t 11, .t 10], none⟩] [])
    (.seq
      (.cond (.t 12) [12]
        .skip
        (.exit 0))
      (.seq
        (.block 1
          (.seq
            (.region false [⟨some 13, .idxa 2, [.t 9, .t 11], none⟩,
              ⟨some 14, .load 2 true, [.t 13], none⟩,
              ⟨some 4, .alloc 2064 (.st [.i 0, .i 0]), [], none⟩,
              ⟨none, .store 2, [.t 4, .t 14], none⟩] [13, 14])
            (.seq
              (.region false [⟨some 15, .fld 0 1 false, [.t 4], none⟩,
                ⟨some 16, .load 1 false, [.t 15], none⟩,
                ⟨some 17, .call n_impl_isWithin 8704, [.t 16, .c (.i 1), .c (.i 9)], none⟩,
                ⟨some 18, .un .not, [.t 17], none⟩,
                ⟨some 19, .mv, [.t 18], none⟩,
                ⟨some 20, .fld 1 1 false, [.t 4], some (19, false)⟩,
                ⟨some 21, .load 1 false, [.t 20], some (19, false)⟩,
                ⟨some 22, .call n_impl_isWithin 11264, [.t 21, .c (.i 1), .c (.i 5)], some (19, false)⟩,
                ⟨some 23, .un .not, [.t 22], some (19, false)⟩,
                ⟨some 24, .pick, [.t 19, .c (.b true), .t 23], none⟩] [4, 15, 16, 17, 18, 19, 20, 21, 22, 23])
              (.cond (.t 24) [24]
                (.seq
                  (.region false [⟨some 2, .mv, [.c (.b false)], none⟩] [9, 10, 11])
                  .ret)
                .skip))))
        (.region false [⟨some 25, .bin .add, [.t 11, .c (.i 1)], none⟩,
          ⟨some 11, .mv, [.t 25], none⟩] [25]))))
def F_impl_TestsOk_W0 : LC := .loop F_impl_TestsOk_L0
def F_impl_TestsOk : LF :=
  { nparams := 1, results := [.t 2], body :=
    (.seq
      (.region false [⟨some 2, .mv, [.c (.b false)], none⟩] [2])
      (.seq
        (.seq
          (.region false [⟨some 5, .mv, [.t 0], none⟩,
            ⟨some 6, .len, [.t 5], none⟩,
            ⟨some 7, .call n_impl_manyOk 3584, [.t 6], none⟩,
            ⟨some 8, .un .not, [.t 7], none⟩] [5, 6, 7])
          (.cond (.t 8) [8]
            (.seq
              (.region false [⟨some 2, .mv, [.c (.b false)], none⟩] [0])
              .ret)
            .skip))
        (.seq
          (.seq
            (.region false [⟨some 9, .mv, [.t 0], none⟩,
              ⟨some 10, .len, [.t 9], none⟩,
              ⟨some 11, .mv, [.c (.i 0)], none⟩] [0])
            (.block 0
              F_impl_TestsOk_W0))
          (.seq
            (.region false [⟨some 2, .mv, [.c (.b true)], none⟩] [9, 10, 11])
            .ret)))) }
/-- spec.l20Rd).pick -/
def F_spec_l20Rd_pick : LF :=
  { nparams := 2, results := [.t 4], body :=
    (.seq
      (.region false [⟨some 4, .mv, [.c (.i 0)], none⟩] [4])
      (.seq
        (.region false [⟨some 7, .mv, [.t 0], none⟩,
          ⟨some 8, .mv, [.t 0], none⟩,
          ⟨some 9, .chk, [.t 8], none⟩,
          ⟨some 10, .fld 1 1 false, [.t 9], none⟩,
          ⟨some 11, .load 1 false, [.t 10], none⟩,
          ⟨some 12, .bin .add, [.t 11, .c (.i 1)], none⟩,
          ⟨some 13, .chk, [.t 7], none⟩,
          ⟨some 14, .fld 1 1 false, [.t 13], none⟩,
          ⟨none, .store 1, [.t 14, .t 12], none⟩] [7, 8, 9, 10, 11, 12, 13, 14])
        (.seq
          (.seq
            (.region false [⟨some 15, .mv, [.t 1], none⟩,
              ⟨some 16, .bin .lss, [.t 15, .c (.i 1)], none⟩,
              ⟨some 17, .mv, [.t 16], none⟩,
              ⟨some 18, .mv, [.t 0], some (17, false)⟩,
              ⟨some 19, .chk, [.t 18], some (17, false)⟩,
              ⟨some 20, .fld 0 1 false, [.t 19], some (17, false)⟩,
              ⟨some 21, .load 1 false, [.t 20], some (17, false)⟩,
              ⟨some 22, .len, [.t 21], some (17, false)⟩,
              ⟨some 23, .bin .eql, [.t 22, .c (.i 0)], some (17, false)⟩,
              ⟨some 24, .pick, [.t 17, .c (.b true), .t 23], none⟩] [15, 16, 17, 18, 19, 20, 21, 22, 23])
            (.cond (.t 24) [24]
              (.seq
                (.region false [⟨some 4, .mv, [.c (.i 0)], none⟩] [1])
                .ret)
              .skip))
          (.seq
            (.region false [⟨some 25, .mv, [.t 0], none⟩,
              ⟨some 26, .chk, [.t 25], none⟩,
              ⟨some 27, .fld 1 1 false, [.t 26], none⟩,
              ⟨some 28, .load 1 false, [.t 27], none⟩,
              ⟨some 29, .bin .sub, [.t 28, .c (.i 1)], none⟩,
              ⟨some 5, .mv, [.t 29], none⟩] [25, 26, 27, 28, 29])
            (.seq
              (.seq
                (.region false [⟨some 30, .mv, [.t 5], none⟩,
                  ⟨some 31, .mv, [.t 0], none⟩,
                  ⟨some 32, .chk, [.t 31], none⟩,
                  ⟨some 33, .fld 0 1 false, [.t 32], none⟩,
                  ⟨some 34, .load 1 false, [.t 33], none⟩,
                  ⟨some 35, .len, [.t 34], none⟩,
                  ⟨some 36, .bin .lss, [.t 30, .t 35], none⟩] [30, 31, 32, 33, 34, 35])
                (.cond (.t 36) [36]
                  (.seq
                    (.region false [⟨some 37, .mv, [.t 0], none⟩,
                      ⟨some 38, .chk, [.t 37], none⟩,
                      ⟨some 39, .fld 0 1 false, [.t 38], none⟩,
                      ⟨some 40, .load 1 false, [.t 39], none⟩,
                      ⟨some 41, .mv, [.t 5], none⟩,
                      ⟨some 42, .idxa 1, [.t 40, .t 41], none⟩,
                      ⟨some 43, .load 1 false, [.t 42], none⟩,
                      ⟨some 44, .conv .b2i 22528, [.t 43], none⟩,
                      ⟨some 45, .mv, [.t 1], none⟩,
                      ⟨some 46, .bin .rem, [.t 44, .t 45], none⟩,
                      ⟨some 4, .mv, [.t 46], none⟩] [1, 5, 37, 38, 39, 40, 41, 42, 43, 44, 45, 46])
                    .ret)
                  .skip))
              (.seq
                (.region true [⟨some 47, .mv, [.t 0], none⟩,
                  ⟨some 48, .chk, [.t 47], none⟩,
                  ⟨some 49, .fld 0 1 false, [.t 48], none⟩,
                  ⟨some 50, .load 1 false, [.t 49], none⟩,
                  ⟨some 51, .mv, [.t 5], none⟩,
                  ⟨some 52, .mv, [.t 0], none⟩,
                  ⟨some 53, .chk, [.t 52], none⟩,
                  ⟨some 54, .fld 0 1 false, [.t 53], none⟩,
                  ⟨some 55, .load 1 false, [.t 54], none⟩,
                  ⟨some 56, .len, [.t 55], none⟩,
                  ⟨some 57, .bin .rem, [.t 51, .t 56], none⟩,
                  ⟨some 58, .idxa 1, [.t 50, .t 57], none⟩,
                  ⟨some 59, .load 1 false, [.t 58], none⟩,
                  ⟨some 60, .conv .b2i 30720, [.t 59], none⟩,
                  ⟨some 61, .bin .mul, [.t 60, .c (.i 131)], none⟩,
                  ⟨some 62, .mv, [.t 0], none⟩,
                  ⟨some 63, .chk, [.t 62], none⟩,
                  ⟨some 64, .fld 0 1 false, [.t 63], none⟩,
                  ⟨some 65, .load 1 false, [.t 64], none⟩,
                  ⟨some 66, .mv, [.t 5], none⟩,
                  ⟨some 67, .bin .mul, [.t 66, .c (.i 7)], none⟩,
                  ⟨some 68, .bin .add, [.t 67, .c (.i 3)], none⟩,
                  ⟨some 69, .mv, [.t 0], none⟩,
                  ⟨some 70, .chk, [.t 69], none⟩,
                  ⟨some 71, .fld 0 1 false, [.t 70], none⟩,
                  ⟨some 72, .load 1 false, [.t 71], none⟩,
                  ⟨some 73, .len, [.t 72], none⟩,
                  ⟨some 74, .bin .rem, [.t 68, .t 73], none⟩,
                  ⟨some 75, .idxa 1, [.t 65, .t 74], none⟩,
                  ⟨some 76, .load 1 false, [.t 75], none⟩,
                  ⟨some 77, .conv .b2i 39424, [.t 76], none⟩,
                  ⟨some 78, .bin .mul, [.t 77, .c (.i 1117)], none⟩,
                  ⟨some 79, .bin .add, [.t 61, .t 78], none⟩,
                  ⟨some 80, .mv, [.t 5], none⟩,
                  ⟨some 81, .bin .mul, [.t 80, .c (.i 29)], none⟩,
                  ⟨some 82, .bin .add, [.t 79, .t 81], none⟩,
                  ⟨some 83, .mv, [.t 5], none⟩,
                  ⟨some 84, .mv, [.t 0], none⟩,
                  ⟨some 85, .chk, [.t 84], none⟩,
                  ⟨some 86, .fld 0 1 false, [.t 85], none⟩,
                  ⟨some 87, .load 1 false, [.t 86], none⟩,
                  ⟨some 88, .len, [.t 87], none⟩,
                  ⟨some 89, .bin .quo, [.t 83, .t 88], none⟩,
                  ⟨some 90, .bin .mul, [.t 89, .c (.i 53)], none⟩,
                  ⟨some 91, .bin .add, [.t 82, .t 90], none⟩,
                  ⟨some 6, .mv, [.t 91], none⟩] [5, 47, 48, 49, 50, 51, 52, 53, 54, 55, 56, 57, 58, 59, 60, 61, 62, 63, 64, 65, 66, 67, 68, 69, 70, 71, 72, 73, 74, 75, 76, 77, 78, 79, 80, 81, 82, 83, 84, 85, 86, 87, 88, 89, 90, 91])
                (.seq
                  (.region false [⟨some 92, .mv, [.t 6], none⟩,
                    ⟨some 93, .mv, [.t 6], none⟩,
                    ⟨some 94, .bin .quo, [.t 93, .c (.i 64)], none⟩,
                    ⟨some 95, .bin .xor, [.t 92, .t 94], none⟩,
                    ⟨some 6, .mv, [.t 95], none⟩] [92, 93, 94, 95])
                  (.seq
                    (.region false [⟨some 96, .mv, [.t 6], none⟩,
                      ⟨some 97, .mv, [.t 1], none⟩,
                      ⟨some 98, .bin .rem, [.t 96, .t 97], none⟩,
                      ⟨some 4, .mv, [.t 98], none⟩] [1, 6, 96, 97, 98])
                    .ret)))))))) }
/-- spec.l20Term -/
def F_spec_l20Term_L0 : LC :=
  (.seq
    (.seq
      (.region false [⟨some 23, .mv, [.t 9], none⟩,
        ⟨some 24, .mv, [.t 1], none⟩,
        ⟨some 25, .bin .lss, [.t 23, .t 24], none⟩,
        ⟨some 26, .mv, [.t 25], none⟩,
        ⟨some 27, .mv, [.t 8], some (26, true)⟩,
        ⟨some 28, .pick, [.t 26, .t 27, .c (.b false)], none⟩] [23, 24, 25, 26, 27])
      (.cond (.t 28) [28]
        .skip
        (.exit 0)))
    (.seq
      (.block 1
        (.seq
          (.region false [⟨some 31, .mv, [.t 0], none⟩,
            ⟨some 32, .call n_spec_l20Rd_pick 16384, [.t 31, .c (.i 4)], none⟩,
            ⟨some 33, .bin .gtr, [.t 32, .c (.i 0)], none⟩,
            ⟨some 34, .mv, [.t 33], none⟩,
            ⟨some 35, .mv, [.t 9], some (34, false)⟩,
            ⟨some 36, .bin .eql, [.t 35, .c (.i 0)], some (34, false)⟩,
            ⟨some 37, .pick, [.t 34, .c (.b true), .t 36], none⟩] [31, 32, 33, 34, 35, 36])
          (.cond (.t 37) [37]
            (.region false [⟨some 38, .mv, [.t 7], none⟩,
              ⟨some 39, .mv, [.t 9], none⟩,
              ⟨some 40, .build [.i 0, .i 0] [(0, 1), (1, 1)], [.c (.i 0), .t 39], none⟩,
              ⟨some 41, .bslice 21008 1 2 (.st [.i 0, .i 0]) [0], [.t 40], none⟩,
              ⟨some 42, .bslice 21512 1 1 (.sl 1 []) [0], [.t 41], none⟩,
              ⟨some 43, .app 22024 1, [.t 38, .t 42], none⟩,
              ⟨some 7, .mv, [.t 43], none⟩] [38, 39, 40, 41, 42, 43])
            .skip)))
      (.region false [⟨some 29, .mv, [.t 9], none⟩,
        ⟨some 30, .bin .add, [.t 29, .c (.i 1)], none⟩,
        ⟨some 9, .mv, [.t 30], none⟩] [29, 30])))
def F_spec_l20Term_W0 : LC := .loop F_spec_l20Term_L0
def F_spec_l20Term_L1 : LC :=
  (.seq
    (.seq
      (.region false [⟨some 47, .mv, [.t 10], none⟩,
        ⟨some 48, .bin .gtr, [.t 47, .c (.i 0)], none⟩,
        ⟨some 49, .mv, [.t 48], none⟩,
        ⟨some 50, .mv, [.t 8], some (49, true)⟩,
        ⟨some 51, .un .not, [.t 50], some (49, true)⟩,
        ⟨some 52, .pick, [.t 49, .t 51, .c (.b false)], none⟩] [47, 48, 49, 50, 51])
      (.cond (.t 52) [52]
        .skip
        (.exit 2)))
    (.seq
      (.block 3
        (.region false [⟨some 55, .mv, [.t 7], none⟩,
          ⟨some 56, .mv, [.t 0], none⟩,
          ⟨some 57, .mv, [.t 1], none⟩,
          ⟨some 58, .call n_spec_l20Rd_pick 29696, [.t 56, .t 57], none⟩,
          ⟨some 59, .build [.i 0, .i 0] [(0, 1), (1, 1)], [.c (.i 0), .t 58], none⟩,
          ⟨some 60, .bslice 30736 1 2 (.st [.i 0, .i 0]) [0], [.t 59], none⟩,
          ⟨some 61, .bslice 31240 1 1 (.sl 1 []) [0], [.t 60], none⟩,
          ⟨some 62, .app 31752 1, [.t 55, .t 61], none⟩,
          ⟨some 7, .mv, [.t 62], none⟩] [55, 56, 57, 58, 59, 60, 61, 62]))
      (.region false [⟨some 53, .mv, [.t 10], none⟩,
        ⟨some 54, .bin .sub, [.t 53, .c (.i 1)], none⟩,
        ⟨some 10, .mv, [.t 54], none⟩] [53, 54])))
def F_spec_l20Term_W1 : LC := .loop F_spec_l20Term_L1
def F_spec_l20Term_L2 : LC :=
  (.ghost (.rename 7 9736)
  (.seq
    (.seq
      (.region false [⟨some 63, .mv, [.t 7], none⟩,
        ⟨some 64, .len, [.t 63], none⟩,
        ⟨some 65, .bin .gtr, [.t 64, .c (.i 1)], none⟩] [63, 64])
      (.cond (.t 65) [65]
        .skip
        (.exit 4)))
    (.block 5
      (.seq
        (.region false [⟨some 66, .mv, [.t 0], none⟩,
          ⟨some 67, .mv, [.t 7], none⟩,
          ⟨some 68, .len, [.t 67], none⟩,
          ⟨some 69, .bin .sub, [.t 68, .c (.i 1)], none⟩,
          ⟨some 70, .call n_spec_l20Rd_pick 35840, [.t 66, .t 69], none⟩,
          ⟨some 12, .mv, [.t 70], none⟩] [66, 67, 68, 69, 70])
        (.seq
          (.seq
            (.region false [⟨some 71, .mv, [.t 11], none⟩,
              ⟨some 72, .bin .gtr, [.t 71, .c (.i 0)], none⟩,
              ⟨some 73, .mv, [.t 72], none⟩,
              ⟨some 74, .mv, [.t 0], some (73, true)⟩,
              ⟨some 75, .call n_spec_l20Rd_pick 38400, [.t 74, .c (.i 4)], some (73, true)⟩,
              ⟨some 76, .bin .eql, [.t 75, .c (.i 0)], some (73, true)⟩,
              ⟨some 77, .pick, [.t 73, .t 76, .c (.b false)], none⟩] [71, 72, 73, 74, 75, 76])
            (.cond (.t 77) [77]
              (.seq
                (.region false [⟨some 78, .mv, [.t 11], none⟩,
                  ⟨some 79, .bin .sub, [.t 78, .c (.i 1)], none⟩,
                  ⟨some 11, .mv, [.t 79], none⟩] [78, 79])
                (.seq
                  (.region false [⟨some 80, .mv, [.t 7], none⟩,
                    ⟨some 81, .mv, [.t 12], none⟩,
                    ⟨some 82, .bslice 42000 0 2 (.st [.i 0, .i 0]) [], [], none⟩,
                    ⟨some 83, .mv, [.t 7], none⟩,
                    ⟨some 84, .mv, [.t 12], none⟩,
                    ⟨some 85, .idxa 1, [.t 83, .t 84], none⟩,
                    ⟨some 86, .load 1 false, [.t 85], none⟩,
                    ⟨some 87, .app 44560 2, [.t 82, .t 86], none⟩,
                    ⟨some 88, .build [.i 0, .i 0] [(0, 1)], [.c (.i 1)], none⟩,
                    ⟨some 89, .bslice 45584 1 2 (.st [.i 0, .i 0]) [0], [.t 88], none⟩,
                    ⟨some 90, .app 46096 2, [.t 87, .t 89], none⟩,
                    ⟨some 91, .idxa 1, [.t 80, .t 81], none⟩,
                    ⟨none, .store 1, [.t 91, .t 90], none⟩] [12, 80, 81, 82, 83, 84, 85, 86, 87, 88, 89, 90, 91])
                  (.exit 5)))
              .skip))
          (.seq
            (.region true [⟨some 92, .bslice 47120 0 2 (.st [.i 0, .i 0]) [], [], none⟩,
              ⟨some 93, .mv, [.t 7], none⟩,
              ⟨some 94, .mv, [.t 12], none⟩,
              ⟨some 95, .idxa 1, [.t 93, .t 94], none⟩,
              ⟨some 96, .load 1 false, [.t 95], none⟩,
              ⟨some 97, .app 49680 2, [.t 92, .t 96], none⟩,
              ⟨some 98, .mv, [.t 7], none⟩,
              ⟨some 99, .mv, [.t 12], none⟩,
              ⟨some 100, .bin .add, [.t 99, .c (.i 1)], none⟩,
              ⟨some 101, .idxa 1, [.t 98, .t 100], none⟩,
              ⟨some 102, .load 1 false, [.t 101], none⟩,
              ⟨some 103, .app 52752 2, [.t 97, .t 102], none⟩,
              ⟨some 104, .mv, [.t 0], none⟩,
              ⟨some 105, .call n_spec_l20Rd_pick 53760, [.t 104, .c (.i 2)], none⟩,
              ⟨some 106, .bin .add, [.c (.i 2), .t 105], none⟩,
              ⟨some 107, .build [.i 0, .i 0] [(0, 1)], [.t 106], none⟩,
              ⟨some 108, .bslice 55312 1 2 (.st [.i 0, .i 0]) [0], [.t 107], none⟩,
              ⟨some 109, .app 55824 2, [.t 103, .t 108], none⟩,
              ⟨some 13, .mv, [.t 109], none⟩] [92, 93, 94, 95, 96, 97, 98, 99, 100, 101, 102, 103, 104, 105, 106, 107, 108, 109])
            (.seq
              (.region false [⟨some 110, .bslice 56328 0 1 (.sl 1 []) [], [], none⟩,
                ⟨some 111, .mv, [.t 7], none⟩,
                ⟨some 112, .mv, [.t 12], none⟩,
                ⟨some 113, .slice false true 1, [.t 111, .t 112], none⟩,
                ⟨some 114, .app 58376 1, [.t 110, .t 113], none⟩,
                ⟨some 14, .mv, [.t 114], none⟩] [110, 111, 112, 113, 114])
              (.seq
                (.region false [⟨some 115, .mv, [.t 14], none⟩,
                  ⟨some 116, .mv, [.t 13], none⟩,
                  ⟨some 117, .bslice 59912 1 1 (.sl 1 []) [0], [.t 116], none⟩,
                  ⟨some 118, .app 60424 1, [.t 115, .t 117], none⟩,
                  ⟨some 14, .mv, [.t 118], none⟩] [13, 115, 116, 117, 118])
                (.region false [⟨some 119, .mv, [.t 14], none⟩,
                  ⟨some 120, .mv, [.t 7], none⟩,
                  ⟨some 121, .mv, [.t 12], none⟩,
                  ⟨some 122, .bin .add, [.t 121, .c (.i 2)], none⟩,
                  ⟨some 123, .slice true false 1, [.t 120, .t 122], none⟩,
                  ⟨some 124, .app 63496 1, [.t 119, .t 123], none⟩,
                  ⟨some 7, .mv, [.t 124], none⟩] [12, 14, 119, 120, 121, 122, 123, 124])))))))))
def F_spec_l20Term_W2 : LC := .loop F_spec_l20Term_L2
def F_spec_l20Term : LF :=
  { nparams := 3, results := [.t 6], body :=
    (.seq
      (.region false [⟨some 6, .newnil 3088, [], none⟩] [6])
      (.seq
        (.region false [⟨some 16, .mv, [.t 1], none⟩,
          ⟨some 17, .mm true, [.t 16, .c (.i 1)], none⟩,
          ⟨some 18, .mm false, [.t 17, .c (.i 5)], none⟩,
          ⟨some 1, .mv, [.t 18], none⟩] [16, 17, 18])
        (.seq
          (.region false [⟨some 19, .bslice 9736 0 1 (.sl 1 []) [], [], none⟩,
            ⟨some 7, .mv, [.t 19], none⟩] [19])
          (.seq
            (.region false [⟨some 20, .mv, [.t 0], none⟩,
              ⟨some 21, .call n_spec_l20Rd_pick 10752, [.t 20, .c (.i 2)], none⟩,
              ⟨some 22, .bin .eql, [.t 21, .c (.i 0)], none⟩,
              ⟨some 8, .mv, [.t 22], none⟩] [20, 21, 22])
            (.seq
              (.seq
                (.region false [⟨some 9, .mv, [.c (.i 0)], none⟩] [])
                (.block 0
                  F_spec_l20Term_W0))
              (.seq
                (.seq
                  (.region false [⟨some 44, .mv, [.t 0], none⟩,
                    ⟨some 45, .call n_spec_l20Rd_pick 23040, [.t 44, .c (.i 5)], none⟩,
                    ⟨some 46, .bin .add, [.c (.i 1), .t 45], none⟩,
                    ⟨some 10, .mv, [.t 46], none⟩] [9, 44, 45, 46])
                  (.block 2
                    F_spec_l20Term_W1))
                (.seq
                  (.region false [⟨some 11, .mv, [.c (.i 2)], none⟩] [1, 8, 10])
                  (.seq
                    (.block 4
                      F_spec_l20Term_W2)
                    (.seq
                      (.region false [⟨some 125, .mv, [.t 7], none⟩,
                        ⟨some 126, .idxa 1, [.t 125, .c (.i 0)], none⟩,
                        ⟨some 127, .load 1 false, [.t 126], none⟩,
                        ⟨some 15, .mv, [.t 127], none⟩] [7, 11, 125, 126, 127])
                     (.ghost (.promote 15 7696)
                      (.seq
                        (.seq
                          (.region false [⟨some 128, .mv, [.t 0], none⟩,
                            ⟨some 129, .mv, [.t 2], none⟩,
                            ⟨some 130, .call n_spec_l20Rd_odd 66560, [.t 128, .t 129], none⟩] [2, 128, 129])
                          (.cond (.t 130) [130]
                            (.seq
                              (.region false [⟨some 131, .mv, [.t 0], none⟩,
                                ⟨some 132, .call n_spec_l20Rd_pick 67584, [.t 131, .c (.i 3)], none⟩] [131])
                              (.block 6
                                (.seq
                                  (.region false [⟨some 137, .bin .eql, [.t 132, .c (.i 0)], none⟩,
                                    ⟨some 136, .mv, [.t 137], none⟩] [137])
                                  (.cond (.t 136) [136]
                                    (.seq
                                      (.region false [⟨some 138, .bslice 70672 0 2 (.st [.i 0, .i 0]) [], [], none⟩,
                                        ⟨some 6, .mv, [.t 138], none⟩] [15, 132, 138])
                                      .ret)
                                    (.seq
                                      (.region false [⟨some 140, .bin .eql, [.t 132, .c (.i 1)], none⟩,
                                        ⟨some 139, .mv, [.t 140], none⟩] [132, 140])
                                      (.cond (.t 139) [139]
                                        (.seq
                                          (.region false [⟨some 141, .mv, [.t 15], none⟩,
                                            ⟨some 142, .build [.i 0, .i 0] [(0, 1)], [.c (.i 2)], none⟩,
                                            ⟨some 143, .bslice 73232 1 2 (.st [.i 0, .i 0]) [0], [.t 142], none⟩,
                                            ⟨some 144, .app 73744 2, [.t 141, .t 143], none⟩,
                                            ⟨some 6, .mv, [.t 144], none⟩] [15, 141, 142, 143, 144])
                                          .ret)
                                        (.region false [⟨some 133, .mv, [.t 15], none⟩,
                                          ⟨some 134, .build [.i 0, .i 0] [(0, 1), (1, 1)], [.c (.i 0), .c (.i 5)], none⟩,
                                          ⟨some 135, .idxa 2, [.t 133, .c (.i 0)], none⟩,
                                          ⟨none, .store 2, [.t 135, .t 134], none⟩] [133, 134, 135])))))))
                            .skip))
                        (.seq
                          (.region false [⟨some 145, .mv, [.t 15], none⟩,
                            ⟨some 6, .mv, [.t 145], none⟩] [15, 145])
                          .ret)))))))))))) }
/-- spec.l20Rd).odd -/
def F_spec_l20Rd_odd : LF :=
  { nparams := 2, results := [.t 4], body :=
    (.seq
      (.region false [⟨some 4, .mv, [.c (.b false)], none⟩] [4])
      (.seq
        (.region false [⟨some 5, .mv, [.t 1], none⟩,
          ⟨some 6, .bin .gtr, [.t 5, .c (.i 0)], none⟩,
          ⟨some 7, .mv, [.t 6], none⟩,
          ⟨some 8, .mv, [.t 0], some (7, true)⟩,
          ⟨some 9, .mv, [.t 1], some (7, true)⟩,
          ⟨some 10, .call n_spec_l20Rd_pick 5120, [.t 8, .t 9], some (7, true)⟩,
          ⟨some 11, .mv, [.t 1], some (7, true)⟩,
          ⟨some 12, .bin .sub, [.t 11, .c (.i 1)], some (7, true)⟩,
          ⟨some 13, .bin .eql, [.t 10, .t 12], some (7, true)⟩,
          ⟨some 14, .pick, [.t 7, .t 13, .c (.b false)], none⟩,
          ⟨some 4, .mv, [.t 14], none⟩] [1, 5, 6, 7, 8, 9, 10, 11, 12, 13, 14])
        .ret)) }
def lf : Nat → Option LF
  | 4 => some F_laws_FnTermOk
  | 5 => some F_laws_FnLettersOf
  | 6 => some F_laws_FnOnceOk
  | 7 => some F_laws_FnDualTerm
  | 15 => some F_spec_DrawTermOk
  | 16 => some F_impl_TermOk
  | 17 => some F_spec_TermOk
  | 18 => some F_laws_alive
  | 19 => some F_spec_DrawLettersOf
  | 20 => some F_impl_LettersOf
  | 21 => some F_spec_LettersOf
  | 22 => some F_impl_DualTerm
  | 23 => some F_spec_DrawOnceOk
  | 24 => some F_impl_OnceOk
  | 25 => some F_spec_OnceOk
  | 26 => some F_spec_DrawDualTerm
  | 27 => some F_laws_sameMarks
  | 28 => some F_spec_DualTerm
  | 37 => some F_spec_l20Asked
  | 38 => some F_spec_l20Open
  | 39 => some F_impl_manyOk
  | 40 => some F_impl_isWithin
  | 41 => some F_impl_partsTaken
  | 42 => some F_impl_markOk
  | 43 => some F_spec_l1In
  | 44 => some F_impl_TestsOk
  | 46 => some F_spec_l20Rd_pick
  | 47 => some F_spec_l20Term
  | 54 => some F_spec_l20Rd_odd
  | _ => none
theorem w_laws_FnOnceOk_0 (S : LS) : ex lf F_laws_FnOnceOk_W0 S = match ex lf F_laws_FnOnceOk_L0 S with | some (.normal, S1) => ex lf F_laws_FnOnceOk_W0 S1 | r => r := ex_loop lf F_laws_FnOnceOk_L0 S
theorem w_laws_FnOnceOk_1 (S : LS) : ex lf F_laws_FnOnceOk_W1 S = match ex lf F_laws_FnOnceOk_L1 S with | some (.normal, S1) => ex lf F_laws_FnOnceOk_W1 S1 | r => r := ex_loop lf F_laws_FnOnceOk_L1 S
theorem w_impl_TermOk_0 (S : LS) : ex lf F_impl_TermOk_W0 S = match ex lf F_impl_TermOk_L0 S with | some (.normal, S1) => ex lf F_impl_TermOk_W0 S1 | r => r := ex_loop lf F_impl_TermOk_L0 S
theorem w_spec_TermOk_0 (S : LS) : ex lf F_spec_TermOk_W0 S = match ex lf F_spec_TermOk_L0 S with | some (.normal, S1) => ex lf F_spec_TermOk_W0 S1 | r => r := ex_loop lf F_spec_TermOk_L0 S
theorem w_impl_LettersOf_0 (S : LS) : ex lf F_impl_LettersOf_W0 S = match ex lf F_impl_LettersOf_L0 S with | some (.normal, S1) => ex lf F_impl_LettersOf_W0 S1 | r => r := ex_loop lf F_impl_LettersOf_L0 S
theorem w_spec_LettersOf_0 (S : LS) : ex lf F_spec_LettersOf_W0 S = match ex lf F_spec_LettersOf_L0 S with | some (.normal, S1) => ex lf F_spec_LettersOf_W0 S1 | r => r := ex_loop lf F_spec_LettersOf_L0 S
theorem w_impl_DualTerm_0 (S : LS) : ex lf F_impl_DualTerm_W0 S = match ex lf F_impl_DualTerm_L0 S with | some (.normal, S1) => ex lf F_impl_DualTerm_W0 S1 | r => r := ex_loop lf F_impl_DualTerm_L0 S
theorem w_impl_OnceOk_0 (S : LS) : ex lf F_impl_OnceOk_W0 S = match ex lf F_impl_OnceOk_L0 S with | some (.normal, S1) => ex lf F_impl_OnceOk_W0 S1 | r => r := ex_loop lf F_impl_OnceOk_L0 S
theorem w_spec_OnceOk_0 (S : LS) : ex lf F_spec_OnceOk_W0 S = match ex lf F_spec_OnceOk_L0 S with | some (.normal, S1) => ex lf F_spec_OnceOk_W0 S1 | r => r := ex_loop lf F_spec_OnceOk_L0 S
theorem w_laws_sameMarks_0 (S : LS) : ex lf F_laws_sameMarks_W0 S = match ex lf F_laws_sameMarks_L0 S with | some (.normal, S1) => ex lf F_laws_sameMarks_W0 S1 | r => r := ex_loop lf F_laws_sameMarks_L0 S
theorem w_spec_DualTerm_0 (S : LS) : ex lf F_spec_DualTerm_W0 S = match ex lf F_spec_DualTerm_L0 S with | some (.normal, S1) => ex lf F_spec_DualTerm_W0 S1 | r => r := ex_loop lf F_spec_DualTerm_L0 S
theorem w_impl_TestsOk_0 (S : LS) : ex lf F_impl_TestsOk_W0 S = match ex lf F_impl_TestsOk_L0 S with | some (.normal, S1) => ex lf F_impl_TestsOk_W0 S1 | r => r := ex_loop lf F_impl_TestsOk_L0 S
theorem w_spec_l20Term_0 (S : LS) : ex lf F_spec_l20Term_W0 S = match ex lf F_spec_l20Term_L0 S with | some (.normal, S1) => ex lf F_spec_l20Term_W0 S1 | r => r := ex_loop lf F_spec_l20Term_L0 S
theorem w_spec_l20Term_1 (S : LS) : ex lf F_spec_l20Term_W1 S = match ex lf F_spec_l20Term_L1 S with | some (.normal, S1) => ex lf F_spec_l20Term_W1 S1 | r => r := ex_loop lf F_spec_l20Term_L1 S
theorem w_spec_l20Term_2 (S : LS) : ex lf F_spec_l20Term_W2 S = match ex lf F_spec_l20Term_L2 S with | some (.normal, S1) => ex lf F_spec_l20Term_W2 S1 | r => r := ex_loop lf F_spec_l20Term_L2 S
end Zz
