/- The functions of the program, read as data. No conditions. -/
import Derived.Test.YtadlmpjlkfbnfaaLg22
namespace Zz
open Go.Lg
def n_laws_FnTestsOk : Nat := 3
def n_laws_FnStateOk : Nat := 4
def n_laws_FnWeightOf : Nat := 5
def n_laws_FnOtherTests : Nat := 6
def n_laws_FnKnownOk : Nat := 7
def n_laws_FnAgreesOk : Nat := 8
def n_laws_FnWeightWhere : Nat := 9
def n_laws_FnCostOf : Nat := 10
def n_laws_FnLikeliestState : Nat := 11
def n_laws_FnWhereParts : Nat := 12
def n_laws_FnExactTestsOk : Nat := 13
def n_laws_FnExactStateOk : Nat := 14
def n_spec_DrawTestsOk : Nat := 15
def n_impl_TestsOk : Nat := 16
def n_spec_TestsOk : Nat := 17
def n_laws_alive : Nat := 18
def n_spec_DrawStateOk : Nat := 19
def n_impl_StateOk : Nat := 20
def n_spec_StateOk : Nat := 21
def n_spec_DrawWeightOf : Nat := 22
def n_impl_WeightOf : Nat := 23
def n_spec_WeightOf : Nat := 24
def n_laws_power : Nat := 25
def n_impl_OtherTests : Nat := 26
def n_spec_DrawOtherTests : Nat := 27
def n_laws_sameTests : Nat := 28
def n_spec_OtherTests : Nat := 29
def n_impl_CostOf : Nat := 30
def n_spec_DrawKnownOk : Nat := 31
def n_impl_KnownOk : Nat := 32
def n_spec_KnownOk : Nat := 33
def n_spec_DrawAgreesOk : Nat := 34
def n_impl_AgreesOk : Nat := 35
def n_spec_AgreesOk : Nat := 36
def n_spec_DrawWeightWhere : Nat := 37
def n_impl_WeightWhere : Nat := 38
def n_spec_WeightWhere : Nat := 39
def n_spec_DrawCostOf : Nat := 40
def n_spec_CostOf : Nat := 41
def n_spec_DrawLikeliestState : Nat := 42
def n_impl_LikeliestState : Nat := 43
def n_spec_LikeliestState : Nat := 44
def n_laws_szTestS : Nat := 45
def n_laws_toTestS : Nat := 46
def n_laws_eqTestS : Nat := 47
def n_spec_l20Tests : Nat := 48
def n_spec_l20Open : Nat := 49
def n_impl_manyOk : Nat := 50
def n_impl_isWithin : Nat := 51
def n_spec_l1In : Nat := 52
def n_spec_l20Rd_pick : Nat := 53
def n_impl_statesOf : Nat := 54
def n_impl_outcomeIn : Nat := 55
def n_spec_l1Weight : Nat := 56
def n_spec_l20Known : Nat := 57
def n_spec_l20Rd_odd : Nat := 58
def n_spec_l1Agrees : Nat := 59
def n_laws_toTest : Nat := 60
def n_laws_eqTest : Nat := 61
/-- laws.FnTestsOk -/
def F_laws_FnTestsOk : LF :=
  { nparams := 1, results := [.t 2], body :=
    (.seq
      (.region false [⟨some 2, .mv, [.c (.b false)], none⟩] [2])
      (.seq
        (.seq
          (.region false [⟨some 5, .mv, [.t 0], none⟩,
            ⟨some 6, .len, [.t 5], none⟩,
            ⟨some 7, .bin .gtr, [.t 6, .c (.i 1048576)], none⟩] [5, 6])
          (.cond (.t 7) [7]
            (.seq
              (.region false [⟨some 2, .mv, [.c (.b true)], none⟩] [0])
              .ret)
            .skip))
        (.seq
          (.region false [⟨some 8, .mv, [.t 0], none⟩,
            ⟨some 9, .call n_spec_DrawTestsOk 4608, [.t 8], none⟩,
            ⟨some 3, .mv, [.t 9], none⟩] [0, 8, 9])
          (.seq
            (.region false [⟨some 10, .mv, [.t 3], none⟩,
              ⟨some 11, .call n_impl_TestsOk 5632, [.t 10], none⟩,
              ⟨some 4, .mv, [.t 11], none⟩] [10, 11])
            (.seq
              (.seq
                (.region false [⟨some 12, .mv, [.t 4], none⟩,
                  ⟨some 13, .mv, [.t 3], none⟩,
                  ⟨some 14, .call n_spec_TestsOk 7168, [.t 13], none⟩,
                  ⟨some 15, .eqb true, [.t 12, .t 14], none⟩] [12, 13, 14])
                (.cond (.t 15) [15]
                  (.seq
                    (.region false [⟨some 2, .mv, [.c (.b false)], none⟩] [3, 4])
                    .ret)
                  .skip))
              (.seq
                (.region false [⟨some 16, .build [.i 0, .i 0] [(0, 1), (1, 1)], [.c (.i 1), .c (.i 1)], none⟩,
                  ⟨some 17, .bslice 8720 1 2 (.st [.i 0, .i 0]) [0], [.t 16], none⟩,
                  ⟨some 18, .call n_impl_TestsOk 9216, [.t 17], none⟩,
                  ⟨some 19, .mv, [.t 18], none⟩,
                  ⟨some 20, .bslice 10256 0 2 (.st [.i 0, .i 0]) [], [], some (19, true)⟩,
                  ⟨some 21, .call n_impl_TestsOk 10752, [.t 20], some (19, true)⟩,
                  ⟨some 22, .un .not, [.t 21], some (19, true)⟩,
                  ⟨some 23, .pick, [.t 19, .t 22, .c (.b false)], none⟩,
                  ⟨some 24, .mv, [.t 23], none⟩,
                  ⟨some 25, .mv, [.t 4], some (24, true)⟩,
                  ⟨some 26, .un .not, [.t 25], some (24, true)⟩,
                  ⟨some 27, .mv, [.t 26], some (24, true)⟩,
                  ⟨some 28, .mv, [.t 3], some (27, false)⟩,
                  ⟨some 29, .len, [.t 28], some (27, false)⟩,
                  ⟨some 30, .bin .lss, [.t 29, .c (.i 2)], some (27, false)⟩,
                  ⟨some 31, .pick, [.t 27, .c (.b true), .t 30], some (24, true)⟩,
                  ⟨some 32, .mv, [.t 31], some (24, true)⟩,
                  ⟨some 33, .mv, [.t 3], some (32, false)⟩,
                  ⟨some 34, .mv, [.t 3], some (32, false)⟩,
                  ⟨some 35, .len, [.t 34], some (32, false)⟩,
                  ⟨some 36, .bin .sub, [.t 35, .c (.i 1)], some (32, false)⟩,
                  ⟨some 37, .slice false true 2, [.t 33, .t 36], some (32, false)⟩,
                  ⟨some 38, .call n_impl_TestsOk 19456, [.t 37], some (32, false)⟩,
                  ⟨some 39, .pick, [.t 32, .c (.b true), .t 38], some (24, true)⟩,
                  ⟨some 40, .pick, [.t 24, .t 39, .c (.b false)], none⟩,
                  ⟨some 41, .mv, [.t 40], none⟩,
                  ⟨some 42, .call n_laws_alive 21504, [], some (41, true)⟩,
                  ⟨some 43, .pick, [.t 41, .t 42, .c (.b false)], none⟩,
                  ⟨some 2, .mv, [.t 43], none⟩] [3, 4, 16, 17, 18, 19, 20, 21, 22, 23, 24, 25, 26, 27, 28, 29, 30, 31, 32, 33, 34, 35, 36, 37, 38, 39, 40, 41, 42, 43])
                .ret)))))) }
/-- laws.FnStateOk -/
def F_laws_FnStateOk : LF :=
  { nparams := 1, results := [.t 2], body :=
    (.seq
      (.region false [⟨some 2, .mv, [.c (.b false)], none⟩] [2])
      (.seq
        (.seq
          (.region false [⟨some 7, .mv, [.t 0], none⟩,
            ⟨some 8, .len, [.t 7], none⟩,
            ⟨some 9, .bin .gtr, [.t 8, .c (.i 1048576)], none⟩] [7, 8])
          (.cond (.t 9) [9]
            (.seq
              (.region false [⟨some 2, .mv, [.c (.b true)], none⟩] [0])
              .ret)
            .skip))
        (.seq
          (.region false [⟨some 11, .mv, [.t 0], none⟩,
            ⟨some 12, .call n_spec_DrawStateOk 6144, [.t 11], none⟩,
            ⟨some 10, .mv, [.t 12], none⟩,
            ⟨some 13, .ext 0, [.t 10], none⟩,
            ⟨some 14, .ext 1, [.t 10], none⟩,
            ⟨some 3, .mv, [.t 13], none⟩,
            ⟨some 4, .mv, [.t 14], none⟩] [0, 10, 11, 12, 13, 14])
          (.seq
            (.region false [⟨some 15, .mv, [.t 3], none⟩,
              ⟨some 16, .mv, [.t 4], none⟩,
              ⟨some 17, .call n_impl_StateOk 8704, [.t 15, .t 16], none⟩,
              ⟨some 5, .mv, [.t 17], none⟩] [15, 16, 17])
            (.seq
              (.seq
                (.region false [⟨some 18, .mv, [.t 5], none⟩,
                  ⟨some 19, .mv, [.t 3], none⟩,
                  ⟨some 20, .mv, [.t 4], none⟩,
                  ⟨some 21, .call n_spec_StateOk 10752, [.t 19, .t 20], none⟩,
                  ⟨some 22, .eqb true, [.t 18, .t 21], none⟩] [18, 19, 20, 21])
                (.cond (.t 22) [22]
                  (.seq
                    (.region false [⟨some 2, .mv, [.c (.b false)], none⟩] [3, 4, 5])
                    .ret)
                  .skip))
              (.seq
                (.seq
                  (.region false [⟨some 23, .mv, [.t 3], none⟩,
                    ⟨some 24, .bin .lss, [.t 23, .c (.i 1)], none⟩,
                    ⟨some 25, .mv, [.t 24], none⟩,
                    ⟨some 26, .mv, [.t 3], some (25, false)⟩,
                    ⟨some 27, .bin .gtr, [.t 26, .c (.i 5)], some (25, false)⟩,
                    ⟨some 28, .pick, [.t 25, .c (.b true), .t 27], none⟩] [23, 24, 25, 26, 27])
                  (.cond (.t 28) [28]
                    (.seq
                      (.region false [⟨some 29, .mv, [.t 5], none⟩,
                        ⟨some 30, .un .not, [.t 29], none⟩,
                        ⟨some 31, .mv, [.t 30], none⟩,
                        ⟨some 32, .call n_laws_alive 16384, [], some (31, true)⟩,
                        ⟨some 33, .pick, [.t 31, .t 32, .c (.b false)], none⟩,
                        ⟨some 2, .mv, [.t 33], none⟩] [3, 4, 5, 29, 30, 31, 32, 33])
                      .ret)
                    .skip))
                (.seq
                  (.region false [⟨some 34, .mv, [.t 3], none⟩,
                    ⟨some 35, .bin .shl, [.c (.i 1), .t 34], none⟩,
                    ⟨some 36, .bin .sub, [.t 35, .c (.i 1)], none⟩,
                    ⟨some 6, .mv, [.t 36], none⟩] [34, 35, 36])
                  (.seq
                    (.region false [⟨some 37, .mv, [.t 3], none⟩,
                      ⟨some 38, .call n_impl_StateOk 19456, [.t 37, .c (.i 0)], none⟩,
                      ⟨some 39, .mv, [.t 38], none⟩,
                      ⟨some 40, .mv, [.t 3], some (39, true)⟩,
                      ⟨some 41, .mv, [.t 6], some (39, true)⟩,
                      ⟨some 42, .call n_impl_StateOk 21504, [.t 40, .t 41], some (39, true)⟩,
                      ⟨some 43, .pick, [.t 39, .t 42, .c (.b false)], none⟩,
                      ⟨some 44, .mv, [.t 43], none⟩,
                      ⟨some 45, .mv, [.t 3], some (44, true)⟩,
                      ⟨some 46, .mv, [.t 6], some (44, true)⟩,
                      ⟨some 47, .mv, [.t 4], some (44, true)⟩,
                      ⟨some 48, .bin .sub, [.t 46, .t 47], some (44, true)⟩,
                      ⟨some 49, .call n_impl_StateOk 25088, [.t 45, .t 48], some (44, true)⟩,
                      ⟨some 50, .mv, [.t 5], some (44, true)⟩,
                      ⟨some 51, .eqb false, [.t 49, .t 50], some (44, true)⟩,
                      ⟨some 52, .pick, [.t 44, .t 51, .c (.b false)], none⟩,
                      ⟨some 53, .mv, [.t 52], none⟩,
                      ⟨some 54, .mv, [.t 3], some (53, true)⟩,
                      ⟨some 55, .mv, [.t 6], some (53, true)⟩,
                      ⟨some 56, .bin .add, [.t 55, .c (.i 1)], some (53, true)⟩,
                      ⟨some 57, .call n_impl_StateOk 29184, [.t 54, .t 56], some (53, true)⟩,
                      ⟨some 58, .un .not, [.t 57], some (53, true)⟩,
                      ⟨some 59, .pick, [.t 53, .t 58, .c (.b false)], none⟩,
                      ⟨some 2, .mv, [.t 59], none⟩] [3, 4, 5, 6, 37, 38, 39, 40, 41, 42, 43, 44, 45, 46, 47, 48, 49, 50, 51, 52, 53, 54, 55, 56, 57, 58, 59])
                    .ret)))))))) }
/-- laws.FnWeightOf -/
def F_laws_FnWeightOf_L0 : LC :=
  (.seq
    (.seq
      (.region false [⟨some 31, .mv, [.t 7], none⟩,
        ⟨some 32, .mv, [.t 3], none⟩,
        ⟨some 33, .len, [.t 32], none⟩,
        ⟨some 34, .bin .shl, [.c (.i 1), .t 33], none⟩,
        ⟨some 35, .bin .lss, [.t 31, .t 34], none⟩] [31, 32, 33, 34])
      (.cond (.t 35) [35]
        .skip
        (.exit 0)))
    (.seq
      (.block 1
        (.region false [⟨some 38, .mv, [.t 6], none⟩,
          ⟨some 39, .mv, [.t 3], none⟩,
          ⟨some 40, .mv, [.t 7], none⟩,
          ⟨some 41, .call n_impl_WeightOf 20992, [.t 39, .t 40], none⟩,
          ⟨some 42, .bin .add, [.t 38, .t 41], none⟩,
          ⟨some 6, .mv, [.t 42], none⟩] [38, 39, 40, 41, 42]))
      (.region false [⟨some 36, .mv, [.t 7], none⟩,
        ⟨some 37, .bin .add, [.t 36, .c (.i 1)], none⟩,
        ⟨some 7, .mv, [.t 37], none⟩] [36, 37])))
def F_laws_FnWeightOf_W0 : LC := .loop F_laws_FnWeightOf_L0
def F_laws_FnWeightOf : LF :=
  { nparams := 1, results := [.t 2], body :=
    (.seq
      (.region false [⟨some 2, .mv, [.c (.b false)], none⟩] [2])
      (.seq
        (.seq
          (.region false [⟨some 8, .mv, [.t 0], none⟩,
            ⟨some 9, .len, [.t 8], none⟩,
            ⟨some 10, .bin .gtr, [.t 9, .c (.i 1048576)], none⟩] [8, 9])
          (.cond (.t 10) [10]
            (.seq
              (.region false [⟨some 2, .mv, [.c (.b true)], none⟩] [0])
              .ret)
            .skip))
        (.seq
          (.region false [⟨some 12, .mv, [.t 0], none⟩,
            ⟨some 13, .call n_spec_DrawWeightOf 6656, [.t 12], none⟩,
            ⟨some 11, .mv, [.t 13], none⟩,
            ⟨some 14, .ext 0, [.t 11], none⟩,
            ⟨some 15, .ext 1, [.t 11], none⟩,
            ⟨some 3, .mv, [.t 14], none⟩,
            ⟨some 4, .mv, [.t 15], none⟩] [0, 11, 12, 13, 14, 15])
          (.seq
            (.region false [⟨some 16, .mv, [.t 3], none⟩,
              ⟨some 17, .mv, [.t 4], none⟩,
              ⟨some 18, .call n_impl_WeightOf 9216, [.t 16, .t 17], none⟩,
              ⟨some 5, .mv, [.t 18], none⟩] [16, 17, 18])
            (.seq
              (.seq
                (.region false [⟨some 19, .mv, [.t 5], none⟩,
                  ⟨some 20, .mv, [.t 3], none⟩,
                  ⟨some 21, .mv, [.t 4], none⟩,
                  ⟨some 22, .call n_spec_WeightOf 11264, [.t 20, .t 21], none⟩,
                  ⟨some 23, .bin .neq, [.t 19, .t 22], none⟩] [19, 20, 21, 22])
                (.cond (.t 23) [23]
                  (.seq
                    (.region false [⟨some 2, .mv, [.c (.b false)], none⟩] [3, 4, 5])
                    .ret)
                  .skip))
              (.seq
                (.seq
                  (.region false [⟨some 24, .mv, [.t 5], none⟩,
                    ⟨some 25, .bin .lss, [.t 24, .c (.i 0)], none⟩] [24])
                  (.cond (.t 25) [25]
                    (.seq
                      (.region false [⟨some 26, .mv, [.t 5], none⟩,
                        ⟨some 27, .bin .eql, [.t 26, .c (.i (-1))], none⟩,
                        ⟨some 28, .mv, [.t 27], none⟩,
                        ⟨some 29, .call n_laws_alive 14848, [], some (28, true)⟩,
                        ⟨some 30, .pick, [.t 28, .t 29, .c (.b false)], none⟩,
                        ⟨some 2, .mv, [.t 30], none⟩] [3, 4, 5, 26, 27, 28, 29, 30])
                      .ret)
                    .skip))
                (.seq
                  (.region false [⟨some 6, .mv, [.c (.i 0)], none⟩] [])
                  (.seq
                    (.seq
                      (.region false [⟨some 7, .mv, [.c (.i 0)], none⟩] [])
                      (.block 0
                        F_laws_FnWeightOf_W0))
                    (.seq
                      (.region true [⟨some 43, .mv, [.t 6], none⟩,
                        ⟨some 44, .mv, [.t 3], none⟩,
                        ⟨some 45, .len, [.t 44], none⟩,
                        ⟨some 46, .call n_laws_power 23552, [.t 45], none⟩,
                        ⟨some 47, .bin .eql, [.t 43, .t 46], none⟩,
                        ⟨some 48, .mv, [.t 47], none⟩,
                        ⟨some 49, .mv, [.t 5], some (48, true)⟩,
                        ⟨some 50, .bin .geq, [.t 49, .c (.i 1)], some (48, true)⟩,
                        ⟨some 51, .pick, [.t 48, .t 50, .c (.b false)], none⟩,
                        ⟨some 52, .mv, [.t 51], none⟩,
                        ⟨some 53, .mv, [.t 3], some (52, true)⟩,
                        ⟨some 54, .call n_impl_OtherTests 27648, [.t 53], some (52, true)⟩,
                        ⟨some 55, .mv, [.t 3], some (52, true)⟩,
                        ⟨some 56, .len, [.t 55], some (52, true)⟩,
                        ⟨some 57, .bin .shl, [.c (.i 1), .t 56], some (52, true)⟩,
                        ⟨some 58, .bin .sub, [.t 57, .c (.i 1)], some (52, true)⟩,
                        ⟨some 59, .mv, [.t 4], some (52, true)⟩,
                        ⟨some 60, .bin .sub, [.t 58, .t 59], some (52, true)⟩,
                        ⟨some 61, .call n_impl_WeightOf 31232, [.t 54, .t 60], some (52, true)⟩,
                        ⟨some 62, .mv, [.t 5], some (52, true)⟩,
                        ⟨some 63, .bin .eql, [.t 61, .t 62], some (52, true)⟩,
                        ⟨some 64, .pick, [.t 52, .t 63, .c (.b false)], none⟩,
                        ⟨some 2, .mv, [.t 64], none⟩] [3, 4, 5, 6, 7, 43, 44, 45, 46, 47, 48, 49, 50, 51, 52, 53, 54, 55, 56, 57, 58, 59, 60, 61, 62, 63, 64])
                      .ret))))))))) }
/-- laws.FnOtherTests -/
def F_laws_FnOtherTests : LF :=
  { nparams := 1, results := [.t 2], body :=
    (.seq
      (.region false [⟨some 2, .mv, [.c (.b false)], none⟩] [2])
      (.seq
        (.seq
          (.region false [⟨some 5, .mv, [.t 0], none⟩,
            ⟨some 6, .len, [.t 5], none⟩,
            ⟨some 7, .bin .gtr, [.t 6, .c (.i 1048576)], none⟩] [5, 6])
          (.cond (.t 7) [7]
            (.seq
              (.region false [⟨some 2, .mv, [.c (.b true)], none⟩] [0])
              .ret)
            .skip))
        (.seq
          (.region false [⟨some 8, .mv, [.t 0], none⟩,
            ⟨some 9, .call n_spec_DrawOtherTests 4608, [.t 8], none⟩,
            ⟨some 3, .mv, [.t 9], none⟩] [0, 8, 9])
          (.seq
            (.region false [⟨some 10, .mv, [.t 3], none⟩,
              ⟨some 11, .call n_impl_OtherTests 5632, [.t 10], none⟩,
              ⟨some 4, .mv, [.t 11], none⟩] [10, 11])
            (.seq
              (.seq
                (.region false [⟨some 12, .mv, [.t 4], none⟩,
                  ⟨some 13, .mv, [.t 3], none⟩,
                  ⟨some 14, .call n_spec_OtherTests 7168, [.t 13], none⟩,
                  ⟨some 15, .call n_laws_sameTests 7680, [.t 12, .t 14], none⟩,
                  ⟨some 16, .un .not, [.t 15], none⟩] [12, 13, 14, 15])
                (.cond (.t 16) [16]
                  (.seq
                    (.region false [⟨some 2, .mv, [.c (.b false)], none⟩] [3, 4])
                    .ret)
                  .skip))
              (.seq
                (.seq
                  (.region false [⟨some 17, .mv, [.t 4], none⟩,
                    ⟨some 18, .len, [.t 17], none⟩,
                    ⟨some 19, .bin .eql, [.t 18, .c (.i 0)], none⟩] [17, 18])
                  (.cond (.t 19) [19]
                    (.seq
                      (.region false [⟨some 20, .mv, [.t 3], none⟩,
                        ⟨some 21, .call n_impl_TestsOk 10752, [.t 20], none⟩,
                        ⟨some 22, .un .not, [.t 21], none⟩,
                        ⟨some 23, .mv, [.t 22], none⟩,
                        ⟨some 24, .call n_laws_alive 12288, [], some (23, true)⟩,
                        ⟨some 25, .pick, [.t 23, .t 24, .c (.b false)], none⟩,
                        ⟨some 2, .mv, [.t 25], none⟩] [3, 4, 20, 21, 22, 23, 24, 25])
                      .ret)
                    .skip))
                (.seq
                  (.region false [⟨some 26, .mv, [.t 4], none⟩,
                    ⟨some 27, .call n_impl_TestsOk 13824, [.t 26], none⟩,
                    ⟨some 28, .mv, [.t 27], none⟩,
                    ⟨some 29, .mv, [.t 4], some (28, true)⟩,
                    ⟨some 30, .call n_impl_OtherTests 15360, [.t 29], some (28, true)⟩,
                    ⟨some 31, .mv, [.t 3], some (28, true)⟩,
                    ⟨some 32, .call n_laws_sameTests 16384, [.t 30, .t 31], some (28, true)⟩,
                    ⟨some 33, .pick, [.t 28, .t 32, .c (.b false)], none⟩,
                    ⟨some 34, .mv, [.t 33], none⟩,
                    ⟨some 35, .mv, [.t 4], some (34, true)⟩,
                    ⟨some 36, .call n_impl_CostOf 18432, [.t 35], some (34, true)⟩,
                    ⟨some 37, .mv, [.t 3], some (34, true)⟩,
                    ⟨some 38, .call n_impl_CostOf 19456, [.t 37], some (34, true)⟩,
                    ⟨some 39, .bin .eql, [.t 36, .t 38], some (34, true)⟩,
                    ⟨some 40, .pick, [.t 34, .t 39, .c (.b false)], none⟩,
                    ⟨some 2, .mv, [.t 40], none⟩] [3, 4, 26, 27, 28, 29, 30, 31, 32, 33, 34, 35, 36, 37, 38, 39, 40])
                  .ret))))))) }
/-- laws.FnKnownOk -/
def F_laws_FnKnownOk_L0 : LC :=
  (.seq
    (.seq
      (.region false [⟨some 38, .mv, [.t 8], none⟩,
        ⟨some 39, .mv, [.t 3], none⟩,
        ⟨some 40, .bin .lss, [.t 38, .t 39], none⟩] [38, 39])
      (.cond (.t 40) [40]
        .skip
        (.exit 0)))
    (.seq
      (.block 1
        (.seq
          (.region false [⟨some 43, .mv, [.t 6], none⟩,
            ⟨some 44, .bslice 22536 1 1 (.i 0) [0], [.c (.i (-1))], none⟩,
            ⟨some 45, .app 23048 1, [.t 43, .t 44], none⟩,
            ⟨some 6, .mv, [.t 45], none⟩] [43, 44, 45])
          (.region false [⟨some 46, .mv, [.t 7], none⟩,
            ⟨some 47, .bslice 24072 1 1 (.i 0) [0], [.c (.i 1)], none⟩,
            ⟨some 48, .app 24584 1, [.t 46, .t 47], none⟩,
            ⟨some 7, .mv, [.t 48], none⟩] [46, 47, 48])))
      (.region false [⟨some 41, .mv, [.t 8], none⟩,
        ⟨some 42, .bin .add, [.t 41, .c (.i 1)], none⟩,
        ⟨some 8, .mv, [.t 42], none⟩] [41, 42])))
def F_laws_FnKnownOk_W0 : LC := .loop F_laws_FnKnownOk_L0
def F_laws_FnKnownOk : LF :=
  { nparams := 1, results := [.t 2], body :=
    (.seq
      (.region false [⟨some 2, .mv, [.c (.b false)], none⟩] [2])
      (.seq
        (.seq
          (.region false [⟨some 9, .mv, [.t 0], none⟩,
            ⟨some 10, .len, [.t 9], none⟩,
            ⟨some 11, .bin .gtr, [.t 10, .c (.i 1048576)], none⟩] [9, 10])
          (.cond (.t 11) [11]
            (.seq
              (.region false [⟨some 2, .mv, [.c (.b true)], none⟩] [0])
              .ret)
            .skip))
        (.seq
          (.region false [⟨some 13, .mv, [.t 0], none⟩,
            ⟨some 14, .call n_spec_DrawKnownOk 7168, [.t 13], none⟩,
            ⟨some 12, .mv, [.t 14], none⟩,
            ⟨some 15, .ext 0, [.t 12], none⟩,
            ⟨some 16, .ext 1, [.t 12], none⟩,
            ⟨some 3, .mv, [.t 15], none⟩,
            ⟨some 4, .mv, [.t 16], none⟩] [0, 12, 13, 14, 15, 16])
          (.seq
            (.region false [⟨some 17, .mv, [.t 3], none⟩,
              ⟨some 18, .mv, [.t 4], none⟩,
              ⟨some 19, .call n_impl_KnownOk 9728, [.t 17, .t 18], none⟩,
              ⟨some 5, .mv, [.t 19], none⟩] [17, 18, 19])
            (.seq
              (.seq
                (.region false [⟨some 20, .mv, [.t 5], none⟩,
                  ⟨some 21, .mv, [.t 3], none⟩,
                  ⟨some 22, .mv, [.t 4], none⟩,
                  ⟨some 23, .call n_spec_KnownOk 11776, [.t 21, .t 22], none⟩,
                  ⟨some 24, .eqb true, [.t 20, .t 23], none⟩] [4, 20, 21, 22, 23])
                (.cond (.t 24) [24]
                  (.seq
                    (.region false [⟨some 2, .mv, [.c (.b false)], none⟩] [3, 5])
                    .ret)
                  .skip))
              (.seq
                (.seq
                  (.region false [⟨some 25, .mv, [.t 3], none⟩,
                    ⟨some 26, .bin .lss, [.t 25, .c (.i 1)], none⟩,
                    ⟨some 27, .mv, [.t 26], none⟩,
                    ⟨some 28, .mv, [.t 3], some (27, false)⟩,
                    ⟨some 29, .bin .gtr, [.t 28, .c (.i 5)], some (27, false)⟩,
                    ⟨some 30, .pick, [.t 27, .c (.b true), .t 29], none⟩] [25, 26, 27, 28, 29])
                  (.cond (.t 30) [30]
                    (.seq
                      (.region false [⟨some 31, .mv, [.t 5], none⟩,
                        ⟨some 32, .un .not, [.t 31], none⟩,
                        ⟨some 33, .mv, [.t 32], none⟩,
                        ⟨some 34, .call n_laws_alive 17408, [], some (33, true)⟩,
                        ⟨some 35, .pick, [.t 33, .t 34, .c (.b false)], none⟩,
                        ⟨some 2, .mv, [.t 35], none⟩] [3, 5, 31, 32, 33, 34, 35])
                      .ret)
                    .skip))
                (.seq
                  (.region false [⟨some 36, .bslice 18440 0 1 (.i 0) [], [], none⟩,
                    ⟨some 6, .mv, [.t 36], none⟩] [5, 36])
                  (.seq
                    (.region false [⟨some 37, .bslice 18952 0 1 (.i 0) [], [], none⟩,
                      ⟨some 7, .mv, [.t 37], none⟩] [37])
                    (.seq
                      (.seq
                        (.region false [⟨some 8, .mv, [.c (.i 0)], none⟩] [])
                        (.block 0
                          F_laws_FnKnownOk_W0))
                      (.seq
                        (.region false [⟨some 49, .mv, [.t 3], none⟩,
                          ⟨some 50, .mv, [.t 6], none⟩,
                          ⟨some 51, .call n_impl_KnownOk 26112, [.t 49, .t 50], none⟩,
                          ⟨some 52, .mv, [.t 51], none⟩,
                          ⟨some 53, .mv, [.t 3], some (52, true)⟩,
                          ⟨some 54, .mv, [.t 7], some (52, true)⟩,
                          ⟨some 55, .call n_impl_KnownOk 28160, [.t 53, .t 54], some (52, true)⟩,
                          ⟨some 56, .pick, [.t 52, .t 55, .c (.b false)], none⟩,
                          ⟨some 57, .mv, [.t 56], none⟩,
                          ⟨some 58, .mv, [.t 3], some (57, true)⟩,
                          ⟨some 59, .mv, [.t 6], some (57, true)⟩,
                          ⟨some 60, .bslice 30728 1 1 (.i 0) [0], [.c (.i 0)], some (57, true)⟩,
                          ⟨some 61, .app 31240 1, [.t 59, .t 60], some (57, true)⟩,
                          ⟨some 62, .call n_impl_KnownOk 31744, [.t 58, .t 61], some (57, true)⟩,
                          ⟨some 63, .un .not, [.t 62], some (57, true)⟩,
                          ⟨some 64, .pick, [.t 57, .t 63, .c (.b false)], none⟩,
                          ⟨some 65, .mv, [.t 64], none⟩,
                          ⟨some 66, .call n_laws_alive 33792, [], some (65, true)⟩,
                          ⟨some 67, .pick, [.t 65, .t 66, .c (.b false)], none⟩,
                          ⟨some 2, .mv, [.t 67], none⟩] [3, 6, 7, 8, 49, 50, 51, 52, 53, 54, 55, 56, 57, 58, 59, 60, 61, 62, 63, 64, 65, 66, 67])
                        .ret)))))))))) }
/-- laws.FnAgreesOk -/
def F_laws_FnAgreesOk_L0 : LC :=
  (.seq
    (.seq
      (.region false [⟨some 51, .mv, [.t 10], none⟩,
        ⟨some 52, .mv, [.t 3], none⟩,
        ⟨some 53, .bin .shl, [.c (.i 1), .t 52], none⟩,
        ⟨some 54, .bin .lss, [.t 51, .t 53], none⟩] [51, 52, 53])
      (.cond (.t 54) [54]
        .skip
        (.exit 0)))
    (.seq
      (.block 1
        (.seq
          (.region false [⟨some 57, .mv, [.t 3], none⟩,
            ⟨some 58, .mv, [.t 4], none⟩,
            ⟨some 59, .mv, [.t 10], none⟩,
            ⟨some 60, .call n_impl_AgreesOk 30720, [.t 57, .t 58, .t 59], none⟩] [57, 58, 59])
          (.cond (.t 60) [60]
            (.region false [⟨some 61, .mv, [.t 8], none⟩,
              ⟨some 62, .bin .add, [.t 61, .c (.i 1)], none⟩,
              ⟨some 8, .mv, [.t 62], none⟩] [61, 62])
            .skip)))
      (.region false [⟨some 55, .mv, [.t 10], none⟩,
        ⟨some 56, .bin .add, [.t 55, .c (.i 1)], none⟩,
        ⟨some 10, .mv, [.t 56], none⟩] [55, 56])))
def F_laws_FnAgreesOk_W0 : LC := .loop F_laws_FnAgreesOk_L0
def F_laws_FnAgreesOk_L1 : LC :=
  (.seq
    (.seq
      (.region false [⟨some 63, .mv, [.t 11], none⟩,
        ⟨some 64, .mv, [.t 3], none⟩,
        ⟨some 65, .bin .lss, [.t 63, .t 64], none⟩] [63, 64])
      (.cond (.t 65) [65]
        .skip
        (.exit 2)))
    (.seq
      (.block 3
        (.seq
          (.region false [⟨some 68, .mv, [.t 4], none⟩,
            ⟨some 69, .mv, [.t 11], none⟩,
            ⟨some 70, .idxa 1, [.t 68, .t 69], none⟩,
            ⟨some 71, .load 1 false, [.t 70], none⟩,
            ⟨some 72, .bin .eql, [.t 71, .c (.i (-1))], none⟩] [68, 69, 70, 71])
          (.cond (.t 72) [72]
            (.region false [⟨some 73, .mv, [.t 9], none⟩,
              ⟨some 74, .bin .add, [.t 73, .c (.i 1)], none⟩,
              ⟨some 9, .mv, [.t 74], none⟩] [73, 74])
            .skip)))
      (.region false [⟨some 66, .mv, [.t 11], none⟩,
        ⟨some 67, .bin .add, [.t 66, .c (.i 1)], none⟩,
        ⟨some 11, .mv, [.t 67], none⟩] [66, 67])))
def F_laws_FnAgreesOk_W1 : LC := .loop F_laws_FnAgreesOk_L1
def F_laws_FnAgreesOk : LF :=
  { nparams := 1, results := [.t 2], body :=
    (.seq
      (.region false [⟨some 2, .mv, [.c (.b false)], none⟩] [2])
      (.seq
        (.seq
          (.region false [⟨some 12, .mv, [.t 0], none⟩,
            ⟨some 13, .len, [.t 12], none⟩,
            ⟨some 14, .bin .gtr, [.t 13, .c (.i 1048576)], none⟩] [12, 13])
          (.cond (.t 14) [14]
            (.seq
              (.region false [⟨some 2, .mv, [.c (.b true)], none⟩] [0])
              .ret)
            .skip))
        (.seq
          (.region false [⟨some 16, .mv, [.t 0], none⟩,
            ⟨some 17, .call n_spec_DrawAgreesOk 8704, [.t 16], none⟩,
            ⟨some 15, .mv, [.t 17], none⟩,
            ⟨some 18, .ext 0, [.t 15], none⟩,
            ⟨some 19, .ext 1, [.t 15], none⟩,
            ⟨some 20, .ext 2, [.t 15], none⟩,
            ⟨some 3, .mv, [.t 18], none⟩,
            ⟨some 4, .mv, [.t 19], none⟩,
            ⟨some 5, .mv, [.t 20], none⟩] [0, 15, 16, 17, 18, 19, 20])
          (.seq
            (.region false [⟨some 21, .mv, [.t 3], none⟩,
              ⟨some 22, .mv, [.t 4], none⟩,
              ⟨some 23, .mv, [.t 5], none⟩,
              ⟨some 24, .call n_impl_AgreesOk 12288, [.t 21, .t 22, .t 23], none⟩,
              ⟨some 6, .mv, [.t 24], none⟩] [21, 22, 23, 24])
            (.seq
              (.seq
                (.region false [⟨some 25, .mv, [.t 6], none⟩,
                  ⟨some 26, .mv, [.t 3], none⟩,
                  ⟨some 27, .mv, [.t 4], none⟩,
                  ⟨some 28, .mv, [.t 5], none⟩,
                  ⟨some 29, .call n_spec_AgreesOk 14848, [.t 26, .t 27, .t 28], none⟩,
                  ⟨some 30, .eqb true, [.t 25, .t 29], none⟩] [25, 26, 27, 28, 29])
                (.cond (.t 30) [30]
                  (.seq
                    (.region false [⟨some 2, .mv, [.c (.b false)], none⟩] [3, 4, 5, 6])
                    .ret)
                  .skip))
              (.seq
                (.seq
                  (.region false [⟨some 31, .mv, [.t 3], none⟩,
                    ⟨some 32, .mv, [.t 4], none⟩,
                    ⟨some 33, .call n_spec_KnownOk 16896, [.t 31, .t 32], none⟩,
                    ⟨some 34, .un .not, [.t 33], none⟩,
                    ⟨some 35, .mv, [.t 34], none⟩,
                    ⟨some 36, .mv, [.t 3], some (35, false)⟩,
                    ⟨some 37, .mv, [.t 5], some (35, false)⟩,
                    ⟨some 38, .call n_spec_StateOk 19456, [.t 36, .t 37], some (35, false)⟩,
                    ⟨some 39, .un .not, [.t 38], some (35, false)⟩,
                    ⟨some 40, .pick, [.t 35, .c (.b true), .t 39], none⟩] [31, 32, 33, 34, 35, 36, 37, 38, 39])
                  (.cond (.t 40) [40]
                    (.seq
                      (.region false [⟨some 41, .mv, [.t 6], none⟩,
                        ⟨some 42, .un .not, [.t 41], none⟩,
                        ⟨some 43, .mv, [.t 42], none⟩,
                        ⟨some 44, .call n_laws_alive 22528, [], some (43, true)⟩,
                        ⟨some 45, .pick, [.t 43, .t 44, .c (.b false)], none⟩,
                        ⟨some 2, .mv, [.t 45], none⟩] [3, 4, 5, 6, 41, 42, 43, 44, 45])
                      .ret)
                    .skip))
                (.seq
                  (.region false [⟨some 46, .bslice 23560 0 1 (.i 0) [], [], none⟩,
                    ⟨some 47, .mv, [.t 4], none⟩,
                    ⟨some 48, .app 24584 1, [.t 46, .t 47], none⟩,
                    ⟨some 7, .mv, [.t 48], none⟩] [46, 47, 48])
                  (.seq
                    (.region false [⟨some 49, .mv, [.t 7], none⟩,
                      ⟨some 50, .idxa 1, [.t 49, .c (.i 0)], none⟩,
                      ⟨none, .store 1, [.t 50, .c (.i (-1))], none⟩] [49, 50])
                    (.seq
                      (.region false [⟨some 8, .mv, [.c (.i 0)], none⟩] [])
                      (.seq
                        (.region false [⟨some 9, .mv, [.c (.i 0)], none⟩] [])
                        (.seq
                          (.seq
                            (.region false [⟨some 10, .mv, [.c (.i 0)], none⟩] [])
                            (.block 0
                              F_laws_FnAgreesOk_W0))
                          (.seq
                            (.seq
                              (.region false [⟨some 11, .mv, [.c (.i 0)], none⟩] [10])
                              (.block 2
                                F_laws_FnAgreesOk_W1))
                            (.seq
                              (.region false [⟨some 75, .mv, [.t 8], none⟩,
                                ⟨some 76, .mv, [.t 9], none⟩,
                                ⟨some 77, .bin .shl, [.c (.i 1), .t 76], none⟩,
                                ⟨some 78, .bin .eql, [.t 75, .t 77], none⟩,
                                ⟨some 79, .mv, [.t 78], none⟩,
                                ⟨some 80, .mv, [.t 6], some (79, true)⟩,
                                ⟨some 81, .un .not, [.t 80], some (79, true)⟩,
                                ⟨some 82, .mv, [.t 81], some (79, true)⟩,
                                ⟨some 83, .mv, [.t 3], some (82, false)⟩,
                                ⟨some 84, .mv, [.t 7], some (82, false)⟩,
                                ⟨some 85, .mv, [.t 5], some (82, false)⟩,
                                ⟨some 86, .call n_impl_AgreesOk 44032, [.t 83, .t 84, .t 85], some (82, false)⟩,
                                ⟨some 87, .pick, [.t 82, .c (.b true), .t 86], some (79, true)⟩,
                                ⟨some 88, .pick, [.t 79, .t 87, .c (.b false)], none⟩,
                                ⟨some 2, .mv, [.t 88], none⟩] [3, 4, 5, 6, 7, 8, 9, 11, 75, 76, 77, 78, 79, 80, 81, 82, 83, 84, 85, 86, 87, 88])
                              .ret))))))))))))) }
/-- laws.FnWeightWhere -/
def F_laws_FnWeightWhere_L0 : LC :=
  (.seq
    (.seq
      (.region false [⟨some 31, .mv, [.t 7], none⟩,
        ⟨some 32, .mv, [.t 3], none⟩,
        ⟨some 33, .len, [.t 32], none⟩,
        ⟨some 34, .bin .lss, [.t 31, .t 33], none⟩] [31, 32, 33])
      (.cond (.t 34) [34]
        .skip
        (.exit 0)))
    (.seq
      (.block 1
        (.seq
          (.region false [⟨some 37, .mv, [.t 4], none⟩,
            ⟨some 38, .mv, [.t 7], none⟩,
            ⟨some 39, .idxa 1, [.t 37, .t 38], none⟩,
            ⟨some 40, .load 1 false, [.t 39], none⟩] [37, 38, 39])
          (.block 2
            (.seq
              (.region false [⟨some 50, .bin .eql, [.t 40, .c (.i (-1))], none⟩,
                ⟨some 49, .mv, [.t 50], none⟩] [50])
              (.cond (.t 49) [49]
                (.region false [⟨some 51, .mv, [.t 6], none⟩,
                  ⟨some 52, .bin .mul, [.t 51, .c (.i 6)], none⟩,
                  ⟨some 6, .mv, [.t 52], none⟩] [40, 51, 52])
                (.seq
                  (.region false [⟨some 54, .bin .eql, [.t 40, .c (.i 1)], none⟩,
                    ⟨some 53, .mv, [.t 54], none⟩] [40, 54])
                  (.cond (.t 53) [53]
                    (.region false [⟨some 55, .mv, [.t 6], none⟩,
                      ⟨some 56, .mv, [.t 3], none⟩,
                      ⟨some 57, .mv, [.t 7], none⟩,
                      ⟨some 58, .idxa 2, [.t 56, .t 57], none⟩,
                      ⟨some 59, .fld 1 1 false, [.t 58], none⟩,
                      ⟨some 60, .load 1 false, [.t 59], none⟩,
                      ⟨some 61, .bin .mul, [.t 55, .t 60], none⟩,
                      ⟨some 6, .mv, [.t 61], none⟩] [55, 56, 57, 58, 59, 60, 61])
                    (.region false [⟨some 41, .mv, [.t 6], none⟩,
                      ⟨some 42, .mv, [.t 3], none⟩,
                      ⟨some 43, .mv, [.t 7], none⟩,
                      ⟨some 44, .idxa 2, [.t 42, .t 43], none⟩,
                      ⟨some 45, .fld 1 1 false, [.t 44], none⟩,
                      ⟨some 46, .load 1 false, [.t 45], none⟩,
                      ⟨some 47, .bin .sub, [.c (.i 6), .t 46], none⟩,
                      ⟨some 48, .bin .mul, [.t 41, .t 47], none⟩,
                      ⟨some 6, .mv, [.t 48], none⟩] [41, 42, 43, 44, 45, 46, 47, 48]))))))))
      (.region false [⟨some 35, .mv, [.t 7], none⟩,
        ⟨some 36, .bin .add, [.t 35, .c (.i 1)], none⟩,
        ⟨some 7, .mv, [.t 36], none⟩] [35, 36])))
def F_laws_FnWeightWhere_W0 : LC := .loop F_laws_FnWeightWhere_L0
def F_laws_FnWeightWhere : LF :=
  { nparams := 1, results := [.t 2], body :=
    (.seq
      (.region false [⟨some 2, .mv, [.c (.b false)], none⟩] [2])
      (.seq
        (.seq
          (.region false [⟨some 8, .mv, [.t 0], none⟩,
            ⟨some 9, .len, [.t 8], none⟩,
            ⟨some 10, .bin .gtr, [.t 9, .c (.i 1048576)], none⟩] [8, 9])
          (.cond (.t 10) [10]
            (.seq
              (.region false [⟨some 2, .mv, [.c (.b true)], none⟩] [0])
              .ret)
            .skip))
        (.seq
          (.region false [⟨some 12, .mv, [.t 0], none⟩,
            ⟨some 13, .call n_spec_DrawWeightWhere 6656, [.t 12], none⟩,
            ⟨some 11, .mv, [.t 13], none⟩,
            ⟨some 14, .ext 0, [.t 11], none⟩,
            ⟨some 15, .ext 1, [.t 11], none⟩,
            ⟨some 3, .mv, [.t 14], none⟩,
            ⟨some 4, .mv, [.t 15], none⟩] [0, 11, 12, 13, 14, 15])
          (.seq
            (.region false [⟨some 16, .mv, [.t 3], none⟩,
              ⟨some 17, .mv, [.t 4], none⟩,
              ⟨some 18, .call n_impl_WeightWhere 9216, [.t 16, .t 17], none⟩,
              ⟨some 5, .mv, [.t 18], none⟩] [16, 17, 18])
            (.seq
              (.seq
                (.region false [⟨some 19, .mv, [.t 5], none⟩,
                  ⟨some 20, .mv, [.t 3], none⟩,
                  ⟨some 21, .mv, [.t 4], none⟩,
                  ⟨some 22, .call n_spec_WeightWhere 11264, [.t 20, .t 21], none⟩,
                  ⟨some 23, .bin .neq, [.t 19, .t 22], none⟩] [19, 20, 21, 22])
                (.cond (.t 23) [23]
                  (.seq
                    (.region false [⟨some 2, .mv, [.c (.b false)], none⟩] [3, 4, 5])
                    .ret)
                  .skip))
              (.seq
                (.seq
                  (.region false [⟨some 24, .mv, [.t 5], none⟩,
                    ⟨some 25, .bin .lss, [.t 24, .c (.i 0)], none⟩] [24])
                  (.cond (.t 25) [25]
                    (.seq
                      (.region false [⟨some 26, .mv, [.t 5], none⟩,
                        ⟨some 27, .bin .eql, [.t 26, .c (.i (-1))], none⟩,
                        ⟨some 28, .mv, [.t 27], none⟩,
                        ⟨some 29, .call n_laws_alive 14848, [], some (28, true)⟩,
                        ⟨some 30, .pick, [.t 28, .t 29, .c (.b false)], none⟩,
                        ⟨some 2, .mv, [.t 30], none⟩] [3, 4, 5, 26, 27, 28, 29, 30])
                      .ret)
                    .skip))
                (.seq
                  (.region false [⟨some 6, .mv, [.c (.i 1)], none⟩] [])
                  (.seq
                    (.seq
                      (.region false [⟨some 7, .mv, [.c (.i 0)], none⟩] [])
                      (.block 0
                        F_laws_FnWeightWhere_W0))
                    (.seq
                      (.region false [⟨some 62, .mv, [.t 6], none⟩,
                        ⟨some 63, .mv, [.t 5], none⟩,
                        ⟨some 64, .bin .eql, [.t 62, .t 63], none⟩,
                        ⟨some 2, .mv, [.t 64], none⟩] [3, 4, 5, 6, 7, 62, 63, 64])
                      .ret))))))))) }
/-- laws.FnCostOf -/
def F_laws_FnCostOf : LF :=
  { nparams := 1, results := [.t 2], body :=
    (.seq
      (.region false [⟨some 2, .mv, [.c (.b false)], none⟩] [2])
      (.seq
        (.seq
          (.region false [⟨some 6, .mv, [.t 0], none⟩,
            ⟨some 7, .len, [.t 6], none⟩,
            ⟨some 8, .bin .gtr, [.t 7, .c (.i 1048576)], none⟩] [6, 7])
          (.cond (.t 8) [8]
            (.seq
              (.region false [⟨some 2, .mv, [.c (.b true)], none⟩] [0])
              .ret)
            .skip))
        (.seq
          (.region false [⟨some 9, .mv, [.t 0], none⟩,
            ⟨some 10, .call n_spec_DrawCostOf 5120, [.t 9], none⟩,
            ⟨some 3, .mv, [.t 10], none⟩] [0, 9, 10])
          (.seq
            (.region false [⟨some 11, .mv, [.t 3], none⟩,
              ⟨some 12, .call n_impl_CostOf 6144, [.t 11], none⟩,
              ⟨some 4, .mv, [.t 12], none⟩] [11, 12])
            (.seq
              (.seq
                (.region false [⟨some 13, .mv, [.t 4], none⟩,
                  ⟨some 14, .mv, [.t 3], none⟩,
                  ⟨some 15, .call n_spec_CostOf 7680, [.t 14], none⟩,
                  ⟨some 16, .bin .neq, [.t 13, .t 15], none⟩] [13, 14, 15])
                (.cond (.t 16) [16]
                  (.seq
                    (.region false [⟨some 2, .mv, [.c (.b false)], none⟩] [3, 4])
                    .ret)
                  .skip))
              (.seq
                (.seq
                  (.region false [⟨some 17, .mv, [.t 4], none⟩,
                    ⟨some 18, .bin .lss, [.t 17, .c (.i 0)], none⟩] [17])
                  (.cond (.t 18) [18]
                    (.seq
                      (.region false [⟨some 19, .mv, [.t 4], none⟩,
                        ⟨some 20, .bin .eql, [.t 19, .c (.i (-1))], none⟩,
                        ⟨some 21, .mv, [.t 20], none⟩,
                        ⟨some 22, .mv, [.t 3], some (21, true)⟩,
                        ⟨some 23, .call n_impl_TestsOk 11776, [.t 22], some (21, true)⟩,
                        ⟨some 24, .un .not, [.t 23], some (21, true)⟩,
                        ⟨some 25, .pick, [.t 21, .t 24, .c (.b false)], none⟩,
                        ⟨some 26, .mv, [.t 25], none⟩,
                        ⟨some 27, .call n_laws_alive 13824, [], some (26, true)⟩,
                        ⟨some 28, .pick, [.t 26, .t 27, .c (.b false)], none⟩,
                        ⟨some 2, .mv, [.t 28], none⟩] [3, 4, 19, 20, 21, 22, 23, 24, 25, 26, 27, 28])
                      .ret)
                    .skip))
                (.seq
                  (.region false [⟨some 29, .mv, [.t 3], none⟩,
                    ⟨some 30, .len, [.t 29], none⟩,
                    ⟨some 31, .bin .sub, [.t 30, .c (.i 1)], none⟩,
                    ⟨some 5, .mv, [.t 31], none⟩] [29, 30, 31])
                  (.seq
                    (.region true [⟨some 32, .mv, [.t 4], none⟩,
                      ⟨some 33, .mv, [.t 3], none⟩,
                      ⟨some 34, .len, [.t 33], none⟩,
                      ⟨some 35, .bin .geq, [.t 32, .t 34], none⟩,
                      ⟨some 36, .mv, [.t 35], none⟩,
                      ⟨some 37, .mv, [.t 5], some (36, true)⟩,
                      ⟨some 38, .bin .lss, [.t 37, .c (.i 1)], some (36, true)⟩,
                      ⟨some 39, .mv, [.t 38], some (36, true)⟩,
                      ⟨some 40, .mv, [.t 3], some (39, false)⟩,
                      ⟨some 41, .mv, [.t 5], some (39, false)⟩,
                      ⟨some 42, .slice false true 2, [.t 40, .t 41], some (39, false)⟩,
                      ⟨some 43, .call n_impl_CostOf 22016, [.t 42], some (39, false)⟩,
                      ⟨some 44, .mv, [.t 3], some (39, false)⟩,
                      ⟨some 45, .mv, [.t 5], some (39, false)⟩,
                      ⟨some 46, .idxa 2, [.t 44, .t 45], some (39, false)⟩,
                      ⟨some 47, .fld 0 1 false, [.t 46], some (39, false)⟩,
                      ⟨some 48, .load 1 false, [.t 47], some (39, false)⟩,
                      ⟨some 49, .bin .add, [.t 43, .t 48], some (39, false)⟩,
                      ⟨some 50, .mv, [.t 4], some (39, false)⟩,
                      ⟨some 51, .bin .eql, [.t 49, .t 50], some (39, false)⟩,
                      ⟨some 52, .pick, [.t 39, .c (.b true), .t 51], some (36, true)⟩,
                      ⟨some 53, .pick, [.t 36, .t 52, .c (.b false)], none⟩,
                      ⟨some 54, .mv, [.t 53], none⟩,
                      ⟨some 55, .call n_laws_alive 28160, [], some (54, true)⟩,
                      ⟨some 56, .pick, [.t 54, .t 55, .c (.b false)], none⟩,
                      ⟨some 2, .mv, [.t 56], none⟩] [3, 4, 5, 32, 33, 34, 35, 36, 37, 38, 39, 40, 41, 42, 43, 44, 45, 46, 47, 48, 49, 50, 51, 52, 53, 54, 55, 56])
                    .ret)))))))) }
/-- laws.FnLikeliestState -/
def F_laws_FnLikeliestState_L0 : LC :=
  (.seq
    (.seq
      (.region false [⟨some 30, .mv, [.t 5], none⟩,
        ⟨some 31, .mv, [.t 3], none⟩,
        ⟨some 32, .len, [.t 31], none⟩,
        ⟨some 33, .bin .lss, [.t 30, .t 32], none⟩] [30, 31, 32])
      (.cond (.t 33) [33]
        .skip
        (.exit 0)))
    (.seq
      (.block 1
        (.seq
          (.region true [⟨some 36, .mv, [.t 4], none⟩,
            ⟨some 37, .mv, [.t 5], none⟩,
            ⟨some 38, .bin .shr, [.t 36, .t 37], none⟩,
            ⟨some 39, .bin .rem, [.t 38, .c (.i 2)], none⟩,
            ⟨some 40, .bin .eql, [.t 39, .c (.i 1)], none⟩,
            ⟨some 41, .mv, [.t 3], none⟩,
            ⟨some 42, .mv, [.t 5], none⟩,
            ⟨some 43, .idxa 2, [.t 41, .t 42], none⟩,
            ⟨some 44, .fld 1 1 false, [.t 43], none⟩,
            ⟨some 45, .load 1 false, [.t 44], none⟩,
            ⟨some 46, .bin .mul, [.c (.i 2), .t 45], none⟩,
            ⟨some 47, .bin .gtr, [.t 46, .c (.i 6)], none⟩,
            ⟨some 48, .eqb true, [.t 40, .t 47], none⟩] [36, 37, 38, 39, 40, 41, 42, 43, 44, 45, 46, 47])
          (.cond (.t 48) [48]
            (.seq
              (.region false [⟨some 2, .mv, [.c (.b false)], none⟩] [3, 4, 5])
              .ret)
            .skip)))
      (.region false [⟨some 34, .mv, [.t 5], none⟩,
        ⟨some 35, .bin .add, [.t 34, .c (.i 1)], none⟩,
        ⟨some 5, .mv, [.t 35], none⟩] [34, 35])))
def F_laws_FnLikeliestState_W0 : LC := .loop F_laws_FnLikeliestState_L0
def F_laws_FnLikeliestState_L1 : LC :=
  (.seq
    (.seq
      (.region false [⟨some 49, .mv, [.t 6], none⟩,
        ⟨some 50, .mv, [.t 3], none⟩,
        ⟨some 51, .len, [.t 50], none⟩,
        ⟨some 52, .bin .shl, [.c (.i 1), .t 51], none⟩,
        ⟨some 53, .bin .lss, [.t 49, .t 52], none⟩] [49, 50, 51, 52])
      (.cond (.t 53) [53]
        .skip
        (.exit 2)))
    (.seq
      (.block 3
        (.seq
          (.region false [⟨some 56, .mv, [.t 3], none⟩,
            ⟨some 57, .mv, [.t 6], none⟩,
            ⟨some 58, .call n_impl_WeightOf 29696, [.t 56, .t 57], none⟩,
            ⟨some 59, .mv, [.t 3], none⟩,
            ⟨some 60, .mv, [.t 4], none⟩,
            ⟨some 61, .call n_impl_WeightOf 31232, [.t 59, .t 60], none⟩,
            ⟨some 62, .bin .gtr, [.t 58, .t 61], none⟩] [56, 57, 58, 59, 60, 61])
          (.cond (.t 62) [62]
            (.seq
              (.region false [⟨some 2, .mv, [.c (.b false)], none⟩] [3, 4, 6])
              .ret)
            .skip)))
      (.region false [⟨some 54, .mv, [.t 6], none⟩,
        ⟨some 55, .bin .add, [.t 54, .c (.i 1)], none⟩,
        ⟨some 6, .mv, [.t 55], none⟩] [54, 55])))
def F_laws_FnLikeliestState_W1 : LC := .loop F_laws_FnLikeliestState_L1
def F_laws_FnLikeliestState : LF :=
  { nparams := 1, results := [.t 2], body :=
    (.seq
      (.region false [⟨some 2, .mv, [.c (.b false)], none⟩] [2])
      (.seq
        (.seq
          (.region false [⟨some 7, .mv, [.t 0], none⟩,
            ⟨some 8, .len, [.t 7], none⟩,
            ⟨some 9, .bin .gtr, [.t 8, .c (.i 1048576)], none⟩] [7, 8])
          (.cond (.t 9) [9]
            (.seq
              (.region false [⟨some 2, .mv, [.c (.b true)], none⟩] [0])
              .ret)
            .skip))
        (.seq
          (.region false [⟨some 10, .mv, [.t 0], none⟩,
            ⟨some 11, .call n_spec_DrawLikeliestState 5632, [.t 10], none⟩,
            ⟨some 3, .mv, [.t 11], none⟩] [0, 10, 11])
          (.seq
            (.region false [⟨some 12, .mv, [.t 3], none⟩,
              ⟨some 13, .call n_impl_LikeliestState 6656, [.t 12], none⟩,
              ⟨some 4, .mv, [.t 13], none⟩] [12, 13])
            (.seq
              (.seq
                (.region false [⟨some 14, .mv, [.t 4], none⟩,
                  ⟨some 15, .mv, [.t 3], none⟩,
                  ⟨some 16, .call n_spec_LikeliestState 8192, [.t 15], none⟩,
                  ⟨some 17, .bin .neq, [.t 14, .t 16], none⟩] [14, 15, 16])
                (.cond (.t 17) [17]
                  (.seq
                    (.region false [⟨some 2, .mv, [.c (.b false)], none⟩] [3, 4])
                    .ret)
                  .skip))
              (.seq
                (.seq
                  (.region false [⟨some 18, .mv, [.t 4], none⟩,
                    ⟨some 19, .bin .lss, [.t 18, .c (.i 0)], none⟩] [18])
                  (.cond (.t 19) [19]
                    (.seq
                      (.region false [⟨some 20, .mv, [.t 4], none⟩,
                        ⟨some 21, .bin .eql, [.t 20, .c (.i (-1))], none⟩,
                        ⟨some 22, .mv, [.t 21], none⟩,
                        ⟨some 23, .mv, [.t 3], some (22, true)⟩,
                        ⟨some 24, .call n_impl_TestsOk 12288, [.t 23], some (22, true)⟩,
                        ⟨some 25, .un .not, [.t 24], some (22, true)⟩,
                        ⟨some 26, .pick, [.t 22, .t 25, .c (.b false)], none⟩,
                        ⟨some 27, .mv, [.t 26], none⟩,
                        ⟨some 28, .call n_laws_alive 14336, [], some (27, true)⟩,
                        ⟨some 29, .pick, [.t 27, .t 28, .c (.b false)], none⟩,
                        ⟨some 2, .mv, [.t 29], none⟩] [3, 4, 20, 21, 22, 23, 24, 25, 26, 27, 28, 29])
                      .ret)
                    .skip))
                (.seq
                  (.seq
                    (.region false [⟨some 5, .mv, [.c (.i 0)], none⟩] [])
                    (.block 0
                      F_laws_FnLikeliestState_W0))
                  (.seq
                    (.seq
                      (.region false [⟨some 6, .mv, [.c (.i 0)], none⟩] [5])
                      (.block 2
                        F_laws_FnLikeliestState_W1))
                    (.seq
                      (.region false [⟨some 2, .mv, [.c (.b true)], none⟩] [3, 4, 6])
                      .ret))))))))) }
/-- laws.FnWhereParts -/
def F_laws_FnWhereParts : LF :=
  { nparams := 1, results := [.t 2], body :=
    (.seq
      (.region false [⟨some 2, .mv, [.c (.b false)], none⟩] [2])
      (.seq
        (.seq
          (.region false [⟨some 9, .mv, [.t 0], none⟩,
            ⟨some 10, .len, [.t 9], none⟩,
            ⟨some 11, .bin .gtr, [.t 10, .c (.i 1048576)], none⟩] [9, 10])
          (.cond (.t 11) [11]
            (.seq
              (.region false [⟨some 2, .mv, [.c (.b true)], none⟩] [0])
              .ret)
            .skip))
        (.seq
          (.region false [⟨some 13, .mv, [.t 0], none⟩,
            ⟨some 14, .call n_spec_DrawWeightWhere 7168, [.t 13], none⟩,
            ⟨some 12, .mv, [.t 14], none⟩,
            ⟨some 15, .ext 0, [.t 12], none⟩,
            ⟨some 16, .ext 1, [.t 12], none⟩,
            ⟨some 3, .mv, [.t 15], none⟩,
            ⟨some 4, .mv, [.t 16], none⟩] [0, 12, 13, 14, 15, 16])
          (.seq
            (.seq
              (.region false [⟨some 17, .mv, [.t 3], none⟩,
                ⟨some 18, .mv, [.t 4], none⟩,
                ⟨some 19, .call n_spec_WeightWhere 9728, [.t 17, .t 18], none⟩,
                ⟨some 20, .bin .lss, [.t 19, .c (.i 0)], none⟩] [17, 18, 19])
              (.cond (.t 20) [20]
                (.seq
                  (.region false [⟨some 21, .mv, [.t 3], none⟩,
                    ⟨some 22, .mv, [.t 4], none⟩,
                    ⟨some 23, .call n_impl_WeightWhere 11776, [.t 21, .t 22], none⟩,
                    ⟨some 24, .bin .eql, [.t 23, .c (.i (-1))], none⟩,
                    ⟨some 25, .mv, [.t 24], none⟩,
                    ⟨some 26, .call n_laws_alive 13312, [], some (25, true)⟩,
                    ⟨some 27, .pick, [.t 25, .t 26, .c (.b false)], none⟩,
                    ⟨some 2, .mv, [.t 27], none⟩] [3, 4, 21, 22, 23, 24, 25, 26, 27])
                  .ret)
                .skip))
            (.seq
              (.region false [⟨some 28, .bslice 14344 0 1 (.i 0) [], [], none⟩,
                ⟨some 29, .mv, [.t 4], none⟩,
                ⟨some 30, .app 15368 1, [.t 28, .t 29], none⟩,
                ⟨some 5, .mv, [.t 30], none⟩] [4, 28, 29, 30])
              (.seq
                (.region false [⟨some 31, .mv, [.t 5], none⟩,
                  ⟨some 32, .idxa 1, [.t 31, .c (.i 0)], none⟩,
                  ⟨none, .store 1, [.t 32, .c (.i (-1))], none⟩] [31, 32])
                (.seq
                  (.region false [⟨some 33, .mv, [.t 3], none⟩,
                    ⟨some 34, .mv, [.t 5], none⟩,
                    ⟨some 35, .call n_impl_WeightWhere 17920, [.t 33, .t 34], none⟩,
                    ⟨some 6, .mv, [.t 35], none⟩] [33, 34, 35])
                  (.seq
                    (.region false [⟨some 36, .mv, [.t 5], none⟩,
                      ⟨some 37, .idxa 1, [.t 36, .c (.i 0)], none⟩,
                      ⟨none, .store 1, [.t 37, .c (.i 0)], none⟩] [36, 37])
                    (.seq
                      (.region false [⟨some 38, .mv, [.t 3], none⟩,
                        ⟨some 39, .mv, [.t 5], none⟩,
                        ⟨some 40, .call n_impl_WeightWhere 20480, [.t 38, .t 39], none⟩,
                        ⟨some 7, .mv, [.t 40], none⟩] [38, 39, 40])
                      (.seq
                        (.region false [⟨some 41, .mv, [.t 5], none⟩,
                          ⟨some 42, .idxa 1, [.t 41, .c (.i 0)], none⟩,
                          ⟨none, .store 1, [.t 42, .c (.i 1)], none⟩] [41, 42])
                        (.seq
                          (.region false [⟨some 43, .mv, [.t 3], none⟩,
                            ⟨some 44, .mv, [.t 5], none⟩,
                            ⟨some 45, .call n_impl_WeightWhere 23040, [.t 43, .t 44], none⟩,
                            ⟨some 8, .mv, [.t 45], none⟩] [3, 5, 43, 44, 45])
                          (.seq
                            (.region false [⟨some 46, .call n_laws_alive 23552, [], none⟩,
                              ⟨some 47, .mv, [.t 46], none⟩,
                              ⟨some 48, .mv, [.t 7], some (47, true)⟩,
                              ⟨some 49, .bin .gtr, [.t 48, .c (.i 0)], some (47, true)⟩,
                              ⟨some 50, .mv, [.t 49], some (47, true)⟩,
                              ⟨some 51, .mv, [.t 8], some (50, true)⟩,
                              ⟨some 52, .bin .gtr, [.t 51, .c (.i 0)], some (50, true)⟩,
                              ⟨some 53, .pick, [.t 50, .t 52, .c (.b false)], some (47, true)⟩,
                              ⟨some 54, .mv, [.t 53], some (47, true)⟩,
                              ⟨some 55, .mv, [.t 7], some (54, true)⟩,
                              ⟨some 56, .mv, [.t 8], some (54, true)⟩,
                              ⟨some 57, .bin .add, [.t 55, .t 56], some (54, true)⟩,
                              ⟨some 58, .mv, [.t 6], some (54, true)⟩,
                              ⟨some 59, .bin .eql, [.t 57, .t 58], some (54, true)⟩,
                              ⟨some 60, .pick, [.t 54, .t 59, .c (.b false)], some (47, true)⟩,
                              ⟨some 61, .pick, [.t 47, .t 60, .c (.b false)], none⟩,
                              ⟨some 2, .mv, [.t 61], none⟩] [6, 7, 8, 46, 47, 48, 49, 50, 51, 52, 53, 54, 55, 56, 57, 58, 59, 60, 61])
                            .ret)))))))))))) }
/-- laws.FnExactTestsOk -/
def F_laws_FnExactTestsOk : LF :=
  { nparams := 1, results := [.t 2], body :=
    (.seq
      (.region false [⟨some 2, .mv, [.c (.b false)], none⟩] [2])
      (.seq
        (.region false [⟨some 3, .mv, [.c (.i 1048576)], none⟩] [])
        (.seq
          (.region false [⟨some 7, .mv, [.t 0], none⟩,
            ⟨some 8, .mv, [.t 3], none⟩,
            ⟨some 9, .call n_laws_szTestS 4608, [.t 7, .t 8], none⟩,
            ⟨some 3, .mv, [.t 9], none⟩] [7, 8, 9])
          (.seq
            (.seq
              (.region false [⟨some 10, .mv, [.t 3], none⟩,
                ⟨some 11, .bin .lss, [.t 10, .c (.i 0)], none⟩] [3, 10])
              (.cond (.t 11) [11]
                (.seq
                  (.region false [⟨some 2, .mv, [.c (.b true)], none⟩] [0])
                  .ret)
                .skip))
            (.seq
              (.region false [⟨some 12, .mv, [.t 0], none⟩,
                ⟨some 13, .call n_laws_toTestS 6656, [.t 12], none⟩,
                ⟨some 14, .call n_spec_TestsOk 7168, [.t 13], none⟩,
                ⟨some 4, .mv, [.t 14], none⟩] [12, 13, 14])
              (.seq
                (.region false [⟨some 15, .mv, [.t 0], none⟩,
                  ⟨some 16, .call n_laws_toTestS 8192, [.t 15], none⟩,
                  ⟨some 5, .mv, [.t 16], none⟩] [15, 16])
                (.seq
                  (.region false [⟨some 17, .mv, [.t 5], none⟩,
                    ⟨some 18, .call n_impl_TestsOk 9216, [.t 17], none⟩,
                    ⟨some 6, .mv, [.t 18], none⟩] [17, 18])
                  (.seq
                    (.seq
                      (.region false [⟨some 19, .mv, [.t 6], none⟩,
                        ⟨some 20, .mv, [.t 4], none⟩,
                        ⟨some 21, .eqb true, [.t 19, .t 20], none⟩] [4, 6, 19, 20])
                      (.cond (.t 21) [21]
                        (.seq
                          (.region false [⟨some 2, .mv, [.c (.b false)], none⟩] [0, 5])
                          .ret)
                        .skip))
                    (.seq
                      (.seq
                        (.region false [⟨some 22, .mv, [.t 5], none⟩,
                          ⟨some 23, .mv, [.t 0], none⟩,
                          ⟨some 24, .call n_laws_toTestS 12288, [.t 23], none⟩,
                          ⟨some 25, .call n_laws_eqTestS 12800, [.t 22, .t 24], none⟩,
                          ⟨some 26, .un .not, [.t 25], none⟩] [0, 5, 22, 23, 24, 25])
                        (.cond (.t 26) [26]
                          (.seq
                            (.region false [⟨some 2, .mv, [.c (.b false)], none⟩] [])
                            .ret)
                          .skip))
                      (.seq
                        (.region false [⟨some 2, .mv, [.c (.b true)], none⟩] [])
                        .ret)))))))))) }
/-- laws.FnExactStateOk -/
def F_laws_FnExactStateOk : LF :=
  { nparams := 2, results := [.t 4], body :=
    (.seq
      (.region false [⟨some 4, .mv, [.c (.b false)], none⟩] [4])
      (.seq
        (.region false [⟨some 7, .mv, [.t 0], none⟩,
          ⟨some 8, .mv, [.t 1], none⟩,
          ⟨some 9, .call n_spec_StateOk 4608, [.t 7, .t 8], none⟩,
          ⟨some 5, .mv, [.t 9], none⟩] [7, 8, 9])
        (.seq
          (.region false [⟨some 10, .mv, [.t 0], none⟩,
            ⟨some 11, .mv, [.t 1], none⟩,
            ⟨some 12, .call n_impl_StateOk 6144, [.t 10, .t 11], none⟩,
            ⟨some 6, .mv, [.t 12], none⟩] [0, 1, 10, 11, 12])
          (.seq
            (.seq
              (.region false [⟨some 13, .mv, [.t 6], none⟩,
                ⟨some 14, .mv, [.t 5], none⟩,
                ⟨some 15, .eqb true, [.t 13, .t 14], none⟩] [5, 6, 13, 14])
              (.cond (.t 15) [15]
                (.seq
                  (.region false [⟨some 4, .mv, [.c (.b false)], none⟩] [])
                  .ret)
                .skip))
            (.seq
              (.region false [⟨some 4, .mv, [.c (.b true)], none⟩] [])
              .ret))))) }
/-- spec.DrawTestsOk -/
def F_spec_DrawTestsOk : LF :=
  { nparams := 1, results := [.t 2], body :=
    (.seq
      (.region false [⟨some 2, .newnil 1040, [], none⟩] [2])
      (.seq
        (.region false [⟨some 3, .mv, [.t 0], none⟩,
          ⟨some 4, .call n_spec_l20Open 2048, [.t 3], none⟩,
          ⟨some 5, .call n_spec_l20Tests 2560, [.t 4, .c (.i 2)], none⟩,
          ⟨some 2, .mv, [.t 5], none⟩] [0, 3, 4, 5])
        .ret)) }
/-- impl.TestsOk -/
def F_impl_TestsOk_L0 : LC :=
  (.seq
    (.region false [⟨some 12, .bin .lss, [.t 11, .t 10], none⟩] [])
    (.seq
      (.cond (.t 12) [12]
        .skip
        (.exit 0))
      (.seq
        (.block 1
          (.seq
            (.region false [⟨some 13, .idxa 2, [.t 9, .t 11], none⟩,
              ⟨some 14, .load 2 true, [.t 13], none⟩,
              ⟨some 4, .alloc 2064 (.st [.i 0, .i 0]), [], none⟩,
              ⟨none, .store 2, [.t 4, .t 14], none⟩] [13, 14])
            (.seq
              (.region false [⟨some 15, .fld 0 1 false, [.t 4], none⟩,
                ⟨some 16, .load 1 false, [.t 15], none⟩,
                ⟨some 17, .call n_impl_isWithin 8704, [.t 16, .c (.i 1), .c (.i 9)], none⟩,
                ⟨some 18, .un .not, [.t 17], none⟩,
                ⟨some 19, .mv, [.t 18], none⟩,
                ⟨some 20, .fld 1 1 false, [.t 4], some (19, false)⟩,
                ⟨some 21, .load 1 false, [.t 20], some (19, false)⟩,
                ⟨some 22, .call n_impl_isWithin 11264, [.t 21, .c (.i 1), .c (.i 5)], some (19, false)⟩,
                ⟨some 23, .un .not, [.t 22], some (19, false)⟩,
                ⟨some 24, .pick, [.t 19, .c (.b true), .t 23], none⟩] [4, 15, 16, 17, 18, 19, 20, 21, 22, 23])
              (.cond (.t 24) [24]
                (.seq
                  (.region false [⟨some 2, .mv, [.c (.b false)], none⟩] [9, 10, 11])
                  .ret)
                .skip))))
        (.region false [⟨some 25, .bin .add, [.t 11, .c (.i 1)], none⟩,
          ⟨some 11, .mv, [.t 25], none⟩] [25]))))
def F_impl_TestsOk_W0 : LC := .loop F_impl_TestsOk_L0
def F_impl_TestsOk : LF :=
  { nparams := 1, results := [.t 2], body :=
    (.seq
      (.region false [⟨some 2, .mv, [.c (.b false)], none⟩] [2])
      (.seq
        (.seq
          (.region false [⟨some 5, .mv, [.t 0], none⟩,
            ⟨some 6, .len, [.t 5], none⟩,
            ⟨some 7, .call n_impl_manyOk 3584, [.t 6], none⟩,
            ⟨some 8, .un .not, [.t 7], none⟩] [5, 6, 7])
          (.cond (.t 8) [8]
            (.seq
              (.region false [⟨some 2, .mv, [.c (.b false)], none⟩] [0])
              .ret)
            .skip))
        (.seq
          (.seq
            (.region false [⟨some 9, .mv, [.t 0], none⟩,
              ⟨some 10, .len, [.t 9], none⟩,
              ⟨some 11, .mv, [.c (.i 0)], none⟩] [0])
            (.block 0
              F_impl_TestsOk_W0))
          (.seq
            (.region false [⟨some 2, .mv, [.c (.b true)], none⟩] [9, 10, 11])
            .ret)))) }
/-- spec.TestsOk -/
def F_spec_TestsOk_L0 : LC :=
  (.seq
    (.seq
      (.region false [⟨some 4, .mv, [.t 3], none⟩,
        ⟨some 5, .mv, [.t 0], none⟩,
        ⟨some 6, .len, [.t 5], none⟩,
        ⟨some 7, .bin .lss, [.t 4, .t 6], none⟩] [4, 5, 6])
      (.cond (.t 7) [7]
        .skip
        (.exit 0)))
    (.seq
      (.block 1
        (.seq
          (.region false [⟨some 10, .mv, [.t 0], none⟩,
            ⟨some 11, .mv, [.t 3], none⟩,
            ⟨some 12, .idxa 2, [.t 10, .t 11], none⟩,
            ⟨some 13, .fld 0 1 false, [.t 12], none⟩,
            ⟨some 14, .load 1 false, [.t 13], none⟩,
            ⟨some 15, .call n_spec_l1In 7680, [.t 14, .c (.i 1), .c (.i 9)], none⟩,
            ⟨some 16, .un .not, [.t 15], none⟩,
            ⟨some 17, .mv, [.t 16], none⟩,
            ⟨some 18, .mv, [.t 0], some (17, false)⟩,
            ⟨some 19, .mv, [.t 3], some (17, false)⟩,
            ⟨some 20, .idxa 2, [.t 18, .t 19], some (17, false)⟩,
            ⟨some 21, .fld 1 1 false, [.t 20], some (17, false)⟩,
            ⟨some 22, .load 1 false, [.t 21], some (17, false)⟩,
            ⟨some 23, .call n_spec_l1In 11776, [.t 22, .c (.i 1), .c (.i 5)], some (17, false)⟩,
            ⟨some 24, .un .not, [.t 23], some (17, false)⟩,
            ⟨some 25, .pick, [.t 17, .c (.b true), .t 24], none⟩] [10, 11, 12, 13, 14, 15, 16, 17, 18, 19, 20, 21, 22, 23, 24])
          (.cond (.t 25) [25]
            (.seq
              (.region false [⟨some 2, .mv, [.c (.b false)], none⟩] [0, 3])
              .ret)
            .skip)))
      (.region false [⟨some 8, .mv, [.t 3], none⟩,
        ⟨some 9, .bin .add, [.t 8, .c (.i 1)], none⟩,
        ⟨some 3, .mv, [.t 9], none⟩] [8, 9])))
def F_spec_TestsOk_W0 : LC := .loop F_spec_TestsOk_L0
def F_spec_TestsOk : LF :=
  { nparams := 1, results := [.t 2], body :=
    (.seq
      (.region false [⟨some 2, .mv, [.c (.b false)], none⟩] [2])
      (.seq
        (.seq
          (.region false [⟨some 3, .mv, [.c (.i 0)], none⟩] [])
          (.block 0
            F_spec_TestsOk_W0))
        (.seq
          (.region false [⟨some 26, .mv, [.t 0], none⟩,
            ⟨some 27, .len, [.t 26], none⟩,
            ⟨some 28, .call n_spec_l1In 14336, [.t 27, .c (.i 1), .c (.i 5)], none⟩,
            ⟨some 2, .mv, [.t 28], none⟩] [0, 3, 26, 27, 28])
          .ret))) }
/-- laws.alive -/
def F_laws_alive : LF :=
  { nparams := 0, results := [.t 0], body :=
    (.seq
      (.region false [⟨some 0, .mv, [.c (.b false)], none⟩] [0])
      (.seq
        (.region false [⟨some 1, .build [.i 0, .i 0] [(0, 1), (1, 1)], [.c (.i 1), .c (.i 1)], none⟩,
          ⟨some 2, .bslice 1040 1 2 (.st [.i 0, .i 0]) [0], [.t 1], none⟩,
          ⟨some 3, .call n_impl_TestsOk 1536, [.t 2], none⟩,
          ⟨some 4, .mv, [.t 3], none⟩,
          ⟨some 5, .build [.i 0, .i 0] [], [], some (4, true)⟩,
          ⟨some 6, .bslice 3088 1 2 (.st [.i 0, .i 0]) [0], [.t 5], some (4, true)⟩,
          ⟨some 7, .call n_impl_TestsOk 3584, [.t 6], some (4, true)⟩,
          ⟨some 8, .un .not, [.t 7], some (4, true)⟩,
          ⟨some 9, .pick, [.t 4, .t 8, .c (.b false)], none⟩,
          ⟨some 0, .mv, [.t 9], none⟩] [1, 2, 3, 4, 5, 6, 7, 8, 9])
        .ret)) }
/-- spec.DrawStateOk -/
def F_spec_DrawStateOk : LF :=
  { nparams := 1, results := [.t 2, .t 3], body :=
    (.seq
      (.region false [⟨some 2, .mv, [.c (.i 0)], none⟩,
        ⟨some 3, .mv, [.c (.i 0)], none⟩] [2, 3])
      (.seq
        (.region false [⟨some 5, .mv, [.t 0], none⟩,
          ⟨some 6, .call n_spec_l20Open 3072, [.t 5], none⟩,
          ⟨some 4, .mv, [.t 6], none⟩] [0, 5, 6])
        (.seq
          (.region false [⟨some 7, .mv, [.t 4], none⟩,
            ⟨some 8, .call n_spec_l20Rd_pick 4096, [.t 7, .c (.i 7)], none⟩,
            ⟨some 9, .mv, [.t 4], none⟩,
            ⟨some 10, .call n_spec_l20Rd_pick 5120, [.t 9, .c (.i 34)], none⟩,
            ⟨some 11, .bin .sub, [.t 10, .c (.i 1)], none⟩,
            ⟨some 2, .mv, [.t 8], none⟩,
            ⟨some 3, .mv, [.t 11], none⟩] [4, 7, 8, 9, 10, 11])
          .ret))) }
/-- impl.StateOk -/
def F_impl_StateOk : LF :=
  { nparams := 2, results := [.t 4], body :=
    (.seq
      (.region false [⟨some 4, .mv, [.c (.b false)], none⟩] [4])
      (.seq
        (.region false [⟨some 5, .mv, [.t 0], none⟩,
          ⟨some 6, .call n_impl_manyOk 3072, [.t 5], none⟩,
          ⟨some 7, .mv, [.t 6], none⟩,
          ⟨some 8, .mv, [.t 1], some (7, true)⟩,
          ⟨some 9, .mv, [.t 0], some (7, true)⟩,
          ⟨some 10, .call n_impl_statesOf 5120, [.t 9], some (7, true)⟩,
          ⟨some 11, .bin .sub, [.t 10, .c (.i 1)], some (7, true)⟩,
          ⟨some 12, .call n_impl_isWithin 6144, [.t 8, .c (.i 0), .t 11], some (7, true)⟩,
          ⟨some 13, .pick, [.t 7, .t 12, .c (.b false)], none⟩,
          ⟨some 4, .mv, [.t 13], none⟩] [0, 1, 5, 6, 7, 8, 9, 10, 11, 12, 13])
        .ret)) }
/-- spec.StateOk -/
def F_spec_StateOk : LF :=
  { nparams := 2, results := [.t 4], body :=
    (.seq
      (.region false [⟨some 4, .mv, [.c (.b false)], none⟩] [4])
      (.seq
        (.region false [⟨some 5, .mv, [.t 0], none⟩,
          ⟨some 6, .call n_spec_l1In 3072, [.t 5, .c (.i 1), .c (.i 5)], none⟩,
          ⟨some 7, .mv, [.t 6], none⟩,
          ⟨some 8, .mv, [.t 1], some (7, true)⟩,
          ⟨some 9, .mv, [.t 0], some (7, true)⟩,
          ⟨some 10, .bin .shl, [.c (.i 1), .t 9], some (7, true)⟩,
          ⟨some 11, .bin .sub, [.t 10, .c (.i 1)], some (7, true)⟩,
          ⟨some 12, .call n_spec_l1In 6144, [.t 8, .c (.i 0), .t 11], some (7, true)⟩,
          ⟨some 13, .pick, [.t 7, .t 12, .c (.b false)], none⟩,
          ⟨some 4, .mv, [.t 13], none⟩] [0, 1, 5, 6, 7, 8, 9, 10, 11, 12, 13])
        .ret)) }
/-- spec.DrawWeightOf -/
def F_spec_DrawWeightOf : LF :=
  { nparams := 1, results := [.t 2, .t 3], body :=
    (.seq
      (.region false [⟨some 2, .newnil 1040, [], none⟩,
        ⟨some 3, .mv, [.c (.i 0)], none⟩] [2, 3])
      (.seq
        (.region false [⟨some 6, .mv, [.t 0], none⟩,
          ⟨some 7, .call n_spec_l20Open 3584, [.t 6], none⟩,
          ⟨some 4, .mv, [.t 7], none⟩] [0, 6, 7])
        (.seq
          (.region false [⟨some 8, .mv, [.t 4], none⟩,
            ⟨some 9, .call n_spec_l20Tests 4608, [.t 8, .c (.i 12)], none⟩,
            ⟨some 5, .mv, [.t 9], none⟩] [8, 9])
          (.seq
            (.region false [⟨some 10, .mv, [.t 5], none⟩,
              ⟨some 11, .mv, [.t 4], none⟩,
              ⟨some 12, .mv, [.t 5], none⟩,
              ⟨some 13, .len, [.t 12], none⟩,
              ⟨some 14, .bin .shl, [.c (.i 1), .t 13], none⟩,
              ⟨some 15, .call n_spec_l20Rd_pick 7680, [.t 11, .t 14], none⟩,
              ⟨some 16, .mv, [.t 4], none⟩,
              ⟨some 17, .call n_spec_l20Rd_pick 8704, [.t 16, .c (.i 40)], none⟩,
              ⟨some 18, .bin .quo, [.t 17, .c (.i 39)], none⟩,
              ⟨some 19, .bin .mul, [.t 18, .c (.i 32)], none⟩,
              ⟨some 20, .bin .add, [.t 15, .t 19], none⟩,
              ⟨some 2, .mv, [.t 10], none⟩,
              ⟨some 3, .mv, [.t 20], none⟩] [4, 5, 10, 11, 12, 13, 14, 15, 16, 17, 18, 19, 20])
            .ret)))) }
/-- impl.WeightOf -/
def F_impl_WeightOf_L0 : LC :=
  (.seq
    (.region false [⟨some 21, .bin .lss, [.t 20, .t 19], none⟩] [])
    (.seq
      (.cond (.t 21) [21]
        .skip
        (.exit 0))
      (.seq
        (.block 1
          (.seq
            (.region false [⟨some 22, .mv, [.t 20], none⟩,
              ⟨some 23, .idxa 2, [.t 18, .t 20], none⟩,
              ⟨some 24, .load 2 true, [.t 23], none⟩,
              ⟨some 7, .alloc 3600 (.st [.i 0, .i 0]), [], none⟩,
              ⟨some 6, .mv, [.t 22], none⟩,
              ⟨none, .store 2, [.t 7, .t 24], none⟩] [22, 23, 24])
            (.seq
              (.region false [⟨some 25, .mv, [.t 1], none⟩,
                ⟨some 26, .mv, [.t 6], none⟩,
                ⟨some 27, .call n_impl_outcomeIn 13824, [.t 25, .t 26], none⟩,
                ⟨some 28, .bin .eql, [.t 27, .c (.i 1)], none⟩] [6, 25, 26, 27])
              (.cond (.t 28) [28]
                (.region false [⟨some 29, .mv, [.t 5], none⟩,
                  ⟨some 30, .fld 1 1 false, [.t 7], none⟩,
                  ⟨some 31, .load 1 false, [.t 30], none⟩,
                  ⟨some 32, .bin .mul, [.t 29, .t 31], none⟩,
                  ⟨some 5, .mv, [.t 32], none⟩] [7, 29, 30, 31, 32])
                (.region false [⟨some 33, .mv, [.t 5], none⟩,
                  ⟨some 34, .fld 1 1 false, [.t 7], none⟩,
                  ⟨some 35, .load 1 false, [.t 34], none⟩,
                  ⟨some 36, .bin .sub, [.c (.i 6), .t 35], none⟩,
                  ⟨some 37, .bin .mul, [.t 33, .t 36], none⟩,
                  ⟨some 5, .mv, [.t 37], none⟩] [7, 33, 34, 35, 36, 37])))))
        (.region false [⟨some 38, .bin .add, [.t 20, .c (.i 1)], none⟩,
          ⟨some 20, .mv, [.t 38], none⟩] [38]))))
def F_impl_WeightOf_W0 : LC := .loop F_impl_WeightOf_L0
def F_impl_WeightOf : LF :=
  { nparams := 2, results := [.t 4], body :=
    (.seq
      (.region false [⟨some 4, .mv, [.c (.i 0)], none⟩] [4])
      (.seq
        (.seq
          (.region false [⟨some 8, .mv, [.t 0], none⟩,
            ⟨some 9, .call n_impl_TestsOk 4608, [.t 8], none⟩,
            ⟨some 10, .un .not, [.t 9], none⟩,
            ⟨some 11, .mv, [.t 10], none⟩,
            ⟨some 12, .mv, [.t 0], some (11, false)⟩,
            ⟨some 13, .len, [.t 12], some (11, false)⟩,
            ⟨some 14, .mv, [.t 1], some (11, false)⟩,
            ⟨some 15, .call n_impl_StateOk 7680, [.t 13, .t 14], some (11, false)⟩,
            ⟨some 16, .un .not, [.t 15], some (11, false)⟩,
            ⟨some 17, .pick, [.t 11, .c (.b true), .t 16], none⟩] [8, 9, 10, 11, 12, 13, 14, 15, 16])
          (.cond (.t 17) [17]
            (.seq
              (.region false [⟨some 4, .mv, [.c (.i (-1))], none⟩] [0, 1])
              .ret)
            .skip))
        (.seq
          (.region false [⟨some 5, .mv, [.c (.i 1)], none⟩] [])
          (.seq
            (.seq
              (.region false [⟨some 18, .mv, [.t 0], none⟩,
                ⟨some 19, .len, [.t 18], none⟩,
                ⟨some 20, .mv, [.c (.i 0)], none⟩] [0])
              (.block 0
                F_impl_WeightOf_W0))
            (.seq
              (.region false [⟨some 39, .mv, [.t 5], none⟩,
                ⟨some 4, .mv, [.t 39], none⟩] [1, 5, 18, 19, 20, 39])
              .ret))))) }
/-- spec.WeightOf -/
def F_spec_WeightOf : LF :=
  { nparams := 2, results := [.t 4], body :=
    (.seq
      (.region false [⟨some 4, .mv, [.c (.i 0)], none⟩] [4])
      (.seq
        (.seq
          (.region false [⟨some 5, .mv, [.t 0], none⟩,
            ⟨some 6, .call n_spec_TestsOk 3072, [.t 5], none⟩,
            ⟨some 7, .un .not, [.t 6], none⟩,
            ⟨some 8, .mv, [.t 7], none⟩,
            ⟨some 9, .mv, [.t 0], some (8, false)⟩,
            ⟨some 10, .len, [.t 9], some (8, false)⟩,
            ⟨some 11, .mv, [.t 1], some (8, false)⟩,
            ⟨some 12, .call n_spec_StateOk 6144, [.t 10, .t 11], some (8, false)⟩,
            ⟨some 13, .un .not, [.t 12], some (8, false)⟩,
            ⟨some 14, .pick, [.t 8, .c (.b true), .t 13], none⟩] [5, 6, 7, 8, 9, 10, 11, 12, 13])
          (.cond (.t 14) [14]
            (.seq
              (.region false [⟨some 4, .mv, [.c (.i (-1))], none⟩] [0, 1])
              .ret)
            .skip))
        (.seq
          (.region false [⟨some 15, .mv, [.t 0], none⟩,
            ⟨some 16, .mv, [.t 1], none⟩,
            ⟨some 17, .call n_spec_l1Weight 8704, [.t 15, .t 16], none⟩,
            ⟨some 4, .mv, [.t 17], none⟩] [0, 1, 15, 16, 17])
          .ret))) }
/-- laws.power -/
def F_laws_power_L0 : LC :=
  (.seq
    (.seq
      (.region false [⟨some 5, .mv, [.t 4], none⟩,
        ⟨some 6, .mv, [.t 0], none⟩,
        ⟨some 7, .bin .lss, [.t 5, .t 6], none⟩] [5, 6])
      (.cond (.t 7) [7]
        .skip
        (.exit 0)))
    (.seq
      (.block 1
        (.region false [⟨some 10, .mv, [.t 3], none⟩,
          ⟨some 11, .bin .mul, [.t 10, .c (.i 6)], none⟩,
          ⟨some 3, .mv, [.t 11], none⟩] [10, 11]))
      (.region false [⟨some 8, .mv, [.t 4], none⟩,
        ⟨some 9, .bin .add, [.t 8, .c (.i 1)], none⟩,
        ⟨some 4, .mv, [.t 9], none⟩] [8, 9])))
def F_laws_power_W0 : LC := .loop F_laws_power_L0
def F_laws_power : LF :=
  { nparams := 1, results := [.t 2], body :=
    (.seq
      (.region false [⟨some 2, .mv, [.c (.i 0)], none⟩] [2])
      (.seq
        (.region false [⟨some 3, .mv, [.c (.i 1)], none⟩] [])
        (.seq
          (.seq
            (.region false [⟨some 4, .mv, [.c (.i 0)], none⟩] [])
            (.block 0
              F_laws_power_W0))
          (.seq
            (.region false [⟨some 12, .mv, [.t 3], none⟩,
              ⟨some 2, .mv, [.t 12], none⟩] [0, 3, 4, 12])
            .ret)))) }
/-- impl.OtherTests -/
def F_impl_OtherTests_L0 : LC :=
  (.seq
    (.region false [⟨some 15, .bin .lss, [.t 14, .t 13], none⟩] [])
    (.seq
      (.cond (.t 15) [15]
        .skip
        (.exit 0))
      (.seq
        (.block 1
          (.seq
            (.region false [⟨some 16, .mv, [.t 14], none⟩,
              ⟨some 17, .idxa 2, [.t 12, .t 14], none⟩,
              ⟨some 18, .load 2 true, [.t 17], none⟩,
              ⟨some 5, .alloc 2576 (.st [.i 0, .i 0]), [], none⟩,
              ⟨some 4, .mv, [.t 16], none⟩,
              ⟨none, .store 2, [.t 5, .t 18], none⟩] [16, 17, 18])
            (.region false [⟨some 19, .mv, [.t 3], none⟩,
              ⟨some 20, .mv, [.t 4], none⟩,
              ⟨some 21, .fld 0 1 false, [.t 5], none⟩,
              ⟨some 22, .load 1 false, [.t 21], none⟩,
              ⟨some 23, .fld 1 1 false, [.t 5], none⟩,
              ⟨some 24, .load 1 false, [.t 23], none⟩,
              ⟨some 25, .bin .sub, [.c (.i 6), .t 24], none⟩,
              ⟨some 26, .build [.i 0, .i 0] [(0, 1), (1, 1)], [.t 22, .t 25], none⟩,
              ⟨some 27, .idxa 2, [.t 19, .t 20], none⟩,
              ⟨none, .store 2, [.t 27, .t 26], none⟩] [4, 5, 19, 20, 21, 22, 23, 24, 25, 26, 27])))
        (.region false [⟨some 28, .bin .add, [.t 14, .c (.i 1)], none⟩,
          ⟨some 14, .mv, [.t 28], none⟩] [28]))))
def F_impl_OtherTests_W0 : LC := .loop F_impl_OtherTests_L0
def F_impl_OtherTests : LF :=
  { nparams := 1, results := [.t 2], body :=
    (.seq
      (.region false [⟨some 2, .newnil 1040, [], none⟩] [2])
      (.seq
        (.seq
          (.region false [⟨some 6, .mv, [.t 0], none⟩,
            ⟨some 7, .call n_impl_TestsOk 3584, [.t 6], none⟩,
            ⟨some 8, .un .not, [.t 7], none⟩] [6, 7])
          (.cond (.t 8) [8]
            (.seq
              (.region false [⟨some 2, .newnil 1040, [], none⟩] [0])
              .ret)
            .skip))
        (.seq
          (.region false [⟨some 9, .mv, [.t 0], none⟩,
            ⟨some 10, .len, [.t 9], none⟩,
            ⟨some 11, .make 5648 2 (.st [.i 0, .i 0]), [.t 10, .t 10], none⟩,
            ⟨some 3, .mv, [.t 11], none⟩] [9, 10, 11])
          (.seq
            (.seq
              (.region false [⟨some 12, .mv, [.t 0], none⟩,
                ⟨some 13, .len, [.t 12], none⟩,
                ⟨some 14, .mv, [.c (.i 0)], none⟩] [0])
              (.block 0
                F_impl_OtherTests_W0))
            (.seq
              (.region false [⟨some 29, .mv, [.t 3], none⟩,
                ⟨some 2, .mv, [.t 29], none⟩] [3, 12, 13, 14, 29])
              .ret))))) }
/-- spec.DrawOtherTests -/
def F_spec_DrawOtherTests : LF :=
  { nparams := 1, results := [.t 2], body :=
    (.seq
      (.region false [⟨some 2, .newnil 1040, [], none⟩] [2])
      (.seq
        (.region false [⟨some 3, .mv, [.t 0], none⟩,
          ⟨some 4, .call n_spec_l20Open 2048, [.t 3], none⟩,
          ⟨some 5, .call n_spec_l20Tests 2560, [.t 4, .c (.i 9)], none⟩,
          ⟨some 2, .mv, [.t 5], none⟩] [0, 3, 4, 5])
        .ret)) }
/-- laws.sameTests -/
def F_laws_sameTests_L0 : LC :=
  (.seq
    (.seq
      (.region false [⟨some 11, .mv, [.t 5], none⟩,
        ⟨some 12, .mv, [.t 0], none⟩,
        ⟨some 13, .len, [.t 12], none⟩,
        ⟨some 14, .bin .lss, [.t 11, .t 13], none⟩] [11, 12, 13])
      (.cond (.t 14) [14]
        .skip
        (.exit 0)))
    (.seq
      (.block 1
        (.seq
          (.region true [⟨some 17, .mv, [.t 0], none⟩,
            ⟨some 18, .mv, [.t 5], none⟩,
            ⟨some 19, .idxa 2, [.t 17, .t 18], none⟩,
            ⟨some 20, .load 2 true, [.t 19], none⟩,
            ⟨some 21, .mv, [.t 1], none⟩,
            ⟨some 22, .mv, [.t 5], none⟩,
            ⟨some 23, .idxa 2, [.t 21, .t 22], none⟩,
            ⟨some 24, .load 2 true, [.t 23], none⟩,
            ⟨some 25, .eqs true 2, [.t 20, .t 24], none⟩] [17, 18, 19, 20, 21, 22, 23, 24])
          (.cond (.t 25) [25]
            (.seq
              (.region false [⟨some 4, .mv, [.c (.b false)], none⟩] [0, 1, 5])
              .ret)
            .skip)))
      (.region false [⟨some 15, .mv, [.t 5], none⟩,
        ⟨some 16, .bin .add, [.t 15, .c (.i 1)], none⟩,
        ⟨some 5, .mv, [.t 16], none⟩] [15, 16])))
def F_laws_sameTests_W0 : LC := .loop F_laws_sameTests_L0
def F_laws_sameTests : LF :=
  { nparams := 2, results := [.t 4], body :=
    (.seq
      (.region false [⟨some 4, .mv, [.c (.b false)], none⟩] [4])
      (.seq
        (.seq
          (.region false [⟨some 6, .mv, [.t 0], none⟩,
            ⟨some 7, .len, [.t 6], none⟩,
            ⟨some 8, .mv, [.t 1], none⟩,
            ⟨some 9, .len, [.t 8], none⟩,
            ⟨some 10, .bin .neq, [.t 7, .t 9], none⟩] [6, 7, 8, 9])
          (.cond (.t 10) [10]
            (.seq
              (.region false [⟨some 4, .mv, [.c (.b false)], none⟩] [0, 1])
              .ret)
            .skip))
        (.seq
          (.seq
            (.region false [⟨some 5, .mv, [.c (.i 0)], none⟩] [])
            (.block 0
              F_laws_sameTests_W0))
          (.seq
            (.region false [⟨some 4, .mv, [.c (.b true)], none⟩] [0, 1, 5])
            .ret)))) }
/-- spec.OtherTests -/
def F_spec_OtherTests_L0 : LC :=
  (.seq
    (.seq
      (.region false [⟨some 6, .mv, [.t 4], none⟩,
        ⟨some 7, .mv, [.t 0], none⟩,
        ⟨some 8, .len, [.t 7], none⟩,
        ⟨some 9, .bin .lss, [.t 6, .t 8], none⟩,
        ⟨some 10, .mv, [.t 9], none⟩,
        ⟨some 11, .mv, [.t 0], some (10, true)⟩,
        ⟨some 12, .call n_spec_TestsOk 6144, [.t 11], some (10, true)⟩,
        ⟨some 13, .pick, [.t 10, .t 12, .c (.b false)], none⟩] [6, 7, 8, 9, 10, 11, 12])
      (.cond (.t 13) [13]
        .skip
        (.exit 0)))
    (.seq
      (.block 1
        (.region true [⟨some 16, .mv, [.t 3], none⟩,
          ⟨some 17, .mv, [.t 0], none⟩,
          ⟨some 18, .mv, [.t 4], none⟩,
          ⟨some 19, .idxa 2, [.t 17, .t 18], none⟩,
          ⟨some 20, .fld 0 1 false, [.t 19], none⟩,
          ⟨some 21, .load 1 false, [.t 20], none⟩,
          ⟨some 22, .mv, [.t 0], none⟩,
          ⟨some 23, .mv, [.t 4], none⟩,
          ⟨some 24, .idxa 2, [.t 22, .t 23], none⟩,
          ⟨some 25, .fld 1 1 false, [.t 24], none⟩,
          ⟨some 26, .load 1 false, [.t 25], none⟩,
          ⟨some 27, .bin .sub, [.c (.i 6), .t 26], none⟩,
          ⟨some 28, .build [.i 0, .i 0] [(0, 1), (1, 1)], [.t 21, .t 27], none⟩,
          ⟨some 29, .bslice 14864 1 2 (.st [.i 0, .i 0]) [0], [.t 28], none⟩,
          ⟨some 30, .app 15376 2, [.t 16, .t 29], none⟩,
          ⟨some 3, .mv, [.t 30], none⟩] [16, 17, 18, 19, 20, 21, 22, 23, 24, 25, 26, 27, 28, 29, 30]))
      (.region false [⟨some 14, .mv, [.t 4], none⟩,
        ⟨some 15, .bin .add, [.t 14, .c (.i 1)], none⟩,
        ⟨some 4, .mv, [.t 15], none⟩] [14, 15])))
def F_spec_OtherTests_W0 : LC := .loop F_spec_OtherTests_L0
def F_spec_OtherTests : LF :=
  { nparams := 1, results := [.t 2], body :=
    (.seq
      (.region false [⟨some 2, .newnil 1040, [], none⟩] [2])
      (.seq
        (.region false [⟨some 5, .bslice 2576 0 2 (.st [.i 0, .i 0]) [], [], none⟩,
          ⟨some 3, .mv, [.t 5], none⟩] [5])
        (.seq
          (.seq
            (.region false [⟨some 4, .mv, [.c (.i 0)], none⟩] [])
            (.block 0
              F_spec_OtherTests_W0))
          (.seq
            (.region false [⟨some 31, .mv, [.t 3], none⟩,
              ⟨some 2, .mv, [.t 31], none⟩] [0, 3, 4, 31])
            .ret)))) }
/-- impl.CostOf -/
def F_impl_CostOf_L0 : LC :=
  (.seq
    (.region false [⟨some 12, .bin .lss, [.t 11, .t 10], none⟩] [])
    (.seq
      (.cond (.t 12) [12]
        .skip
        (.exit 0))
      (.seq
        (.block 1
          (.seq
            (.region false [⟨some 13, .idxa 2, [.t 9, .t 11], none⟩,
              ⟨some 14, .load 2 true, [.t 13], none⟩,
              ⟨some 5, .alloc 2576 (.st [.i 0, .i 0]), [], none⟩,
              ⟨none, .store 2, [.t 5, .t 14], none⟩] [13, 14])
            (.region false [⟨some 15, .mv, [.t 3], none⟩,
              ⟨some 16, .fld 0 1 false, [.t 5], none⟩,
              ⟨some 17, .load 1 false, [.t 16], none⟩,
              ⟨some 18, .bin .add, [.t 15, .t 17], none⟩,
              ⟨some 3, .mv, [.t 18], none⟩] [5, 15, 16, 17, 18])))
        (.region false [⟨some 19, .bin .add, [.t 11, .c (.i 1)], none⟩,
          ⟨some 11, .mv, [.t 19], none⟩] [19]))))
def F_impl_CostOf_W0 : LC := .loop F_impl_CostOf_L0
def F_impl_CostOf : LF :=
  { nparams := 1, results := [.t 2], body :=
    (.seq
      (.region false [⟨some 2, .mv, [.c (.i 0)], none⟩] [2])
      (.seq
        (.seq
          (.region false [⟨some 6, .mv, [.t 0], none⟩,
            ⟨some 7, .call n_impl_TestsOk 3584, [.t 6], none⟩,
            ⟨some 8, .un .not, [.t 7], none⟩] [6, 7])
          (.cond (.t 8) [8]
            (.seq
              (.region false [⟨some 2, .mv, [.c (.i (-1))], none⟩] [0])
              .ret)
            .skip))
        (.seq
          (.region false [⟨some 3, .mv, [.c (.i 0)], none⟩] [])
          (.seq
            (.seq
              (.region false [⟨some 9, .mv, [.t 0], none⟩,
                ⟨some 10, .len, [.t 9], none⟩,
                ⟨some 11, .mv, [.c (.i 0)], none⟩] [0])
              (.block 0
                F_impl_CostOf_W0))
            (.seq
              (.region false [⟨some 20, .mv, [.t 3], none⟩,
                ⟨some 2, .mv, [.t 20], none⟩] [3, 9, 10, 11, 20])
              .ret))))) }
/-- spec.DrawKnownOk -/
def F_spec_DrawKnownOk : LF :=
  { nparams := 1, results := [.t 2, .t 3], body :=
    (.seq
      (.region false [⟨some 2, .mv, [.c (.i 0)], none⟩,
        ⟨some 3, .newnil 1544, [], none⟩] [2, 3])
      (.seq
        (.region false [⟨some 7, .mv, [.t 0], none⟩,
          ⟨some 8, .call n_spec_l20Open 4096, [.t 7], none⟩,
          ⟨some 4, .mv, [.t 8], none⟩] [0, 7, 8])
        (.seq
          (.region false [⟨some 9, .mv, [.t 4], none⟩,
            ⟨some 10, .call n_spec_l20Rd_pick 5120, [.t 9, .c (.i 5)], none⟩,
            ⟨some 11, .bin .add, [.c (.i 1), .t 10], none⟩,
            ⟨some 5, .mv, [.t 11], none⟩] [9, 10, 11])
          (.seq
            (.region false [⟨some 12, .mv, [.t 4], none⟩,
              ⟨some 13, .mv, [.t 5], none⟩,
              ⟨some 14, .call n_spec_l20Known 7168, [.t 12, .t 13], none⟩,
              ⟨some 6, .mv, [.t 14], none⟩] [12, 13, 14])
            (.seq
              (.seq
                (.region false [⟨some 15, .mv, [.t 4], none⟩,
                  ⟨some 16, .call n_spec_l20Rd_odd 8192, [.t 15, .c (.i 9)], none⟩] [15])
                (.cond (.t 16) [16]
                  (.region false [⟨some 17, .mv, [.t 6], none⟩,
                    ⟨some 18, .bslice 9224 2 1 (.i 0) [0, 1], [.c (.i 2), .c (.i (-2))], none⟩,
                    ⟨some 19, .mv, [.t 4], none⟩,
                    ⟨some 20, .call n_spec_l20Rd_pick 10240, [.t 19, .c (.i 2)], none⟩,
                    ⟨some 21, .idxa 1, [.t 18, .t 20], none⟩,
                    ⟨some 22, .load 1 false, [.t 21], none⟩,
                    ⟨some 23, .idxa 1, [.t 17, .c (.i 0)], none⟩,
                    ⟨none, .store 1, [.t 23, .t 22], none⟩] [17, 18, 19, 20, 21, 22, 23])
                  .skip))
              (.seq
                (.region false [⟨some 24, .mv, [.t 5], none⟩,
                  ⟨some 25, .mv, [.t 4], none⟩,
                  ⟨some 26, .call n_spec_l20Rd_pick 13312, [.t 25, .c (.i 20)], none⟩,
                  ⟨some 27, .bin .quo, [.t 26, .c (.i 19)], none⟩,
                  ⟨some 28, .bin .add, [.t 24, .t 27], none⟩,
                  ⟨some 29, .mv, [.t 6], none⟩,
                  ⟨some 2, .mv, [.t 28], none⟩,
                  ⟨some 3, .mv, [.t 29], none⟩] [4, 5, 6, 24, 25, 26, 27, 28, 29])
                .ret)))))) }
/-- impl.KnownOk -/
def F_impl_KnownOk_L0 : LC :=
  (.seq
    (.region false [⟨some 19, .bin .lss, [.t 18, .t 17], none⟩] [])
    (.seq
      (.cond (.t 19) [19]
        .skip
        (.exit 0))
      (.seq
        (.block 1
          (.seq
            (.region false [⟨some 20, .idxa 1, [.t 16, .t 18], none⟩,
              ⟨some 21, .load 1 false, [.t 20], none⟩,
              ⟨some 6, .mv, [.t 21], none⟩] [20, 21])
            (.seq
              (.region false [⟨some 22, .mv, [.t 6], none⟩,
                ⟨some 23, .bin .neq, [.t 22, .c (.i (-1))], none⟩,
                ⟨some 24, .mv, [.t 23], none⟩,
                ⟨some 25, .mv, [.t 6], some (24, true)⟩,
                ⟨some 26, .bin .neq, [.t 25, .c (.i 0)], some (24, true)⟩,
                ⟨some 27, .pick, [.t 24, .t 26, .c (.b false)], none⟩,
                ⟨some 28, .mv, [.t 27], none⟩,
                ⟨some 29, .mv, [.t 6], some (28, true)⟩,
                ⟨some 30, .bin .neq, [.t 29, .c (.i 1)], some (28, true)⟩,
                ⟨some 31, .pick, [.t 28, .t 30, .c (.b false)], none⟩] [6, 22, 23, 24, 25, 26, 27, 28, 29, 30])
              (.cond (.t 31) [31]
                (.seq
                  (.region false [⟨some 4, .mv, [.c (.b false)], none⟩] [16, 17, 18])
                  .ret)
                .skip))))
        (.region false [⟨some 32, .bin .add, [.t 18, .c (.i 1)], none⟩,
          ⟨some 18, .mv, [.t 32], none⟩] [32]))))
def F_impl_KnownOk_W0 : LC := .loop F_impl_KnownOk_L0
def F_impl_KnownOk : LF :=
  { nparams := 2, results := [.t 4], body :=
    (.seq
      (.region false [⟨some 4, .mv, [.c (.b false)], none⟩] [4])
      (.seq
        (.seq
          (.region false [⟨some 7, .mv, [.t 0], none⟩,
            ⟨some 8, .call n_impl_manyOk 4096, [.t 7], none⟩,
            ⟨some 9, .un .not, [.t 8], none⟩,
            ⟨some 10, .mv, [.t 9], none⟩,
            ⟨some 11, .mv, [.t 1], some (10, false)⟩,
            ⟨some 12, .len, [.t 11], some (10, false)⟩,
            ⟨some 13, .mv, [.t 0], some (10, false)⟩,
            ⟨some 14, .bin .neq, [.t 12, .t 13], some (10, false)⟩,
            ⟨some 15, .pick, [.t 10, .c (.b true), .t 14], none⟩] [0, 7, 8, 9, 10, 11, 12, 13, 14])
          (.cond (.t 15) [15]
            (.seq
              (.region false [⟨some 4, .mv, [.c (.b false)], none⟩] [1])
              .ret)
            .skip))
        (.seq
          (.seq
            (.region false [⟨some 16, .mv, [.t 1], none⟩,
              ⟨some 17, .len, [.t 16], none⟩,
              ⟨some 18, .mv, [.c (.i 0)], none⟩] [1])
            (.block 0
              F_impl_KnownOk_W0))
          (.seq
            (.region false [⟨some 4, .mv, [.c (.b true)], none⟩] [16, 17, 18])
            .ret)))) }
/-- spec.KnownOk -/
def F_spec_KnownOk_L0 : LC :=
  (.seq
    (.seq
      (.region false [⟨some 6, .mv, [.t 5], none⟩,
        ⟨some 7, .mv, [.t 1], none⟩,
        ⟨some 8, .len, [.t 7], none⟩,
        ⟨some 9, .bin .lss, [.t 6, .t 8], none⟩] [6, 7, 8])
      (.cond (.t 9) [9]
        .skip
        (.exit 0)))
    (.seq
      (.block 1
        (.seq
          (.region false [⟨some 12, .mv, [.t 1], none⟩,
            ⟨some 13, .mv, [.t 5], none⟩,
            ⟨some 14, .idxa 1, [.t 12, .t 13], none⟩,
            ⟨some 15, .load 1 false, [.t 14], none⟩,
            ⟨some 16, .call n_spec_l1In 8192, [.t 15, .c (.i (-1)), .c (.i 1)], none⟩,
            ⟨some 17, .un .not, [.t 16], none⟩] [12, 13, 14, 15, 16])
          (.cond (.t 17) [17]
            (.seq
              (.region false [⟨some 4, .mv, [.c (.b false)], none⟩] [0, 1, 5])
              .ret)
            .skip)))
      (.region false [⟨some 10, .mv, [.t 5], none⟩,
        ⟨some 11, .bin .add, [.t 10, .c (.i 1)], none⟩,
        ⟨some 5, .mv, [.t 11], none⟩] [10, 11])))
def F_spec_KnownOk_W0 : LC := .loop F_spec_KnownOk_L0
def F_spec_KnownOk : LF :=
  { nparams := 2, results := [.t 4], body :=
    (.seq
      (.region false [⟨some 4, .mv, [.c (.b false)], none⟩] [4])
      (.seq
        (.seq
          (.region false [⟨some 5, .mv, [.c (.i 0)], none⟩] [])
          (.block 0
            F_spec_KnownOk_W0))
        (.seq
          (.region false [⟨some 18, .mv, [.t 0], none⟩,
            ⟨some 19, .call n_spec_l1In 9728, [.t 18, .c (.i 1), .c (.i 5)], none⟩,
            ⟨some 20, .mv, [.t 19], none⟩,
            ⟨some 21, .mv, [.t 1], some (20, true)⟩,
            ⟨some 22, .len, [.t 21], some (20, true)⟩,
            ⟨some 23, .mv, [.t 0], some (20, true)⟩,
            ⟨some 24, .bin .eql, [.t 22, .t 23], some (20, true)⟩,
            ⟨some 25, .pick, [.t 20, .t 24, .c (.b false)], none⟩,
            ⟨some 4, .mv, [.t 25], none⟩] [0, 1, 5, 18, 19, 20, 21, 22, 23, 24, 25])
          .ret))) }
/-- spec.DrawAgreesOk -/
def F_spec_DrawAgreesOk : LF :=
  { nparams := 1, results := [.t 2, .t 3, .t 4], body :=
    (.seq
      (.region false [⟨some 2, .mv, [.c (.i 0)], none⟩,
        ⟨some 3, .newnil 1544, [], none⟩,
        ⟨some 4, .mv, [.c (.i 0)], none⟩] [2, 3, 4])
      (.seq
        (.region false [⟨some 7, .mv, [.t 0], none⟩,
          ⟨some 8, .call n_spec_l20Open 4096, [.t 7], none⟩,
          ⟨some 5, .mv, [.t 8], none⟩] [0, 7, 8])
        (.seq
          (.region false [⟨some 9, .mv, [.t 5], none⟩,
            ⟨some 10, .call n_spec_l20Rd_pick 5120, [.t 9, .c (.i 5)], none⟩,
            ⟨some 11, .bin .add, [.c (.i 1), .t 10], none⟩,
            ⟨some 6, .mv, [.t 11], none⟩] [9, 10, 11])
          (.seq
            (.region true [⟨some 12, .mv, [.t 6], none⟩,
              ⟨some 13, .mv, [.t 5], none⟩,
              ⟨some 14, .mv, [.t 6], none⟩,
              ⟨some 15, .call n_spec_l20Known 7680, [.t 13, .t 14], none⟩,
              ⟨some 16, .mv, [.t 5], none⟩,
              ⟨some 17, .mv, [.t 6], none⟩,
              ⟨some 18, .bin .shl, [.c (.i 1), .t 17], none⟩,
              ⟨some 19, .call n_spec_l20Rd_pick 9728, [.t 16, .t 18], none⟩,
              ⟨some 20, .mv, [.t 5], none⟩,
              ⟨some 21, .call n_spec_l20Rd_pick 10752, [.t 20, .c (.i 40)], none⟩,
              ⟨some 22, .bin .quo, [.t 21, .c (.i 39)], none⟩,
              ⟨some 23, .bin .mul, [.t 22, .c (.i 32)], none⟩,
              ⟨some 24, .bin .add, [.t 19, .t 23], none⟩,
              ⟨some 2, .mv, [.t 12], none⟩,
              ⟨some 3, .mv, [.t 15], none⟩,
              ⟨some 4, .mv, [.t 24], none⟩] [5, 6, 12, 13, 14, 15, 16, 17, 18, 19, 20, 21, 22, 23, 24])
            .ret)))) }
/-- impl.AgreesOk -/
def F_impl_AgreesOk_L0 : LC :=
  (.seq
    (.region false [⟨some 22, .bin .lss, [.t 21, .t 20], none⟩] [])
    (.seq
      (.cond (.t 22) [22]
        .skip
        (.exit 0))
      (.seq
        (.block 1
          (.seq
            (.region false [⟨some 23, .mv, [.t 21], none⟩,
              ⟨some 24, .idxa 1, [.t 19, .t 21], none⟩,
              ⟨some 25, .load 1 false, [.t 24], none⟩,
              ⟨some 7, .mv, [.t 23], none⟩,
              ⟨some 8, .mv, [.t 25], none⟩] [23, 24, 25])
            (.seq
              (.region false [⟨some 26, .mv, [.t 8], none⟩,
                ⟨some 27, .bin .neq, [.t 26, .c (.i (-1))], none⟩,
                ⟨some 28, .mv, [.t 27], none⟩,
                ⟨some 29, .mv, [.t 8], some (28, true)⟩,
                ⟨some 30, .mv, [.t 2], some (28, true)⟩,
                ⟨some 31, .mv, [.t 7], some (28, true)⟩,
                ⟨some 32, .call n_impl_outcomeIn 16384, [.t 30, .t 31], some (28, true)⟩,
                ⟨some 33, .bin .neq, [.t 29, .t 32], some (28, true)⟩,
                ⟨some 34, .pick, [.t 28, .t 33, .c (.b false)], none⟩] [7, 8, 26, 27, 28, 29, 30, 31, 32, 33])
              (.cond (.t 34) [34]
                (.seq
                  (.region false [⟨some 6, .mv, [.c (.b false)], none⟩] [2, 19, 20, 21])
                  .ret)
                .skip))))
        (.region false [⟨some 35, .bin .add, [.t 21, .c (.i 1)], none⟩,
          ⟨some 21, .mv, [.t 35], none⟩] [35]))))
def F_impl_AgreesOk_W0 : LC := .loop F_impl_AgreesOk_L0
def F_impl_AgreesOk : LF :=
  { nparams := 3, results := [.t 6], body :=
    (.seq
      (.region false [⟨some 6, .mv, [.c (.b false)], none⟩] [6])
      (.seq
        (.seq
          (.region false [⟨some 9, .mv, [.t 0], none⟩,
            ⟨some 10, .mv, [.t 2], none⟩,
            ⟨some 11, .call n_impl_StateOk 5632, [.t 9, .t 10], none⟩,
            ⟨some 12, .un .not, [.t 11], none⟩,
            ⟨some 13, .mv, [.t 12], none⟩,
            ⟨some 14, .mv, [.t 0], some (13, false)⟩,
            ⟨some 15, .mv, [.t 1], some (13, false)⟩,
            ⟨some 16, .call n_impl_KnownOk 8192, [.t 14, .t 15], some (13, false)⟩,
            ⟨some 17, .un .not, [.t 16], some (13, false)⟩,
            ⟨some 18, .pick, [.t 13, .c (.b true), .t 17], none⟩] [0, 9, 10, 11, 12, 13, 14, 15, 16, 17])
          (.cond (.t 18) [18]
            (.seq
              (.region false [⟨some 6, .mv, [.c (.b false)], none⟩] [1, 2])
              .ret)
            .skip))
        (.seq
          (.seq
            (.region false [⟨some 19, .mv, [.t 1], none⟩,
              ⟨some 20, .len, [.t 19], none⟩,
              ⟨some 21, .mv, [.c (.i 0)], none⟩] [1])
            (.block 0
              F_impl_AgreesOk_W0))
          (.seq
            (.region false [⟨some 6, .mv, [.c (.b true)], none⟩] [2, 19, 20, 21])
            .ret)))) }
/-- spec.AgreesOk -/
def F_spec_AgreesOk : LF :=
  { nparams := 3, results := [.t 6], body :=
    (.seq
      (.region false [⟨some 6, .mv, [.c (.b false)], none⟩] [6])
      (.seq
        (.region false [⟨some 7, .mv, [.t 0], none⟩,
          ⟨some 8, .mv, [.t 1], none⟩,
          ⟨some 9, .call n_spec_KnownOk 4608, [.t 7, .t 8], none⟩,
          ⟨some 10, .mv, [.t 9], none⟩,
          ⟨some 11, .mv, [.t 0], some (10, true)⟩,
          ⟨some 12, .mv, [.t 2], some (10, true)⟩,
          ⟨some 13, .call n_spec_StateOk 6656, [.t 11, .t 12], some (10, true)⟩,
          ⟨some 14, .pick, [.t 10, .t 13, .c (.b false)], none⟩,
          ⟨some 15, .mv, [.t 14], none⟩,
          ⟨some 16, .mv, [.t 1], some (15, true)⟩,
          ⟨some 17, .mv, [.t 2], some (15, true)⟩,
          ⟨some 18, .call n_spec_l1Agrees 9216, [.t 16, .t 17], some (15, true)⟩,
          ⟨some 19, .pick, [.t 15, .t 18, .c (.b false)], none⟩,
          ⟨some 6, .mv, [.t 19], none⟩] [0, 1, 2, 7, 8, 9, 10, 11, 12, 13, 14, 15, 16, 17, 18, 19])
        .ret)) }
/-- spec.DrawWeightWhere -/
def F_spec_DrawWeightWhere : LF :=
  { nparams := 1, results := [.t 2, .t 3], body :=
    (.seq
      (.region false [⟨some 2, .newnil 1040, [], none⟩,
        ⟨some 3, .newnil 1544, [], none⟩] [2, 3])
      (.seq
        (.region false [⟨some 6, .mv, [.t 0], none⟩,
          ⟨some 7, .call n_spec_l20Open 3584, [.t 6], none⟩,
          ⟨some 4, .mv, [.t 7], none⟩] [0, 6, 7])
        (.seq
          (.region false [⟨some 8, .mv, [.t 4], none⟩,
            ⟨some 9, .call n_spec_l20Tests 4608, [.t 8, .c (.i 14)], none⟩,
            ⟨some 5, .mv, [.t 9], none⟩] [8, 9])
          (.seq
            (.region false [⟨some 10, .mv, [.t 5], none⟩,
              ⟨some 11, .mv, [.t 4], none⟩,
              ⟨some 12, .mv, [.t 5], none⟩,
              ⟨some 13, .len, [.t 12], none⟩,
              ⟨some 14, .call n_spec_l20Known 7168, [.t 11, .t 13], none⟩,
              ⟨some 2, .mv, [.t 10], none⟩,
              ⟨some 3, .mv, [.t 14], none⟩] [4, 5, 10, 11, 12, 13, 14])
            .ret)))) }
/-- impl.WeightWhere -/
def F_impl_WeightWhere_L0 : LC :=
  (.seq
    (.region false [⟨some 22, .bin .lss, [.t 21, .t 20], none⟩] [])
    (.seq
      (.cond (.t 22) [22]
        .skip
        (.exit 0))
      (.seq
        (.block 1
          (.seq
            (.region false [⟨some 23, .mv, [.t 21], none⟩,
              ⟨some 7, .mv, [.t 23], none⟩] [23])
            (.seq
              (.region false [⟨some 24, .mv, [.t 5], none⟩,
                ⟨some 25, .mv, [.t 1], none⟩,
                ⟨some 26, .mv, [.t 7], none⟩,
                ⟨some 27, .call n_impl_AgreesOk 13824, [.t 24, .t 25, .t 26], none⟩] [24, 25, 26])
              (.cond (.t 27) [27]
                (.region false [⟨some 28, .mv, [.t 6], none⟩,
                  ⟨some 29, .mv, [.t 0], none⟩,
                  ⟨some 30, .mv, [.t 7], none⟩,
                  ⟨some 31, .call n_impl_WeightOf 15872, [.t 29, .t 30], none⟩,
                  ⟨some 32, .bin .add, [.t 28, .t 31], none⟩,
                  ⟨some 6, .mv, [.t 32], none⟩] [7, 28, 29, 30, 31, 32])
                .skip))))
        (.region false [⟨some 33, .bin .add, [.t 21, .c (.i 1)], none⟩,
          ⟨some 21, .mv, [.t 33], none⟩] [7, 33]))))
def F_impl_WeightWhere_W0 : LC := .loop F_impl_WeightWhere_L0
def F_impl_WeightWhere : LF :=
  { nparams := 2, results := [.t 4], body :=
    (.seq
      (.region false [⟨some 4, .mv, [.c (.i 0)], none⟩] [4])
      (.seq
        (.region false [⟨some 8, .mv, [.t 0], none⟩,
          ⟨some 9, .len, [.t 8], none⟩,
          ⟨some 5, .mv, [.t 9], none⟩] [8, 9])
        (.seq
          (.seq
            (.region false [⟨some 10, .mv, [.t 0], none⟩,
              ⟨some 11, .call n_impl_TestsOk 5632, [.t 10], none⟩,
              ⟨some 12, .un .not, [.t 11], none⟩,
              ⟨some 13, .mv, [.t 12], none⟩,
              ⟨some 14, .mv, [.t 5], some (13, false)⟩,
              ⟨some 15, .mv, [.t 1], some (13, false)⟩,
              ⟨some 16, .call n_impl_KnownOk 8192, [.t 14, .t 15], some (13, false)⟩,
              ⟨some 17, .un .not, [.t 16], some (13, false)⟩,
              ⟨some 18, .pick, [.t 13, .c (.b true), .t 17], none⟩] [10, 11, 12, 13, 14, 15, 16, 17])
            (.cond (.t 18) [18]
              (.seq
                (.region false [⟨some 4, .mv, [.c (.i (-1))], none⟩] [0, 1, 5])
                .ret)
              .skip))
          (.seq
            (.region false [⟨some 6, .mv, [.c (.i 0)], none⟩] [])
            (.seq
              (.seq
                (.region false [⟨some 19, .mv, [.t 5], none⟩,
                  ⟨some 20, .call n_impl_statesOf 10240, [.t 19], none⟩,
                  ⟨some 21, .mv, [.c (.i 0)], none⟩] [19])
                (.block 0
                  F_impl_WeightWhere_W0))
              (.seq
                (.region false [⟨some 34, .mv, [.t 6], none⟩,
                  ⟨some 4, .mv, [.t 34], none⟩] [0, 1, 5, 6, 20, 21, 34])
                .ret)))))) }
/-- spec.WeightWhere -/
def F_spec_WeightWhere_L0 : LC :=
  (.seq
    (.seq
      (.region false [⟨some 17, .mv, [.t 6], none⟩,
        ⟨some 18, .mv, [.t 0], none⟩,
        ⟨some 19, .len, [.t 18], none⟩,
        ⟨some 20, .bin .shl, [.c (.i 1), .t 19], none⟩,
        ⟨some 21, .bin .lss, [.t 17, .t 20], none⟩] [17, 18, 19, 20])
      (.cond (.t 21) [21]
        .skip
        (.exit 0)))
    (.seq
      (.block 1
        (.seq
          (.region false [⟨some 24, .mv, [.t 1], none⟩,
            ⟨some 25, .mv, [.t 6], none⟩,
            ⟨some 26, .call n_spec_l1Agrees 13312, [.t 24, .t 25], none⟩] [24, 25])
          (.cond (.t 26) [26]
            (.region false [⟨some 27, .mv, [.t 5], none⟩,
              ⟨some 28, .mv, [.t 0], none⟩,
              ⟨some 29, .mv, [.t 6], none⟩,
              ⟨some 30, .call n_spec_l1Weight 15360, [.t 28, .t 29], none⟩,
              ⟨some 31, .bin .add, [.t 27, .t 30], none⟩,
              ⟨some 5, .mv, [.t 31], none⟩] [27, 28, 29, 30, 31])
            .skip)))
      (.region false [⟨some 22, .mv, [.t 6], none⟩,
        ⟨some 23, .bin .add, [.t 22, .c (.i 1)], none⟩,
        ⟨some 6, .mv, [.t 23], none⟩] [22, 23])))
def F_spec_WeightWhere_W0 : LC := .loop F_spec_WeightWhere_L0
def F_spec_WeightWhere : LF :=
  { nparams := 2, results := [.t 4], body :=
    (.seq
      (.region false [⟨some 4, .mv, [.c (.i 0)], none⟩] [4])
      (.seq
        (.seq
          (.region false [⟨some 7, .mv, [.t 0], none⟩,
            ⟨some 8, .call n_spec_TestsOk 4096, [.t 7], none⟩,
            ⟨some 9, .un .not, [.t 8], none⟩,
            ⟨some 10, .mv, [.t 9], none⟩,
            ⟨some 11, .mv, [.t 0], some (10, false)⟩,
            ⟨some 12, .len, [.t 11], some (10, false)⟩,
            ⟨some 13, .mv, [.t 1], some (10, false)⟩,
            ⟨some 14, .call n_spec_KnownOk 7168, [.t 12, .t 13], some (10, false)⟩,
            ⟨some 15, .un .not, [.t 14], some (10, false)⟩,
            ⟨some 16, .pick, [.t 10, .c (.b true), .t 15], none⟩] [7, 8, 9, 10, 11, 12, 13, 14, 15])
          (.cond (.t 16) [16]
            (.seq
              (.region false [⟨some 4, .mv, [.c (.i (-1))], none⟩] [0, 1])
              .ret)
            .skip))
        (.seq
          (.region false [⟨some 5, .mv, [.c (.i 0)], none⟩] [])
          (.seq
            (.seq
              (.region false [⟨some 6, .mv, [.c (.i 0)], none⟩] [])
              (.block 0
                F_spec_WeightWhere_W0))
            (.seq
              (.region false [⟨some 32, .mv, [.t 5], none⟩,
                ⟨some 4, .mv, [.t 32], none⟩] [0, 1, 5, 6, 32])
              .ret))))) }
/-- spec.DrawCostOf -/
def F_spec_DrawCostOf : LF :=
  { nparams := 1, results := [.t 2], body :=
    (.seq
      (.region false [⟨some 2, .newnil 1040, [], none⟩] [2])
      (.seq
        (.region false [⟨some 3, .mv, [.t 0], none⟩,
          ⟨some 4, .call n_spec_l20Open 2048, [.t 3], none⟩,
          ⟨some 5, .call n_spec_l20Tests 2560, [.t 4, .c (.i 9)], none⟩,
          ⟨some 2, .mv, [.t 5], none⟩] [0, 3, 4, 5])
        .ret)) }
/-- spec.CostOf -/
def F_spec_CostOf_L0 : LC :=
  (.seq
    (.seq
      (.region false [⟨some 8, .mv, [.t 4], none⟩,
        ⟨some 9, .mv, [.t 0], none⟩,
        ⟨some 10, .len, [.t 9], none⟩,
        ⟨some 11, .bin .lss, [.t 8, .t 10], none⟩] [8, 9, 10])
      (.cond (.t 11) [11]
        .skip
        (.exit 0)))
    (.seq
      (.block 1
        (.region false [⟨some 14, .mv, [.t 3], none⟩,
          ⟨some 15, .mv, [.t 0], none⟩,
          ⟨some 16, .mv, [.t 4], none⟩,
          ⟨some 17, .idxa 2, [.t 15, .t 16], none⟩,
          ⟨some 18, .fld 0 1 false, [.t 17], none⟩,
          ⟨some 19, .load 1 false, [.t 18], none⟩,
          ⟨some 20, .bin .add, [.t 14, .t 19], none⟩,
          ⟨some 3, .mv, [.t 20], none⟩] [14, 15, 16, 17, 18, 19, 20]))
      (.region false [⟨some 12, .mv, [.t 4], none⟩,
        ⟨some 13, .bin .add, [.t 12, .c (.i 1)], none⟩,
        ⟨some 4, .mv, [.t 13], none⟩] [12, 13])))
def F_spec_CostOf_W0 : LC := .loop F_spec_CostOf_L0
def F_spec_CostOf : LF :=
  { nparams := 1, results := [.t 2], body :=
    (.seq
      (.region false [⟨some 2, .mv, [.c (.i 0)], none⟩] [2])
      (.seq
        (.seq
          (.region false [⟨some 5, .mv, [.t 0], none⟩,
            ⟨some 6, .call n_spec_TestsOk 3072, [.t 5], none⟩,
            ⟨some 7, .un .not, [.t 6], none⟩] [5, 6])
          (.cond (.t 7) [7]
            (.seq
              (.region false [⟨some 2, .mv, [.c (.i (-1))], none⟩] [0])
              .ret)
            .skip))
        (.seq
          (.region false [⟨some 3, .mv, [.c (.i 0)], none⟩] [])
          (.seq
            (.seq
              (.region false [⟨some 4, .mv, [.c (.i 0)], none⟩] [])
              (.block 0
                F_spec_CostOf_W0))
            (.seq
              (.region false [⟨some 21, .mv, [.t 3], none⟩,
                ⟨some 2, .mv, [.t 21], none⟩] [0, 3, 4, 21])
              .ret))))) }
/-- spec.DrawLikeliestState -/
def F_spec_DrawLikeliestState : LF :=
  { nparams := 1, results := [.t 2], body :=
    (.seq
      (.region false [⟨some 2, .newnil 1040, [], none⟩] [2])
      (.seq
        (.region false [⟨some 3, .mv, [.t 0], none⟩,
          ⟨some 4, .call n_spec_l20Open 2048, [.t 3], none⟩,
          ⟨some 5, .call n_spec_l20Tests 2560, [.t 4, .c (.i 9)], none⟩,
          ⟨some 2, .mv, [.t 5], none⟩] [0, 3, 4, 5])
        .ret)) }
/-- impl.LikeliestState -/
def F_impl_LikeliestState_L0 : LC :=
  (.seq
    (.region false [⟨some 12, .bin .lss, [.t 11, .t 10], none⟩] [])
    (.seq
      (.cond (.t 12) [12]
        .skip
        (.exit 0))
      (.seq
        (.block 1
          (.seq
            (.region false [⟨some 13, .mv, [.t 11], none⟩,
              ⟨some 4, .mv, [.t 13], none⟩] [13])
            (.seq
              (.region false [⟨some 14, .mv, [.t 0], none⟩,
                ⟨some 15, .mv, [.t 4], none⟩,
                ⟨some 16, .call n_impl_WeightOf 8192, [.t 14, .t 15], none⟩,
                ⟨some 17, .mv, [.t 0], none⟩,
                ⟨some 18, .mv, [.t 3], none⟩,
                ⟨some 19, .call n_impl_WeightOf 9728, [.t 17, .t 18], none⟩,
                ⟨some 20, .bin .gtr, [.t 16, .t 19], none⟩] [14, 15, 16, 17, 18, 19])
              (.cond (.t 20) [20]
                (.region false [⟨some 21, .mv, [.t 4], none⟩,
                  ⟨some 3, .mv, [.t 21], none⟩] [4, 21])
                .skip))))
        (.region false [⟨some 22, .bin .add, [.t 11, .c (.i 1)], none⟩,
          ⟨some 11, .mv, [.t 22], none⟩] [4, 22]))))
def F_impl_LikeliestState_W0 : LC := .loop F_impl_LikeliestState_L0
def F_impl_LikeliestState : LF :=
  { nparams := 1, results := [.t 2], body :=
    (.seq
      (.region false [⟨some 2, .mv, [.c (.i 0)], none⟩] [2])
      (.seq
        (.seq
          (.region false [⟨some 5, .mv, [.t 0], none⟩,
            ⟨some 6, .call n_impl_TestsOk 3072, [.t 5], none⟩,
            ⟨some 7, .un .not, [.t 6], none⟩] [5, 6])
          (.cond (.t 7) [7]
            (.seq
              (.region false [⟨some 2, .mv, [.c (.i (-1))], none⟩] [0])
              .ret)
            .skip))
        (.seq
          (.region false [⟨some 3, .mv, [.c (.i 0)], none⟩] [])
          (.seq
            (.seq
              (.region false [⟨some 8, .mv, [.t 0], none⟩,
                ⟨some 9, .len, [.t 8], none⟩,
                ⟨some 10, .call n_impl_statesOf 5120, [.t 9], none⟩,
                ⟨some 11, .mv, [.c (.i 0)], none⟩] [8, 9])
              (.block 0
                F_impl_LikeliestState_W0))
            (.seq
              (.region false [⟨some 23, .mv, [.t 3], none⟩,
                ⟨some 2, .mv, [.t 23], none⟩] [0, 3, 10, 11, 23])
              .ret))))) }
/-- spec.LikeliestState -/
def F_spec_LikeliestState_L0 : LC :=
  (.seq
    (.seq
      (.region false [⟨some 5, .mv, [.t 0], none⟩,
        ⟨some 6, .call n_spec_TestsOk 3072, [.t 5], none⟩,
        ⟨some 7, .mv, [.t 6], none⟩,
        ⟨some 8, .mv, [.t 4], some (7, true)⟩,
        ⟨some 9, .mv, [.t 0], some (7, true)⟩,
        ⟨some 10, .len, [.t 9], some (7, true)⟩,
        ⟨some 11, .bin .shl, [.c (.i 1), .t 10], some (7, true)⟩,
        ⟨some 12, .bin .lss, [.t 8, .t 11], some (7, true)⟩,
        ⟨some 13, .pick, [.t 7, .t 12, .c (.b false)], none⟩] [5, 6, 7, 8, 9, 10, 11, 12])
      (.cond (.t 13) [13]
        .skip
        (.exit 0)))
    (.seq
      (.block 1
        (.seq
          (.region false [⟨some 16, .mv, [.t 3], none⟩,
            ⟨some 17, .bin .lss, [.t 16, .c (.i 0)], none⟩,
            ⟨some 18, .mv, [.t 17], none⟩,
            ⟨some 19, .mv, [.t 0], some (18, false)⟩,
            ⟨some 20, .mv, [.t 4], some (18, false)⟩,
            ⟨some 21, .call n_spec_l1Weight 10752, [.t 19, .t 20], some (18, false)⟩,
            ⟨some 22, .mv, [.t 0], some (18, false)⟩,
            ⟨some 23, .mv, [.t 3], some (18, false)⟩,
            ⟨some 24, .call n_spec_l1Weight 12288, [.t 22, .t 23], some (18, false)⟩,
            ⟨some 25, .bin .gtr, [.t 21, .t 24], some (18, false)⟩,
            ⟨some 26, .pick, [.t 18, .c (.b true), .t 25], none⟩] [16, 17, 18, 19, 20, 21, 22, 23, 24, 25])
          (.cond (.t 26) [26]
            (.region false [⟨some 27, .mv, [.t 4], none⟩,
              ⟨some 3, .mv, [.t 27], none⟩] [27])
            .skip)))
      (.region false [⟨some 14, .mv, [.t 4], none⟩,
        ⟨some 15, .bin .add, [.t 14, .c (.i 1)], none⟩,
        ⟨some 4, .mv, [.t 15], none⟩] [14, 15])))
def F_spec_LikeliestState_W0 : LC := .loop F_spec_LikeliestState_L0
def F_spec_LikeliestState : LF :=
  { nparams := 1, results := [.t 2], body :=
    (.seq
      (.region false [⟨some 2, .mv, [.c (.i 0)], none⟩] [2])
      (.seq
        (.region false [⟨some 3, .mv, [.c (.i (-1))], none⟩] [])
        (.seq
          (.seq
            (.region false [⟨some 4, .mv, [.c (.i 0)], none⟩] [])
            (.block 0
              F_spec_LikeliestState_W0))
          (.seq
            (.region false [⟨some 28, .mv, [.t 3], none⟩,
              ⟨some 2, .mv, [.t 28], none⟩] [0, 3, 4, 28])
            .ret)))) }
/-- laws.szTestS -/
def F_laws_szTestS : LF :=
  { nparams := 2, results := [.t 4], body :=
    (.seq
      (.region false [⟨some 4, .mv, [.c (.i 0)], none⟩] [4])
      (.seq
        (.region false [⟨some 5, .mv, [.t 1], none⟩,
          ⟨some 6, .mv, [.t 0], none⟩,
          ⟨some 7, .len, [.t 6], none⟩,
          ⟨some 8, .bin .sub, [.t 5, .t 7], none⟩,
          ⟨some 1, .mv, [.t 8], none⟩] [0, 5, 6, 7, 8])
        (.seq
          (.seq
            (.region false [⟨some 9, .mv, [.t 1], none⟩,
              ⟨some 10, .bin .lss, [.t 9, .c (.i 0)], none⟩] [9])
            (.cond (.t 10) [10]
              (.seq
                (.region false [⟨some 4, .mv, [.c (.i (-1))], none⟩] [1])
                .ret)
              .skip))
          (.seq
            (.region false [⟨some 11, .mv, [.t 1], none⟩,
              ⟨some 4, .mv, [.t 11], none⟩] [1, 11])
            .ret)))) }
/-- laws.toTestS -/
def F_laws_toTestS_L0 : LC :=
  (.seq
    (.seq
      (.region false [⟨some 8, .mv, [.t 4], none⟩,
        ⟨some 9, .mv, [.t 0], none⟩,
        ⟨some 10, .len, [.t 9], none⟩,
        ⟨some 11, .bin .lss, [.t 8, .t 10], none⟩] [8, 9, 10])
      (.cond (.t 11) [11]
        .skip
        (.exit 0)))
    (.seq
      (.block 1
        (.region false [⟨some 14, .mv, [.t 3], none⟩,
          ⟨some 15, .mv, [.t 4], none⟩,
          ⟨some 16, .mv, [.t 0], none⟩,
          ⟨some 17, .mv, [.t 4], none⟩,
          ⟨some 18, .idxa 2, [.t 16, .t 17], none⟩,
          ⟨some 19, .load 2 true, [.t 18], none⟩,
          ⟨some 20, .call n_laws_toTest 10240, [.t 19], none⟩,
          ⟨some 21, .idxa 2, [.t 14, .t 15], none⟩,
          ⟨none, .store 2, [.t 21, .t 20], none⟩] [14, 15, 16, 17, 18, 19, 20, 21]))
      (.region false [⟨some 12, .mv, [.t 4], none⟩,
        ⟨some 13, .bin .add, [.t 12, .c (.i 1)], none⟩,
        ⟨some 4, .mv, [.t 13], none⟩] [12, 13])))
def F_laws_toTestS_W0 : LC := .loop F_laws_toTestS_L0
def F_laws_toTestS : LF :=
  { nparams := 1, results := [.t 2], body :=
    (.seq
      (.region false [⟨some 2, .newnil 1040, [], none⟩] [2])
      (.seq
        (.region false [⟨some 5, .mv, [.t 0], none⟩,
          ⟨some 6, .len, [.t 5], none⟩,
          ⟨some 7, .make 3600 2 (.st [.i 0, .i 0]), [.t 6, .t 6], none⟩,
          ⟨some 3, .mv, [.t 7], none⟩] [5, 6, 7])
        (.seq
          (.seq
            (.region false [⟨some 4, .mv, [.c (.i 0)], none⟩] [])
            (.block 0
              F_laws_toTestS_W0))
          (.seq
            (.region false [⟨some 22, .mv, [.t 3], none⟩,
              ⟨some 2, .mv, [.t 22], none⟩] [0, 3, 4, 22])
            .ret)))) }
/-- laws.eqTestS -/
def F_laws_eqTestS_L0 : LC :=
  (.seq
    (.seq
      (.region false [⟨some 11, .mv, [.t 5], none⟩,
        ⟨some 12, .mv, [.t 0], none⟩,
        ⟨some 13, .len, [.t 12], none⟩,
        ⟨some 14, .bin .lss, [.t 11, .t 13], none⟩] [11, 12, 13])
      (.cond (.t 14) [14]
        .skip
        (.exit 0)))
    (.seq
      (.block 1
        (.seq
          (.region true [⟨some 17, .mv, [.t 0], none⟩,
            ⟨some 18, .mv, [.t 5], none⟩,
            ⟨some 19, .idxa 2, [.t 17, .t 18], none⟩,
            ⟨some 20, .load 2 true, [.t 19], none⟩,
            ⟨some 21, .mv, [.t 1], none⟩,
            ⟨some 22, .mv, [.t 5], none⟩,
            ⟨some 23, .idxa 2, [.t 21, .t 22], none⟩,
            ⟨some 24, .load 2 true, [.t 23], none⟩,
            ⟨some 25, .call n_laws_eqTest 12800, [.t 20, .t 24], none⟩,
            ⟨some 26, .un .not, [.t 25], none⟩] [17, 18, 19, 20, 21, 22, 23, 24, 25])
          (.cond (.t 26) [26]
            (.seq
              (.region false [⟨some 4, .mv, [.c (.b false)], none⟩] [0, 1, 5])
              .ret)
            .skip)))
      (.region false [⟨some 15, .mv, [.t 5], none⟩,
        ⟨some 16, .bin .add, [.t 15, .c (.i 1)], none⟩,
        ⟨some 5, .mv, [.t 16], none⟩] [15, 16])))
def F_laws_eqTestS_W0 : LC := .loop F_laws_eqTestS_L0
def F_laws_eqTestS : LF :=
  { nparams := 2, results := [.t 4], body :=
    (.seq
      (.region false [⟨some 4, .mv, [.c (.b false)], none⟩] [4])
      (.seq
        (.seq
          (.region false [⟨some 6, .mv, [.t 0], none⟩,
            ⟨some 7, .len, [.t 6], none⟩,
            ⟨some 8, .mv, [.t 1], none⟩,
            ⟨some 9, .len, [.t 8], none⟩,
            ⟨some 10, .bin .neq, [.t 7, .t 9], none⟩] [6, 7, 8, 9])
          (.cond (.t 10) [10]
            (.seq
              (.region false [⟨some 4, .mv, [.c (.b false)], none⟩] [0, 1])
              .ret)
            .skip))
        (.seq
          (.seq
            (.region false [⟨some 5, .mv, [.c (.i 0)], none⟩] [])
            (.block 0
              F_laws_eqTestS_W0))
          (.seq
            (.region false [⟨some 4, .mv, [.c (.b true)], none⟩] [0, 1, 5])
            .ret)))) }
/-- spec.l20Tests -/
def F_spec_l20Tests_L0 : LC :=
  (.seq
    (.seq
      (.region false [⟨some 11, .mv, [.t 6], none⟩,
        ⟨some 12, .bin .gtr, [.t 11, .c (.i 0)], none⟩] [11])
      (.cond (.t 12) [12]
        .skip
        (.exit 0)))
    (.seq
      (.block 1
        (.region false [⟨some 15, .mv, [.t 5], none⟩,
          ⟨some 16, .mv, [.t 0], none⟩,
          ⟨some 17, .call n_spec_l20Rd_pick 8704, [.t 16, .c (.i 9)], none⟩,
          ⟨some 18, .bin .add, [.c (.i 1), .t 17], none⟩,
          ⟨some 19, .mv, [.t 0], none⟩,
          ⟨some 20, .call n_spec_l20Rd_pick 10240, [.t 19, .c (.i 5)], none⟩,
          ⟨some 21, .bin .add, [.c (.i 1), .t 20], none⟩,
          ⟨some 22, .build [.i 0, .i 0] [(0, 1), (1, 1)], [.t 18, .t 21], none⟩,
          ⟨some 23, .bslice 11792 1 2 (.st [.i 0, .i 0]) [0], [.t 22], none⟩,
          ⟨some 24, .app 12304 2, [.t 15, .t 23], none⟩,
          ⟨some 5, .mv, [.t 24], none⟩] [15, 16, 17, 18, 19, 20, 21, 22, 23, 24]))
      (.region false [⟨some 13, .mv, [.t 6], none⟩,
        ⟨some 14, .bin .sub, [.t 13, .c (.i 1)], none⟩,
        ⟨some 6, .mv, [.t 14], none⟩] [13, 14])))
def F_spec_l20Tests_W0 : LC := .loop F_spec_l20Tests_L0
def F_spec_l20Tests : LF :=
  { nparams := 2, results := [.t 4], body :=
    (.seq
      (.region false [⟨some 4, .newnil 2064, [], none⟩] [4])
      (.seq
        (.region false [⟨some 7, .bslice 3600 0 2 (.st [.i 0, .i 0]) [], [], none⟩,
          ⟨some 5, .mv, [.t 7], none⟩] [7])
        (.seq
          (.seq
            (.region false [⟨some 8, .mv, [.t 0], none⟩,
              ⟨some 9, .call n_spec_l20Rd_pick 4608, [.t 8, .c (.i 5)], none⟩,
              ⟨some 10, .bin .add, [.c (.i 1), .t 9], none⟩,
              ⟨some 6, .mv, [.t 10], none⟩] [8, 9, 10])
            (.block 0
              F_spec_l20Tests_W0))
          (.seq
            (.seq
              (.region false [⟨some 25, .mv, [.t 0], none⟩,
                ⟨some 26, .mv, [.t 1], none⟩,
                ⟨some 27, .call n_spec_l20Rd_odd 13824, [.t 25, .t 26], none⟩] [1, 6, 25, 26])
              (.cond (.t 27) [27]
                (.seq
                  (.region false [⟨some 28, .mv, [.t 0], none⟩,
                    ⟨some 29, .call n_spec_l20Rd_pick 14848, [.t 28, .c (.i 3)], none⟩] [28])
                  (.block 2
                    (.seq
                      (.region false [⟨some 39, .bin .eql, [.t 29, .c (.i 0)], none⟩,
                        ⟨some 38, .mv, [.t 39], none⟩] [39])
                      (.cond (.t 38) [38]
                        (.seq
                          (.region false [⟨some 40, .bslice 20496 0 2 (.st [.i 0, .i 0]) [], [], none⟩,
                            ⟨some 4, .mv, [.t 40], none⟩] [5, 29, 40])
                          .ret)
                        (.seq
                          (.region false [⟨some 42, .bin .eql, [.t 29, .c (.i 1)], none⟩,
                            ⟨some 41, .mv, [.t 42], none⟩] [29, 42])
                          (.cond (.t 41) [41]
                            (.region false [⟨some 43, .mv, [.t 5], none⟩,
                              ⟨some 44, .bslice 22536 2 1 (.i 0) [0, 1], [.c (.i 0), .c (.i 10)], none⟩,
                              ⟨some 45, .mv, [.t 0], none⟩,
                              ⟨some 46, .call n_spec_l20Rd_pick 23552, [.t 45, .c (.i 2)], none⟩,
                              ⟨some 47, .idxa 1, [.t 44, .t 46], none⟩,
                              ⟨some 48, .load 1 false, [.t 47], none⟩,
                              ⟨some 49, .idxa 2, [.t 43, .c (.i 0)], none⟩,
                              ⟨some 50, .fld 0 1 false, [.t 49], none⟩,
                              ⟨none, .store 1, [.t 50, .t 48], none⟩] [43, 44, 45, 46, 47, 48, 49, 50])
                            (.region false [⟨some 30, .mv, [.t 5], none⟩,
                              ⟨some 31, .bslice 15880 2 1 (.i 0) [0, 1], [.c (.i 0), .c (.i 6)], none⟩,
                              ⟨some 32, .mv, [.t 0], none⟩,
                              ⟨some 33, .call n_spec_l20Rd_pick 16896, [.t 32, .c (.i 2)], none⟩,
                              ⟨some 34, .idxa 1, [.t 31, .t 33], none⟩,
                              ⟨some 35, .load 1 false, [.t 34], none⟩,
                              ⟨some 36, .idxa 2, [.t 30, .c (.i 0)], none⟩,
                              ⟨some 37, .fld 1 1 false, [.t 36], none⟩,
                              ⟨none, .store 1, [.t 37, .t 35], none⟩] [30, 31, 32, 33, 34, 35, 36, 37])))))))
                .skip))
            (.seq
              (.region false [⟨some 51, .mv, [.t 5], none⟩,
                ⟨some 4, .mv, [.t 51], none⟩] [5, 51])
              .ret))))) }
/-- spec.l20Open -/
def F_spec_l20Open : LF :=
  { nparams := 1, results := [.t 2], body :=
    (.seq
      (.region false [⟨some 2, .mv, [.c (.np)], none⟩] [2])
      (.seq
        (.seq
          (.region false [⟨some 3, .mv, [.t 0], none⟩,
            ⟨some 4, .len, [.t 3], none⟩,
            ⟨some 5, .bin .gtr, [.t 4, .c (.i 2000)], none⟩] [3, 4])
          (.cond (.t 5) [5]
            (.region false [⟨some 6, .mv, [.t 0], none⟩,
              ⟨some 7, .slice false true 1, [.t 6, .c (.i 2000)], none⟩,
              ⟨some 0, .mv, [.t 7], none⟩] [6, 7])
            .skip))
        (.seq
          (.region false [⟨some 8, .mv, [.t 0], none⟩,
            ⟨some 9, .build [.sl 1 [], .i 0] [(0, 1)], [.t 8], none⟩,
            ⟨some 10, .box 5136, [.t 9], none⟩,
            ⟨some 2, .mv, [.t 10], none⟩] [0, 8, 9, 10])
          .ret))) }
/-- impl.manyOk -/
def F_impl_manyOk : LF :=
  { nparams := 1, results := [.t 2], body :=
    (.seq
      (.region false [⟨some 2, .mv, [.c (.b false)], none⟩] [2])
      (.seq
        (.region false [⟨some 3, .mv, [.t 0], none⟩,
          ⟨some 4, .call n_impl_isWithin 2048, [.t 3, .c (.i 1), .c (.i 5)], none⟩,
          ⟨some 2, .mv, [.t 4], none⟩] [0, 3, 4])
        .ret)) }
/-- impl.isWithin -/
def F_impl_isWithin : LF :=
  { nparams := 3, results := [.t 6], body :=
    (.seq
      (.region false [⟨some 6, .mv, [.c (.b false)], none⟩] [6])
      (.seq
        (.region false [⟨some 7, .mv, [.t 1], none⟩,
          ⟨some 8, .mv, [.t 0], none⟩,
          ⟨some 9, .bin .leq, [.t 7, .t 8], none⟩,
          ⟨some 10, .mv, [.t 9], none⟩,
          ⟨some 11, .mv, [.t 0], some (10, true)⟩,
          ⟨some 12, .mv, [.t 2], some (10, true)⟩,
          ⟨some 13, .bin .leq, [.t 11, .t 12], some (10, true)⟩,
          ⟨some 14, .pick, [.t 10, .t 13, .c (.b false)], none⟩,
          ⟨some 6, .mv, [.t 14], none⟩] [0, 1, 2, 7, 8, 9, 10, 11, 12, 13, 14])
        .ret)) }
/-- spec.l1In -/
def F_spec_l1In : LF :=
  { nparams := 3, results := [.t 6], body :=
    (.seq
      (.region false [⟨some 6, .mv, [.c (.b false)], none⟩] [6])
      (.seq
        (.region false [⟨some 7, .mv, [.t 0], none⟩,
          ⟨some 8, .mv, [.t 1], none⟩,
          ⟨some 9, .bin .geq, [.t 7, .t 8], none⟩,
          ⟨some 10, .mv, [.t 9], none⟩,
          ⟨some 11, .mv, [.t 0], some (10, true)⟩,
          ⟨some 12, .mv, [.t 2], some (10, true)⟩,
          ⟨some 13, .bin .leq, [.t 11, .t 12], some (10, true)⟩,
          ⟨some 14, .pick, [.t 10, .t 13, .c (.b false)], none⟩,
          ⟨some 6, .mv, [.t 14], none⟩] [0, 1, 2, 7, 8, 9, 10, 11, 12, 13, 14])
        .ret)) }
/-- spec.l20Rd).pick -/
def F_spec_l20Rd_pick : LF :=
  { nparams := 2, results := [.t 4], body :=
    (.seq
      (.region false [⟨some 4, .mv, [.c (.i 0)], none⟩] [4])
      (.seq
        (.region false [⟨some 7, .mv, [.t 0], none⟩,
          ⟨some 8, .mv, [.t 0], none⟩,
          ⟨some 9, .chk, [.t 8], none⟩,
          ⟨some 10, .fld 1 1 false, [.t 9], none⟩,
          ⟨some 11, .load 1 false, [.t 10], none⟩,
          ⟨some 12, .bin .add, [.t 11, .c (.i 1)], none⟩,
          ⟨some 13, .chk, [.t 7], none⟩,
          ⟨some 14, .fld 1 1 false, [.t 13], none⟩,
          ⟨none, .store 1, [.t 14, .t 12], none⟩] [7, 8, 9, 10, 11, 12, 13, 14])
        (.seq
          (.seq
            (.region false [⟨some 15, .mv, [.t 1], none⟩,
              ⟨some 16, .bin .lss, [.t 15, .c (.i 1)], none⟩,
              ⟨some 17, .mv, [.t 16], none⟩,
              ⟨some 18, .mv, [.t 0], some (17, false)⟩,
              ⟨some 19, .chk, [.t 18], some (17, false)⟩,
              ⟨some 20, .fld 0 1 false, [.t 19], some (17, false)⟩,
              ⟨some 21, .load 1 false, [.t 20], some (17, false)⟩,
              ⟨some 22, .len, [.t 21], some (17, false)⟩,
              ⟨some 23, .bin .eql, [.t 22, .c (.i 0)], some (17, false)⟩,
              ⟨some 24, .pick, [.t 17, .c (.b true), .t 23], none⟩] [15, 16, 17, 18, 19, 20, 21, 22, 23])
            (.cond (.t 24) [24]
              (.seq
                (.region false [⟨some 4, .mv, [.c (.i 0)], none⟩] [1])
                .ret)
              .skip))
          (.seq
            (.region false [⟨some 25, .mv, [.t 0], none⟩,
              ⟨some 26, .chk, [.t 25], none⟩,
              ⟨some 27, .fld 1 1 false, [.t 26], none⟩,
              ⟨some 28, .load 1 false, [.t 27], none⟩,
              ⟨some 29, .bin .sub, [.t 28, .c (.i 1)], none⟩,
              ⟨some 5, .mv, [.t 29], none⟩] [25, 26, 27, 28, 29])
            (.seq
              (.seq
                (.region false [⟨some 30, .mv, [.t 5], none⟩,
                  ⟨some 31, .mv, [.t 0], none⟩,
                  ⟨some 32, .chk, [.t 31], none⟩,
                  ⟨some 33, .fld 0 1 false, [.t 32], none⟩,
                  ⟨some 34, .load 1 false, [.t 33], none⟩,
                  ⟨some 35, .len, [.t 34], none⟩,
                  ⟨some 36, .bin .lss, [.t 30, .t 35], none⟩] [30, 31, 32, 33, 34, 35])
                (.cond (.t 36) [36]
                  (.seq
                    (.region false [⟨some 37, .mv, [.t 0], none⟩,
                      ⟨some 38, .chk, [.t 37], none⟩,
                      ⟨some 39, .fld 0 1 false, [.t 38], none⟩,
                      ⟨some 40, .load 1 false, [.t 39], none⟩,
                      ⟨some 41, .mv, [.t 5], none⟩,
                      ⟨some 42, .idxa 1, [.t 40, .t 41], none⟩,
                      ⟨some 43, .load 1 false, [.t 42], none⟩,
                      ⟨some 44, .conv .b2i 22528, [.t 43], none⟩,
                      ⟨some 45, .mv, [.t 1], none⟩,
                      ⟨some 46, .bin .rem, [.t 44, .t 45], none⟩,
                      ⟨some 4, .mv, [.t 46], none⟩] [1, 5, 37, 38, 39, 40, 41, 42, 43, 44, 45, 46])
                    .ret)
                  .skip))
              (.seq
                (.region true [⟨some 47, .mv, [.t 0], none⟩,
                  ⟨some 48, .chk, [.t 47], none⟩,
                  ⟨some 49, .fld 0 1 false, [.t 48], none⟩,
                  ⟨some 50, .load 1 false, [.t 49], none⟩,
                  ⟨some 51, .mv, [.t 5], none⟩,
                  ⟨some 52, .mv, [.t 0], none⟩,
                  ⟨some 53, .chk, [.t 52], none⟩,
                  ⟨some 54, .fld 0 1 false, [.t 53], none⟩,
                  ⟨some 55, .load 1 false, [.t 54], none⟩,
                  ⟨some 56, .len, [.t 55], none⟩,
                  ⟨some 57, .bin .rem, [.t 51, .t 56], none⟩,
                  ⟨some 58, .idxa 1, [.t 50, .t 57], none⟩,
                  ⟨some 59, .load 1 false, [.t 58], none⟩,
                  ⟨some 60, .conv .b2i 30720, [.t 59], none⟩,
                  ⟨some 61, .bin .mul, [.t 60, .c (.i 131)], none⟩,
                  ⟨some 62, .mv, [.t 0], none⟩,
                  ⟨some 63, .chk, [.t 62], none⟩,
                  ⟨some 64, .fld 0 1 false, [.t 63], none⟩,
                  ⟨some 65, .load 1 false, [.t 64], none⟩,
                  ⟨some 66, .mv, [.t 5], none⟩,
                  ⟨some 67, .bin .mul, [.t 66, .c (.i 7)], none⟩,
                  ⟨some 68, .bin .add, [.t 67, .c (.i 3)], none⟩,
                  ⟨some 69, .mv, [.t 0], none⟩,
                  ⟨some 70, .chk, [.t 69], none⟩,
                  ⟨some 71, .fld 0 1 false, [.t 70], none⟩,
                  ⟨some 72, .load 1 false, [.t 71], none⟩,
                  ⟨some 73, .len, [.t 72], none⟩,
                  ⟨some 74, .bin .rem, [.t 68, .t 73], none⟩,
                  ⟨some 75, .idxa 1, [.t 65, .t 74], none⟩,
                  ⟨some 76, .load 1 false, [.t 75], none⟩,
                  ⟨some 77, .conv .b2i 39424, [.t 76], none⟩,
                  ⟨some 78, .bin .mul, [.t 77, .c (.i 1117)], none⟩,
                  ⟨some 79, .bin .add, [.t 61, .t 78], none⟩,
                  ⟨some 80, .mv, [.t 5], none⟩,
                  ⟨some 81, .bin .mul, [.t 80, .c (.i 29)], none⟩,
                  ⟨some 82, .bin .add, [.t 79, .t 81], none⟩,
                  ⟨some 83, .mv, [.t 5], none⟩,
                  ⟨some 84, .mv, [.t 0], none⟩,
                  ⟨some 85, .chk, [.t 84], none⟩,
                  ⟨some 86, .fld 0 1 false, [.t 85], none⟩,
                  ⟨some 87, .load 1 false, [.t 86], none⟩,
                  ⟨some 88, .len, [.t 87], none⟩,
                  ⟨some 89, .bin .quo, [.t 83, .t 88], none⟩,
                  ⟨some 90, .bin .mul, [.t 89, .c (.i 53)], none⟩,
                  ⟨some 91, .bin .add, [.t 82, .t 90], none⟩,
                  ⟨some 6, .mv, [.t 91], none⟩] [5, 47, 48, 49, 50, 51, 52, 53, 54, 55, 56, 57, 58, 59, 60, 61, 62, 63, 64, 65, 66, 67, 68, 69, 70, 71, 72, 73, 74, 75, 76, 77, 78, 79, 80, 81, 82, 83, 84, 85, 86, 87, 88, 89, 90, 91])
                (.seq
                  (.region false [⟨some 92, .mv, [.t 6], none⟩,
                    ⟨some 93, .mv, [.t 6], none⟩,
                    ⟨some 94, .bin .quo, [.t 93, .c (.i 64)], none⟩,
                    ⟨some 95, .bin .xor, [.t 92, .t 94], none⟩,
                    ⟨some 6, .mv, [.t 95], none⟩] [92, 93, 94, 95])
                  (.seq
                    (.region false [⟨some 96, .mv, [.t 6], none⟩,
                      ⟨some 97, .mv, [.t 1], none⟩,
                      ⟨some 98, .bin .rem, [.t 96, .t 97], none⟩,
                      ⟨some 4, .mv, [.t 98], none⟩] [1, 6, 96, 97, 98])
                    .ret)))))))) }
/-- impl.statesOf -/
def F_impl_statesOf : LF :=
  { nparams := 1, results := [.t 2], body :=
    (.seq
      (.region false [⟨some 2, .mv, [.c (.i 0)], none⟩] [2])
      (.seq
        (.region false [⟨some 3, .mv, [.t 0], none⟩,
          ⟨some 4, .bin .shl, [.c (.i 1), .t 3], none⟩,
          ⟨some 2, .mv, [.t 4], none⟩] [0, 3, 4])
        .ret)) }
/-- impl.outcomeIn -/
def F_impl_outcomeIn : LF :=
  { nparams := 2, results := [.t 4], body :=
    (.seq
      (.region false [⟨some 4, .mv, [.c (.i 0)], none⟩] [4])
      (.seq
        (.region false [⟨some 5, .mv, [.t 0], none⟩,
          ⟨some 6, .mv, [.t 1], none⟩,
          ⟨some 7, .bin .shr, [.t 5, .t 6], none⟩,
          ⟨some 8, .bin .and, [.t 7, .c (.i 1)], none⟩,
          ⟨some 4, .mv, [.t 8], none⟩] [0, 1, 5, 6, 7, 8])
        .ret)) }
/-- spec.l1Weight -/
def F_spec_l1Weight_L0 : LC :=
  (.seq
    (.seq
      (.region false [⟨some 7, .mv, [.t 6], none⟩,
        ⟨some 8, .mv, [.t 0], none⟩,
        ⟨some 9, .len, [.t 8], none⟩,
        ⟨some 10, .bin .lss, [.t 7, .t 9], none⟩] [7, 8, 9])
      (.cond (.t 10) [10]
        .skip
        (.exit 0)))
    (.seq
      (.block 1
        (.seq
          (.region false [⟨some 13, .mv, [.t 1], none⟩,
            ⟨some 14, .mv, [.t 6], none⟩,
            ⟨some 15, .bin .shr, [.t 13, .t 14], none⟩,
            ⟨some 16, .bin .rem, [.t 15, .c (.i 2)], none⟩,
            ⟨some 17, .bin .eql, [.t 16, .c (.i 1)], none⟩] [13, 14, 15, 16])
          (.cond (.t 17) [17]
            (.region false [⟨some 18, .mv, [.t 5], none⟩,
              ⟨some 19, .mv, [.t 0], none⟩,
              ⟨some 20, .mv, [.t 6], none⟩,
              ⟨some 21, .idxa 2, [.t 19, .t 20], none⟩,
              ⟨some 22, .fld 1 1 false, [.t 21], none⟩,
              ⟨some 23, .load 1 false, [.t 22], none⟩,
              ⟨some 24, .bin .mul, [.t 18, .t 23], none⟩,
              ⟨some 5, .mv, [.t 24], none⟩] [18, 19, 20, 21, 22, 23, 24])
            (.region false [⟨some 25, .mv, [.t 5], none⟩,
              ⟨some 26, .mv, [.t 0], none⟩,
              ⟨some 27, .mv, [.t 6], none⟩,
              ⟨some 28, .idxa 2, [.t 26, .t 27], none⟩,
              ⟨some 29, .fld 1 1 false, [.t 28], none⟩,
              ⟨some 30, .load 1 false, [.t 29], none⟩,
              ⟨some 31, .bin .sub, [.c (.i 6), .t 30], none⟩,
              ⟨some 32, .bin .mul, [.t 25, .t 31], none⟩,
              ⟨some 5, .mv, [.t 32], none⟩] [25, 26, 27, 28, 29, 30, 31, 32]))))
      (.region false [⟨some 11, .mv, [.t 6], none⟩,
        ⟨some 12, .bin .add, [.t 11, .c (.i 1)], none⟩,
        ⟨some 6, .mv, [.t 12], none⟩] [11, 12])))
def F_spec_l1Weight_W0 : LC := .loop F_spec_l1Weight_L0
def F_spec_l1Weight : LF :=
  { nparams := 2, results := [.t 4], body :=
    (.seq
      (.region false [⟨some 4, .mv, [.c (.i 0)], none⟩] [4])
      (.seq
        (.region false [⟨some 5, .mv, [.c (.i 1)], none⟩] [])
        (.seq
          (.seq
            (.region false [⟨some 6, .mv, [.c (.i 0)], none⟩] [])
            (.block 0
              F_spec_l1Weight_W0))
          (.seq
            (.region false [⟨some 33, .mv, [.t 5], none⟩,
              ⟨some 4, .mv, [.t 33], none⟩] [0, 1, 5, 6, 33])
            .ret)))) }
/-- spec.l20Known -/
def F_spec_l20Known_L0 : LC :=
  (.seq
    (.seq
      (.region false [⟨some 8, .mv, [.t 6], none⟩,
        ⟨some 9, .mv, [.t 1], none⟩,
        ⟨some 10, .bin .lss, [.t 8, .t 9], none⟩] [8, 9])
      (.cond (.t 10) [10]
        .skip
        (.exit 0)))
    (.seq
      (.block 1
        (.region false [⟨some 13, .mv, [.t 5], none⟩,
          ⟨some 14, .bslice 7176 4 1 (.i 0) [0, 1, 2, 3], [.c (.i (-1)), .c (.i (-1)), .c (.i 0), .c (.i 1)], none⟩,
          ⟨some 15, .mv, [.t 0], none⟩,
          ⟨some 16, .call n_spec_l20Rd_pick 8192, [.t 15, .c (.i 4)], none⟩,
          ⟨some 17, .idxa 1, [.t 14, .t 16], none⟩,
          ⟨some 18, .load 1 false, [.t 17], none⟩,
          ⟨some 19, .bslice 9736 1 1 (.i 0) [0], [.t 18], none⟩,
          ⟨some 20, .app 10248 1, [.t 13, .t 19], none⟩,
          ⟨some 5, .mv, [.t 20], none⟩] [13, 14, 15, 16, 17, 18, 19, 20]))
      (.region false [⟨some 11, .mv, [.t 6], none⟩,
        ⟨some 12, .bin .add, [.t 11, .c (.i 1)], none⟩,
        ⟨some 6, .mv, [.t 12], none⟩] [11, 12])))
def F_spec_l20Known_W0 : LC := .loop F_spec_l20Known_L0
def F_spec_l20Known : LF :=
  { nparams := 2, results := [.t 4], body :=
    (.seq
      (.region false [⟨some 4, .newnil 2056, [], none⟩] [4])
      (.seq
        (.region false [⟨some 7, .bslice 3592 0 1 (.i 0) [], [], none⟩,
          ⟨some 5, .mv, [.t 7], none⟩] [7])
        (.seq
          (.seq
            (.region false [⟨some 6, .mv, [.c (.i 0)], none⟩] [])
            (.block 0
              F_spec_l20Known_W0))
          (.seq
            (.seq
              (.region false [⟨some 21, .mv, [.t 0], none⟩,
                ⟨some 22, .call n_spec_l20Rd_odd 11264, [.t 21, .c (.i 24)], none⟩] [1, 6, 21])
              (.cond (.t 22) [22]
                (.seq
                  (.region false [⟨some 23, .mv, [.t 5], none⟩,
                    ⟨some 24, .bslice 12296 1 1 (.i 0) [0], [.c (.i 0)], none⟩,
                    ⟨some 25, .app 12808 1, [.t 23, .t 24], none⟩,
                    ⟨some 4, .mv, [.t 25], none⟩] [5, 23, 24, 25])
                  .ret)
                .skip))
            (.seq
              (.region false [⟨some 26, .mv, [.t 5], none⟩,
                ⟨some 4, .mv, [.t 26], none⟩] [5, 26])
              .ret))))) }
/-- spec.l20Rd).odd -/
def F_spec_l20Rd_odd : LF :=
  { nparams := 2, results := [.t 4], body :=
    (.seq
      (.region false [⟨some 4, .mv, [.c (.b false)], none⟩] [4])
      (.seq
        (.region false [⟨some 5, .mv, [.t 1], none⟩,
          ⟨some 6, .bin .gtr, [.t 5, .c (.i 0)], none⟩,
          ⟨some 7, .mv, [.t 6], none⟩,
          ⟨some 8, .mv, [.t 0], some (7, true)⟩,
          ⟨some 9, .mv, [.t 1], some (7, true)⟩,
          ⟨some 10, .call n_spec_l20Rd_pick 5120, [.t 8, .t 9], some (7, true)⟩,
          ⟨some 11, .mv, [.t 1], some (7, true)⟩,
          ⟨some 12, .bin .sub, [.t 11, .c (.i 1)], some (7, true)⟩,
          ⟨some 13, .bin .eql, [.t 10, .t 12], some (7, true)⟩,
          ⟨some 14, .pick, [.t 7, .t 13, .c (.b false)], none⟩,
          ⟨some 4, .mv, [.t 14], none⟩] [1, 5, 6, 7, 8, 9, 10, 11, 12, 13, 14])
        .ret)) }
/-- spec.l1Agrees -/
def F_spec_l1Agrees_L0 : LC :=
  (.seq
    (.seq
      (.region false [⟨some 6, .mv, [.t 5], none⟩,
        ⟨some 7, .mv, [.t 0], none⟩,
        ⟨some 8, .len, [.t 7], none⟩,
        ⟨some 9, .bin .lss, [.t 6, .t 8], none⟩] [6, 7, 8])
      (.cond (.t 9) [9]
        .skip
        (.exit 0)))
    (.seq
      (.block 1
        (.seq
          (.region true [⟨some 12, .mv, [.t 0], none⟩,
            ⟨some 13, .mv, [.t 5], none⟩,
            ⟨some 14, .idxa 1, [.t 12, .t 13], none⟩,
            ⟨some 15, .load 1 false, [.t 14], none⟩,
            ⟨some 16, .bin .neq, [.t 15, .c (.i (-1))], none⟩,
            ⟨some 17, .mv, [.t 16], none⟩,
            ⟨some 18, .mv, [.t 0], some (17, true)⟩,
            ⟨some 19, .mv, [.t 5], some (17, true)⟩,
            ⟨some 20, .idxa 1, [.t 18, .t 19], some (17, true)⟩,
            ⟨some 21, .load 1 false, [.t 20], some (17, true)⟩,
            ⟨some 22, .mv, [.t 1], some (17, true)⟩,
            ⟨some 23, .mv, [.t 5], some (17, true)⟩,
            ⟨some 24, .bin .shr, [.t 22, .t 23], some (17, true)⟩,
            ⟨some 25, .bin .rem, [.t 24, .c (.i 2)], some (17, true)⟩,
            ⟨some 26, .bin .neq, [.t 21, .t 25], some (17, true)⟩,
            ⟨some 27, .pick, [.t 17, .t 26, .c (.b false)], none⟩] [12, 13, 14, 15, 16, 17, 18, 19, 20, 21, 22, 23, 24, 25, 26])
          (.cond (.t 27) [27]
            (.seq
              (.region false [⟨some 4, .mv, [.c (.b false)], none⟩] [0, 1, 5])
              .ret)
            .skip)))
      (.region false [⟨some 10, .mv, [.t 5], none⟩,
        ⟨some 11, .bin .add, [.t 10, .c (.i 1)], none⟩,
        ⟨some 5, .mv, [.t 11], none⟩] [10, 11])))
def F_spec_l1Agrees_W0 : LC := .loop F_spec_l1Agrees_L0
def F_spec_l1Agrees : LF :=
  { nparams := 2, results := [.t 4], body :=
    (.seq
      (.region false [⟨some 4, .mv, [.c (.b false)], none⟩] [4])
      (.seq
        (.seq
          (.region false [⟨some 5, .mv, [.c (.i 0)], none⟩] [])
          (.block 0
            F_spec_l1Agrees_W0))
        (.seq
          (.region false [⟨some 4, .mv, [.c (.b true)], none⟩] [0, 1, 5])
          .ret))) }
/-- laws.toTest -/
def F_laws_toTest : LF :=
  { nparams := 1, results := [.c 2 2 true], body :=
    (.seq
      (.region false [⟨some 1, .box 528, [.t 0], none⟩,
        ⟨some 2, .alloc 1040 (.st [.i 0, .i 0]), [], none⟩] [0])
      (.seq
        (.region false [⟨some 3, .alloc 1552 (.st [.i 0, .i 0]), [], none⟩] [])
        (.seq
          (.region false [⟨some 4, .fld 0 1 false, [.t 1], none⟩,
            ⟨some 5, .load 1 false, [.t 4], none⟩,
            ⟨some 6, .fld 0 1 false, [.t 3], none⟩,
            ⟨none, .store 1, [.t 6, .t 5], none⟩] [4, 5, 6])
          (.seq
            (.region false [⟨some 7, .fld 1 1 false, [.t 1], none⟩,
              ⟨some 8, .load 1 false, [.t 7], none⟩,
              ⟨some 9, .fld 1 1 false, [.t 3], none⟩,
              ⟨none, .store 1, [.t 9, .t 8], none⟩] [1, 7, 8, 9])
            (.seq
              (.region false [⟨some 10, .load 2 true, [.t 3], none⟩,
                ⟨none, .store 2, [.t 2, .t 10], none⟩] [3, 10])
              .ret))))) }
/-- laws.eqTest -/
def F_laws_eqTest : LF :=
  { nparams := 2, results := [.t 4], body :=
    (.seq
      (.region false [⟨some 2, .box 1040, [.t 0], none⟩,
        ⟨some 3, .box 1552, [.t 1], none⟩,
        ⟨some 4, .mv, [.c (.b false)], none⟩] [0, 1, 4])
      (.seq
        (.seq
          (.region false [⟨some 5, .fld 0 1 false, [.t 2], none⟩,
            ⟨some 6, .load 1 false, [.t 5], none⟩,
            ⟨some 7, .fld 0 1 false, [.t 3], none⟩,
            ⟨some 8, .load 1 false, [.t 7], none⟩,
            ⟨some 9, .bin .neq, [.t 6, .t 8], none⟩] [5, 6, 7, 8])
          (.cond (.t 9) [9]
            (.seq
              (.region false [⟨some 4, .mv, [.c (.b false)], none⟩] [2, 3])
              .ret)
            .skip))
        (.seq
          (.seq
            (.region false [⟨some 10, .fld 1 1 false, [.t 2], none⟩,
              ⟨some 11, .load 1 false, [.t 10], none⟩,
              ⟨some 12, .fld 1 1 false, [.t 3], none⟩,
              ⟨some 13, .load 1 false, [.t 12], none⟩,
              ⟨some 14, .bin .neq, [.t 11, .t 13], none⟩] [2, 3, 10, 11, 12, 13])
            (.cond (.t 14) [14]
              (.seq
                (.region false [⟨some 4, .mv, [.c (.b false)], none⟩] [])
                .ret)
              .skip))
          (.seq
            (.region false [⟨some 4, .mv, [.c (.b true)], none⟩] [])
            .ret)))) }
def lf : Nat → Option LF
  | 3 => some F_laws_FnTestsOk
  | 4 => some F_laws_FnStateOk
  | 5 => some F_laws_FnWeightOf
  | 6 => some F_laws_FnOtherTests
  | 7 => some F_laws_FnKnownOk
  | 8 => some F_laws_FnAgreesOk
  | 9 => some F_laws_FnWeightWhere
  | 10 => some F_laws_FnCostOf
  | 11 => some F_laws_FnLikeliestState
  | 12 => some F_laws_FnWhereParts
  | 13 => some F_laws_FnExactTestsOk
  | 14 => some F_laws_FnExactStateOk
  | 15 => some F_spec_DrawTestsOk
  | 16 => some F_impl_TestsOk
  | 17 => some F_spec_TestsOk
  | 18 => some F_laws_alive
  | 19 => some F_spec_DrawStateOk
  | 20 => some F_impl_StateOk
  | 21 => some F_spec_StateOk
  | 22 => some F_spec_DrawWeightOf
  | 23 => some F_impl_WeightOf
  | 24 => some F_spec_WeightOf
  | 25 => some F_laws_power
  | 26 => some F_impl_OtherTests
  | 27 => some F_spec_DrawOtherTests
  | 28 => some F_laws_sameTests
  | 29 => some F_spec_OtherTests
  | 30 => some F_impl_CostOf
  | 31 => some F_spec_DrawKnownOk
  | 32 => some F_impl_KnownOk
  | 33 => some F_spec_KnownOk
  | 34 => some F_spec_DrawAgreesOk
  | 35 => some F_impl_AgreesOk
  | 36 => some F_spec_AgreesOk
  | 37 => some F_spec_DrawWeightWhere
  | 38 => some F_impl_WeightWhere
  | 39 => some F_spec_WeightWhere
  | 40 => some F_spec_DrawCostOf
  | 41 => some F_spec_CostOf
  | 42 => some F_spec_DrawLikeliestState
  | 43 => some F_impl_LikeliestState
  | 44 => some F_spec_LikeliestState
  | 45 => some F_laws_szTestS
  | 46 => some F_laws_toTestS
  | 47 => some F_laws_eqTestS
  | 48 => some F_spec_l20Tests
  | 49 => some F_spec_l20Open
  | 50 => some F_impl_manyOk
  | 51 => some F_impl_isWithin
  | 52 => some F_spec_l1In
  | 53 => some F_spec_l20Rd_pick
  | 54 => some F_impl_statesOf
  | 55 => some F_impl_outcomeIn
  | 56 => some F_spec_l1Weight
  | 57 => some F_spec_l20Known
  | 58 => some F_spec_l20Rd_odd
  | 59 => some F_spec_l1Agrees
  | 60 => some F_laws_toTest
  | 61 => some F_laws_eqTest
  | _ => none
theorem w_laws_FnWeightOf_0 (S : LS) : ex lf F_laws_FnWeightOf_W0 S = match ex lf F_laws_FnWeightOf_L0 S with | some (.normal, S1) => ex lf F_laws_FnWeightOf_W0 S1 | r => r := ex_loop lf F_laws_FnWeightOf_L0 S
theorem w_laws_FnKnownOk_0 (S : LS) : ex lf F_laws_FnKnownOk_W0 S = match ex lf F_laws_FnKnownOk_L0 S with | some (.normal, S1) => ex lf F_laws_FnKnownOk_W0 S1 | r => r := ex_loop lf F_laws_FnKnownOk_L0 S
theorem w_laws_FnAgreesOk_0 (S : LS) : ex lf F_laws_FnAgreesOk_W0 S = match ex lf F_laws_FnAgreesOk_L0 S with | some (.normal, S1) => ex lf F_laws_FnAgreesOk_W0 S1 | r => r := ex_loop lf F_laws_FnAgreesOk_L0 S
theorem w_laws_FnAgreesOk_1 (S : LS) : ex lf F_laws_FnAgreesOk_W1 S = match ex lf F_laws_FnAgreesOk_L1 S with | some (.normal, S1) => ex lf F_laws_FnAgreesOk_W1 S1 | r => r := ex_loop lf F_laws_FnAgreesOk_L1 S
theorem w_laws_FnWeightWhere_0 (S : LS) : ex lf F_laws_FnWeightWhere_W0 S = match ex lf F_laws_FnWeightWhere_L0 S with | some (.normal, S1) => ex lf F_laws_FnWeightWhere_W0 S1 | r => r := ex_loop lf F_laws_FnWeightWhere_L0 S
theorem w_laws_FnLikeliestState_0 (S : LS) : ex lf F_laws_FnLikeliestState_W0 S = match ex lf F_laws_FnLikeliestState_L0 S with | some (.normal, S1) => ex lf F_laws_FnLikeliestState_W0 S1 | r => r := ex_loop lf F_laws_FnLikeliestState_L0 S
theorem w_laws_FnLikeliestState_1 (S : LS) : ex lf F_laws_FnLikeliestState_W1 S = match ex lf F_laws_FnLikeliestState_L1 S with | some (.normal, S1) => ex lf F_laws_FnLikeliestState_W1 S1 | r => r := ex_loop lf F_laws_FnLikeliestState_L1 S
theorem w_impl_TestsOk_0 (S : LS) : ex lf F_impl_TestsOk_W0 S = match ex lf F_impl_TestsOk_L0 S with | some (.normal, S1) => ex lf F_impl_TestsOk_W0 S1 | r => r := ex_loop lf F_impl_TestsOk_L0 S
theorem w_spec_TestsOk_0 (S : LS) : ex lf F_spec_TestsOk_W0 S = match ex lf F_spec_TestsOk_L0 S with | some (.normal, S1) => ex lf F_spec_TestsOk_W0 S1 | r => r := ex_loop lf F_spec_TestsOk_L0 S
theorem w_impl_WeightOf_0 (S : LS) : ex lf F_impl_WeightOf_W0 S = match ex lf F_impl_WeightOf_L0 S with | some (.normal, S1) => ex lf F_impl_WeightOf_W0 S1 | r => r := ex_loop lf F_impl_WeightOf_L0 S
theorem w_laws_power_0 (S : LS) : ex lf F_laws_power_W0 S = match ex lf F_laws_power_L0 S with | some (.normal, S1) => ex lf F_laws_power_W0 S1 | r => r := ex_loop lf F_laws_power_L0 S
theorem w_impl_OtherTests_0 (S : LS) : ex lf F_impl_OtherTests_W0 S = match ex lf F_impl_OtherTests_L0 S with | some (.normal, S1) => ex lf F_impl_OtherTests_W0 S1 | r => r := ex_loop lf F_impl_OtherTests_L0 S
theorem w_laws_sameTests_0 (S : LS) : ex lf F_laws_sameTests_W0 S = match ex lf F_laws_sameTests_L0 S with | some (.normal, S1) => ex lf F_laws_sameTests_W0 S1 | r => r := ex_loop lf F_laws_sameTests_L0 S
theorem w_spec_OtherTests_0 (S : LS) : ex lf F_spec_OtherTests_W0 S = match ex lf F_spec_OtherTests_L0 S with | some (.normal, S1) => ex lf F_spec_OtherTests_W0 S1 | r => r := ex_loop lf F_spec_OtherTests_L0 S
theorem w_impl_CostOf_0 (S : LS) : ex lf F_impl_CostOf_W0 S = match ex lf F_impl_CostOf_L0 S with | some (.normal, S1) => ex lf F_impl_CostOf_W0 S1 | r => r := ex_loop lf F_impl_CostOf_L0 S
theorem w_impl_KnownOk_0 (S : LS) : ex lf F_impl_KnownOk_W0 S = match ex lf F_impl_KnownOk_L0 S with | some (.normal, S1) => ex lf F_impl_KnownOk_W0 S1 | r => r := ex_loop lf F_impl_KnownOk_L0 S
theorem w_spec_KnownOk_0 (S : LS) : ex lf F_spec_KnownOk_W0 S = match ex lf F_spec_KnownOk_L0 S with | some (.normal, S1) => ex lf F_spec_KnownOk_W0 S1 | r => r := ex_loop lf F_spec_KnownOk_L0 S
theorem w_impl_AgreesOk_0 (S : LS) : ex lf F_impl_AgreesOk_W0 S = match ex lf F_impl_AgreesOk_L0 S with | some (.normal, S1) => ex lf F_impl_AgreesOk_W0 S1 | r => r := ex_loop lf F_impl_AgreesOk_L0 S
theorem w_impl_WeightWhere_0 (S : LS) : ex lf F_impl_WeightWhere_W0 S = match ex lf F_impl_WeightWhere_L0 S with | some (.normal, S1) => ex lf F_impl_WeightWhere_W0 S1 | r => r := ex_loop lf F_impl_WeightWhere_L0 S
theorem w_spec_WeightWhere_0 (S : LS) : ex lf F_spec_WeightWhere_W0 S = match ex lf F_spec_WeightWhere_L0 S with | some (.normal, S1) => ex lf F_spec_WeightWhere_W0 S1 | r => r := ex_loop lf F_spec_WeightWhere_L0 S
theorem w_spec_CostOf_0 (S : LS) : ex lf F_spec_CostOf_W0 S = match ex lf F_spec_CostOf_L0 S with | some (.normal, S1) => ex lf F_spec_CostOf_W0 S1 | r => r := ex_loop lf F_spec_CostOf_L0 S
theorem w_impl_LikeliestState_0 (S : LS) : ex lf F_impl_LikeliestState_W0 S = match ex lf F_impl_LikeliestState_L0 S with | some (.normal, S1) => ex lf F_impl_LikeliestState_W0 S1 | r => r := ex_loop lf F_impl_LikeliestState_L0 S
theorem w_spec_LikeliestState_0 (S : LS) : ex lf F_spec_LikeliestState_W0 S = match ex lf F_spec_LikeliestState_L0 S with | some (.normal, S1) => ex lf F_spec_LikeliestState_W0 S1 | r => r := ex_loop lf F_spec_LikeliestState_L0 S
theorem w_laws_toTestS_0 (S : LS) : ex lf F_laws_toTestS_W0 S = match ex lf F_laws_toTestS_L0 S with | some (.normal, S1) => ex lf F_laws_toTestS_W0 S1 | r => r := ex_loop lf F_laws_toTestS_L0 S
theorem w_laws_eqTestS_0 (S : LS) : ex lf F_laws_eqTestS_W0 S = match ex lf F_laws_eqTestS_L0 S with | some (.normal, S1) => ex lf F_laws_eqTestS_W0 S1 | r => r := ex_loop lf F_laws_eqTestS_L0 S
theorem w_spec_l20Tests_0 (S : LS) : ex lf F_spec_l20Tests_W0 S = match ex lf F_spec_l20Tests_L0 S with | some (.normal, S1) => ex lf F_spec_l20Tests_W0 S1 | r => r := ex_loop lf F_spec_l20Tests_L0 S
theorem w_spec_l1Weight_0 (S : LS) : ex lf F_spec_l1Weight_W0 S = match ex lf F_spec_l1Weight_L0 S with | some (.normal, S1) => ex lf F_spec_l1Weight_W0 S1 | r => r := ex_loop lf F_spec_l1Weight_L0 S
theorem w_spec_l20Known_0 (S : LS) : ex lf F_spec_l20Known_W0 S = match ex lf F_spec_l20Known_L0 S with | some (.normal, S1) => ex lf F_spec_l20Known_W0 S1 | r => r := ex_loop lf F_spec_l20Known_L0 S
theorem w_spec_l1Agrees_0 (S : LS) : ex lf F_spec_l1Agrees_W0 S = match ex lf F_spec_l1Agrees_L0 S with | some (.normal, S1) => ex lf F_spec_l1Agrees_W0 S1 | r => r := ex_loop lf F_spec_l1Agrees_L0 S
end Zz
