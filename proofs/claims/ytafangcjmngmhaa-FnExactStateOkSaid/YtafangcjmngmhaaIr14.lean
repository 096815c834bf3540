/- The functions of the program, read as data: Ir14. No conditions. -/
import Derived.Test.YtafangcjmngmhaaLg22
namespace Zz
open Go.Lg
/-- laws.FnExactStateOk -/
def F14 : LF :=
  { nparams := 2, results := [.t 4], body :=
    (.seq
      (.region false [⟨some 4, .mv, [.c (.b false)], none⟩] [4])
      (.seq
        (.region false [⟨some 7, .mv, [.t 0], none⟩,
          ⟨some 8, .mv, [.t 1], none⟩,
          ⟨some 9, .call 21 4608, [.t 7, .t 8], none⟩,
          ⟨some 5, .mv, [.t 9], none⟩] [7, 8, 9])
        (.seq
          (.region false [⟨some 10, .mv, [.t 0], none⟩,
            ⟨some 11, .mv, [.t 1], none⟩,
            ⟨some 12, .call 20 6144, [.t 10, .t 11], none⟩,
            ⟨some 6, .mv, [.t 12], none⟩] [0, 1, 10, 11, 12])
          (.seq
            (.seq
              (.region false [⟨some 13, .mv, [.t 6], none⟩,
                ⟨some 14, .mv, [.t 5], none⟩,
                ⟨some 15, .eqb true, [.t 13, .t 14], none⟩] [5, 6, 13, 14])
              (.cond (.t 15) [15]
                (.seq
                  (.region false [⟨some 4, .mv, [.c (.b false)], none⟩] [])
                  .ret)
                .skip))
            (.seq
              (.region false [⟨some 4, .mv, [.c (.b true)], none⟩] [])
              .ret))))) }
/-- impl.StateOk -/
def F20 : LF :=
  { nparams := 2, results := [.t 4], body :=
    (.seq
      (.region false [⟨some 4, .mv, [.c (.b false)], none⟩] [4])
      (.seq
        (.region false [⟨some 5, .mv, [.t 0], none⟩,
          ⟨some 6, .call 50 3072, [.t 5], none⟩,
          ⟨some 7, .mv, [.t 6], none⟩,
          ⟨some 8, .mv, [.t 1], some (7, true)⟩,
          ⟨some 9, .mv, [.t 0], some (7, true)⟩,
          ⟨some 10, .call 54 5120, [.t 9], some (7, true)⟩,
          ⟨some 11, .bin .sub, [.t 10, .c (.i 1)], some (7, true)⟩,
          ⟨some 12, .call 51 6144, [.t 8, .c (.i 0), .t 11], some (7, true)⟩,
          ⟨some 13, .pick, [.t 7, .t 12, .c (.b false)], none⟩,
          ⟨some 4, .mv, [.t 13], none⟩] [0, 1, 5, 6, 7, 8, 9, 10, 11, 12, 13])
        .ret)) }
/-- spec.StateOk -/
def F21 : LF :=
  { nparams := 2, results := [.t 4], body :=
    (.seq
      (.region false [⟨some 4, .mv, [.c (.b false)], none⟩] [4])
      (.seq
        (.region false [⟨some 5, .mv, [.t 0], none⟩,
          ⟨some 6, .call 52 3072, [.t 5, .c (.i 1), .c (.i 5)], none⟩,
          ⟨some 7, .mv, [.t 6], none⟩,
          ⟨some 8, .mv, [.t 1], some (7, true)⟩,
          ⟨some 9, .mv, [.t 0], some (7, true)⟩,
          ⟨some 10, .bin .shl, [.c (.i 1), .t 9], some (7, true)⟩,
          ⟨some 11, .bin .sub, [.t 10, .c (.i 1)], some (7, true)⟩,
          ⟨some 12, .call 52 6144, [.t 8, .c (.i 0), .t 11], some (7, true)⟩,
          ⟨some 13, .pick, [.t 7, .t 12, .c (.b false)], none⟩,
          ⟨some 4, .mv, [.t 13], none⟩] [0, 1, 5, 6, 7, 8, 9, 10, 11, 12, 13])
        .ret)) }
/-- impl.manyOk -/
def F50 : LF :=
  { nparams := 1, results := [.t 2], body :=
    (.seq
      (.region false [⟨some 2, .mv, [.c (.b false)], none⟩] [2])
      (.seq
        (.region false [⟨some 3, .mv, [.t 0], none⟩,
          ⟨some 4, .call 51 2048, [.t 3, .c (.i 1), .c (.i 5)], none⟩,
          ⟨some 2, .mv, [.t 4], none⟩] [0, 3, 4])
        .ret)) }
/-- impl.isWithin -/
def F51 : LF :=
  { nparams := 3, results := [.t 6], body :=
    (.seq
      (.region false [⟨some 6, .mv, [.c (.b false)], none⟩] [6])
      (.seq
        (.region false [⟨some 7, .mv, [.t 1], none⟩,
          ⟨some 8, .mv, [.t 0], none⟩,
          ⟨some 9, .bin .leq, [.t 7, .t 8], none⟩,
          ⟨some 10, .mv, [.t 9], none⟩,
          ⟨some 11, .mv, [.t 0], some (10, true)⟩,
          ⟨some 12, .mv, [.t 2], some (10, true)⟩,
          ⟨some 13, .bin .leq, [.t 11, .t 12], some (10, true)⟩,
          ⟨some 14, .pick, [.t 10, .t 13, .c (.b false)], none⟩,
          ⟨some 6, .mv, [.t 14], none⟩] [0, 1, 2, 7, 8, 9, 10, 11, 12, 13, 14])
        .ret)) }
/-- spec.l1In -/
def F52 : LF :=
  { nparams := 3, results := [.t 6], body :=
    (.seq
      (.region false [⟨some 6, .mv, [.c (.b false)], none⟩] [6])
      (.seq
        (.region false [⟨some 7, .mv, [.t 0], none⟩,
          ⟨some 8, .mv, [.t 1], none⟩,
          ⟨some 9, .bin .geq, [.t 7, .t 8], none⟩,
          ⟨some 10, .mv, [.t 9], none⟩,
          ⟨some 11, .mv, [.t 0], some (10, true)⟩,
          ⟨some 12, .mv, [.t 2], some (10, true)⟩,
          ⟨some 13, .bin .leq, [.t 11, .t 12], some (10, true)⟩,
          ⟨some 14, .pick, [.t 10, .t 13, .c (.b false)], none⟩,
          ⟨some 6, .mv, [.t 14], none⟩] [0, 1, 2, 7, 8, 9, 10, 11, 12, 13, 14])
        .ret)) }
/-- impl.statesOf -/
def F54 : LF :=
  { nparams := 1, results := [.t 2], body :=
    (.seq
      (.region false [⟨some 2, .mv, [.c (.i 0)], none⟩] [2])
      (.seq
        (.region false [⟨some 3, .mv, [.t 0], none⟩,
          ⟨some 4, .bin .shl, [.c (.i 1), .t 3], none⟩,
          ⟨some 2, .mv, [.t 4], none⟩] [0, 3, 4])
        .ret)) }
def lf : Nat → Option LF
  | 14 => some F14
  | 20 => some F20
  | 21 => some F21
  | 50 => some F50
  | 51 => some F51
  | 52 => some F52
  | 54 => some F54
  | _ => none
end Zz
