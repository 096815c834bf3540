/-
  DERIVED. GIVEN WITH THE SEED: THE CARDS: each row of YtjallbfleicfnaaDoorRows.lean that lists a variable, with what it lists TIED to the program's text (the seventh form; the later family's looks); each row that meets fmt, with fmt's text TOLD by the authors' own Lean function (tested against real Go, not proved from fmt's source: count such statements apart). THE CARD IS WHAT COUNTS. Prove the row's statement (the work); the ties are given (YtjallbfleicfnaaDoorTie.lean); close each card by the builder's one call (the guide's Derived/Test/ToyasCard.lean, 'card_holds'). Laid BY PROGRAM, IN A SANDBOX (cutbox-door.mjs). By AI agents, Wed Nov 11 2026. No macro, syntax, notation, axiom, sorry.
-/
import Derived.Test.YtjallbfleicfnaaDoorRows
import GoSem.ClaimSeven
namespace Go.Proofs.YtjallbfleicfnaaDoor
namespace Rows

/-- THE TIED CARD OF 'laws.FnExactValueOf'. -/
def fnExactValueOfCard : Claim7 := { stood := { row := fnExactValueOfRow, standIns := [], harness := (true, "0541a9a7b3f8892ff4464cb96cae9a1d34014e2ee19d710282d161cb946172d7"), looks := false }, kinds := [], alts := [], laidByText := true, laidKinds := [.data], laidTests := true, laidLooks := .later }
def FnExactValueOfCardSaid : Prop := Claim7.holds Tryd.pinned (.plain (OpenSpec.ofChange fnExactValueOfSpec)) fnExactValueOfCard

/-- THE TIED CARD OF 'laws.FnExactForcedBy'. -/
def fnExactForcedByCard : Claim7 := { stood := { row := fnExactForcedByRow, standIns := [], harness := (true, "0541a9a7b3f8892ff4464cb96cae9a1d34014e2ee19d710282d161cb946172d7"), looks := false }, kinds := [], alts := [], laidByText := true, laidKinds := [.data], laidTests := true, laidLooks := .later }
def FnExactForcedByCardSaid : Prop := Claim7.holds Tryd.pinned (.plain (OpenSpec.ofChange fnExactForcedBySpec)) fnExactForcedByCard

/-- THE SECOND FORM's CARD OF 'laws.FnExactValueOf'. -/
def fnExactValueOfUptoCard : Claim7 := { stood := { row := fnExactValueOfUptoRow, standIns := [], harness := (true, "0541a9a7b3f8892ff4464cb96cae9a1d34014e2ee19d710282d161cb946172d7"), looks := false }, kinds := [], alts := [], laidByText := true, laidKinds := [.data], laidTests := true, laidLooks := .later }
def FnExactValueOfUptoCardSaid : Prop := Claim7.holds Tryd.pinned (.plain (OpenSpec.upto fnExactValueOfSpec)) fnExactValueOfUptoCard

/-- THE SECOND FORM's CARD OF 'laws.FnExactForcedBy'. -/
def fnExactForcedByUptoCard : Claim7 := { stood := { row := fnExactForcedByUptoRow, standIns := [], harness := (true, "0541a9a7b3f8892ff4464cb96cae9a1d34014e2ee19d710282d161cb946172d7"), looks := false }, kinds := [], alts := [], laidByText := true, laidKinds := [.data], laidTests := true, laidLooks := .later }
def FnExactForcedByUptoCardSaid : Prop := Claim7.holds Tryd.pinned (.plain (OpenSpec.upto fnExactForcedBySpec)) fnExactForcedByUptoCard
end Rows
end Go.Proofs.YtjallbfleicfnaaDoor
