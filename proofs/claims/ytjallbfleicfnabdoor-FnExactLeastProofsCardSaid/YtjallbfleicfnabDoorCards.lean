/-
  DERIVED. GIVEN WITH THE SEED: THE CARDS: each row of YtjallbfleicfnabDoorRows.lean that lists a variable, with what it lists TIED to the program's text (the seventh form; the later family's looks); each row that meets fmt, with fmt's text TOLD by the authors' own Lean function (tested against real Go, not proved from fmt's source: count such statements apart). THE CARD IS WHAT COUNTS. Prove the row's statement (the work); the ties are given (YtjallbfleicfnabDoorTie.lean); close each card by the builder's one call (the guide's Derived/Test/ToyasCard.lean, 'card_holds'). Laid BY PROGRAM, IN A SANDBOX (cutbox-door.mjs). By AI agents, Wed Nov 11 2026. No macro, syntax, notation, axiom, sorry.
-/
import Derived.Test.YtjallbfleicfnabDoorRows
import GoSem.ClaimSeven
namespace Go.Proofs.YtjallbfleicfnabDoor
namespace Rows

/-- THE TIED CARD OF 'laws.FnExactProofOk'. -/
def fnExactProofOkCard : Claim7 := { stood := { row := fnExactProofOkRow, standIns := [], harness := (true, "4c472b2b514fff0d673cb52b6ce8206c2a5a2bf3f12ef04a531c67190bd44386"), looks := false }, kinds := [], alts := [], laidByText := true, laidKinds := [.data], laidTests := true, laidLooks := .later }
def FnExactProofOkCardSaid : Prop := Claim7.holds Tryd.pinned (.plain (OpenSpec.ofChange fnExactProofOkSpec)) fnExactProofOkCard

/-- THE TIED CARD OF 'laws.FnExactLeastProofs'. -/
def fnExactLeastProofsCard : Claim7 := { stood := { row := fnExactLeastProofsRow, standIns := [], harness := (true, "4c472b2b514fff0d673cb52b6ce8206c2a5a2bf3f12ef04a531c67190bd44386"), looks := false }, kinds := [], alts := [], laidByText := true, laidKinds := [.data], laidTests := true, laidLooks := .later }
def FnExactLeastProofsCardSaid : Prop := Claim7.holds Tryd.pinned (.plain (OpenSpec.ofChange fnExactLeastProofsSpec)) fnExactLeastProofsCard

/-- THE TIED CARD OF 'laws.FnExactTrueWeight'. -/
def fnExactTrueWeightCard : Claim7 := { stood := { row := fnExactTrueWeightRow, standIns := [], harness := (true, "4c472b2b514fff0d673cb52b6ce8206c2a5a2bf3f12ef04a531c67190bd44386"), looks := false }, kinds := [], alts := [], laidByText := true, laidKinds := [.data], laidTests := true, laidLooks := .later }
def FnExactTrueWeightCardSaid : Prop := Claim7.holds Tryd.pinned (.plain (OpenSpec.ofChange fnExactTrueWeightSpec)) fnExactTrueWeightCard

/-- THE TIED CARD OF 'laws.FnExactIdleTests'. -/
def fnExactIdleTestsCard : Claim7 := { stood := { row := fnExactIdleTestsRow, standIns := [], harness := (true, "4c472b2b514fff0d673cb52b6ce8206c2a5a2bf3f12ef04a531c67190bd44386"), looks := false }, kinds := [], alts := [], laidByText := true, laidKinds := [.data], laidTests := true, laidLooks := .later }
def FnExactIdleTestsCardSaid : Prop := Claim7.holds Tryd.pinned (.plain (OpenSpec.ofChange fnExactIdleTestsSpec)) fnExactIdleTestsCard

/-- THE TIED CARD OF 'laws.FnExactTurnsIn'. -/
def fnExactTurnsInCard : Claim7 := { stood := { row := fnExactTurnsInRow, standIns := [], harness := (true, "4c472b2b514fff0d673cb52b6ce8206c2a5a2bf3f12ef04a531c67190bd44386"), looks := false }, kinds := [], alts := [], laidByText := true, laidKinds := [.data], laidTests := true, laidLooks := .later }
def FnExactTurnsInCardSaid : Prop := Claim7.holds Tryd.pinned (.plain (OpenSpec.ofChange fnExactTurnsInSpec)) fnExactTurnsInCard

/-- THE TIED CARD OF 'laws.FnValueOf'. -/
def fnValueOfCard : Claim7 := { stood := { row := fnValueOfRow, standIns := [], harness := (true, "4c472b2b514fff0d673cb52b6ce8206c2a5a2bf3f12ef04a531c67190bd44386"), looks := false }, kinds := [], alts := [], laidByText := true, laidKinds := [.data], laidTests := true, laidLooks := .later }
def FnValueOfCardSaid : Prop := Claim7.holds Tryd.pinned (.plain (OpenSpec.ofChange fnValueOfSpec)) fnValueOfCard

/-- THE TIED CARD OF 'laws.FnForcedBy'. -/
def fnForcedByCard : Claim7 := { stood := { row := fnForcedByRow, standIns := [], harness := (true, "4c472b2b514fff0d673cb52b6ce8206c2a5a2bf3f12ef04a531c67190bd44386"), looks := false }, kinds := [], alts := [], laidByText := true, laidKinds := [.data], laidTests := true, laidLooks := .later }
def FnForcedByCardSaid : Prop := Claim7.holds Tryd.pinned (.plain (OpenSpec.ofChange fnForcedBySpec)) fnForcedByCard

/-- THE TIED CARD OF 'laws.FnProofOk'. -/
def fnProofOkCard : Claim7 := { stood := { row := fnProofOkRow, standIns := [], harness := (true, "4c472b2b514fff0d673cb52b6ce8206c2a5a2bf3f12ef04a531c67190bd44386"), looks := false }, kinds := [], alts := [], laidByText := true, laidKinds := [.data], laidTests := true, laidLooks := .later }
def FnProofOkCardSaid : Prop := Claim7.holds Tryd.pinned (.plain (OpenSpec.ofChange fnProofOkSpec)) fnProofOkCard

/-- THE SECOND FORM's CARD OF 'laws.FnExactProofOk'. -/
def fnExactProofOkUptoCard : Claim7 := { stood := { row := fnExactProofOkUptoRow, standIns := [], harness := (true, "4c472b2b514fff0d673cb52b6ce8206c2a5a2bf3f12ef04a531c67190bd44386"), looks := false }, kinds := [], alts := [], laidByText := true, laidKinds := [.data], laidTests := true, laidLooks := .later }
def FnExactProofOkUptoCardSaid : Prop := Claim7.holds Tryd.pinned (.plain (OpenSpec.upto fnExactProofOkSpec)) fnExactProofOkUptoCard

/-- THE SECOND FORM's CARD OF 'laws.FnExactLeastProofs'. -/
def fnExactLeastProofsUptoCard : Claim7 := { stood := { row := fnExactLeastProofsUptoRow, standIns := [], harness := (true, "4c472b2b514fff0d673cb52b6ce8206c2a5a2bf3f12ef04a531c67190bd44386"), looks := false }, kinds := [], alts := [], laidByText := true, laidKinds := [.data], laidTests := true, laidLooks := .later }
def FnExactLeastProofsUptoCardSaid : Prop := Claim7.holds Tryd.pinned (.plain (OpenSpec.upto fnExactLeastProofsSpec)) fnExactLeastProofsUptoCard

/-- THE SECOND FORM's CARD OF 'laws.FnExactTrueWeight'. -/
def fnExactTrueWeightUptoCard : Claim7 := { stood := { row := fnExactTrueWeightUptoRow, standIns := [], harness := (true, "4c472b2b514fff0d673cb52b6ce8206c2a5a2bf3f12ef04a531c67190bd44386"), looks := false }, kinds := [], alts := [], laidByText := true, laidKinds := [.data], laidTests := true, laidLooks := .later }
def FnExactTrueWeightUptoCardSaid : Prop := Claim7.holds Tryd.pinned (.plain (OpenSpec.upto fnExactTrueWeightSpec)) fnExactTrueWeightUptoCard

/-- THE SECOND FORM's CARD OF 'laws.FnExactIdleTests'. -/
def fnExactIdleTestsUptoCard : Claim7 := { stood := { row := fnExactIdleTestsUptoRow, standIns := [], harness := (true, "4c472b2b514fff0d673cb52b6ce8206c2a5a2bf3f12ef04a531c67190bd44386"), looks := false }, kinds := [], alts := [], laidByText := true, laidKinds := [.data], laidTests := true, laidLooks := .later }
def FnExactIdleTestsUptoCardSaid : Prop := Claim7.holds Tryd.pinned (.plain (OpenSpec.upto fnExactIdleTestsSpec)) fnExactIdleTestsUptoCard

/-- THE SECOND FORM's CARD OF 'laws.FnExactTurnsIn'. -/
def fnExactTurnsInUptoCard : Claim7 := { stood := { row := fnExactTurnsInUptoRow, standIns := [], harness := (true, "4c472b2b514fff0d673cb52b6ce8206c2a5a2bf3f12ef04a531c67190bd44386"), looks := false }, kinds := [], alts := [], laidByText := true, laidKinds := [.data], laidTests := true, laidLooks := .later }
def FnExactTurnsInUptoCardSaid : Prop := Claim7.holds Tryd.pinned (.plain (OpenSpec.upto fnExactTurnsInSpec)) fnExactTurnsInUptoCard

/-- THE SECOND FORM's CARD OF 'laws.FnValueOf'. -/
def fnValueOfUptoCard : Claim7 := { stood := { row := fnValueOfUptoRow, standIns := [], harness := (true, "4c472b2b514fff0d673cb52b6ce8206c2a5a2bf3f12ef04a531c67190bd44386"), looks := false }, kinds := [], alts := [], laidByText := true, laidKinds := [.data], laidTests := true, laidLooks := .later }
def FnValueOfUptoCardSaid : Prop := Claim7.holds Tryd.pinned (.plain (OpenSpec.upto fnValueOfSpec)) fnValueOfUptoCard

/-- THE SECOND FORM's CARD OF 'laws.FnForcedBy'. -/
def fnForcedByUptoCard : Claim7 := { stood := { row := fnForcedByUptoRow, standIns := [], harness := (true, "4c472b2b514fff0d673cb52b6ce8206c2a5a2bf3f12ef04a531c67190bd44386"), looks := false }, kinds := [], alts := [], laidByText := true, laidKinds := [.data], laidTests := true, laidLooks := .later }
def FnForcedByUptoCardSaid : Prop := Claim7.holds Tryd.pinned (.plain (OpenSpec.upto fnForcedBySpec)) fnForcedByUptoCard

/-- THE SECOND FORM's CARD OF 'laws.FnProofOk'. -/
def fnProofOkUptoCard : Claim7 := { stood := { row := fnProofOkUptoRow, standIns := [], harness := (true, "4c472b2b514fff0d673cb52b6ce8206c2a5a2bf3f12ef04a531c67190bd44386"), looks := false }, kinds := [], alts := [], laidByText := true, laidKinds := [.data], laidTests := true, laidLooks := .later }
def FnProofOkUptoCardSaid : Prop := Claim7.holds Tryd.pinned (.plain (OpenSpec.upto fnProofOkSpec)) fnProofOkUptoCard
end Rows
end Go.Proofs.YtjallbfleicfnabDoor
