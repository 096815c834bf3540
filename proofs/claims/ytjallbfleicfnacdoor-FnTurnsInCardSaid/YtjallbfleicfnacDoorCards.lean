/-
  DERIVED. GIVEN WITH THE SEED: THE CARDS: each row of YtjallbfleicfnacDoorRows.lean that lists a variable, with what it lists TIED to the program's text (the seventh form; the later family's looks); each row that meets fmt, with fmt's text TOLD by the authors' own Lean function (tested against real Go, not proved from fmt's source: count such statements apart). THE CARD IS WHAT COUNTS. Prove the row's statement (the work); the ties are given (YtjallbfleicfnacDoorTie.lean); close each card by the builder's one call (the guide's Derived/Test/ToyasCard.lean, 'card_holds'). Laid BY PROGRAM, IN A SANDBOX (cutbox-door.mjs). By AI agents, Wed Nov 11 2026. No macro, syntax, notation, axiom, sorry.
-/
import Derived.Test.YtjallbfleicfnacDoorRows
import GoSem.ClaimSeven
namespace Go.Proofs.YtjallbfleicfnacDoor
namespace Rows

/-- THE TIED CARD OF 'laws.FnLeastProofs'. -/
def fnLeastProofsCard : Claim7 := { stood := { row := fnLeastProofsRow, standIns := [], harness := (true, "f0d12891b4ae100323ba2b66031b7158d906c3f4febf2f573ed102828ff0c265"), looks := false }, kinds := [], alts := [], laidByText := true, laidKinds := [.data], laidTests := true, laidLooks := .later }
def FnLeastProofsCardSaid : Prop := Claim7.holds Tryd.pinned (.plain (OpenSpec.ofChange fnLeastProofsSpec)) fnLeastProofsCard

/-- THE TIED CARD OF 'laws.FnTrueWeight'. -/
def fnTrueWeightCard : Claim7 := { stood := { row := fnTrueWeightRow, standIns := [], harness := (true, "f0d12891b4ae100323ba2b66031b7158d906c3f4febf2f573ed102828ff0c265"), looks := false }, kinds := [], alts := [], laidByText := true, laidKinds := [.data], laidTests := true, laidLooks := .later }
def FnTrueWeightCardSaid : Prop := Claim7.holds Tryd.pinned (.plain (OpenSpec.ofChange fnTrueWeightSpec)) fnTrueWeightCard

/-- THE TIED CARD OF 'laws.FnIdleTests'. -/
def fnIdleTestsCard : Claim7 := { stood := { row := fnIdleTestsRow, standIns := [], harness := (true, "f0d12891b4ae100323ba2b66031b7158d906c3f4febf2f573ed102828ff0c265"), looks := false }, kinds := [], alts := [], laidByText := true, laidKinds := [.data], laidTests := true, laidLooks := .later }
def FnIdleTestsCardSaid : Prop := Claim7.holds Tryd.pinned (.plain (OpenSpec.ofChange fnIdleTestsSpec)) fnIdleTestsCard

/-- THE TIED CARD OF 'laws.FnTurnsIn'. -/
def fnTurnsInCard : Claim7 := { stood := { row := fnTurnsInRow, standIns := [], harness := (true, "f0d12891b4ae100323ba2b66031b7158d906c3f4febf2f573ed102828ff0c265"), looks := false }, kinds := [], alts := [], laidByText := true, laidKinds := [.data], laidTests := true, laidLooks := .later }
def FnTurnsInCardSaid : Prop := Claim7.holds Tryd.pinned (.plain (OpenSpec.ofChange fnTurnsInSpec)) fnTurnsInCard

/-- THE TIED CARD OF 'laws.FnForcedProof'. -/
def fnForcedProofCard : Claim7 := { stood := { row := fnForcedProofRow, standIns := [], harness := (true, "f0d12891b4ae100323ba2b66031b7158d906c3f4febf2f573ed102828ff0c265"), looks := false }, kinds := [], alts := [], laidByText := true, laidKinds := [.data], laidTests := true, laidLooks := .later }
def FnForcedProofCardSaid : Prop := Claim7.holds Tryd.pinned (.plain (OpenSpec.ofChange fnForcedProofSpec)) fnForcedProofCard

/-- THE SECOND FORM's CARD OF 'laws.FnLeastProofs'. -/
def fnLeastProofsUptoCard : Claim7 := { stood := { row := fnLeastProofsUptoRow, standIns := [], harness := (true, "f0d12891b4ae100323ba2b66031b7158d906c3f4febf2f573ed102828ff0c265"), looks := false }, kinds := [], alts := [], laidByText := true, laidKinds := [.data], laidTests := true, laidLooks := .later }
def FnLeastProofsUptoCardSaid : Prop := Claim7.holds Tryd.pinned (.plain (OpenSpec.upto fnLeastProofsSpec)) fnLeastProofsUptoCard

/-- THE SECOND FORM's CARD OF 'laws.FnTrueWeight'. -/
def fnTrueWeightUptoCard : Claim7 := { stood := { row := fnTrueWeightUptoRow, standIns := [], harness := (true, "f0d12891b4ae100323ba2b66031b7158d906c3f4febf2f573ed102828ff0c265"), looks := false }, kinds := [], alts := [], laidByText := true, laidKinds := [.data], laidTests := true, laidLooks := .later }
def FnTrueWeightUptoCardSaid : Prop := Claim7.holds Tryd.pinned (.plain (OpenSpec.upto fnTrueWeightSpec)) fnTrueWeightUptoCard

/-- THE SECOND FORM's CARD OF 'laws.FnIdleTests'. -/
def fnIdleTestsUptoCard : Claim7 := { stood := { row := fnIdleTestsUptoRow, standIns := [], harness := (true, "f0d12891b4ae100323ba2b66031b7158d906c3f4febf2f573ed102828ff0c265"), looks := false }, kinds := [], alts := [], laidByText := true, laidKinds := [.data], laidTests := true, laidLooks := .later }
def FnIdleTestsUptoCardSaid : Prop := Claim7.holds Tryd.pinned (.plain (OpenSpec.upto fnIdleTestsSpec)) fnIdleTestsUptoCard

/-- THE SECOND FORM's CARD OF 'laws.FnTurnsIn'. -/
def fnTurnsInUptoCard : Claim7 := { stood := { row := fnTurnsInUptoRow, standIns := [], harness := (true, "f0d12891b4ae100323ba2b66031b7158d906c3f4febf2f573ed102828ff0c265"), looks := false }, kinds := [], alts := [], laidByText := true, laidKinds := [.data], laidTests := true, laidLooks := .later }
def FnTurnsInUptoCardSaid : Prop := Claim7.holds Tryd.pinned (.plain (OpenSpec.upto fnTurnsInSpec)) fnTurnsInUptoCard

/-- THE SECOND FORM's CARD OF 'laws.FnForcedProof'. -/
def fnForcedProofUptoCard : Claim7 := { stood := { row := fnForcedProofUptoRow, standIns := [], harness := (true, "f0d12891b4ae100323ba2b66031b7158d906c3f4febf2f573ed102828ff0c265"), looks := false }, kinds := [], alts := [], laidByText := true, laidKinds := [.data], laidTests := true, laidLooks := .later }
def FnForcedProofUptoCardSaid : Prop := Claim7.holds Tryd.pinned (.plain (OpenSpec.upto fnForcedProofSpec)) fnForcedProofUptoCard
end Rows
end Go.Proofs.YtjallbfleicfnacDoor
