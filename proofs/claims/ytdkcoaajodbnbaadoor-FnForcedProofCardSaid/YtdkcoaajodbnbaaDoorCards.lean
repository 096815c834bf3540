/-
  DERIVED. GIVEN WITH THE SEED: THE CARDS: each row of YtdkcoaajodbnbaaDoorRows.lean that lists a variable, with what it lists TIED to the program's text (the seventh form; the later family's looks); each row that meets fmt, with fmt's text TOLD by the authors' own Lean function (tested against real Go, not proved from fmt's source: count such statements apart). THE CARD IS WHAT COUNTS. Prove the row's statement (the work); the ties are given (YtdkcoaajodbnbaaDoorTie.lean); close each card by the builder's one call (the guide's Derived/Test/ToyasCard.lean, 'card_holds'). Laid BY PROGRAM, IN A SANDBOX (cutbox-door.mjs). By AI agents, Wed Nov 11 2026. No macro, syntax, notation, axiom, sorry.
-/
import Derived.Test.YtdkcoaajodbnbaaDoorRows
import GoSem.ClaimSeven
namespace Go.Proofs.YtdkcoaajodbnbaaDoor
namespace Rows

/-- THE TIED CARD OF 'laws.FnForcedBy'. -/
def fnForcedByCard : Claim7 := { stood := { row := fnForcedByRow, standIns := [], harness := (true, "f38915867d048dd768cc052c010e0cd07e1d70cbbf395541ad20627ebbe71d7c"), looks := false }, kinds := [], alts := [], laidByText := true, laidKinds := [.data], laidTests := true, laidLooks := .later }
def FnForcedByCardSaid : Prop := Claim7.holds Tryd.pinned (.plain (OpenSpec.ofChange fnForcedBySpec)) fnForcedByCard

/-- THE TIED CARD OF 'laws.FnForcedProof'. -/
def fnForcedProofCard : Claim7 := { stood := { row := fnForcedProofRow, standIns := [], harness := (true, "f38915867d048dd768cc052c010e0cd07e1d70cbbf395541ad20627ebbe71d7c"), looks := false }, kinds := [], alts := [], laidByText := true, laidKinds := [.data], laidTests := true, laidLooks := .later }
def FnForcedProofCardSaid : Prop := Claim7.holds Tryd.pinned (.plain (OpenSpec.ofChange fnForcedProofSpec)) fnForcedProofCard

/-- THE TIED CARD OF 'laws.FnLeastProofs'. -/
def fnLeastProofsCard : Claim7 := { stood := { row := fnLeastProofsRow, standIns := [], harness := (true, "f38915867d048dd768cc052c010e0cd07e1d70cbbf395541ad20627ebbe71d7c"), looks := false }, kinds := [], alts := [], laidByText := true, laidKinds := [.data], laidTests := true, laidLooks := .later }
def FnLeastProofsCardSaid : Prop := Claim7.holds Tryd.pinned (.plain (OpenSpec.ofChange fnLeastProofsSpec)) fnLeastProofsCard

/-- THE TIED CARD OF 'laws.FnProofOk'. -/
def fnProofOkCard : Claim7 := { stood := { row := fnProofOkRow, standIns := [], harness := (true, "f38915867d048dd768cc052c010e0cd07e1d70cbbf395541ad20627ebbe71d7c"), looks := false }, kinds := [], alts := [], laidByText := true, laidKinds := [.data], laidTests := true, laidLooks := .later }
def FnProofOkCardSaid : Prop := Claim7.holds Tryd.pinned (.plain (OpenSpec.ofChange fnProofOkSpec)) fnProofOkCard

/-- THE TIED CARD OF 'laws.FnTurnsIn'. -/
def fnTurnsInCard : Claim7 := { stood := { row := fnTurnsInRow, standIns := [], harness := (true, "f38915867d048dd768cc052c010e0cd07e1d70cbbf395541ad20627ebbe71d7c"), looks := false }, kinds := [], alts := [], laidByText := true, laidKinds := [.data], laidTests := true, laidLooks := .later }
def FnTurnsInCardSaid : Prop := Claim7.holds Tryd.pinned (.plain (OpenSpec.ofChange fnTurnsInSpec)) fnTurnsInCard

/-- THE TIED CARD OF 'laws.FnExactForcedBy'. -/
def fnExactForcedByCard : Claim7 := { stood := { row := fnExactForcedByRow, standIns := [], harness := (true, "f38915867d048dd768cc052c010e0cd07e1d70cbbf395541ad20627ebbe71d7c"), looks := false }, kinds := [], alts := [], laidByText := true, laidKinds := [.data], laidTests := true, laidLooks := .later }
def FnExactForcedByCardSaid : Prop := Claim7.holds Tryd.pinned (.plain (OpenSpec.ofChange fnExactForcedBySpec)) fnExactForcedByCard

/-- THE TIED CARD OF 'laws.FnExactLeastProofs'. -/
def fnExactLeastProofsCard : Claim7 := { stood := { row := fnExactLeastProofsRow, standIns := [], harness := (true, "f38915867d048dd768cc052c010e0cd07e1d70cbbf395541ad20627ebbe71d7c"), looks := false }, kinds := [], alts := [], laidByText := true, laidKinds := [.data], laidTests := true, laidLooks := .later }
def FnExactLeastProofsCardSaid : Prop := Claim7.holds Tryd.pinned (.plain (OpenSpec.ofChange fnExactLeastProofsSpec)) fnExactLeastProofsCard

/-- THE TIED CARD OF 'laws.FnExactProofOk'. -/
def fnExactProofOkCard : Claim7 := { stood := { row := fnExactProofOkRow, standIns := [], harness := (true, "f38915867d048dd768cc052c010e0cd07e1d70cbbf395541ad20627ebbe71d7c"), looks := false }, kinds := [], alts := [], laidByText := true, laidKinds := [.data], laidTests := true, laidLooks := .later }
def FnExactProofOkCardSaid : Prop := Claim7.holds Tryd.pinned (.plain (OpenSpec.ofChange fnExactProofOkSpec)) fnExactProofOkCard

/-- THE SECOND FORM's CARD OF 'laws.FnForcedBy'. -/
def fnForcedByUptoCard : Claim7 := { stood := { row := fnForcedByUptoRow, standIns := [], harness := (true, "f38915867d048dd768cc052c010e0cd07e1d70cbbf395541ad20627ebbe71d7c"), looks := false }, kinds := [], alts := [], laidByText := true, laidKinds := [.data], laidTests := true, laidLooks := .later }
def FnForcedByUptoCardSaid : Prop := Claim7.holds Tryd.pinned (.plain (OpenSpec.upto fnForcedBySpec)) fnForcedByUptoCard

/-- THE SECOND FORM's CARD OF 'laws.FnForcedProof'. -/
def fnForcedProofUptoCard : Claim7 := { stood := { row := fnForcedProofUptoRow, standIns := [], harness := (true, "f38915867d048dd768cc052c010e0cd07e1d70cbbf395541ad20627ebbe71d7c"), looks := false }, kinds := [], alts := [], laidByText := true, laidKinds := [.data], laidTests := true, laidLooks := .later }
def FnForcedProofUptoCardSaid : Prop := Claim7.holds Tryd.pinned (.plain (OpenSpec.upto fnForcedProofSpec)) fnForcedProofUptoCard

/-- THE SECOND FORM's CARD OF 'laws.FnLeastProofs'. -/
def fnLeastProofsUptoCard : Claim7 := { stood := { row := fnLeastProofsUptoRow, standIns := [], harness := (true, "f38915867d048dd768cc052c010e0cd07e1d70cbbf395541ad20627ebbe71d7c"), looks := false }, kinds := [], alts := [], laidByText := true, laidKinds := [.data], laidTests := true, laidLooks := .later }
def FnLeastProofsUptoCardSaid : Prop := Claim7.holds Tryd.pinned (.plain (OpenSpec.upto fnLeastProofsSpec)) fnLeastProofsUptoCard

/-- THE SECOND FORM's CARD OF 'laws.FnProofOk'. -/
def fnProofOkUptoCard : Claim7 := { stood := { row := fnProofOkUptoRow, standIns := [], harness := (true, "f38915867d048dd768cc052c010e0cd07e1d70cbbf395541ad20627ebbe71d7c"), looks := false }, kinds := [], alts := [], laidByText := true, laidKinds := [.data], laidTests := true, laidLooks := .later }
def FnProofOkUptoCardSaid : Prop := Claim7.holds Tryd.pinned (.plain (OpenSpec.upto fnProofOkSpec)) fnProofOkUptoCard

/-- THE SECOND FORM's CARD OF 'laws.FnTurnsIn'. -/
def fnTurnsInUptoCard : Claim7 := { stood := { row := fnTurnsInUptoRow, standIns := [], harness := (true, "f38915867d048dd768cc052c010e0cd07e1d70cbbf395541ad20627ebbe71d7c"), looks := false }, kinds := [], alts := [], laidByText := true, laidKinds := [.data], laidTests := true, laidLooks := .later }
def FnTurnsInUptoCardSaid : Prop := Claim7.holds Tryd.pinned (.plain (OpenSpec.upto fnTurnsInSpec)) fnTurnsInUptoCard

/-- THE SECOND FORM's CARD OF 'laws.FnExactForcedBy'. -/
def fnExactForcedByUptoCard : Claim7 := { stood := { row := fnExactForcedByUptoRow, standIns := [], harness := (true, "f38915867d048dd768cc052c010e0cd07e1d70cbbf395541ad20627ebbe71d7c"), looks := false }, kinds := [], alts := [], laidByText := true, laidKinds := [.data], laidTests := true, laidLooks := .later }
def FnExactForcedByUptoCardSaid : Prop := Claim7.holds Tryd.pinned (.plain (OpenSpec.upto fnExactForcedBySpec)) fnExactForcedByUptoCard

/-- THE SECOND FORM's CARD OF 'laws.FnExactLeastProofs'. -/
def fnExactLeastProofsUptoCard : Claim7 := { stood := { row := fnExactLeastProofsUptoRow, standIns := [], harness := (true, "f38915867d048dd768cc052c010e0cd07e1d70cbbf395541ad20627ebbe71d7c"), looks := false }, kinds := [], alts := [], laidByText := true, laidKinds := [.data], laidTests := true, laidLooks := .later }
def FnExactLeastProofsUptoCardSaid : Prop := Claim7.holds Tryd.pinned (.plain (OpenSpec.upto fnExactLeastProofsSpec)) fnExactLeastProofsUptoCard

/-- THE SECOND FORM's CARD OF 'laws.FnExactProofOk'. -/
def fnExactProofOkUptoCard : Claim7 := { stood := { row := fnExactProofOkUptoRow, standIns := [], harness := (true, "f38915867d048dd768cc052c010e0cd07e1d70cbbf395541ad20627ebbe71d7c"), looks := false }, kinds := [], alts := [], laidByText := true, laidKinds := [.data], laidTests := true, laidLooks := .later }
def FnExactProofOkUptoCardSaid : Prop := Claim7.holds Tryd.pinned (.plain (OpenSpec.upto fnExactProofOkSpec)) fnExactProofOkUptoCard
end Rows
end Go.Proofs.YtdkcoaajodbnbaaDoor
