/-
  DERIVED. GIVEN WITH THE SEED: THE CARDS: each row of YtffghabijlfpeaaDoorRows.lean that lists a variable, with what it lists TIED to the program's text (the seventh form; the later family's looks); each row that meets fmt, with fmt's text TOLD by the authors' own Lean function (tested against real Go, not proved from fmt's source: count such statements apart). THE CARD IS WHAT COUNTS. Prove the row's statement (the work); the ties are given (YtffghabijlfpeaaDoorTie.lean); close each card by the builder's one call (the guide's Derived/Test/ToyasCard.lean, 'card_holds'). Laid BY PROGRAM, IN A SANDBOX (cutbox-door.mjs). By AI agents, Wed Nov 11 2026. No macro, syntax, notation, axiom, sorry.
-/
import Derived.Test.YtffghabijlfpeaaDoorRows
import GoSem.ClaimSeven
namespace Go.Proofs.YtffghabijlfpeaaDoor
namespace Rows

/-- THE TIED CARD OF 'laws.FnExactGroupPlan'. -/
def fnExactGroupPlanCard : Claim7 := { stood := { row := fnExactGroupPlanRow, standIns := [], harness := (true, "f590b1e4b2fe2e4e6d84f714e224a27f96ec3280cde91b7550ecfab88004a935"), looks := false }, kinds := [], alts := [], laidByText := true, laidKinds := [.data], laidTests := true, laidLooks := .later }
def FnExactGroupPlanCardSaid : Prop := Claim7.holds Tryd.pinned (.plain (OpenSpec.ofChange fnExactGroupPlanSpec)) fnExactGroupPlanCard

/-- THE SECOND FORM's CARD OF 'laws.FnExactGroupPlan'. -/
def fnExactGroupPlanUptoCard : Claim7 := { stood := { row := fnExactGroupPlanUptoRow, standIns := [], harness := (true, "f590b1e4b2fe2e4e6d84f714e224a27f96ec3280cde91b7550ecfab88004a935"), looks := false }, kinds := [], alts := [], laidByText := true, laidKinds := [.data], laidTests := true, laidLooks := .later }
def FnExactGroupPlanUptoCardSaid : Prop := Claim7.holds Tryd.pinned (.plain (OpenSpec.upto fnExactGroupPlanSpec)) fnExactGroupPlanUptoCard
end Rows
end Go.Proofs.YtffghabijlfpeaaDoor
