/-
  DERIVED. GIVEN WITH THE SEED: THE CARDS: each row of YthgklolghalofabDoorRows.lean that lists a variable, with what it lists TIED to the program's text (the seventh form; the later family's looks); each row that meets fmt, with fmt's text TOLD by the authors' own Lean function (tested against real Go, not proved from fmt's source: count such statements apart). THE CARD IS WHAT COUNTS. Prove the row's statement (the work); the ties are given (YthgklolghalofabDoorTie.lean); close each card by the builder's one call (the guide's Derived/Test/ToyasCard.lean, 'card_holds'). Laid BY PROGRAM, IN A SANDBOX (cutbox-door.mjs). By AI agents, Wed Nov 11 2026. No macro, syntax, notation, axiom, sorry.
-/
import Derived.Test.YthgklolghalofabDoorRows
import GoSem.ClaimSeven
namespace Go.Proofs.YthgklolghalofabDoor
namespace Rows

/-- THE TIED CARD OF 'laws.FnExactLeastDepth'. -/
def fnExactLeastDepthCard : Claim7 := { stood := { row := fnExactLeastDepthRow, standIns := [], harness := (true, "8b8070dfa682f04d687c3b9e6ef55d316eab7da8c3313f552551915949caa831"), looks := false }, kinds := [], alts := [], laidByText := true, laidKinds := [.data], laidTests := true, laidLooks := .later }
def FnExactLeastDepthCardSaid : Prop := Claim7.holds Tryd.pinned (.plain (OpenSpec.ofChange fnExactLeastDepthSpec)) fnExactLeastDepthCard

/-- THE TIED CARD OF 'laws.FnExactBestAverage'. -/
def fnExactBestAverageCard : Claim7 := { stood := { row := fnExactBestAverageRow, standIns := [], harness := (true, "8b8070dfa682f04d687c3b9e6ef55d316eab7da8c3313f552551915949caa831"), looks := false }, kinds := [], alts := [], laidByText := true, laidKinds := [.data], laidTests := true, laidLooks := .later }
def FnExactBestAverageCardSaid : Prop := Claim7.holds Tryd.pinned (.plain (OpenSpec.ofChange fnExactBestAverageSpec)) fnExactBestAverageCard

/-- THE TIED CARD OF 'laws.FnExactBestPlan'. -/
def fnExactBestPlanCard : Claim7 := { stood := { row := fnExactBestPlanRow, standIns := [], harness := (true, "8b8070dfa682f04d687c3b9e6ef55d316eab7da8c3313f552551915949caa831"), looks := false }, kinds := [], alts := [], laidByText := true, laidKinds := [.data], laidTests := true, laidLooks := .later }
def FnExactBestPlanCardSaid : Prop := Claim7.holds Tryd.pinned (.plain (OpenSpec.ofChange fnExactBestPlanSpec)) fnExactBestPlanCard

/-- THE TIED CARD OF 'laws.FnExactOrderPlan'. -/
def fnExactOrderPlanCard : Claim7 := { stood := { row := fnExactOrderPlanRow, standIns := [], harness := (true, "8b8070dfa682f04d687c3b9e6ef55d316eab7da8c3313f552551915949caa831"), looks := false }, kinds := [], alts := [], laidByText := true, laidKinds := [.data], laidTests := true, laidLooks := .later }
def FnExactOrderPlanCardSaid : Prop := Claim7.holds Tryd.pinned (.plain (OpenSpec.ofChange fnExactOrderPlanSpec)) fnExactOrderPlanCard

/-- THE TIED CARD OF 'laws.FnExactPlanOk'. -/
def fnExactPlanOkCard : Claim7 := { stood := { row := fnExactPlanOkRow, standIns := [], harness := (true, "8b8070dfa682f04d687c3b9e6ef55d316eab7da8c3313f552551915949caa831"), looks := false }, kinds := [], alts := [], laidByText := true, laidKinds := [.data], laidTests := true, laidLooks := .later }
def FnExactPlanOkCardSaid : Prop := Claim7.holds Tryd.pinned (.plain (OpenSpec.ofChange fnExactPlanOkSpec)) fnExactPlanOkCard

/-- THE TIED CARD OF 'laws.FnExactCostBy'. -/
def fnExactCostByCard : Claim7 := { stood := { row := fnExactCostByRow, standIns := [], harness := (true, "8b8070dfa682f04d687c3b9e6ef55d316eab7da8c3313f552551915949caa831"), looks := false }, kinds := [], alts := [], laidByText := true, laidKinds := [.data], laidTests := true, laidLooks := .later }
def FnExactCostByCardSaid : Prop := Claim7.holds Tryd.pinned (.plain (OpenSpec.ofChange fnExactCostBySpec)) fnExactCostByCard

/-- THE TIED CARD OF 'laws.FnExactAverageBy'. -/
def fnExactAverageByCard : Claim7 := { stood := { row := fnExactAverageByRow, standIns := [], harness := (true, "8b8070dfa682f04d687c3b9e6ef55d316eab7da8c3313f552551915949caa831"), looks := false }, kinds := [], alts := [], laidByText := true, laidKinds := [.data], laidTests := true, laidLooks := .later }
def FnExactAverageByCardSaid : Prop := Claim7.holds Tryd.pinned (.plain (OpenSpec.ofChange fnExactAverageBySpec)) fnExactAverageByCard

/-- THE TIED CARD OF 'laws.FnExactDepthOf'. -/
def fnExactDepthOfCard : Claim7 := { stood := { row := fnExactDepthOfRow, standIns := [], harness := (true, "8b8070dfa682f04d687c3b9e6ef55d316eab7da8c3313f552551915949caa831"), looks := false }, kinds := [], alts := [], laidByText := true, laidKinds := [.data], laidTests := true, laidLooks := .later }
def FnExactDepthOfCardSaid : Prop := Claim7.holds Tryd.pinned (.plain (OpenSpec.ofChange fnExactDepthOfSpec)) fnExactDepthOfCard

/-- THE TIED CARD OF 'laws.FnExactChoiceWeight'. -/
def fnExactChoiceWeightCard : Claim7 := { stood := { row := fnExactChoiceWeightRow, standIns := [], harness := (true, "8b8070dfa682f04d687c3b9e6ef55d316eab7da8c3313f552551915949caa831"), looks := false }, kinds := [], alts := [], laidByText := true, laidKinds := [.data], laidTests := true, laidLooks := .later }
def FnExactChoiceWeightCardSaid : Prop := Claim7.holds Tryd.pinned (.plain (OpenSpec.ofChange fnExactChoiceWeightSpec)) fnExactChoiceWeightCard

/-- THE TIED CARD OF 'laws.FnExactWorstBy'. -/
def fnExactWorstByCard : Claim7 := { stood := { row := fnExactWorstByRow, standIns := [], harness := (true, "8b8070dfa682f04d687c3b9e6ef55d316eab7da8c3313f552551915949caa831"), looks := false }, kinds := [], alts := [], laidByText := true, laidKinds := [.data], laidTests := true, laidLooks := .later }
def FnExactWorstByCardSaid : Prop := Claim7.holds Tryd.pinned (.plain (OpenSpec.ofChange fnExactWorstBySpec)) fnExactWorstByCard

/-- THE SECOND FORM's CARD OF 'laws.FnExactLeastDepth'. -/
def fnExactLeastDepthUptoCard : Claim7 := { stood := { row := fnExactLeastDepthUptoRow, standIns := [], harness := (true, "8b8070dfa682f04d687c3b9e6ef55d316eab7da8c3313f552551915949caa831"), looks := false }, kinds := [], alts := [], laidByText := true, laidKinds := [.data], laidTests := true, laidLooks := .later }
def FnExactLeastDepthUptoCardSaid : Prop := Claim7.holds Tryd.pinned (.plain (OpenSpec.upto fnExactLeastDepthSpec)) fnExactLeastDepthUptoCard

/-- THE SECOND FORM's CARD OF 'laws.FnExactBestAverage'. -/
def fnExactBestAverageUptoCard : Claim7 := { stood := { row := fnExactBestAverageUptoRow, standIns := [], harness := (true, "8b8070dfa682f04d687c3b9e6ef55d316eab7da8c3313f552551915949caa831"), looks := false }, kinds := [], alts := [], laidByText := true, laidKinds := [.data], laidTests := true, laidLooks := .later }
def FnExactBestAverageUptoCardSaid : Prop := Claim7.holds Tryd.pinned (.plain (OpenSpec.upto fnExactBestAverageSpec)) fnExactBestAverageUptoCard

/-- THE SECOND FORM's CARD OF 'laws.FnExactBestPlan'. -/
def fnExactBestPlanUptoCard : Claim7 := { stood := { row := fnExactBestPlanUptoRow, standIns := [], harness := (true, "8b8070dfa682f04d687c3b9e6ef55d316eab7da8c3313f552551915949caa831"), looks := false }, kinds := [], alts := [], laidByText := true, laidKinds := [.data], laidTests := true, laidLooks := .later }
def FnExactBestPlanUptoCardSaid : Prop := Claim7.holds Tryd.pinned (.plain (OpenSpec.upto fnExactBestPlanSpec)) fnExactBestPlanUptoCard

/-- THE SECOND FORM's CARD OF 'laws.FnExactOrderPlan'. -/
def fnExactOrderPlanUptoCard : Claim7 := { stood := { row := fnExactOrderPlanUptoRow, standIns := [], harness := (true, "8b8070dfa682f04d687c3b9e6ef55d316eab7da8c3313f552551915949caa831"), looks := false }, kinds := [], alts := [], laidByText := true, laidKinds := [.data], laidTests := true, laidLooks := .later }
def FnExactOrderPlanUptoCardSaid : Prop := Claim7.holds Tryd.pinned (.plain (OpenSpec.upto fnExactOrderPlanSpec)) fnExactOrderPlanUptoCard

/-- THE SECOND FORM's CARD OF 'laws.FnExactPlanOk'. -/
def fnExactPlanOkUptoCard : Claim7 := { stood := { row := fnExactPlanOkUptoRow, standIns := [], harness := (true, "8b8070dfa682f04d687c3b9e6ef55d316eab7da8c3313f552551915949caa831"), looks := false }, kinds := [], alts := [], laidByText := true, laidKinds := [.data], laidTests := true, laidLooks := .later }
def FnExactPlanOkUptoCardSaid : Prop := Claim7.holds Tryd.pinned (.plain (OpenSpec.upto fnExactPlanOkSpec)) fnExactPlanOkUptoCard

/-- THE SECOND FORM's CARD OF 'laws.FnExactCostBy'. -/
def fnExactCostByUptoCard : Claim7 := { stood := { row := fnExactCostByUptoRow, standIns := [], harness := (true, "8b8070dfa682f04d687c3b9e6ef55d316eab7da8c3313f552551915949caa831"), looks := false }, kinds := [], alts := [], laidByText := true, laidKinds := [.data], laidTests := true, laidLooks := .later }
def FnExactCostByUptoCardSaid : Prop := Claim7.holds Tryd.pinned (.plain (OpenSpec.upto fnExactCostBySpec)) fnExactCostByUptoCard

/-- THE SECOND FORM's CARD OF 'laws.FnExactAverageBy'. -/
def fnExactAverageByUptoCard : Claim7 := { stood := { row := fnExactAverageByUptoRow, standIns := [], harness := (true, "8b8070dfa682f04d687c3b9e6ef55d316eab7da8c3313f552551915949caa831"), looks := false }, kinds := [], alts := [], laidByText := true, laidKinds := [.data], laidTests := true, laidLooks := .later }
def FnExactAverageByUptoCardSaid : Prop := Claim7.holds Tryd.pinned (.plain (OpenSpec.upto fnExactAverageBySpec)) fnExactAverageByUptoCard

/-- THE SECOND FORM's CARD OF 'laws.FnExactDepthOf'. -/
def fnExactDepthOfUptoCard : Claim7 := { stood := { row := fnExactDepthOfUptoRow, standIns := [], harness := (true, "8b8070dfa682f04d687c3b9e6ef55d316eab7da8c3313f552551915949caa831"), looks := false }, kinds := [], alts := [], laidByText := true, laidKinds := [.data], laidTests := true, laidLooks := .later }
def FnExactDepthOfUptoCardSaid : Prop := Claim7.holds Tryd.pinned (.plain (OpenSpec.upto fnExactDepthOfSpec)) fnExactDepthOfUptoCard

/-- THE SECOND FORM's CARD OF 'laws.FnExactChoiceWeight'. -/
def fnExactChoiceWeightUptoCard : Claim7 := { stood := { row := fnExactChoiceWeightUptoRow, standIns := [], harness := (true, "8b8070dfa682f04d687c3b9e6ef55d316eab7da8c3313f552551915949caa831"), looks := false }, kinds := [], alts := [], laidByText := true, laidKinds := [.data], laidTests := true, laidLooks := .later }
def FnExactChoiceWeightUptoCardSaid : Prop := Claim7.holds Tryd.pinned (.plain (OpenSpec.upto fnExactChoiceWeightSpec)) fnExactChoiceWeightUptoCard

/-- THE SECOND FORM's CARD OF 'laws.FnExactWorstBy'. -/
def fnExactWorstByUptoCard : Claim7 := { stood := { row := fnExactWorstByUptoRow, standIns := [], harness := (true, "8b8070dfa682f04d687c3b9e6ef55d316eab7da8c3313f552551915949caa831"), looks := false }, kinds := [], alts := [], laidByText := true, laidKinds := [.data], laidTests := true, laidLooks := .later }
def FnExactWorstByUptoCardSaid : Prop := Claim7.holds Tryd.pinned (.plain (OpenSpec.upto fnExactWorstBySpec)) fnExactWorstByUptoCard
end Rows
end Go.Proofs.YthgklolghalofabDoor
