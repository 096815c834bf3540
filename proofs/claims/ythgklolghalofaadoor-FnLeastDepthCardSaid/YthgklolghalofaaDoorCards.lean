/-
  DERIVED. GIVEN WITH THE SEED: THE CARDS: each row of YthgklolghalofaaDoorRows.lean that lists a variable, with what it lists TIED to the program's text (the seventh form; the later family's looks); each row that meets fmt, with fmt's text TOLD by the authors' own Lean function (tested against real Go, not proved from fmt's source: count such statements apart). THE CARD IS WHAT COUNTS. Prove the row's statement (the work); the ties are given (YthgklolghalofaaDoorTie.lean); close each card by the builder's one call (the guide's Derived/Test/ToyasCard.lean, 'card_holds'). Laid BY PROGRAM, IN A SANDBOX (cutbox-door.mjs). By AI agents, Wed Nov 11 2026. No macro, syntax, notation, axiom, sorry.
-/
import Derived.Test.YthgklolghalofaaDoorRows
import GoSem.ClaimSeven
namespace Go.Proofs.YthgklolghalofaaDoor
namespace Rows

/-- THE TIED CARD OF 'laws.FnDearer'. -/
def fnDearerCard : Claim7 := { stood := { row := fnDearerRow, standIns := [], harness := (true, "7642c66462ffbcb06a8c4366b9175b88a62d8d3767f01711482b7a586b525011"), looks := false }, kinds := [], alts := [], laidByText := true, laidKinds := [.data], laidTests := true, laidLooks := .later }
def FnDearerCardSaid : Prop := Claim7.holds Tryd.pinned (.plain (OpenSpec.ofChange fnDearerSpec)) fnDearerCard

/-- THE TIED CARD OF 'laws.FnDepthOf'. -/
def fnDepthOfCard : Claim7 := { stood := { row := fnDepthOfRow, standIns := [], harness := (true, "7642c66462ffbcb06a8c4366b9175b88a62d8d3767f01711482b7a586b525011"), looks := false }, kinds := [], alts := [], laidByText := true, laidKinds := [.data], laidTests := true, laidLooks := .later }
def FnDepthOfCardSaid : Prop := Claim7.holds Tryd.pinned (.plain (OpenSpec.ofChange fnDepthOfSpec)) fnDepthOfCard

/-- THE TIED CARD OF 'laws.FnChoiceWeight'. -/
def fnChoiceWeightCard : Claim7 := { stood := { row := fnChoiceWeightRow, standIns := [], harness := (true, "7642c66462ffbcb06a8c4366b9175b88a62d8d3767f01711482b7a586b525011"), looks := false }, kinds := [], alts := [], laidByText := true, laidKinds := [.data], laidTests := true, laidLooks := .later }
def FnChoiceWeightCardSaid : Prop := Claim7.holds Tryd.pinned (.plain (OpenSpec.ofChange fnChoiceWeightSpec)) fnChoiceWeightCard

/-- THE TIED CARD OF 'laws.FnWorstBy'. -/
def fnWorstByCard : Claim7 := { stood := { row := fnWorstByRow, standIns := [], harness := (true, "7642c66462ffbcb06a8c4366b9175b88a62d8d3767f01711482b7a586b525011"), looks := false }, kinds := [], alts := [], laidByText := true, laidKinds := [.data], laidTests := true, laidLooks := .later }
def FnWorstByCardSaid : Prop := Claim7.holds Tryd.pinned (.plain (OpenSpec.ofChange fnWorstBySpec)) fnWorstByCard

/-- THE TIED CARD OF 'laws.FnAverageBy'. -/
def fnAverageByCard : Claim7 := { stood := { row := fnAverageByRow, standIns := [], harness := (true, "7642c66462ffbcb06a8c4366b9175b88a62d8d3767f01711482b7a586b525011"), looks := false }, kinds := [], alts := [], laidByText := true, laidKinds := [.data], laidTests := true, laidLooks := .later }
def FnAverageByCardSaid : Prop := Claim7.holds Tryd.pinned (.plain (OpenSpec.ofChange fnAverageBySpec)) fnAverageByCard

/-- THE TIED CARD OF 'laws.FnPlanOk'. -/
def fnPlanOkCard : Claim7 := { stood := { row := fnPlanOkRow, standIns := [], harness := (true, "7642c66462ffbcb06a8c4366b9175b88a62d8d3767f01711482b7a586b525011"), looks := false }, kinds := [], alts := [], laidByText := true, laidKinds := [.data], laidTests := true, laidLooks := .later }
def FnPlanOkCardSaid : Prop := Claim7.holds Tryd.pinned (.plain (OpenSpec.ofChange fnPlanOkSpec)) fnPlanOkCard

/-- THE TIED CARD OF 'laws.FnOrderPlan'. -/
def fnOrderPlanCard : Claim7 := { stood := { row := fnOrderPlanRow, standIns := [], harness := (true, "7642c66462ffbcb06a8c4366b9175b88a62d8d3767f01711482b7a586b525011"), looks := false }, kinds := [], alts := [], laidByText := true, laidKinds := [.data], laidTests := true, laidLooks := .later }
def FnOrderPlanCardSaid : Prop := Claim7.holds Tryd.pinned (.plain (OpenSpec.ofChange fnOrderPlanSpec)) fnOrderPlanCard

/-- THE TIED CARD OF 'laws.FnBestPlan'. -/
def fnBestPlanCard : Claim7 := { stood := { row := fnBestPlanRow, standIns := [], harness := (true, "7642c66462ffbcb06a8c4366b9175b88a62d8d3767f01711482b7a586b525011"), looks := false }, kinds := [], alts := [], laidByText := true, laidKinds := [.data], laidTests := true, laidLooks := .later }
def FnBestPlanCardSaid : Prop := Claim7.holds Tryd.pinned (.plain (OpenSpec.ofChange fnBestPlanSpec)) fnBestPlanCard

/-- THE TIED CARD OF 'laws.FnBestAverage'. -/
def fnBestAverageCard : Claim7 := { stood := { row := fnBestAverageRow, standIns := [], harness := (true, "7642c66462ffbcb06a8c4366b9175b88a62d8d3767f01711482b7a586b525011"), looks := false }, kinds := [], alts := [], laidByText := true, laidKinds := [.data], laidTests := true, laidLooks := .later }
def FnBestAverageCardSaid : Prop := Claim7.holds Tryd.pinned (.plain (OpenSpec.ofChange fnBestAverageSpec)) fnBestAverageCard

/-- THE TIED CARD OF 'laws.FnNoMatter'. -/
def fnNoMatterCard : Claim7 := { stood := { row := fnNoMatterRow, standIns := [], harness := (true, "7642c66462ffbcb06a8c4366b9175b88a62d8d3767f01711482b7a586b525011"), looks := false }, kinds := [], alts := [], laidByText := true, laidKinds := [.data], laidTests := true, laidLooks := .later }
def FnNoMatterCardSaid : Prop := Claim7.holds Tryd.pinned (.plain (OpenSpec.ofChange fnNoMatterSpec)) fnNoMatterCard

/-- THE TIED CARD OF 'laws.FnOrdersAbove'. -/
def fnOrdersAboveCard : Claim7 := { stood := { row := fnOrdersAboveRow, standIns := [], harness := (true, "7642c66462ffbcb06a8c4366b9175b88a62d8d3767f01711482b7a586b525011"), looks := false }, kinds := [], alts := [], laidByText := true, laidKinds := [.data], laidTests := true, laidLooks := .later }
def FnOrdersAboveCardSaid : Prop := Claim7.holds Tryd.pinned (.plain (OpenSpec.ofChange fnOrdersAboveSpec)) fnOrdersAboveCard

/-- THE TIED CARD OF 'laws.FnCostBy'. -/
def fnCostByCard : Claim7 := { stood := { row := fnCostByRow, standIns := [], harness := (true, "7642c66462ffbcb06a8c4366b9175b88a62d8d3767f01711482b7a586b525011"), looks := false }, kinds := [], alts := [], laidByText := true, laidKinds := [.data], laidTests := true, laidLooks := .later }
def FnCostByCardSaid : Prop := Claim7.holds Tryd.pinned (.plain (OpenSpec.ofChange fnCostBySpec)) fnCostByCard

/-- THE TIED CARD OF 'laws.FnLeastDepth'. -/
def fnLeastDepthCard : Claim7 := { stood := { row := fnLeastDepthRow, standIns := [], harness := (true, "7642c66462ffbcb06a8c4366b9175b88a62d8d3767f01711482b7a586b525011"), looks := false }, kinds := [], alts := [], laidByText := true, laidKinds := [.data], laidTests := true, laidLooks := .later }
def FnLeastDepthCardSaid : Prop := Claim7.holds Tryd.pinned (.plain (OpenSpec.ofChange fnLeastDepthSpec)) fnLeastDepthCard

/-- THE SECOND FORM's CARD OF 'laws.FnDearer'. -/
def fnDearerUptoCard : Claim7 := { stood := { row := fnDearerUptoRow, standIns := [], harness := (true, "7642c66462ffbcb06a8c4366b9175b88a62d8d3767f01711482b7a586b525011"), looks := false }, kinds := [], alts := [], laidByText := true, laidKinds := [.data], laidTests := true, laidLooks := .later }
def FnDearerUptoCardSaid : Prop := Claim7.holds Tryd.pinned (.plain (OpenSpec.upto fnDearerSpec)) fnDearerUptoCard

/-- THE SECOND FORM's CARD OF 'laws.FnDepthOf'. -/
def fnDepthOfUptoCard : Claim7 := { stood := { row := fnDepthOfUptoRow, standIns := [], harness := (true, "7642c66462ffbcb06a8c4366b9175b88a62d8d3767f01711482b7a586b525011"), looks := false }, kinds := [], alts := [], laidByText := true, laidKinds := [.data], laidTests := true, laidLooks := .later }
def FnDepthOfUptoCardSaid : Prop := Claim7.holds Tryd.pinned (.plain (OpenSpec.upto fnDepthOfSpec)) fnDepthOfUptoCard

/-- THE SECOND FORM's CARD OF 'laws.FnChoiceWeight'. -/
def fnChoiceWeightUptoCard : Claim7 := { stood := { row := fnChoiceWeightUptoRow, standIns := [], harness := (true, "7642c66462ffbcb06a8c4366b9175b88a62d8d3767f01711482b7a586b525011"), looks := false }, kinds := [], alts := [], laidByText := true, laidKinds := [.data], laidTests := true, laidLooks := .later }
def FnChoiceWeightUptoCardSaid : Prop := Claim7.holds Tryd.pinned (.plain (OpenSpec.upto fnChoiceWeightSpec)) fnChoiceWeightUptoCard

/-- THE SECOND FORM's CARD OF 'laws.FnWorstBy'. -/
def fnWorstByUptoCard : Claim7 := { stood := { row := fnWorstByUptoRow, standIns := [], harness := (true, "7642c66462ffbcb06a8c4366b9175b88a62d8d3767f01711482b7a586b525011"), looks := false }, kinds := [], alts := [], laidByText := true, laidKinds := [.data], laidTests := true, laidLooks := .later }
def FnWorstByUptoCardSaid : Prop := Claim7.holds Tryd.pinned (.plain (OpenSpec.upto fnWorstBySpec)) fnWorstByUptoCard

/-- THE SECOND FORM's CARD OF 'laws.FnAverageBy'. -/
def fnAverageByUptoCard : Claim7 := { stood := { row := fnAverageByUptoRow, standIns := [], harness := (true, "7642c66462ffbcb06a8c4366b9175b88a62d8d3767f01711482b7a586b525011"), looks := false }, kinds := [], alts := [], laidByText := true, laidKinds := [.data], laidTests := true, laidLooks := .later }
def FnAverageByUptoCardSaid : Prop := Claim7.holds Tryd.pinned (.plain (OpenSpec.upto fnAverageBySpec)) fnAverageByUptoCard

/-- THE SECOND FORM's CARD OF 'laws.FnPlanOk'. -/
def fnPlanOkUptoCard : Claim7 := { stood := { row := fnPlanOkUptoRow, standIns := [], harness := (true, "7642c66462ffbcb06a8c4366b9175b88a62d8d3767f01711482b7a586b525011"), looks := false }, kinds := [], alts := [], laidByText := true, laidKinds := [.data], laidTests := true, laidLooks := .later }
def FnPlanOkUptoCardSaid : Prop := Claim7.holds Tryd.pinned (.plain (OpenSpec.upto fnPlanOkSpec)) fnPlanOkUptoCard

/-- THE SECOND FORM's CARD OF 'laws.FnOrderPlan'. -/
def fnOrderPlanUptoCard : Claim7 := { stood := { row := fnOrderPlanUptoRow, standIns := [], harness := (true, "7642c66462ffbcb06a8c4366b9175b88a62d8d3767f01711482b7a586b525011"), looks := false }, kinds := [], alts := [], laidByText := true, laidKinds := [.data], laidTests := true, laidLooks := .later }
def FnOrderPlanUptoCardSaid : Prop := Claim7.holds Tryd.pinned (.plain (OpenSpec.upto fnOrderPlanSpec)) fnOrderPlanUptoCard

/-- THE SECOND FORM's CARD OF 'laws.FnBestPlan'. -/
def fnBestPlanUptoCard : Claim7 := { stood := { row := fnBestPlanUptoRow, standIns := [], harness := (true, "7642c66462ffbcb06a8c4366b9175b88a62d8d3767f01711482b7a586b525011"), looks := false }, kinds := [], alts := [], laidByText := true, laidKinds := [.data], laidTests := true, laidLooks := .later }
def FnBestPlanUptoCardSaid : Prop := Claim7.holds Tryd.pinned (.plain (OpenSpec.upto fnBestPlanSpec)) fnBestPlanUptoCard

/-- THE SECOND FORM's CARD OF 'laws.FnBestAverage'. -/
def fnBestAverageUptoCard : Claim7 := { stood := { row := fnBestAverageUptoRow, standIns := [], harness := (true, "7642c66462ffbcb06a8c4366b9175b88a62d8d3767f01711482b7a586b525011"), looks := false }, kinds := [], alts := [], laidByText := true, laidKinds := [.data], laidTests := true, laidLooks := .later }
def FnBestAverageUptoCardSaid : Prop := Claim7.holds Tryd.pinned (.plain (OpenSpec.upto fnBestAverageSpec)) fnBestAverageUptoCard

/-- THE SECOND FORM's CARD OF 'laws.FnNoMatter'. -/
def fnNoMatterUptoCard : Claim7 := { stood := { row := fnNoMatterUptoRow, standIns := [], harness := (true, "7642c66462ffbcb06a8c4366b9175b88a62d8d3767f01711482b7a586b525011"), looks := false }, kinds := [], alts := [], laidByText := true, laidKinds := [.data], laidTests := true, laidLooks := .later }
def FnNoMatterUptoCardSaid : Prop := Claim7.holds Tryd.pinned (.plain (OpenSpec.upto fnNoMatterSpec)) fnNoMatterUptoCard

/-- THE SECOND FORM's CARD OF 'laws.FnOrdersAbove'. -/
def fnOrdersAboveUptoCard : Claim7 := { stood := { row := fnOrdersAboveUptoRow, standIns := [], harness := (true, "7642c66462ffbcb06a8c4366b9175b88a62d8d3767f01711482b7a586b525011"), looks := false }, kinds := [], alts := [], laidByText := true, laidKinds := [.data], laidTests := true, laidLooks := .later }
def FnOrdersAboveUptoCardSaid : Prop := Claim7.holds Tryd.pinned (.plain (OpenSpec.upto fnOrdersAboveSpec)) fnOrdersAboveUptoCard

/-- THE SECOND FORM's CARD OF 'laws.FnCostBy'. -/
def fnCostByUptoCard : Claim7 := { stood := { row := fnCostByUptoRow, standIns := [], harness := (true, "7642c66462ffbcb06a8c4366b9175b88a62d8d3767f01711482b7a586b525011"), looks := false }, kinds := [], alts := [], laidByText := true, laidKinds := [.data], laidTests := true, laidLooks := .later }
def FnCostByUptoCardSaid : Prop := Claim7.holds Tryd.pinned (.plain (OpenSpec.upto fnCostBySpec)) fnCostByUptoCard

/-- THE SECOND FORM's CARD OF 'laws.FnLeastDepth'. -/
def fnLeastDepthUptoCard : Claim7 := { stood := { row := fnLeastDepthUptoRow, standIns := [], harness := (true, "7642c66462ffbcb06a8c4366b9175b88a62d8d3767f01711482b7a586b525011"), looks := false }, kinds := [], alts := [], laidByText := true, laidKinds := [.data], laidTests := true, laidLooks := .later }
def FnLeastDepthUptoCardSaid : Prop := Claim7.holds Tryd.pinned (.plain (OpenSpec.upto fnLeastDepthSpec)) fnLeastDepthUptoCard
end Rows
end Go.Proofs.YthgklolghalofaaDoor
