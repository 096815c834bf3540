/-
  DERIVED. GIVEN WITH THE SEED: THE CARDS: each row of YtahkmbihhkjebaaDoorRows.lean that lists a variable, with what it lists TIED to the program's text (the seventh form; the later family's looks); each row that meets fmt, with fmt's text TOLD by the authors' own Lean function (tested against real Go, not proved from fmt's source: count such statements apart). THE CARD IS WHAT COUNTS. Prove the row's statement (the work); the ties are given (YtahkmbihhkjebaaDoorTie.lean); close each card by the builder's one call (the guide's Derived/Test/ToyasCard.lean, 'card_holds'). Laid BY PROGRAM, IN A SANDBOX (cutbox-door.mjs). By AI agents, Wed Nov 11 2026. No macro, syntax, notation, axiom, sorry.
-/
import Derived.Test.YtahkmbihhkjebaaDoorRows
import GoSem.ClaimSeven
namespace Go.Proofs.YtahkmbihhkjebaaDoor
namespace Rows

/-- THE TIED CARD OF 'laws.FnExactNextInCount'. -/
def fnExactNextInCountCard : Claim7 := { stood := { row := fnExactNextInCountRow, standIns := [], harness := (true, "39698f14ec59089ce15614950dc56ba7a0f94a7628307d052c41edab547205d4"), looks := false }, kinds := [], alts := [], laidByText := true, laidKinds := [.data, .data], laidTests := true, laidLooks := .later }
def FnExactNextInCountCardSaid : Prop := Claim7.holds Tryd.pinned (.plain (OpenSpec.ofChange fnExactNextInCountSpec)) fnExactNextInCountCard

/-- THE TIED CARD OF 'laws.FnExactCountAverage'. -/
def fnExactCountAverageCard : Claim7 := { stood := { row := fnExactCountAverageRow, standIns := [], harness := (true, "39698f14ec59089ce15614950dc56ba7a0f94a7628307d052c41edab547205d4"), looks := false }, kinds := [], alts := [], laidByText := true, laidKinds := [.data, .data], laidTests := true, laidLooks := .later }
def FnExactCountAverageCardSaid : Prop := Claim7.holds Tryd.pinned (.plain (OpenSpec.ofChange fnExactCountAverageSpec)) fnExactCountAverageCard

/-- THE TIED CARD OF 'laws.FnExactGroupPlan'. -/
def fnExactGroupPlanCard : Claim7 := { stood := { row := fnExactGroupPlanRow, standIns := [], harness := (true, "39698f14ec59089ce15614950dc56ba7a0f94a7628307d052c41edab547205d4"), looks := false }, kinds := [], alts := [], laidByText := true, laidKinds := [.data], laidTests := true, laidLooks := .later }
def FnExactGroupPlanCardSaid : Prop := Claim7.holds Tryd.pinned (.plain (OpenSpec.ofChange fnExactGroupPlanSpec)) fnExactGroupPlanCard

/-- THE TIED CARD OF 'laws.FnExactBestAverage'. -/
def fnExactBestAverageCard : Claim7 := { stood := { row := fnExactBestAverageRow, standIns := [], harness := (true, "39698f14ec59089ce15614950dc56ba7a0f94a7628307d052c41edab547205d4"), looks := false }, kinds := [], alts := [], laidByText := true, laidKinds := [.data], laidTests := true, laidLooks := .later }
def FnExactBestAverageCardSaid : Prop := Claim7.holds Tryd.pinned (.plain (OpenSpec.ofChange fnExactBestAverageSpec)) fnExactBestAverageCard

/-- THE TIED CARD OF 'laws.FnExactBestPlan'. -/
def fnExactBestPlanCard : Claim7 := { stood := { row := fnExactBestPlanRow, standIns := [], harness := (true, "39698f14ec59089ce15614950dc56ba7a0f94a7628307d052c41edab547205d4"), looks := false }, kinds := [], alts := [], laidByText := true, laidKinds := [.data], laidTests := true, laidLooks := .later }
def FnExactBestPlanCardSaid : Prop := Claim7.holds Tryd.pinned (.plain (OpenSpec.ofChange fnExactBestPlanSpec)) fnExactBestPlanCard

/-- THE TIED CARD OF 'laws.FnExactDepthOf'. -/
def fnExactDepthOfCard : Claim7 := { stood := { row := fnExactDepthOfRow, standIns := [], harness := (true, "39698f14ec59089ce15614950dc56ba7a0f94a7628307d052c41edab547205d4"), looks := false }, kinds := [], alts := [], laidByText := true, laidKinds := [.data], laidTests := true, laidLooks := .later }
def FnExactDepthOfCardSaid : Prop := Claim7.holds Tryd.pinned (.plain (OpenSpec.ofChange fnExactDepthOfSpec)) fnExactDepthOfCard

/-- THE TIED CARD OF 'laws.FnExactOrderPlan'. -/
def fnExactOrderPlanCard : Claim7 := { stood := { row := fnExactOrderPlanRow, standIns := [], harness := (true, "39698f14ec59089ce15614950dc56ba7a0f94a7628307d052c41edab547205d4"), looks := false }, kinds := [], alts := [], laidByText := true, laidKinds := [.data], laidTests := true, laidLooks := .later }
def FnExactOrderPlanCardSaid : Prop := Claim7.holds Tryd.pinned (.plain (OpenSpec.ofChange fnExactOrderPlanSpec)) fnExactOrderPlanCard

/-- THE SECOND FORM's CARD OF 'laws.FnExactNextInCount'. -/
def fnExactNextInCountUptoCard : Claim7 := { stood := { row := fnExactNextInCountUptoRow, standIns := [], harness := (true, "39698f14ec59089ce15614950dc56ba7a0f94a7628307d052c41edab547205d4"), looks := false }, kinds := [], alts := [], laidByText := true, laidKinds := [.data, .data], laidTests := true, laidLooks := .later }
def FnExactNextInCountUptoCardSaid : Prop := Claim7.holds Tryd.pinned (.plain (OpenSpec.upto fnExactNextInCountSpec)) fnExactNextInCountUptoCard

/-- THE SECOND FORM's CARD OF 'laws.FnExactCountAverage'. -/
def fnExactCountAverageUptoCard : Claim7 := { stood := { row := fnExactCountAverageUptoRow, standIns := [], harness := (true, "39698f14ec59089ce15614950dc56ba7a0f94a7628307d052c41edab547205d4"), looks := false }, kinds := [], alts := [], laidByText := true, laidKinds := [.data, .data], laidTests := true, laidLooks := .later }
def FnExactCountAverageUptoCardSaid : Prop := Claim7.holds Tryd.pinned (.plain (OpenSpec.upto fnExactCountAverageSpec)) fnExactCountAverageUptoCard

/-- THE SECOND FORM's CARD OF 'laws.FnExactGroupPlan'. -/
def fnExactGroupPlanUptoCard : Claim7 := { stood := { row := fnExactGroupPlanUptoRow, standIns := [], harness := (true, "39698f14ec59089ce15614950dc56ba7a0f94a7628307d052c41edab547205d4"), looks := false }, kinds := [], alts := [], laidByText := true, laidKinds := [.data], laidTests := true, laidLooks := .later }
def FnExactGroupPlanUptoCardSaid : Prop := Claim7.holds Tryd.pinned (.plain (OpenSpec.upto fnExactGroupPlanSpec)) fnExactGroupPlanUptoCard

/-- THE SECOND FORM's CARD OF 'laws.FnExactBestAverage'. -/
def fnExactBestAverageUptoCard : Claim7 := { stood := { row := fnExactBestAverageUptoRow, standIns := [], harness := (true, "39698f14ec59089ce15614950dc56ba7a0f94a7628307d052c41edab547205d4"), looks := false }, kinds := [], alts := [], laidByText := true, laidKinds := [.data], laidTests := true, laidLooks := .later }
def FnExactBestAverageUptoCardSaid : Prop := Claim7.holds Tryd.pinned (.plain (OpenSpec.upto fnExactBestAverageSpec)) fnExactBestAverageUptoCard

/-- THE SECOND FORM's CARD OF 'laws.FnExactBestPlan'. -/
def fnExactBestPlanUptoCard : Claim7 := { stood := { row := fnExactBestPlanUptoRow, standIns := [], harness := (true, "39698f14ec59089ce15614950dc56ba7a0f94a7628307d052c41edab547205d4"), looks := false }, kinds := [], alts := [], laidByText := true, laidKinds := [.data], laidTests := true, laidLooks := .later }
def FnExactBestPlanUptoCardSaid : Prop := Claim7.holds Tryd.pinned (.plain (OpenSpec.upto fnExactBestPlanSpec)) fnExactBestPlanUptoCard

/-- THE SECOND FORM's CARD OF 'laws.FnExactDepthOf'. -/
def fnExactDepthOfUptoCard : Claim7 := { stood := { row := fnExactDepthOfUptoRow, standIns := [], harness := (true, "39698f14ec59089ce15614950dc56ba7a0f94a7628307d052c41edab547205d4"), looks := false }, kinds := [], alts := [], laidByText := true, laidKinds := [.data], laidTests := true, laidLooks := .later }
def FnExactDepthOfUptoCardSaid : Prop := Claim7.holds Tryd.pinned (.plain (OpenSpec.upto fnExactDepthOfSpec)) fnExactDepthOfUptoCard

/-- THE SECOND FORM's CARD OF 'laws.FnExactOrderPlan'. -/
def fnExactOrderPlanUptoCard : Claim7 := { stood := { row := fnExactOrderPlanUptoRow, standIns := [], harness := (true, "39698f14ec59089ce15614950dc56ba7a0f94a7628307d052c41edab547205d4"), looks := false }, kinds := [], alts := [], laidByText := true, laidKinds := [.data], laidTests := true, laidLooks := .later }
def FnExactOrderPlanUptoCardSaid : Prop := Claim7.holds Tryd.pinned (.plain (OpenSpec.upto fnExactOrderPlanSpec)) fnExactOrderPlanUptoCard
end Rows
end Go.Proofs.YtahkmbihhkjebaaDoor
