/-
  DERIVED. GIVEN WITH THE SEED: THE CARDS: each row of YtahkmbihhkjebabDoorRows.lean that lists a variable, with what it lists TIED to the program's text (the seventh form; the later family's looks); each row that meets fmt, with fmt's text TOLD by the authors' own Lean function (tested against real Go, not proved from fmt's source: count such statements apart). THE CARD IS WHAT COUNTS. Prove the row's statement (the work); the ties are given (YtahkmbihhkjebabDoorTie.lean); close each card by the builder's one call (the guide's Derived/Test/ToyasCard.lean, 'card_holds'). Laid BY PROGRAM, IN A SANDBOX (cutbox-door.mjs). By AI agents, Wed Nov 11 2026. No macro, syntax, notation, axiom, sorry.
-/
import Derived.Test.YtahkmbihhkjebabDoorRows
import GoSem.ClaimSeven
namespace Go.Proofs.YtahkmbihhkjebabDoor
namespace Rows

/-- THE TIED CARD OF 'laws.FnNextInCount'. -/
def fnNextInCountCard : Claim7 := { stood := { row := fnNextInCountRow, standIns := [], harness := (true, "4ae9ff875e661bc0f6e0394a006fe86f6fb14da284a36f92d176afe290083231"), looks := false }, kinds := [], alts := [], laidByText := true, laidKinds := [.data, .data], laidTests := true, laidLooks := .later }
def FnNextInCountCardSaid : Prop := Claim7.holds Tryd.pinned (.plain (OpenSpec.ofChange fnNextInCountSpec)) fnNextInCountCard

/-- THE TIED CARD OF 'laws.FnCountAverage'. -/
def fnCountAverageCard : Claim7 := { stood := { row := fnCountAverageRow, standIns := [], harness := (true, "4ae9ff875e661bc0f6e0394a006fe86f6fb14da284a36f92d176afe290083231"), looks := false }, kinds := [], alts := [], laidByText := true, laidKinds := [.data, .data], laidTests := true, laidLooks := .later }
def FnCountAverageCardSaid : Prop := Claim7.holds Tryd.pinned (.plain (OpenSpec.ofChange fnCountAverageSpec)) fnCountAverageCard

/-- THE TIED CARD OF 'laws.FnCountBest'. -/
def fnCountBestCard : Claim7 := { stood := { row := fnCountBestRow, standIns := [], harness := (true, "4ae9ff875e661bc0f6e0394a006fe86f6fb14da284a36f92d176afe290083231"), looks := false }, kinds := [], alts := [], laidByText := true, laidKinds := [.data], laidTests := true, laidLooks := .later }
def FnCountBestCardSaid : Prop := Claim7.holds Tryd.pinned (.plain (OpenSpec.ofChange fnCountBestSpec)) fnCountBestCard

/-- THE TIED CARD OF 'laws.FnTwoOfThree'. -/
def fnTwoOfThreeCard : Claim7 := { stood := { row := fnTwoOfThreeRow, standIns := [], harness := (true, "4ae9ff875e661bc0f6e0394a006fe86f6fb14da284a36f92d176afe290083231"), looks := false }, kinds := [], alts := [], laidByText := true, laidKinds := [.data], laidTests := true, laidLooks := .later }
def FnTwoOfThreeCardSaid : Prop := Claim7.holds Tryd.pinned (.plain (OpenSpec.ofChange fnTwoOfThreeSpec)) fnTwoOfThreeCard

/-- THE TIED CARD OF 'laws.FnGroupPlan'. -/
def fnGroupPlanCard : Claim7 := { stood := { row := fnGroupPlanRow, standIns := [], harness := (true, "4ae9ff875e661bc0f6e0394a006fe86f6fb14da284a36f92d176afe290083231"), looks := false }, kinds := [], alts := [], laidByText := true, laidKinds := [.data], laidTests := true, laidLooks := .later }
def FnGroupPlanCardSaid : Prop := Claim7.holds Tryd.pinned (.plain (OpenSpec.ofChange fnGroupPlanSpec)) fnGroupPlanCard

/-- THE TIED CARD OF 'laws.FnBestAverage'. -/
def fnBestAverageCard : Claim7 := { stood := { row := fnBestAverageRow, standIns := [], harness := (true, "4ae9ff875e661bc0f6e0394a006fe86f6fb14da284a36f92d176afe290083231"), looks := false }, kinds := [], alts := [], laidByText := true, laidKinds := [.data], laidTests := true, laidLooks := .later }
def FnBestAverageCardSaid : Prop := Claim7.holds Tryd.pinned (.plain (OpenSpec.ofChange fnBestAverageSpec)) fnBestAverageCard

/-- THE TIED CARD OF 'laws.FnGroupAverage'. -/
def fnGroupAverageCard : Claim7 := { stood := { row := fnGroupAverageRow, standIns := [], harness := (true, "4ae9ff875e661bc0f6e0394a006fe86f6fb14da284a36f92d176afe290083231"), looks := false }, kinds := [], alts := [], laidByText := true, laidKinds := [.data], laidTests := true, laidLooks := .later }
def FnGroupAverageCardSaid : Prop := Claim7.holds Tryd.pinned (.plain (OpenSpec.ofChange fnGroupAverageSpec)) fnGroupAverageCard

/-- THE TIED CARD OF 'laws.FnGroupsDual'. -/
def fnGroupsDualCard : Claim7 := { stood := { row := fnGroupsDualRow, standIns := [], harness := (true, "4ae9ff875e661bc0f6e0394a006fe86f6fb14da284a36f92d176afe290083231"), looks := false }, kinds := [], alts := [], laidByText := true, laidKinds := [.data], laidTests := true, laidLooks := .later }
def FnGroupsDualCardSaid : Prop := Claim7.holds Tryd.pinned (.plain (OpenSpec.ofChange fnGroupsDualSpec)) fnGroupsDualCard

/-- THE TIED CARD OF 'laws.FnDearer'. -/
def fnDearerCard : Claim7 := { stood := { row := fnDearerRow, standIns := [], harness := (true, "4ae9ff875e661bc0f6e0394a006fe86f6fb14da284a36f92d176afe290083231"), looks := false }, kinds := [], alts := [], laidByText := true, laidKinds := [.data], laidTests := true, laidLooks := .later }
def FnDearerCardSaid : Prop := Claim7.holds Tryd.pinned (.plain (OpenSpec.ofChange fnDearerSpec)) fnDearerCard

/-- THE SECOND FORM's CARD OF 'laws.FnNextInCount'. -/
def fnNextInCountUptoCard : Claim7 := { stood := { row := fnNextInCountUptoRow, standIns := [], harness := (true, "4ae9ff875e661bc0f6e0394a006fe86f6fb14da284a36f92d176afe290083231"), looks := false }, kinds := [], alts := [], laidByText := true, laidKinds := [.data, .data], laidTests := true, laidLooks := .later }
def FnNextInCountUptoCardSaid : Prop := Claim7.holds Tryd.pinned (.plain (OpenSpec.upto fnNextInCountSpec)) fnNextInCountUptoCard

/-- THE SECOND FORM's CARD OF 'laws.FnCountAverage'. -/
def fnCountAverageUptoCard : Claim7 := { stood := { row := fnCountAverageUptoRow, standIns := [], harness := (true, "4ae9ff875e661bc0f6e0394a006fe86f6fb14da284a36f92d176afe290083231"), looks := false }, kinds := [], alts := [], laidByText := true, laidKinds := [.data, .data], laidTests := true, laidLooks := .later }
def FnCountAverageUptoCardSaid : Prop := Claim7.holds Tryd.pinned (.plain (OpenSpec.upto fnCountAverageSpec)) fnCountAverageUptoCard

/-- THE SECOND FORM's CARD OF 'laws.FnCountBest'. -/
def fnCountBestUptoCard : Claim7 := { stood := { row := fnCountBestUptoRow, standIns := [], harness := (true, "4ae9ff875e661bc0f6e0394a006fe86f6fb14da284a36f92d176afe290083231"), looks := false }, kinds := [], alts := [], laidByText := true, laidKinds := [.data], laidTests := true, laidLooks := .later }
def FnCountBestUptoCardSaid : Prop := Claim7.holds Tryd.pinned (.plain (OpenSpec.upto fnCountBestSpec)) fnCountBestUptoCard

/-- THE SECOND FORM's CARD OF 'laws.FnTwoOfThree'. -/
def fnTwoOfThreeUptoCard : Claim7 := { stood := { row := fnTwoOfThreeUptoRow, standIns := [], harness := (true, "4ae9ff875e661bc0f6e0394a006fe86f6fb14da284a36f92d176afe290083231"), looks := false }, kinds := [], alts := [], laidByText := true, laidKinds := [.data], laidTests := true, laidLooks := .later }
def FnTwoOfThreeUptoCardSaid : Prop := Claim7.holds Tryd.pinned (.plain (OpenSpec.upto fnTwoOfThreeSpec)) fnTwoOfThreeUptoCard

/-- THE SECOND FORM's CARD OF 'laws.FnGroupPlan'. -/
def fnGroupPlanUptoCard : Claim7 := { stood := { row := fnGroupPlanUptoRow, standIns := [], harness := (true, "4ae9ff875e661bc0f6e0394a006fe86f6fb14da284a36f92d176afe290083231"), looks := false }, kinds := [], alts := [], laidByText := true, laidKinds := [.data], laidTests := true, laidLooks := .later }
def FnGroupPlanUptoCardSaid : Prop := Claim7.holds Tryd.pinned (.plain (OpenSpec.upto fnGroupPlanSpec)) fnGroupPlanUptoCard

/-- THE SECOND FORM's CARD OF 'laws.FnBestAverage'. -/
def fnBestAverageUptoCard : Claim7 := { stood := { row := fnBestAverageUptoRow, standIns := [], harness := (true, "4ae9ff875e661bc0f6e0394a006fe86f6fb14da284a36f92d176afe290083231"), looks := false }, kinds := [], alts := [], laidByText := true, laidKinds := [.data], laidTests := true, laidLooks := .later }
def FnBestAverageUptoCardSaid : Prop := Claim7.holds Tryd.pinned (.plain (OpenSpec.upto fnBestAverageSpec)) fnBestAverageUptoCard

/-- THE SECOND FORM's CARD OF 'laws.FnGroupAverage'. -/
def fnGroupAverageUptoCard : Claim7 := { stood := { row := fnGroupAverageUptoRow, standIns := [], harness := (true, "4ae9ff875e661bc0f6e0394a006fe86f6fb14da284a36f92d176afe290083231"), looks := false }, kinds := [], alts := [], laidByText := true, laidKinds := [.data], laidTests := true, laidLooks := .later }
def FnGroupAverageUptoCardSaid : Prop := Claim7.holds Tryd.pinned (.plain (OpenSpec.upto fnGroupAverageSpec)) fnGroupAverageUptoCard

/-- THE SECOND FORM's CARD OF 'laws.FnGroupsDual'. -/
def fnGroupsDualUptoCard : Claim7 := { stood := { row := fnGroupsDualUptoRow, standIns := [], harness := (true, "4ae9ff875e661bc0f6e0394a006fe86f6fb14da284a36f92d176afe290083231"), looks := false }, kinds := [], alts := [], laidByText := true, laidKinds := [.data], laidTests := true, laidLooks := .later }
def FnGroupsDualUptoCardSaid : Prop := Claim7.holds Tryd.pinned (.plain (OpenSpec.upto fnGroupsDualSpec)) fnGroupsDualUptoCard

/-- THE SECOND FORM's CARD OF 'laws.FnDearer'. -/
def fnDearerUptoCard : Claim7 := { stood := { row := fnDearerUptoRow, standIns := [], harness := (true, "4ae9ff875e661bc0f6e0394a006fe86f6fb14da284a36f92d176afe290083231"), looks := false }, kinds := [], alts := [], laidByText := true, laidKinds := [.data], laidTests := true, laidLooks := .later }
def FnDearerUptoCardSaid : Prop := Claim7.holds Tryd.pinned (.plain (OpenSpec.upto fnDearerSpec)) fnDearerUptoCard
end Rows
end Go.Proofs.YtahkmbihhkjebabDoor
