/-
  DERIVED. GIVEN WITH THE SEED: THE CARDS: each row of YtahkmbihhkjebacDoorRows.lean that lists a variable, with what it lists TIED to the program's text (the seventh form; the later family's looks); each row that meets fmt, with fmt's text TOLD by the authors' own Lean function (tested against real Go, not proved from fmt's source: count such statements apart). THE CARD IS WHAT COUNTS. Prove the row's statement (the work); the ties are given (YtahkmbihhkjebacDoorTie.lean); close each card by the builder's one call (the guide's Derived/Test/ToyasCard.lean, 'card_holds'). Laid BY PROGRAM, IN A SANDBOX (cutbox-door.mjs). By AI agents, Wed Nov 11 2026. No macro, syntax, notation, axiom, sorry.
-/
import Derived.Test.YtahkmbihhkjebacDoorRows
import GoSem.ClaimSeven
namespace Go.Proofs.YtahkmbihhkjebacDoor
namespace Rows

/-- THE TIED CARD OF 'laws.FnAverageBy'. -/
def fnAverageByCard : Claim7 := { stood := { row := fnAverageByRow, standIns := [], harness := (true, "04874390e5f40e3802ce932d69fdd076f75dc5bdc165c1128a64714a074ffbb7"), looks := false }, kinds := [], alts := [], laidByText := true, laidKinds := [.data], laidTests := true, laidLooks := .later }
def FnAverageByCardSaid : Prop := Claim7.holds Tryd.pinned (.plain (OpenSpec.ofChange fnAverageBySpec)) fnAverageByCard

/-- THE TIED CARD OF 'laws.FnBestPlan'. -/
def fnBestPlanCard : Claim7 := { stood := { row := fnBestPlanRow, standIns := [], harness := (true, "04874390e5f40e3802ce932d69fdd076f75dc5bdc165c1128a64714a074ffbb7"), looks := false }, kinds := [], alts := [], laidByText := true, laidKinds := [.data], laidTests := true, laidLooks := .later }
def FnBestPlanCardSaid : Prop := Claim7.holds Tryd.pinned (.plain (OpenSpec.ofChange fnBestPlanSpec)) fnBestPlanCard

/-- THE TIED CARD OF 'laws.FnDepthOf'. -/
def fnDepthOfCard : Claim7 := { stood := { row := fnDepthOfRow, standIns := [], harness := (true, "04874390e5f40e3802ce932d69fdd076f75dc5bdc165c1128a64714a074ffbb7"), looks := false }, kinds := [], alts := [], laidByText := true, laidKinds := [.data], laidTests := true, laidLooks := .later }
def FnDepthOfCardSaid : Prop := Claim7.holds Tryd.pinned (.plain (OpenSpec.ofChange fnDepthOfSpec)) fnDepthOfCard

/-- THE TIED CARD OF 'laws.FnNoMatter'. -/
def fnNoMatterCard : Claim7 := { stood := { row := fnNoMatterRow, standIns := [], harness := (true, "04874390e5f40e3802ce932d69fdd076f75dc5bdc165c1128a64714a074ffbb7"), looks := false }, kinds := [], alts := [], laidByText := true, laidKinds := [.data], laidTests := true, laidLooks := .later }
def FnNoMatterCardSaid : Prop := Claim7.holds Tryd.pinned (.plain (OpenSpec.ofChange fnNoMatterSpec)) fnNoMatterCard

/-- THE TIED CARD OF 'laws.FnOrderPlan'. -/
def fnOrderPlanCard : Claim7 := { stood := { row := fnOrderPlanRow, standIns := [], harness := (true, "04874390e5f40e3802ce932d69fdd076f75dc5bdc165c1128a64714a074ffbb7"), looks := false }, kinds := [], alts := [], laidByText := true, laidKinds := [.data], laidTests := true, laidLooks := .later }
def FnOrderPlanCardSaid : Prop := Claim7.holds Tryd.pinned (.plain (OpenSpec.ofChange fnOrderPlanSpec)) fnOrderPlanCard

/-- THE TIED CARD OF 'laws.FnOrdersAbove'. -/
def fnOrdersAboveCard : Claim7 := { stood := { row := fnOrdersAboveRow, standIns := [], harness := (true, "04874390e5f40e3802ce932d69fdd076f75dc5bdc165c1128a64714a074ffbb7"), looks := false }, kinds := [], alts := [], laidByText := true, laidKinds := [.data], laidTests := true, laidLooks := .later }
def FnOrdersAboveCardSaid : Prop := Claim7.holds Tryd.pinned (.plain (OpenSpec.ofChange fnOrdersAboveSpec)) fnOrdersAboveCard

/-- THE SECOND FORM's CARD OF 'laws.FnAverageBy'. -/
def fnAverageByUptoCard : Claim7 := { stood := { row := fnAverageByUptoRow, standIns := [], harness := (true, "04874390e5f40e3802ce932d69fdd076f75dc5bdc165c1128a64714a074ffbb7"), looks := false }, kinds := [], alts := [], laidByText := true, laidKinds := [.data], laidTests := true, laidLooks := .later }
def FnAverageByUptoCardSaid : Prop := Claim7.holds Tryd.pinned (.plain (OpenSpec.upto fnAverageBySpec)) fnAverageByUptoCard

/-- THE SECOND FORM's CARD OF 'laws.FnBestPlan'. -/
def fnBestPlanUptoCard : Claim7 := { stood := { row := fnBestPlanUptoRow, standIns := [], harness := (true, "04874390e5f40e3802ce932d69fdd076f75dc5bdc165c1128a64714a074ffbb7"), looks := false }, kinds := [], alts := [], laidByText := true, laidKinds := [.data], laidTests := true, laidLooks := .later }
def FnBestPlanUptoCardSaid : Prop := Claim7.holds Tryd.pinned (.plain (OpenSpec.upto fnBestPlanSpec)) fnBestPlanUptoCard

/-- THE SECOND FORM's CARD OF 'laws.FnDepthOf'. -/
def fnDepthOfUptoCard : Claim7 := { stood := { row := fnDepthOfUptoRow, standIns := [], harness := (true, "04874390e5f40e3802ce932d69fdd076f75dc5bdc165c1128a64714a074ffbb7"), looks := false }, kinds := [], alts := [], laidByText := true, laidKinds := [.data], laidTests := true, laidLooks := .later }
def FnDepthOfUptoCardSaid : Prop := Claim7.holds Tryd.pinned (.plain (OpenSpec.upto fnDepthOfSpec)) fnDepthOfUptoCard

/-- THE SECOND FORM's CARD OF 'laws.FnNoMatter'. -/
def fnNoMatterUptoCard : Claim7 := { stood := { row := fnNoMatterUptoRow, standIns := [], harness := (true, "04874390e5f40e3802ce932d69fdd076f75dc5bdc165c1128a64714a074ffbb7"), looks := false }, kinds := [], alts := [], laidByText := true, laidKinds := [.data], laidTests := true, laidLooks := .later }
def FnNoMatterUptoCardSaid : Prop := Claim7.holds Tryd.pinned (.plain (OpenSpec.upto fnNoMatterSpec)) fnNoMatterUptoCard

/-- THE SECOND FORM's CARD OF 'laws.FnOrderPlan'. -/
def fnOrderPlanUptoCard : Claim7 := { stood := { row := fnOrderPlanUptoRow, standIns := [], harness := (true, "04874390e5f40e3802ce932d69fdd076f75dc5bdc165c1128a64714a074ffbb7"), looks := false }, kinds := [], alts := [], laidByText := true, laidKinds := [.data], laidTests := true, laidLooks := .later }
def FnOrderPlanUptoCardSaid : Prop := Claim7.holds Tryd.pinned (.plain (OpenSpec.upto fnOrderPlanSpec)) fnOrderPlanUptoCard

/-- THE SECOND FORM's CARD OF 'laws.FnOrdersAbove'. -/
def fnOrdersAboveUptoCard : Claim7 := { stood := { row := fnOrdersAboveUptoRow, standIns := [], harness := (true, "04874390e5f40e3802ce932d69fdd076f75dc5bdc165c1128a64714a074ffbb7"), looks := false }, kinds := [], alts := [], laidByText := true, laidKinds := [.data], laidTests := true, laidLooks := .later }
def FnOrdersAboveUptoCardSaid : Prop := Claim7.holds Tryd.pinned (.plain (OpenSpec.upto fnOrdersAboveSpec)) fnOrdersAboveUptoCard
end Rows
end Go.Proofs.YtahkmbihhkjebacDoor
