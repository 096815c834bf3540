/-
  DERIVED. GIVEN WITH THE SEED: THE CARDS: each row of YtplfgkjggohajabDoorRows.lean that lists a variable, with what it lists TIED to the program's text (the seventh form; the later family's looks); each row that meets fmt, with fmt's text TOLD by the authors' own Lean function (tested against real Go, not proved from fmt's source: count such statements apart). THE CARD IS WHAT COUNTS. Prove the row's statement (the work); the ties are given (YtplfgkjggohajabDoorTie.lean); close each card by the builder's one call (the guide's Derived/Test/ToyasCard.lean, 'card_holds'). Laid BY PROGRAM, IN A SANDBOX (cutbox-door.mjs). By AI agents, Wed Nov 11 2026. No macro, syntax, notation, axiom, sorry.
-/
import Derived.Test.YtplfgkjggohajabDoorRows
import GoSem.ClaimSeven
namespace Go.Proofs.YtplfgkjggohajabDoor
namespace Rows

/-- THE TIED CARD OF 'laws.FnPlanText'. -/
def fnPlanTextCard : Claim7 := { stood := { row := fnPlanTextRow, standIns := [], harness := (true, "de3bc6dd0dc658c15f2f4bc93e191e38e13d62c15215c0da327783866c7e78d0"), looks := false }, kinds := [], alts := [], laidByText := true, laidKinds := [.data], laidTests := true, laidLooks := .later }
def FnPlanTextCardSaid : Prop := Claim7.holds Tryd.pinned (.plain (OpenSpec.ofChange fnPlanTextSpec)) fnPlanTextCard

/-- THE TIED CARD OF 'laws.FnReadPlan'. -/
def fnReadPlanCard : Claim7 := { stood := { row := fnReadPlanRow, standIns := [], harness := (true, "de3bc6dd0dc658c15f2f4bc93e191e38e13d62c15215c0da327783866c7e78d0"), looks := false }, kinds := [], alts := [], laidByText := true, laidKinds := [.data], laidTests := true, laidLooks := .later }
def FnReadPlanCardSaid : Prop := Claim7.holds Tryd.pinned (.plain (OpenSpec.ofChange fnReadPlanSpec)) fnReadPlanCard

/-- THE TIED CARD OF 'laws.FnTurnedPlan'. -/
def fnTurnedPlanCard : Claim7 := { stood := { row := fnTurnedPlanRow, standIns := [], harness := (true, "de3bc6dd0dc658c15f2f4bc93e191e38e13d62c15215c0da327783866c7e78d0"), looks := false }, kinds := [], alts := [], laidByText := true, laidKinds := [.data], laidTests := true, laidLooks := .later }
def FnTurnedPlanCardSaid : Prop := Claim7.holds Tryd.pinned (.plain (OpenSpec.ofChange fnTurnedPlanSpec)) fnTurnedPlanCard

/-- THE TIED CARD OF 'laws.FnStopsOf'. -/
def fnStopsOfCard : Claim7 := { stood := { row := fnStopsOfRow, standIns := [], harness := (true, "de3bc6dd0dc658c15f2f4bc93e191e38e13d62c15215c0da327783866c7e78d0"), looks := false }, kinds := [], alts := [], laidByText := true, laidKinds := [.data], laidTests := true, laidLooks := .later }
def FnStopsOfCardSaid : Prop := Claim7.holds Tryd.pinned (.plain (OpenSpec.ofChange fnStopsOfSpec)) fnStopsOfCard

/-- THE TIED CARD OF 'laws.FnNotText'. -/
def fnNotTextCard : Claim7 := { stood := { row := fnNotTextRow, standIns := [], harness := (true, "de3bc6dd0dc658c15f2f4bc93e191e38e13d62c15215c0da327783866c7e78d0"), looks := false }, kinds := [], alts := [], laidByText := true, laidKinds := [.data], laidTests := true, laidLooks := .later }
def FnNotTextCardSaid : Prop := Claim7.holds Tryd.pinned (.plain (OpenSpec.ofChange fnNotTextSpec)) fnNotTextCard

/-- THE TIED CARD OF 'laws.FnExactPlanText'. -/
def fnExactPlanTextCard : Claim7 := { stood := { row := fnExactPlanTextRow, standIns := [], harness := (true, "de3bc6dd0dc658c15f2f4bc93e191e38e13d62c15215c0da327783866c7e78d0"), looks := false }, kinds := [], alts := [], laidByText := true, laidKinds := [.data], laidTests := true, laidLooks := .later }
def FnExactPlanTextCardSaid : Prop := Claim7.holds Tryd.pinned (.plain (OpenSpec.ofChange fnExactPlanTextSpec)) fnExactPlanTextCard

/-- THE TIED CARD OF 'laws.FnExactReadPlan'. -/
def fnExactReadPlanCard : Claim7 := { stood := { row := fnExactReadPlanRow, standIns := [], harness := (true, "de3bc6dd0dc658c15f2f4bc93e191e38e13d62c15215c0da327783866c7e78d0"), looks := false }, kinds := [], alts := [], laidByText := true, laidKinds := [.data], laidTests := true, laidLooks := .later }
def FnExactReadPlanCardSaid : Prop := Claim7.holds Tryd.pinned (.plain (OpenSpec.ofChange fnExactReadPlanSpec)) fnExactReadPlanCard

/-- THE TIED CARD OF 'laws.FnExactTurnedPlan'. -/
def fnExactTurnedPlanCard : Claim7 := { stood := { row := fnExactTurnedPlanRow, standIns := [], harness := (true, "de3bc6dd0dc658c15f2f4bc93e191e38e13d62c15215c0da327783866c7e78d0"), looks := false }, kinds := [], alts := [], laidByText := true, laidKinds := [.data], laidTests := true, laidLooks := .later }
def FnExactTurnedPlanCardSaid : Prop := Claim7.holds Tryd.pinned (.plain (OpenSpec.ofChange fnExactTurnedPlanSpec)) fnExactTurnedPlanCard

/-- THE TIED CARD OF 'laws.FnExactStopsOf'. -/
def fnExactStopsOfCard : Claim7 := { stood := { row := fnExactStopsOfRow, standIns := [], harness := (true, "de3bc6dd0dc658c15f2f4bc93e191e38e13d62c15215c0da327783866c7e78d0"), looks := false }, kinds := [], alts := [], laidByText := true, laidKinds := [.data], laidTests := true, laidLooks := .later }
def FnExactStopsOfCardSaid : Prop := Claim7.holds Tryd.pinned (.plain (OpenSpec.ofChange fnExactStopsOfSpec)) fnExactStopsOfCard

/-- THE TIED CARD OF 'laws.FnTwoOfThree'. -/
def fnTwoOfThreeCard : Claim7 := { stood := { row := fnTwoOfThreeRow, standIns := [], harness := (true, "de3bc6dd0dc658c15f2f4bc93e191e38e13d62c15215c0da327783866c7e78d0"), looks := false }, kinds := [], alts := [], laidByText := true, laidKinds := [.data], laidTests := true, laidLooks := .later }
def FnTwoOfThreeCardSaid : Prop := Claim7.holds Tryd.pinned (.plain (OpenSpec.ofChange fnTwoOfThreeSpec)) fnTwoOfThreeCard

/-- THE SECOND FORM's CARD OF 'laws.FnPlanText'. -/
def fnPlanTextUptoCard : Claim7 := { stood := { row := fnPlanTextUptoRow, standIns := [], harness := (true, "de3bc6dd0dc658c15f2f4bc93e191e38e13d62c15215c0da327783866c7e78d0"), looks := false }, kinds := [], alts := [], laidByText := true, laidKinds := [.data], laidTests := true, laidLooks := .later }
def FnPlanTextUptoCardSaid : Prop := Claim7.holds Tryd.pinned (.plain (OpenSpec.upto fnPlanTextSpec)) fnPlanTextUptoCard

/-- THE SECOND FORM's CARD OF 'laws.FnReadPlan'. -/
def fnReadPlanUptoCard : Claim7 := { stood := { row := fnReadPlanUptoRow, standIns := [], harness := (true, "de3bc6dd0dc658c15f2f4bc93e191e38e13d62c15215c0da327783866c7e78d0"), looks := false }, kinds := [], alts := [], laidByText := true, laidKinds := [.data], laidTests := true, laidLooks := .later }
def FnReadPlanUptoCardSaid : Prop := Claim7.holds Tryd.pinned (.plain (OpenSpec.upto fnReadPlanSpec)) fnReadPlanUptoCard

/-- THE SECOND FORM's CARD OF 'laws.FnTurnedPlan'. -/
def fnTurnedPlanUptoCard : Claim7 := { stood := { row := fnTurnedPlanUptoRow, standIns := [], harness := (true, "de3bc6dd0dc658c15f2f4bc93e191e38e13d62c15215c0da327783866c7e78d0"), looks := false }, kinds := [], alts := [], laidByText := true, laidKinds := [.data], laidTests := true, laidLooks := .later }
def FnTurnedPlanUptoCardSaid : Prop := Claim7.holds Tryd.pinned (.plain (OpenSpec.upto fnTurnedPlanSpec)) fnTurnedPlanUptoCard

/-- THE SECOND FORM's CARD OF 'laws.FnStopsOf'. -/
def fnStopsOfUptoCard : Claim7 := { stood := { row := fnStopsOfUptoRow, standIns := [], harness := (true, "de3bc6dd0dc658c15f2f4bc93e191e38e13d62c15215c0da327783866c7e78d0"), looks := false }, kinds := [], alts := [], laidByText := true, laidKinds := [.data], laidTests := true, laidLooks := .later }
def FnStopsOfUptoCardSaid : Prop := Claim7.holds Tryd.pinned (.plain (OpenSpec.upto fnStopsOfSpec)) fnStopsOfUptoCard

/-- THE SECOND FORM's CARD OF 'laws.FnNotText'. -/
def fnNotTextUptoCard : Claim7 := { stood := { row := fnNotTextUptoRow, standIns := [], harness := (true, "de3bc6dd0dc658c15f2f4bc93e191e38e13d62c15215c0da327783866c7e78d0"), looks := false }, kinds := [], alts := [], laidByText := true, laidKinds := [.data], laidTests := true, laidLooks := .later }
def FnNotTextUptoCardSaid : Prop := Claim7.holds Tryd.pinned (.plain (OpenSpec.upto fnNotTextSpec)) fnNotTextUptoCard

/-- THE SECOND FORM's CARD OF 'laws.FnExactPlanText'. -/
def fnExactPlanTextUptoCard : Claim7 := { stood := { row := fnExactPlanTextUptoRow, standIns := [], harness := (true, "de3bc6dd0dc658c15f2f4bc93e191e38e13d62c15215c0da327783866c7e78d0"), looks := false }, kinds := [], alts := [], laidByText := true, laidKinds := [.data], laidTests := true, laidLooks := .later }
def FnExactPlanTextUptoCardSaid : Prop := Claim7.holds Tryd.pinned (.plain (OpenSpec.upto fnExactPlanTextSpec)) fnExactPlanTextUptoCard

/-- THE SECOND FORM's CARD OF 'laws.FnExactReadPlan'. -/
def fnExactReadPlanUptoCard : Claim7 := { stood := { row := fnExactReadPlanUptoRow, standIns := [], harness := (true, "de3bc6dd0dc658c15f2f4bc93e191e38e13d62c15215c0da327783866c7e78d0"), looks := false }, kinds := [], alts := [], laidByText := true, laidKinds := [.data], laidTests := true, laidLooks := .later }
def FnExactReadPlanUptoCardSaid : Prop := Claim7.holds Tryd.pinned (.plain (OpenSpec.upto fnExactReadPlanSpec)) fnExactReadPlanUptoCard

/-- THE SECOND FORM's CARD OF 'laws.FnExactTurnedPlan'. -/
def fnExactTurnedPlanUptoCard : Claim7 := { stood := { row := fnExactTurnedPlanUptoRow, standIns := [], harness := (true, "de3bc6dd0dc658c15f2f4bc93e191e38e13d62c15215c0da327783866c7e78d0"), looks := false }, kinds := [], alts := [], laidByText := true, laidKinds := [.data], laidTests := true, laidLooks := .later }
def FnExactTurnedPlanUptoCardSaid : Prop := Claim7.holds Tryd.pinned (.plain (OpenSpec.upto fnExactTurnedPlanSpec)) fnExactTurnedPlanUptoCard

/-- THE SECOND FORM's CARD OF 'laws.FnExactStopsOf'. -/
def fnExactStopsOfUptoCard : Claim7 := { stood := { row := fnExactStopsOfUptoRow, standIns := [], harness := (true, "de3bc6dd0dc658c15f2f4bc93e191e38e13d62c15215c0da327783866c7e78d0"), looks := false }, kinds := [], alts := [], laidByText := true, laidKinds := [.data], laidTests := true, laidLooks := .later }
def FnExactStopsOfUptoCardSaid : Prop := Claim7.holds Tryd.pinned (.plain (OpenSpec.upto fnExactStopsOfSpec)) fnExactStopsOfUptoCard

/-- THE SECOND FORM's CARD OF 'laws.FnTwoOfThree'. -/
def fnTwoOfThreeUptoCard : Claim7 := { stood := { row := fnTwoOfThreeUptoRow, standIns := [], harness := (true, "de3bc6dd0dc658c15f2f4bc93e191e38e13d62c15215c0da327783866c7e78d0"), looks := false }, kinds := [], alts := [], laidByText := true, laidKinds := [.data], laidTests := true, laidLooks := .later }
def FnTwoOfThreeUptoCardSaid : Prop := Claim7.holds Tryd.pinned (.plain (OpenSpec.upto fnTwoOfThreeSpec)) fnTwoOfThreeUptoCard
end Rows
end Go.Proofs.YtplfgkjggohajabDoor
