/-
  DERIVED. GIVEN WITH THE SEED: THE CARDS: each row of YtdkcoaajodbnbabDoorRows.lean that lists a variable, with what it lists TIED to the program's text (the seventh form; the later family's looks); each row that meets fmt, with fmt's text TOLD by the authors' own Lean function (tested against real Go, not proved from fmt's source: count such statements apart). THE CARD IS WHAT COUNTS. Prove the row's statement (the work); the ties are given (YtdkcoaajodbnbabDoorTie.lean); close each card by the builder's one call (the guide's Derived/Test/ToyasCard.lean, 'card_holds'). Laid BY PROGRAM, IN A SANDBOX (cutbox-door.mjs). By AI agents, Wed Nov 11 2026. No macro, syntax, notation, axiom, sorry.
-/
import Derived.Test.YtdkcoaajodbnbabDoorRows
import GoSem.ClaimSeven
namespace Go.Proofs.YtdkcoaajodbnbabDoor
namespace Rows

/-- THE TIED CARD OF 'laws.FnTrueWeight'. -/
def fnTrueWeightCard : Claim7 := { stood := { row := fnTrueWeightRow, standIns := [], harness := (true, "abbb4b7fe3992bedc7abf1293592051547b70febf5935b6ef496076c4d9df4b2"), looks := false }, kinds := [], alts := [], laidByText := true, laidKinds := [.data], laidTests := true, laidLooks := .later }
def FnTrueWeightCardSaid : Prop := Claim7.holds Tryd.pinned (.plain (OpenSpec.ofChange fnTrueWeightSpec)) fnTrueWeightCard

/-- THE TIED CARD OF 'laws.FnExactTrueWeight'. -/
def fnExactTrueWeightCard : Claim7 := { stood := { row := fnExactTrueWeightRow, standIns := [], harness := (true, "abbb4b7fe3992bedc7abf1293592051547b70febf5935b6ef496076c4d9df4b2"), looks := false }, kinds := [], alts := [], laidByText := true, laidKinds := [.data], laidTests := true, laidLooks := .later }
def FnExactTrueWeightCardSaid : Prop := Claim7.holds Tryd.pinned (.plain (OpenSpec.ofChange fnExactTrueWeightSpec)) fnExactTrueWeightCard

/-- THE TIED CARD OF 'laws.FnAskedIn'. -/
def fnAskedInCard : Claim7 := { stood := { row := fnAskedInRow, standIns := [], harness := (true, "abbb4b7fe3992bedc7abf1293592051547b70febf5935b6ef496076c4d9df4b2"), looks := false }, kinds := [], alts := [], laidByText := true, laidKinds := [.data], laidTests := true, laidLooks := .later }
def FnAskedInCardSaid : Prop := Claim7.holds Tryd.pinned (.plain (OpenSpec.ofChange fnAskedInSpec)) fnAskedInCard

/-- THE TIED CARD OF 'laws.FnBestOrder'. -/
def fnBestOrderCard : Claim7 := { stood := { row := fnBestOrderRow, standIns := [], harness := (true, "abbb4b7fe3992bedc7abf1293592051547b70febf5935b6ef496076c4d9df4b2"), looks := false }, kinds := [], alts := [], laidByText := true, laidKinds := [.data], laidTests := true, laidLooks := .later }
def FnBestOrderCardSaid : Prop := Claim7.holds Tryd.pinned (.plain (OpenSpec.ofChange fnBestOrderSpec)) fnBestOrderCard

/-- THE TIED CARD OF 'laws.FnExactBestOrder'. -/
def fnExactBestOrderCard : Claim7 := { stood := { row := fnExactBestOrderRow, standIns := [], harness := (true, "abbb4b7fe3992bedc7abf1293592051547b70febf5935b6ef496076c4d9df4b2"), looks := false }, kinds := [], alts := [], laidByText := true, laidKinds := [.data], laidTests := true, laidLooks := .later }
def FnExactBestOrderCardSaid : Prop := Claim7.holds Tryd.pinned (.plain (OpenSpec.ofChange fnExactBestOrderSpec)) fnExactBestOrderCard

/-- THE TIED CARD OF 'laws.FnRatioOrder'. -/
def fnRatioOrderCard : Claim7 := { stood := { row := fnRatioOrderRow, standIns := [], harness := (true, "abbb4b7fe3992bedc7abf1293592051547b70febf5935b6ef496076c4d9df4b2"), looks := false }, kinds := [], alts := [], laidByText := true, laidKinds := [.data], laidTests := true, laidLooks := .later }
def FnRatioOrderCardSaid : Prop := Claim7.holds Tryd.pinned (.plain (OpenSpec.ofChange fnRatioOrderSpec)) fnRatioOrderCard

/-- THE TIED CARD OF 'laws.FnRowChance'. -/
def fnRowChanceCard : Claim7 := { stood := { row := fnRowChanceRow, standIns := [], harness := (true, "abbb4b7fe3992bedc7abf1293592051547b70febf5935b6ef496076c4d9df4b2"), looks := false }, kinds := [], alts := [], laidByText := true, laidKinds := [.data], laidTests := true, laidLooks := .later }
def FnRowChanceCardSaid : Prop := Claim7.holds Tryd.pinned (.plain (OpenSpec.ofChange fnRowChanceSpec)) fnRowChanceCard

/-- THE SECOND FORM's CARD OF 'laws.FnTrueWeight'. -/
def fnTrueWeightUptoCard : Claim7 := { stood := { row := fnTrueWeightUptoRow, standIns := [], harness := (true, "abbb4b7fe3992bedc7abf1293592051547b70febf5935b6ef496076c4d9df4b2"), looks := false }, kinds := [], alts := [], laidByText := true, laidKinds := [.data], laidTests := true, laidLooks := .later }
def FnTrueWeightUptoCardSaid : Prop := Claim7.holds Tryd.pinned (.plain (OpenSpec.upto fnTrueWeightSpec)) fnTrueWeightUptoCard

/-- THE SECOND FORM's CARD OF 'laws.FnExactTrueWeight'. -/
def fnExactTrueWeightUptoCard : Claim7 := { stood := { row := fnExactTrueWeightUptoRow, standIns := [], harness := (true, "abbb4b7fe3992bedc7abf1293592051547b70febf5935b6ef496076c4d9df4b2"), looks := false }, kinds := [], alts := [], laidByText := true, laidKinds := [.data], laidTests := true, laidLooks := .later }
def FnExactTrueWeightUptoCardSaid : Prop := Claim7.holds Tryd.pinned (.plain (OpenSpec.upto fnExactTrueWeightSpec)) fnExactTrueWeightUptoCard

/-- THE SECOND FORM's CARD OF 'laws.FnAskedIn'. -/
def fnAskedInUptoCard : Claim7 := { stood := { row := fnAskedInUptoRow, standIns := [], harness := (true, "abbb4b7fe3992bedc7abf1293592051547b70febf5935b6ef496076c4d9df4b2"), looks := false }, kinds := [], alts := [], laidByText := true, laidKinds := [.data], laidTests := true, laidLooks := .later }
def FnAskedInUptoCardSaid : Prop := Claim7.holds Tryd.pinned (.plain (OpenSpec.upto fnAskedInSpec)) fnAskedInUptoCard

/-- THE SECOND FORM's CARD OF 'laws.FnBestOrder'. -/
def fnBestOrderUptoCard : Claim7 := { stood := { row := fnBestOrderUptoRow, standIns := [], harness := (true, "abbb4b7fe3992bedc7abf1293592051547b70febf5935b6ef496076c4d9df4b2"), looks := false }, kinds := [], alts := [], laidByText := true, laidKinds := [.data], laidTests := true, laidLooks := .later }
def FnBestOrderUptoCardSaid : Prop := Claim7.holds Tryd.pinned (.plain (OpenSpec.upto fnBestOrderSpec)) fnBestOrderUptoCard

/-- THE SECOND FORM's CARD OF 'laws.FnExactBestOrder'. -/
def fnExactBestOrderUptoCard : Claim7 := { stood := { row := fnExactBestOrderUptoRow, standIns := [], harness := (true, "abbb4b7fe3992bedc7abf1293592051547b70febf5935b6ef496076c4d9df4b2"), looks := false }, kinds := [], alts := [], laidByText := true, laidKinds := [.data], laidTests := true, laidLooks := .later }
def FnExactBestOrderUptoCardSaid : Prop := Claim7.holds Tryd.pinned (.plain (OpenSpec.upto fnExactBestOrderSpec)) fnExactBestOrderUptoCard

/-- THE SECOND FORM's CARD OF 'laws.FnRatioOrder'. -/
def fnRatioOrderUptoCard : Claim7 := { stood := { row := fnRatioOrderUptoRow, standIns := [], harness := (true, "abbb4b7fe3992bedc7abf1293592051547b70febf5935b6ef496076c4d9df4b2"), looks := false }, kinds := [], alts := [], laidByText := true, laidKinds := [.data], laidTests := true, laidLooks := .later }
def FnRatioOrderUptoCardSaid : Prop := Claim7.holds Tryd.pinned (.plain (OpenSpec.upto fnRatioOrderSpec)) fnRatioOrderUptoCard

/-- THE SECOND FORM's CARD OF 'laws.FnRowChance'. -/
def fnRowChanceUptoCard : Claim7 := { stood := { row := fnRowChanceUptoRow, standIns := [], harness := (true, "abbb4b7fe3992bedc7abf1293592051547b70febf5935b6ef496076c4d9df4b2"), looks := false }, kinds := [], alts := [], laidByText := true, laidKinds := [.data], laidTests := true, laidLooks := .later }
def FnRowChanceUptoCardSaid : Prop := Claim7.holds Tryd.pinned (.plain (OpenSpec.upto fnRowChanceSpec)) fnRowChanceUptoCard
end Rows
end Go.Proofs.YtdkcoaajodbnbabDoor
