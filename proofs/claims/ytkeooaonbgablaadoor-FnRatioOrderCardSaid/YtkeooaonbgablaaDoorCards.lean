/-
  DERIVED. GIVEN WITH THE SEED: THE CARDS: each row of YtkeooaonbgablaaDoorRows.lean that lists a variable, with what it lists TIED to the program's text (the seventh form; the later family's looks); each row that meets fmt, with fmt's text TOLD by the authors' own Lean function (tested against real Go, not proved from fmt's source: count such statements apart). THE CARD IS WHAT COUNTS. Prove the row's statement (the work); the ties are given (YtkeooaonbgablaaDoorTie.lean); close each card by the builder's one call (the guide's Derived/Test/ToyasCard.lean, 'card_holds'). Laid BY PROGRAM, IN A SANDBOX (cutbox-door.mjs). By AI agents, Wed Nov 11 2026. No macro, syntax, notation, axiom, sorry.
-/
import Derived.Test.YtkeooaonbgablaaDoorRows
import GoSem.ClaimSeven
namespace Go.Proofs.YtkeooaonbgablaaDoor
namespace Rows

/-- THE TIED CARD OF 'laws.FnRatioOrder'. -/
def fnRatioOrderCard : Claim7 := { stood := { row := fnRatioOrderRow, standIns := [], harness := (true, "577e7a83960f617c92ecbab3ace41061784f638e553ae863e08be2bfc2930e3f"), looks := false }, kinds := [], alts := [], laidByText := true, laidKinds := [.data], laidTests := true, laidLooks := .later }
def FnRatioOrderCardSaid : Prop := Claim7.holds Tryd.pinned (.plain (OpenSpec.ofChange fnRatioOrderSpec)) fnRatioOrderCard

/-- THE TIED CARD OF 'laws.FnRowAverage'. -/
def fnRowAverageCard : Claim7 := { stood := { row := fnRowAverageRow, standIns := [], harness := (true, "577e7a83960f617c92ecbab3ace41061784f638e553ae863e08be2bfc2930e3f"), looks := false }, kinds := [], alts := [], laidByText := true, laidKinds := [.data], laidTests := true, laidLooks := .later }
def FnRowAverageCardSaid : Prop := Claim7.holds Tryd.pinned (.plain (OpenSpec.ofChange fnRowAverageSpec)) fnRowAverageCard

/-- THE TIED CARD OF 'laws.FnRowChance'. -/
def fnRowChanceCard : Claim7 := { stood := { row := fnRowChanceRow, standIns := [], harness := (true, "577e7a83960f617c92ecbab3ace41061784f638e553ae863e08be2bfc2930e3f"), looks := false }, kinds := [], alts := [], laidByText := true, laidKinds := [.data], laidTests := true, laidLooks := .later }
def FnRowChanceCardSaid : Prop := Claim7.holds Tryd.pinned (.plain (OpenSpec.ofChange fnRowChanceSpec)) fnRowChanceCard

/-- THE SECOND FORM's CARD OF 'laws.FnRatioOrder'. -/
def fnRatioOrderUptoCard : Claim7 := { stood := { row := fnRatioOrderUptoRow, standIns := [], harness := (true, "577e7a83960f617c92ecbab3ace41061784f638e553ae863e08be2bfc2930e3f"), looks := false }, kinds := [], alts := [], laidByText := true, laidKinds := [.data], laidTests := true, laidLooks := .later }
def FnRatioOrderUptoCardSaid : Prop := Claim7.holds Tryd.pinned (.plain (OpenSpec.upto fnRatioOrderSpec)) fnRatioOrderUptoCard

/-- THE SECOND FORM's CARD OF 'laws.FnRowAverage'. -/
def fnRowAverageUptoCard : Claim7 := { stood := { row := fnRowAverageUptoRow, standIns := [], harness := (true, "577e7a83960f617c92ecbab3ace41061784f638e553ae863e08be2bfc2930e3f"), looks := false }, kinds := [], alts := [], laidByText := true, laidKinds := [.data], laidTests := true, laidLooks := .later }
def FnRowAverageUptoCardSaid : Prop := Claim7.holds Tryd.pinned (.plain (OpenSpec.upto fnRowAverageSpec)) fnRowAverageUptoCard

/-- THE SECOND FORM's CARD OF 'laws.FnRowChance'. -/
def fnRowChanceUptoCard : Claim7 := { stood := { row := fnRowChanceUptoRow, standIns := [], harness := (true, "577e7a83960f617c92ecbab3ace41061784f638e553ae863e08be2bfc2930e3f"), looks := false }, kinds := [], alts := [], laidByText := true, laidKinds := [.data], laidTests := true, laidLooks := .later }
def FnRowChanceUptoCardSaid : Prop := Claim7.holds Tryd.pinned (.plain (OpenSpec.upto fnRowChanceSpec)) fnRowChanceUptoCard
end Rows
end Go.Proofs.YtkeooaonbgablaaDoor
