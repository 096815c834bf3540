/-
  DERIVED. GIVEN WITH THE SEED: THE CARDS: each row of YthadcdlggmahfaaDoorRows.lean that lists a variable, with what it lists TIED to the program's text (the seventh form; the later family's looks); each row that meets fmt, with fmt's text TOLD by the authors' own Lean function (tested against real Go, not proved from fmt's source: count such statements apart). THE CARD IS WHAT COUNTS. Prove the row's statement (the work); the ties are given (YthadcdlggmahfaaDoorTie.lean); close each card by the builder's one call (the guide's Derived/Test/ToyasCard.lean, 'card_holds'). Laid BY PROGRAM, IN A SANDBOX (cutbox-door.mjs). By AI agents, Wed Nov 11 2026. No macro, syntax, notation, axiom, sorry.
-/
import Derived.Test.YthadcdlggmahfaaDoorRows
import GoSem.ClaimSeven
namespace Go.Proofs.YthadcdlggmahfaaDoor
namespace Rows

/-- THE TIED CARD OF 'laws.FnGroupTerm'. -/
def fnGroupTermCard : Claim7 := { stood := { row := fnGroupTermRow, standIns := [], harness := (true, "6a2ab191c0a96a2e8cf28b0adcae0c056653218d7ca3d7620b07c16abbb9bc2a"), looks := false }, kinds := [], alts := [], laidByText := true, laidKinds := [.data], laidTests := true, laidLooks := .later }
def FnGroupTermCardSaid : Prop := Claim7.holds Tryd.pinned (.plain (OpenSpec.ofChange fnGroupTermSpec)) fnGroupTermCard

/-- THE TIED CARD OF 'laws.FnGroupAverage'. -/
def fnGroupAverageCard : Claim7 := { stood := { row := fnGroupAverageRow, standIns := [], harness := (true, "6a2ab191c0a96a2e8cf28b0adcae0c056653218d7ca3d7620b07c16abbb9bc2a"), looks := false }, kinds := [], alts := [], laidByText := true, laidKinds := [.data], laidTests := true, laidLooks := .later }
def FnGroupAverageCardSaid : Prop := Claim7.holds Tryd.pinned (.plain (OpenSpec.ofChange fnGroupAverageSpec)) fnGroupAverageCard

/-- THE TIED CARD OF 'laws.FnGroupPlan'. -/
def fnGroupPlanCard : Claim7 := { stood := { row := fnGroupPlanRow, standIns := [], harness := (true, "6a2ab191c0a96a2e8cf28b0adcae0c056653218d7ca3d7620b07c16abbb9bc2a"), looks := false }, kinds := [], alts := [], laidByText := true, laidKinds := [.data], laidTests := true, laidLooks := .later }
def FnGroupPlanCardSaid : Prop := Claim7.holds Tryd.pinned (.plain (OpenSpec.ofChange fnGroupPlanSpec)) fnGroupPlanCard

/-- THE TIED CARD OF 'laws.FnGroupsTrue'. -/
def fnGroupsTrueCard : Claim7 := { stood := { row := fnGroupsTrueRow, standIns := [], harness := (true, "6a2ab191c0a96a2e8cf28b0adcae0c056653218d7ca3d7620b07c16abbb9bc2a"), looks := false }, kinds := [], alts := [], laidByText := true, laidKinds := [.data], laidTests := true, laidLooks := .later }
def FnGroupsTrueCardSaid : Prop := Claim7.holds Tryd.pinned (.plain (OpenSpec.ofChange fnGroupsTrueSpec)) fnGroupsTrueCard

/-- THE TIED CARD OF 'laws.FnGroupsDual'. -/
def fnGroupsDualCard : Claim7 := { stood := { row := fnGroupsDualRow, standIns := [], harness := (true, "6a2ab191c0a96a2e8cf28b0adcae0c056653218d7ca3d7620b07c16abbb9bc2a"), looks := false }, kinds := [], alts := [], laidByText := true, laidKinds := [.data], laidTests := true, laidLooks := .later }
def FnGroupsDualCardSaid : Prop := Claim7.holds Tryd.pinned (.plain (OpenSpec.ofChange fnGroupsDualSpec)) fnGroupsDualCard

/-- THE SECOND FORM's CARD OF 'laws.FnGroupTerm'. -/
def fnGroupTermUptoCard : Claim7 := { stood := { row := fnGroupTermUptoRow, standIns := [], harness := (true, "6a2ab191c0a96a2e8cf28b0adcae0c056653218d7ca3d7620b07c16abbb9bc2a"), looks := false }, kinds := [], alts := [], laidByText := true, laidKinds := [.data], laidTests := true, laidLooks := .later }
def FnGroupTermUptoCardSaid : Prop := Claim7.holds Tryd.pinned (.plain (OpenSpec.upto fnGroupTermSpec)) fnGroupTermUptoCard

/-- THE SECOND FORM's CARD OF 'laws.FnGroupAverage'. -/
def fnGroupAverageUptoCard : Claim7 := { stood := { row := fnGroupAverageUptoRow, standIns := [], harness := (true, "6a2ab191c0a96a2e8cf28b0adcae0c056653218d7ca3d7620b07c16abbb9bc2a"), looks := false }, kinds := [], alts := [], laidByText := true, laidKinds := [.data], laidTests := true, laidLooks := .later }
def FnGroupAverageUptoCardSaid : Prop := Claim7.holds Tryd.pinned (.plain (OpenSpec.upto fnGroupAverageSpec)) fnGroupAverageUptoCard

/-- THE SECOND FORM's CARD OF 'laws.FnGroupPlan'. -/
def fnGroupPlanUptoCard : Claim7 := { stood := { row := fnGroupPlanUptoRow, standIns := [], harness := (true, "6a2ab191c0a96a2e8cf28b0adcae0c056653218d7ca3d7620b07c16abbb9bc2a"), looks := false }, kinds := [], alts := [], laidByText := true, laidKinds := [.data], laidTests := true, laidLooks := .later }
def FnGroupPlanUptoCardSaid : Prop := Claim7.holds Tryd.pinned (.plain (OpenSpec.upto fnGroupPlanSpec)) fnGroupPlanUptoCard

/-- THE SECOND FORM's CARD OF 'laws.FnGroupsTrue'. -/
def fnGroupsTrueUptoCard : Claim7 := { stood := { row := fnGroupsTrueUptoRow, standIns := [], harness := (true, "6a2ab191c0a96a2e8cf28b0adcae0c056653218d7ca3d7620b07c16abbb9bc2a"), looks := false }, kinds := [], alts := [], laidByText := true, laidKinds := [.data], laidTests := true, laidLooks := .later }
def FnGroupsTrueUptoCardSaid : Prop := Claim7.holds Tryd.pinned (.plain (OpenSpec.upto fnGroupsTrueSpec)) fnGroupsTrueUptoCard

/-- THE SECOND FORM's CARD OF 'laws.FnGroupsDual'. -/
def fnGroupsDualUptoCard : Claim7 := { stood := { row := fnGroupsDualUptoRow, standIns := [], harness := (true, "6a2ab191c0a96a2e8cf28b0adcae0c056653218d7ca3d7620b07c16abbb9bc2a"), looks := false }, kinds := [], alts := [], laidByText := true, laidKinds := [.data], laidTests := true, laidLooks := .later }
def FnGroupsDualUptoCardSaid : Prop := Claim7.holds Tryd.pinned (.plain (OpenSpec.upto fnGroupsDualSpec)) fnGroupsDualUptoCard
end Rows
end Go.Proofs.YthadcdlggmahfaaDoor
