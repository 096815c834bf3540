/-
  DERIVED. GIVEN WITH THE SEED: THE CARDS: each row of YtaolcmhkmkgmpaaDoorRows.lean that lists a variable, with what it lists TIED to the program's text (the seventh form; the later family's looks); each row that meets fmt, with fmt's text TOLD by the authors' own Lean function (tested against real Go, not proved from fmt's source: count such statements apart). THE CARD IS WHAT COUNTS. Prove the row's statement (the work); the ties are given (YtaolcmhkmkgmpaaDoorTie.lean); close each card by the builder's one call (the guide's Derived/Test/ToyasCard.lean, 'card_holds'). Laid BY PROGRAM, IN A SANDBOX (cutbox-door.mjs). By AI agents, Wed Nov 11 2026. No macro, syntax, notation, axiom, sorry.
-/
import Derived.Test.YtaolcmhkmkgmpaaDoorRows
import GoSem.ClaimSeven
namespace Go.Proofs.YtaolcmhkmkgmpaaDoor
namespace Rows

/-- THE TIED CARD OF 'laws.FnExactAskedIn'. -/
def fnExactAskedInCard : Claim7 := { stood := { row := fnExactAskedInRow, standIns := [], harness := (true, "6ea3904bc052b3860071767991f5da704592cefb2a6d42a560d7996f7da03ad2"), looks := false }, kinds := [], alts := [], laidByText := true, laidKinds := [.data], laidTests := true, laidLooks := .later }
def FnExactAskedInCardSaid : Prop := Claim7.holds Tryd.pinned (.plain (OpenSpec.ofChange fnExactAskedInSpec)) fnExactAskedInCard

/-- THE TIED CARD OF 'laws.FnExactCostIn'. -/
def fnExactCostInCard : Claim7 := { stood := { row := fnExactCostInRow, standIns := [], harness := (true, "6ea3904bc052b3860071767991f5da704592cefb2a6d42a560d7996f7da03ad2"), looks := false }, kinds := [], alts := [], laidByText := true, laidKinds := [.data], laidTests := true, laidLooks := .later }
def FnExactCostInCardSaid : Prop := Claim7.holds Tryd.pinned (.plain (OpenSpec.ofChange fnExactCostInSpec)) fnExactCostInCard

/-- THE TIED CARD OF 'laws.FnExactAverageIn'. -/
def fnExactAverageInCard : Claim7 := { stood := { row := fnExactAverageInRow, standIns := [], harness := (true, "6ea3904bc052b3860071767991f5da704592cefb2a6d42a560d7996f7da03ad2"), looks := false }, kinds := [], alts := [], laidByText := true, laidKinds := [.data], laidTests := true, laidLooks := .later }
def FnExactAverageInCardSaid : Prop := Claim7.holds Tryd.pinned (.plain (OpenSpec.ofChange fnExactAverageInSpec)) fnExactAverageInCard

/-- THE TIED CARD OF 'laws.FnExactBestOrder'. -/
def fnExactBestOrderCard : Claim7 := { stood := { row := fnExactBestOrderRow, standIns := [], harness := (true, "6ea3904bc052b3860071767991f5da704592cefb2a6d42a560d7996f7da03ad2"), looks := false }, kinds := [], alts := [], laidByText := true, laidKinds := [.data], laidTests := true, laidLooks := .later }
def FnExactBestOrderCardSaid : Prop := Claim7.holds Tryd.pinned (.plain (OpenSpec.ofChange fnExactBestOrderSpec)) fnExactBestOrderCard

/-- THE TIED CARD OF 'laws.FnAskedIn'. -/
def fnAskedInCard : Claim7 := { stood := { row := fnAskedInRow, standIns := [], harness := (true, "6ea3904bc052b3860071767991f5da704592cefb2a6d42a560d7996f7da03ad2"), looks := false }, kinds := [], alts := [], laidByText := true, laidKinds := [.data], laidTests := true, laidLooks := .later }
def FnAskedInCardSaid : Prop := Claim7.holds Tryd.pinned (.plain (OpenSpec.ofChange fnAskedInSpec)) fnAskedInCard

/-- THE TIED CARD OF 'laws.FnCostIn'. -/
def fnCostInCard : Claim7 := { stood := { row := fnCostInRow, standIns := [], harness := (true, "6ea3904bc052b3860071767991f5da704592cefb2a6d42a560d7996f7da03ad2"), looks := false }, kinds := [], alts := [], laidByText := true, laidKinds := [.data], laidTests := true, laidLooks := .later }
def FnCostInCardSaid : Prop := Claim7.holds Tryd.pinned (.plain (OpenSpec.ofChange fnCostInSpec)) fnCostInCard

/-- THE TIED CARD OF 'laws.FnAverageIn'. -/
def fnAverageInCard : Claim7 := { stood := { row := fnAverageInRow, standIns := [], harness := (true, "6ea3904bc052b3860071767991f5da704592cefb2a6d42a560d7996f7da03ad2"), looks := false }, kinds := [], alts := [], laidByText := true, laidKinds := [.data], laidTests := true, laidLooks := .later }
def FnAverageInCardSaid : Prop := Claim7.holds Tryd.pinned (.plain (OpenSpec.ofChange fnAverageInSpec)) fnAverageInCard

/-- THE TIED CARD OF 'laws.FnBestOrder'. -/
def fnBestOrderCard : Claim7 := { stood := { row := fnBestOrderRow, standIns := [], harness := (true, "6ea3904bc052b3860071767991f5da704592cefb2a6d42a560d7996f7da03ad2"), looks := false }, kinds := [], alts := [], laidByText := true, laidKinds := [.data], laidTests := true, laidLooks := .later }
def FnBestOrderCardSaid : Prop := Claim7.holds Tryd.pinned (.plain (OpenSpec.ofChange fnBestOrderSpec)) fnBestOrderCard

/-- THE TIED CARD OF 'laws.FnIdleLast'. -/
def fnIdleLastCard : Claim7 := { stood := { row := fnIdleLastRow, standIns := [], harness := (true, "6ea3904bc052b3860071767991f5da704592cefb2a6d42a560d7996f7da03ad2"), looks := false }, kinds := [], alts := [], laidByText := true, laidKinds := [.data], laidTests := true, laidLooks := .later }
def FnIdleLastCardSaid : Prop := Claim7.holds Tryd.pinned (.plain (OpenSpec.ofChange fnIdleLastSpec)) fnIdleLastCard

/-- THE SECOND FORM's CARD OF 'laws.FnExactAskedIn'. -/
def fnExactAskedInUptoCard : Claim7 := { stood := { row := fnExactAskedInUptoRow, standIns := [], harness := (true, "6ea3904bc052b3860071767991f5da704592cefb2a6d42a560d7996f7da03ad2"), looks := false }, kinds := [], alts := [], laidByText := true, laidKinds := [.data], laidTests := true, laidLooks := .later }
def FnExactAskedInUptoCardSaid : Prop := Claim7.holds Tryd.pinned (.plain (OpenSpec.upto fnExactAskedInSpec)) fnExactAskedInUptoCard

/-- THE SECOND FORM's CARD OF 'laws.FnExactCostIn'. -/
def fnExactCostInUptoCard : Claim7 := { stood := { row := fnExactCostInUptoRow, standIns := [], harness := (true, "6ea3904bc052b3860071767991f5da704592cefb2a6d42a560d7996f7da03ad2"), looks := false }, kinds := [], alts := [], laidByText := true, laidKinds := [.data], laidTests := true, laidLooks := .later }
def FnExactCostInUptoCardSaid : Prop := Claim7.holds Tryd.pinned (.plain (OpenSpec.upto fnExactCostInSpec)) fnExactCostInUptoCard

/-- THE SECOND FORM's CARD OF 'laws.FnExactAverageIn'. -/
def fnExactAverageInUptoCard : Claim7 := { stood := { row := fnExactAverageInUptoRow, standIns := [], harness := (true, "6ea3904bc052b3860071767991f5da704592cefb2a6d42a560d7996f7da03ad2"), looks := false }, kinds := [], alts := [], laidByText := true, laidKinds := [.data], laidTests := true, laidLooks := .later }
def FnExactAverageInUptoCardSaid : Prop := Claim7.holds Tryd.pinned (.plain (OpenSpec.upto fnExactAverageInSpec)) fnExactAverageInUptoCard

/-- THE SECOND FORM's CARD OF 'laws.FnExactBestOrder'. -/
def fnExactBestOrderUptoCard : Claim7 := { stood := { row := fnExactBestOrderUptoRow, standIns := [], harness := (true, "6ea3904bc052b3860071767991f5da704592cefb2a6d42a560d7996f7da03ad2"), looks := false }, kinds := [], alts := [], laidByText := true, laidKinds := [.data], laidTests := true, laidLooks := .later }
def FnExactBestOrderUptoCardSaid : Prop := Claim7.holds Tryd.pinned (.plain (OpenSpec.upto fnExactBestOrderSpec)) fnExactBestOrderUptoCard

/-- THE SECOND FORM's CARD OF 'laws.FnAskedIn'. -/
def fnAskedInUptoCard : Claim7 := { stood := { row := fnAskedInUptoRow, standIns := [], harness := (true, "6ea3904bc052b3860071767991f5da704592cefb2a6d42a560d7996f7da03ad2"), looks := false }, kinds := [], alts := [], laidByText := true, laidKinds := [.data], laidTests := true, laidLooks := .later }
def FnAskedInUptoCardSaid : Prop := Claim7.holds Tryd.pinned (.plain (OpenSpec.upto fnAskedInSpec)) fnAskedInUptoCard

/-- THE SECOND FORM's CARD OF 'laws.FnCostIn'. -/
def fnCostInUptoCard : Claim7 := { stood := { row := fnCostInUptoRow, standIns := [], harness := (true, "6ea3904bc052b3860071767991f5da704592cefb2a6d42a560d7996f7da03ad2"), looks := false }, kinds := [], alts := [], laidByText := true, laidKinds := [.data], laidTests := true, laidLooks := .later }
def FnCostInUptoCardSaid : Prop := Claim7.holds Tryd.pinned (.plain (OpenSpec.upto fnCostInSpec)) fnCostInUptoCard

/-- THE SECOND FORM's CARD OF 'laws.FnAverageIn'. -/
def fnAverageInUptoCard : Claim7 := { stood := { row := fnAverageInUptoRow, standIns := [], harness := (true, "6ea3904bc052b3860071767991f5da704592cefb2a6d42a560d7996f7da03ad2"), looks := false }, kinds := [], alts := [], laidByText := true, laidKinds := [.data], laidTests := true, laidLooks := .later }
def FnAverageInUptoCardSaid : Prop := Claim7.holds Tryd.pinned (.plain (OpenSpec.upto fnAverageInSpec)) fnAverageInUptoCard

/-- THE SECOND FORM's CARD OF 'laws.FnBestOrder'. -/
def fnBestOrderUptoCard : Claim7 := { stood := { row := fnBestOrderUptoRow, standIns := [], harness := (true, "6ea3904bc052b3860071767991f5da704592cefb2a6d42a560d7996f7da03ad2"), looks := false }, kinds := [], alts := [], laidByText := true, laidKinds := [.data], laidTests := true, laidLooks := .later }
def FnBestOrderUptoCardSaid : Prop := Claim7.holds Tryd.pinned (.plain (OpenSpec.upto fnBestOrderSpec)) fnBestOrderUptoCard

/-- THE SECOND FORM's CARD OF 'laws.FnIdleLast'. -/
def fnIdleLastUptoCard : Claim7 := { stood := { row := fnIdleLastUptoRow, standIns := [], harness := (true, "6ea3904bc052b3860071767991f5da704592cefb2a6d42a560d7996f7da03ad2"), looks := false }, kinds := [], alts := [], laidByText := true, laidKinds := [.data], laidTests := true, laidLooks := .later }
def FnIdleLastUptoCardSaid : Prop := Claim7.holds Tryd.pinned (.plain (OpenSpec.upto fnIdleLastSpec)) fnIdleLastUptoCard
end Rows
end Go.Proofs.YtaolcmhkmkgmpaaDoor
