/- What is so of the whole translation, whichever law is asked: that it may be entered, what it lifts, how it was made. No conditions. -/
import Derived.Test.YtdkcoaajodbnbabDoorCards
import Derived.Test.YtdkcoaajodbnbabDoorTie
import Derived.Test.YtdkcoaajodbnbabDoorLgD
import Derived.WalkKit
import Derived.ProofKit
import Derived.OpenShut
import Derived.JoinedOf
set_option linter.unusedSectionVars false
set_option linter.unusedVariables false
set_option linter.unusedSimpArgs false
namespace Go.Proofs.YtdkcoaajodbnbabDoor.fx
theorem mayE : Tryd.pinned.checked.prog.mayEnter = true := by kernel_rfl
theorem lifts : Tryd.pinned.checked.prog.liftsFinal = false := by kernel_rfl
theorem mk : (Tryd.pinned.checked.prog.make == some (Rows.fnTrueWeightRow).make) = true := by kernel_rfl
theorem mainI : Tryd.pinned.checked.prog.mainIs = some (true, "abbb4b7fe3992bedc7abf1293592051547b70febf5935b6ef496076c4d9df4b2".toList) := by kernel_rfl
end Go.Proofs.YtdkcoaajodbnbabDoor.fx
