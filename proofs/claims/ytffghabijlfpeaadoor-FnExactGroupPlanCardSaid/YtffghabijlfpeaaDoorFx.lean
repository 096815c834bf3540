/- What is so of the whole translation, whichever law is asked: that it may be entered, what it lifts, how it was made. No conditions. -/
import Derived.Test.YtffghabijlfpeaaDoorCards
import Derived.Test.YtffghabijlfpeaaDoorTie
import Derived.Test.YtffghabijlfpeaaDoorLgD
import Derived.WalkKit
import Derived.ProofKit
import Derived.OpenShut
import Derived.JoinedOf
set_option linter.unusedSectionVars false
set_option linter.unusedVariables false
set_option linter.unusedSimpArgs false
namespace Go.Proofs.YtffghabijlfpeaaDoor.fx
theorem mayE : Tryd.pinned.checked.prog.mayEnter = true := by kernel_rfl
theorem lifts : Tryd.pinned.checked.prog.liftsFinal = false := by kernel_rfl
theorem mk : (Tryd.pinned.checked.prog.make == some (Rows.fnExactGroupPlanRow).make) = true := by kernel_rfl
theorem mainI : Tryd.pinned.checked.prog.mainIs = some (true, "f590b1e4b2fe2e4e6d84f714e224a27f96ec3280cde91b7550ecfab88004a935".toList) := by kernel_rfl
end Go.Proofs.YtffghabijlfpeaaDoor.fx
