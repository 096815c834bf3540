/- What is so of the whole translation, whichever law is asked: that it may be entered, what it lifts, how it was made. No conditions. -/
import Derived.Test.YthgklolghalofabDoorCards
import Derived.Test.YthgklolghalofabDoorTie
import Derived.Test.YthgklolghalofabDoorLgD
import Derived.WalkKit
import Derived.ProofKit
import Derived.OpenShut
import Derived.JoinedOf
set_option linter.unusedSectionVars false
set_option linter.unusedVariables false
set_option linter.unusedSimpArgs false
namespace Go.Proofs.YthgklolghalofabDoor.fx
theorem mayE : Tryd.pinned.checked.prog.mayEnter = true := by kernel_rfl
theorem lifts : Tryd.pinned.checked.prog.liftsFinal = false := by kernel_rfl
theorem mk : (Tryd.pinned.checked.prog.make == some (Rows.fnExactPlanOkRow).make) = true := by kernel_rfl
theorem mainI : Tryd.pinned.checked.prog.mainIs = some (true, "8b8070dfa682f04d687c3b9e6ef55d316eab7da8c3313f552551915949caa831".toList) := by kernel_rfl
end Go.Proofs.YthgklolghalofabDoor.fx
