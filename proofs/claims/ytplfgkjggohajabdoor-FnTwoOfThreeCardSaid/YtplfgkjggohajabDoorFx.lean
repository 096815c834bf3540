/- What is so of the whole translation, whichever law is asked: that it may be entered, what it lifts, how it was made. No conditions. -/
import Derived.Test.YtplfgkjggohajabDoorCards
import Derived.Test.YtplfgkjggohajabDoorTie
import Derived.Test.YtplfgkjggohajabDoorLgD
import Derived.WalkKit
import Derived.ProofKit
import Derived.OpenShut
import Derived.JoinedOf
set_option linter.unusedSectionVars false
set_option linter.unusedVariables false
set_option linter.unusedSimpArgs false
namespace Go.Proofs.YtplfgkjggohajabDoor.fx
theorem mayE : Tryd.pinned.checked.prog.mayEnter = true := by kernel_rfl
theorem lifts : Tryd.pinned.checked.prog.liftsFinal = false := by kernel_rfl
theorem mk : (Tryd.pinned.checked.prog.make == some (Rows.fnPlanTextRow).make) = true := by kernel_rfl
theorem mainI : Tryd.pinned.checked.prog.mainIs = some (true, "de3bc6dd0dc658c15f2f4bc93e191e38e13d62c15215c0da327783866c7e78d0".toList) := by kernel_rfl
end Go.Proofs.YtplfgkjggohajabDoor.fx
