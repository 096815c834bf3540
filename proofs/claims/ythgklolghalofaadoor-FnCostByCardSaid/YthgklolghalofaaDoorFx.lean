/- What is so of the whole translation, whichever law is asked: that it may be entered, what it lifts, how it was made. No conditions. -/
import Derived.Test.YthgklolghalofaaDoorCards
import Derived.Test.YthgklolghalofaaDoorTie
import Derived.Test.YthgklolghalofaaDoorLgD
import Derived.WalkKit
import Derived.ProofKit
import Derived.OpenShut
import Derived.JoinedOf
set_option linter.unusedSectionVars false
set_option linter.unusedVariables false
set_option linter.unusedSimpArgs false
namespace Go.Proofs.YthgklolghalofaaDoor.fx
theorem mayE : Tryd.pinned.checked.prog.mayEnter = true := by kernel_rfl
theorem lifts : Tryd.pinned.checked.prog.liftsFinal = false := by kernel_rfl
theorem mk : (Tryd.pinned.checked.prog.make == some (Rows.fnDearerRow).make) = true := by kernel_rfl
theorem mainI : Tryd.pinned.checked.prog.mainIs = some (true, "7642c66462ffbcb06a8c4366b9175b88a62d8d3767f01711482b7a586b525011".toList) := by kernel_rfl
end Go.Proofs.YthgklolghalofaaDoor.fx
