/- A part of the proof of FnWraps: VmGr, VmGs. -/
import Derived.Test.YtaegcoihgnobiaaVmPl
import Derived.WalkKit
import Derived.OwnWalkIn
import Derived.Below
import Derived.WalkMore
import Derived.Test.YtaegcoihgnobiaaVmCb
set_option linter.unusedSimpArgs false
set_option linter.unusedVariables false
namespace Go
open Go.VM
open Go.RowKit
section
variable {P : Program} (w : World)
end
end Go
namespace Go.VM
open Go Go.RowKit
section
variable {cx : Cx}
end
end Go.VM
