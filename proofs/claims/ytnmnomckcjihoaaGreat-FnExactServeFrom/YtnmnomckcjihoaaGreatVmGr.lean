/- A part of the proof of FnExactServeFrom: VmGr, VmGs, VmGt. -/
import Derived.Test.YtnmnomckcjihoaaGreatVmPl
import Derived.WalkKit
import Derived.OwnWalkIn
import Derived.Below
import Derived.WalkMore
import Derived.Test.YtnmnomckcjihoaaGreatVmCb
import Derived.Laws.CopyOwn
set_option linter.unusedSimpArgs false
set_option linter.unusedVariables false
namespace Go
open Go.VM
open Go.RowKit
section
variable {P : Program} (w : World)
end
end Go
namespace Go.VM
open Go Go.RowKit
section
variable {cx : Cx}
end
end Go.VM
namespace Go
open Go.VM
open Go.RowKit
end Go
namespace Go.VM
open Go Go.RowKit
section
variable {cx : Cx}
end
end Go.VM
