/- A part of the proof of FnExactFullUpdate: VmCb. -/
import Derived.Test.YtnmnomckcjihoaaVmJ
import Derived.Below
set_option linter.unusedVariables false
namespace Go.VM
open Go Go.RowKit
section
variable {cx : Cx}
/-! ### Contracts of plain values, to and from calls -/
end
end Go.VM
