/- A part of the proof of FnExactWatchFault: VmCb. -/
import Derived.Test.YtnmnomckcjihoaaVmJ
import Derived.Below
namespace Go.VM
open Go Go.RowKit
section
variable {cx : Cx}
/-! ### Contracts of plain values, to and from calls -/
end
end Go.VM
