/- A part of the proof of FnExactVerdictsFault: VmCb. -/
import Derived.Test.YtklmlomaleaaaaaVmJ
import Derived.Below
namespace Go.VM
open Go Go.RowKit
section
variable {cx : Cx}
/-! ### Contracts of plain values, to and from calls -/
end
end Go.VM
