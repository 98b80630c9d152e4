/- A part of the proof of FnExactProbeHealth: VmPl, VmPm, VmPn. -/
import Derived.Test.YtklmlomaleaaaaaVmJ
namespace Go.VM
open Go

/-! ### Loops that laws and programs share: plain forms -/
section
variable {α : Type}

/-- Sizes taken away piece by piece; -1: too much. -/
def szv (acc w : Int) : Int := if acc - w < 0 then -1 else acc - w
end

end Go.VM

namespace Go.VM
open Go

/-! ### Marks, and how far two rows are alike: plain forms -/
end Go.VM

set_option linter.unusedVariables false
set_option linter.unusedSimpArgs false
namespace Go.VM
open Go Go.RowKit
/-! ### Marks whose number hangs on the element -/
end Go.VM
