/- A part of the proof of FnExactAddressText: VmPl, VmPm. -/
import Derived.Test.YtfibmmgemhdebaaDoorVmJ
namespace Go.VM
open Go

/-! ### Loops that laws and programs share: plain forms -/
section
variable {α : Type}

end

end Go.VM

namespace Go.VM
open Go

/-! ### Marks, and how far two rows are alike: plain forms -/
end Go.VM
