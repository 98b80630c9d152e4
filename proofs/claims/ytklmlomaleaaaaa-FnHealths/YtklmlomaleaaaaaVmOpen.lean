/- A part of the proof of FnHealths: VmOpen, VmOpen2. -/
import Derived.Test.YtklmlomaleaaaaaVmJ
import Derived.ProofKit
namespace Go.VM
open Go Go.RowKit

/-! ### What comes in, opened -/
end Go.VM

namespace Go.VM
open Go Go.RowKit

/-! ### Structs whose fields may have several cells -/
end Go.VM
