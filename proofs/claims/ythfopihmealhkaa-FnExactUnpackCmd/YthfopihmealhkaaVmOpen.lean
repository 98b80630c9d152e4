/- A part of the proof of FnExactUnpackCmd: VmOpen. -/
import Derived.Test.YthfopihmealhkaaVmJ
import Derived.ProofKit
namespace Go.VM
open Go Go.RowKit

/-! ### What comes in, opened -/
end Go.VM
