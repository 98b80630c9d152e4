/- A part of the proof of FnWraps: VmOpen. -/
import Derived.Test.YtaegcoihgnobiaaVmJ
import Derived.ProofKit
set_option linter.unusedSimpArgs false
set_option linter.unusedVariables false
namespace Go.VM
open Go Go.RowKit
end Go.VM
