/- A part of the proof of FnExactVerdictFor: LqQa, LqQb, LqQc. -/
import Derived.Test.YtklmlomaleaaaaaLqPa
import Derived.Test.YtklmlomaleaaaaaVmGr
import Derived.Test.YtklmlomaleaaaaaVmCb
import Derived.WalkKit
import Derived.OwnWalk
import Derived.Below
import Derived.WalkMore
import Derived.Deep.Cut
import Derived.Deep.DeepCutAuto
import Derived.Deep.RegionWith
set_option linter.unusedVariables false
set_option linter.unusedVariables false
set_option linter.unusedSimpArgs false
namespace Go.Proofs.Try
open Go Go.VM Go.RowKit

section
attribute [local go_sem] Oper.semAt_some
end
end Go.Proofs.Try

set_option linter.unusedVariables false
set_option linter.unusedSimpArgs false
namespace Go.Proofs.Try
open Go Go.VM Go.RowKit

section
attribute [local go_sem] Oper.semAt_some
end
end Go.Proofs.Try

set_option maxHeartbeats 0
set_option linter.unusedVariables false
set_option linter.unusedSimpArgs false
namespace Go.Proofs.Try
open Go Go.VM Go.RowKit

/-! The law FnExactProbeMany -/
end Go.Proofs.Try
