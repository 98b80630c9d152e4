/- A part of the proof of FnExactSameEntries: L7Qgd. -/
import Derived.Test.YtdiobngppgokmaaL7Qb
set_option linter.unusedVariables false
set_option linter.unusedSimpArgs false
namespace Go.Proofs.Try
open Go Go.VM Go.RowKit
section
attribute [local go_sem] Oper.semAt_some
end
end Go.Proofs.Try
