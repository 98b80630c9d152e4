/- A part of the proof of FnExactEntryFault: L7Fc. -/
import Derived.Test.YtdiobngppgokmaaL7Base
set_option maxHeartbeats 0
set_option maxRecDepth 100000
set_option linter.unusedVariables false
set_option linter.unusedSimpArgs false
namespace Go.Proofs.Try
open Go Go.VM Go.RowKit
/-! loop.example/g00222/spec.LogFault -/
/-! loop.example/g00222/impl.LogFault -/
/-! loop.example/g00222/spec.LastOf -/
/-! loop.example/g00222/impl.LastOf -/
/-! (loop.example/g00222/impl.indexed[loop.example/g00222/impl.Entry]).count -/
/-! (loop.example/g00222/impl.indexed[loop.example/g00222/impl.Entry]).at -/
/-! loop.example/g00222/spec.l7Fits -/
/-! loop.example/g00222/spec.FitsAt -/
/-! loop.example/g00222/impl.FitsAt -/
/-! loop.example/g00222/laws.eqEntriesResult -/
end Go.Proofs.Try
