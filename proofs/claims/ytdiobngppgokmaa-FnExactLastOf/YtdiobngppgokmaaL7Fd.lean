/- A part of the proof of FnExactLastOf: L7Fd. -/
import Derived.Test.YtdiobngppgokmaaL7Base
set_option maxHeartbeats 0
set_option maxRecDepth 100000
set_option linter.unusedVariables false
set_option linter.unusedSimpArgs false
namespace Go.Proofs.Try
open Go Go.VM Go.RowKit
/-! loop.example/g00222/laws.markEntryS -/
/-! loop.example/g00222/laws.markEntriesResult -/
/-! loop.example/g00222/laws.heldEntryS -/
/-! loop.example/g00222/laws.heldEntriesResult -/
/-! loop.example/g00222/spec.l7Copy -/
/-! loop.example/g00222/spec.l7UpToDate -/
end Go.Proofs.Try
