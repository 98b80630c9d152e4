/- A part of the proof of FnExactProbeHealth: LqFc, LqFe. -/
import Derived.Test.YtklmlomaleaaaaaLqBase
set_option maxHeartbeats 0
set_option maxRecDepth 100000
set_option linter.unusedVariables false
set_option linter.unusedSimpArgs false
namespace Go.Proofs.Try
open Go Go.VM Go.RowKit
/-! loop.example/g00222/laws.szConfig -/
/-! loop.example/g00222/laws.szBackendS -/
/-! loop.example/g00222/laws.szVipS -/
/-! loop.example/g00222/laws.szVip -/
/-! loop.example/g00222/laws.szInt64S -/
/-! loop.example/g00222/laws.toConfig -/
/-! loop.example/g00222/laws.toBackendS -/
/-! loop.example/g00222/laws.toVipS -/
/-! loop.example/g00222/laws.toBackend -/
/-! loop.example/g00222/laws.toVip -/
/-! loop.example/g00222/laws.toInt64S -/
/-! loop.example/g00222/laws.eqConfig -/
/-! loop.example/g00222/laws.eqBackendS -/
/-! loop.example/g00222/laws.eqVipS -/
/-! loop.example/g00222/laws.eqBackend -/
/-! loop.example/g00222/laws.eqVip -/
/-! loop.example/g00222/laws.eqInt64S -/
/-! loop.example/g00222/laws.markConfig -/
/-! loop.example/g00222/laws.markBackendS -/
/-! loop.example/g00222/laws.markVipS -/
/-! loop.example/g00222/laws.markInt64S -/
end Go.Proofs.Try

set_option maxHeartbeats 0
set_option maxRecDepth 100000
set_option linter.unusedVariables false
set_option linter.unusedSimpArgs false
namespace Go.Proofs.Try
open Go Go.VM Go.RowKit
/-! loop.example/g00222/laws.eqCmdsResult -/
/-! loop.example/g00222/laws.eqCmdS -/
/-! loop.example/g00222/laws.eqCmd -/
/-! loop.example/g00222/laws.markVerdictS -/
/-! loop.example/g00222/laws.markCmdsResult -/
/-! loop.example/g00222/laws.heldCmdsResult -/
/-! loop.example/g00222/laws.markCmdS -/
/-! loop.example/g00222/laws.heldCmdS -/
/-! loop.example/g00222/spec.l12Verdict -/
/-! loop.example/g00222/spec.l12Says -/
/-! loop.example/g00222/spec.VerdictFor -/
/-! loop.example/g00222/spec.UpCmds -/
end Go.Proofs.Try
