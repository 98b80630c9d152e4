/- A part of the proof of FnExactVerdictFor: LqFd. -/
import Derived.Test.YtklmlomaleaaaaaLqBase
set_option linter.unusedVariables false
set_option maxHeartbeats 0
set_option maxRecDepth 100000
set_option linter.unusedVariables false
set_option linter.unusedSimpArgs false
namespace Go.Proofs.Try
open Go Go.VM Go.RowKit
/-! loop.example/g00222/spec.l5Fault -/
/-! loop.example/g00222/spec.l5Version -/
/-! loop.example/g00222/spec.l5Backend -/
/-! loop.example/g00222/spec.l5Vip -/
/-! loop.example/g00222/spec.l2Address -/
/-! loop.example/g00222/spec.l2Port -/
/-! loop.example/g00222/spec.l5Proto -/
/-! loop.example/g00222/spec.l5Behind -/
/-! loop.example/g00222/spec.l5At -/
/-! loop.example/g00222/impl.ConfigFault -/
/-! loop.example/g00222/impl.isVersion -/
/-! loop.example/g00222/impl.isBackend -/
/-! loop.example/g00222/impl.isServed -/
/-! loop.example/g00222/impl.compareVips -/
/-! loop.example/g00222/impl.namesFault -/
/-! loop.example/g00222/impl.isAddress -/
/-! loop.example/g00222/impl.isWeight -/
/-! loop.example/g00222/impl.isStage -/
/-! loop.example/g00222/impl.isPort -/
/-! loop.example/g00222/impl.isProto -/
/-! cmp.Or[int] -/
/-! cmp.Compare[int64] -/
/-! loop.example/g00222/impl.backendPlace -/
/-! cmp.isNaN[int64] -/
/-! slices.BinarySearchFunc[[]loop.example/g00222/impl.Backend,loop.example/g00222/impl.Backend,int64] -/
/-! loop.example/g00222/impl.backendPlace$1 -/
end Go.Proofs.Try
