/- A part of the proof of FnExactSameMachines: LnPc, LnPd. -/
import Derived.Test.YtchokegffjaihaaLnPa
set_option linter.unusedSimpArgs false
set_option linter.unusedVariables false
set_option maxHeartbeats 0
namespace Go.Proofs.Try
open Go Go.VM Go.RowKit
def ris (bs:List Bk):Prop:=∀ i j,i < j->j < bs.length->(bs.getD i dBk).1 < (bs.getD j dBk).1
end Go.Proofs.Try
set_option maxHeartbeats 0
namespace Go.Proofs.Try
open Go Go.VM Go.RowKit
end Go.Proofs.Try
