/- A part of the proof of FnExactCommonOf: L7Qc, L7Qh, L7Qi. -/
import Derived.Test.YtdiobngppgokmaaL7Qb
import Derived.Test.YtdiobngppgokmaaVmCb
import Derived.Test.YtdiobngppgokmaaL7Fa
import Derived.Test.YtdiobngppgokmaaL7Qe
import Derived.Test.YtdiobngppgokmaaL7Qf
import Derived.Test.YtdiobngppgokmaaL7Qga
import Derived.Test.YtdiobngppgokmaaL7Qgb
import Derived.Test.YtdiobngppgokmaaL7Qgc
import Derived.Test.YtdiobngppgokmaaL7Qgd
import Derived.Test.YtdiobngppgokmaaL7Qge
set_option maxHeartbeats 0
set_option linter.unusedVariables false
set_option linter.unusedSimpArgs false
namespace Go.Proofs.Try
open Go Go.VM Go.RowKit

def ynOk (x : Int) : Bool := decide (x = 0 ∨ x = 1)
def nuOk (k n : Int) : Bool := if k = 1 ∨ k = 2 then wtOk n else if k = 3 then stOk n else if k = 9 then ynOk n else ptOk n
/-- What is not right with a command. -/
def cmF (x : Cm) : Int :=
  if 1 ≤ x.1 ∧ x.1 ≤ 9 then
    (bif (x.2.1 != -1 && !vrOk x.2.1) || ((nd x.1).1 && !nmOk x.2.2.1) || ((nd x.1).2.1 && !adOk x.2.2.2.1) || ((nd x.1).2.2.1 && !nuOk x.1 x.2.2.2.2.1) || ((nd x.1).2.2.2 && !prOk x.2.2.2.2.2) then 3
     else bif (!(nd x.1).1 && x.2.2.1 != 0) || (!(nd x.1).2.1 && x.2.2.2.1 != 0) || (!(nd x.1).2.2.1 && x.2.2.2.2.1 != 0) || (!(nd x.1).2.2.2 && x.2.2.2.2.2 != 0) then 1 else 0)
  else 1
end Go.Proofs.Try

set_option maxHeartbeats 0
set_option linter.unusedVariables false
set_option linter.unusedSimpArgs false
namespace Go.Proofs.Try
open Go Go.VM Go.RowKit

end Go.Proofs.Try

set_option maxHeartbeats 0
set_option linter.unusedVariables false
set_option linter.unusedSimpArgs false
namespace Go.Proofs.Try
open Go Go.VM Go.RowKit
end Go.Proofs.Try
