/- A part of the proof of FnExactSameEntries: L7Qa. -/
import Derived.Test.YtdiobngppgokmaaL7Pa
set_option linter.unusedVariables false
set_option linter.unusedSimpArgs false
set_option maxRecDepth 100000
namespace Go.Proofs.Try
open Go Go.VM Go.RowKit

/-! ### Rules of commands: values of functions -/
/-- What a kind needs. -/
def nd (k : Int) : Bool × Bool × Bool × Bool := (k != 5 && k != 6, k == 1 || (decide (5 ≤ k) && decide (k ≤ 8)), k != 4, decide (5 ≤ k) && decide (k ≤ 8))
end Go.Proofs.Try
