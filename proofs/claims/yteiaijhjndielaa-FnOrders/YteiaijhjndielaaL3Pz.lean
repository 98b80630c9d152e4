/- A part of the proof of FnOrders: L3Pz. -/
import Derived.Test.YteiaijhjndielaaVmPu
import Derived.Test.YteiaijhjndielaaL3Fa
set_option maxHeartbeats 0
set_option linter.unusedVariables false
set_option linter.unusedSimpArgs false
namespace Go.Proofs.Try
open Go Go.VM Go.RowKit

def m63 (x : Int × Int × Int) : Option Bool := some (decide (x.2.1 ≤ x.1 ∧ x.1 ≤ x.2.2))
theorem sat63 : Sat prog cxT 63 (c63 m63) := s63 m63 fun x t h => by
  cases h
  refine ⟨0, ?_⟩
  unfold g63
  by_cases h1 : x.2.1 ≤ x.1 <;> simp [h1]


/-! packets -/
abbrev Pk := Int × Int × Int × Int × Int × List Int
def adr (a : Int) : Prop := 0 ≤ a ∧ a ≤ 4294967295
def prt (a : Int) : Prop := 0 ≤ a ∧ a ≤ 65535
end Go.Proofs.Try
