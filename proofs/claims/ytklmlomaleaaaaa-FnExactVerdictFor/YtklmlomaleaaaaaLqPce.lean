/- A part of the proof of FnExactVerdictFor: LqPce, LqPcg. -/
import Derived.Test.YtklmlomaleaaaaaLqPcc
set_option linter.unusedVariables false
set_option maxHeartbeats 0
set_option linter.unusedVariables false
set_option linter.unusedSimpArgs false
namespace Go.Proofs.Try
open Go Go.VM Go.RowKit

/-! ### The program's ConfigFault -/
instance (bs : List Bk) : Decidable (ris bs) := by
  have : ris bs ↔ ∀ j, j < bs.length → ∀ i, i < j → (bs.getD i dBk).1 < (bs.getD j dBk).1 := ⟨fun h j hj i hi => h i j hi hj, fun h i j hi hj => h j hj i hi⟩
  exact decidable_of_iff _ this.symm
/-! names -/
/-! ConfigFault -/
end Go.Proofs.Try

set_option maxHeartbeats 0
set_option linter.unusedVariables false
set_option linter.unusedSimpArgs false
namespace Go.Proofs.Try
open Go Go.VM Go.RowKit

/-! ### Configurations held against each other -/
end Go.Proofs.Try
