/- A part of the proof of FnExactCmdFault: L5Pe, L5Pf, L5Pg, L5Ph. -/
import Derived.Test.YtfncedbejffggaaL5Pa
import Derived.Test.YtfncedbejffggaaL5Fd
set_option maxHeartbeats 0
set_option linter.unusedVariables false
set_option linter.unusedSimpArgs false
namespace Go.Proofs.Try
open Go Go.VM Go.RowKit

/-! ### The program's ConfigFault -/
/-- The first place of which p is not so. -/
def low {α : Type} (p : α → Bool) : List α → Nat
  | [] => 0
  | x :: r => if p x then low p r + 1 else 0
def plB (bs : List Bk) (y : Int) : Nat := low (fun b : Bk => decide (b.1 < y)) bs
instance (bs : List Bk) : Decidable (ris bs) := by
  have : ris bs ↔ ∀ j, j < bs.length → ∀ i, i < j → (bs.getD i dBk).1 < (bs.getD j dBk).1 := ⟨fun h j hj i hi => h i j hi hj, fun h i j hi hj => h j hj i hi⟩
  exact decidable_of_iff _ this.symm
/-! names -/
/-! ConfigFault -/
end Go.Proofs.Try

set_option maxHeartbeats 0
set_option linter.unusedVariables false
set_option linter.unusedSimpArgs false
namespace Go.Proofs.Try
open Go Go.VM Go.RowKit

/-! FnExactConfigFault -/
def m4 (c : Cg) : Option Bool := if okZ c then some true else none
/-! BackendAt -/
/-! VipFor -/
abbrev Fl := Int × Int × Int × Int × Int
/-- Vips rise. -/
def risV (vs : List Vp) : Prop := ∀ i j, i < j → j < vs.length → beh (vs.getD i dVp) (vs.getD j dVp) = true
instance (vs : List Vp) : Decidable (risV vs) := by
  have : risV vs ↔ ∀ j, j < vs.length → ∀ i, i < j → beh (vs.getD i dVp) (vs.getD j dVp) = true := ⟨fun h j hj i hi => h i j hi hj, fun h i j hi hj => h j hj i hi⟩
  exact decidable_of_iff _ this.symm
end Go.Proofs.Try

set_option maxHeartbeats 0
set_option linter.unusedVariables false
set_option linter.unusedSimpArgs false
namespace Go.Proofs.Try
open Go Go.VM Go.RowKit

/-! ### Configurations held against each other -/
end Go.Proofs.Try

set_option maxHeartbeats 0
set_option linter.unusedVariables false
set_option linter.unusedSimpArgs false
namespace Go.Proofs.Try
open Go Go.VM Go.RowKit

/-! ### Who is there for flows that are new -/
abbrev Sh := Int × Int
def pick (bs : List Bk) (y : Int) : List Sh := if (bs.getD (plB bs y) dBk).2.2.2.2 = true ∧ (bs.getD (plB bs y) dBk).2.2.2.1 = 1 then [(y, (bs.getD (plB bs y) dBk).2.2.1)] else []
theorem known {bs : List Bk} {vs : List Vp} (h : ∀ j, j < vs.length → vF bs vs j = 0) {j : Nat} (hj : j < vs.length) {i : Nat} (hi : i < (vs.getD j dVp).2.2.2.length) : hasB bs ((vs.getD j dVp).2.2.2.getD i 0) = true := by
  have h1 := h j hj
  unfold vF at h1
  split at h1
  · split at h1
    · exact absurd h1 (by decide)
    · unfold nF at h1
      split at h1
      · rename_i h2
        have := fst_zero.1 h2 i (Nat.zero_le _) (by omega)
        unfold knN at this
        split at this
        · assumption
        · exact absurd this (by decide)
      · exact absurd h1 (by decide)
  · exact absurd h1 (by decide)
def okS (c : Cg) (y : Int) : Prop := okM c ∧ cF c = 0 ∧ 0 ≤ y ∧ y < (c.2.2.length : Int)
instance (c : Cg) (y : Int) : Decidable (okS c y) := by unfold okS; infer_instance
/-! results held against each other -/
/-! marks of shares -/
/-! marks of configurations: what they write is of no matter -/
/-! FnExactSharesFor -/
end Go.Proofs.Try
