/- A part of the proof of FnExactProbeHealth: LqPca, LqPcb. -/
import Derived.Test.YtklmlomaleaaaaaVmPl
import Derived.Test.YtklmlomaleaaaaaLqFa
import Derived.Test.YtklmlomaleaaaaaLqFc
import Derived.Test.YtklmlomaleaaaaaLqFd
set_option maxHeartbeats 0
set_option linter.unusedVariables false
set_option linter.unusedSimpArgs false
namespace Go.Proofs.Try
open Go Go.VM Go.RowKit

/-! ### Numbers -/
def nmOk (x : Int) : Bool := decide (1 ≤ x ∧ x ≤ 999)
def ptOk (x : Int) : Bool := decide (0 ≤ x ∧ x ≤ 65535)
theorem bif_and {a b : Int} {x : Int} : (bif decide (x ≥ a) then some (decide (x ≤ b)) else some false) = some (decide (a ≤ x ∧ x ≤ b)) := by
  by_cases h : a ≤ x
  · rw [dt (show x ≥ a from h)]; simp [h]
  · rw [df (show ¬ x ≥ a from h)]; simp [h]
theorem sat41 : Sat prog cxT 41 (c41 fun x => some (decide (x.2.1 ≤ x.1 ∧ x.1 ≤ x.2.2))) := s41 _ fun x t h => by
  obtain ⟨x, a, b⟩ := x
  cases h
  exact ⟨0, bif_and⟩
theorem sat43 : Sat prog cxT 43 (c43 fun x => some (nmOk x)) := s43 _ fun x t h => by cases h; exact ⟨0, bif_and⟩
theorem sat40 : Sat prog cxT 40 (c40 fun x => some (nmOk x)) := s40 _ sat41 _ fun x t h => by cases h; exact ⟨0, rfl⟩
/-! ### What laws do with configurations -/
def big : Nat := 1000000000000
def top : Nat := 9223372036854775807
def okC (c : Cg) : Prop := c.2.1.length ≤ big ∧ c.2.2.length ≤ big ∧ ∀ v ∈ c.2.2, v.2.2.2.length ≤ big
instance (c : Cg) : Decidable (okC c) := by unfold okC; infer_instance
def okZ (c : Cg) : Prop := c.2.1.length ≤ top ∧ c.2.2.length ≤ top ∧ ∀ v ∈ c.2.2, v.2.2.2.length ≤ top
instance (c : Cg) : Decidable (okZ c) := by unfold okZ; infer_instance
def dBk : Bk := (0, 0, 0, 0, false)
end Go.Proofs.Try

set_option maxHeartbeats 0
set_option linter.unusedVariables false
set_option linter.unusedSimpArgs false
namespace Go.Proofs.Try
open Go Go.VM Go.RowKit

/-! ### Copies -/
def mid : Nat := 1000000000
def okM (c : Cg) : Prop := c.2.1.length ≤ mid ∧ c.2.2.length ≤ mid ∧ ∀ v ∈ c.2.2, v.2.2.2.length ≤ mid
instance (c : Cg) : Decidable (okM c) := by unfold okM; infer_instance
/-! ### Comparisons -/
instance decBk : DecidableEq Bk := inferInstance
instance decVp : DecidableEq Vp := inferInstance
instance decLs : DecidableEq (List Bk × List Vp) := @instDecidableEqProd _ _ (@instDecidableEqList _ decBk) (@instDecidableEqList _ decVp)
instance decCg : DecidableEq Cg := @instDecidableEqProd _ _ inferInstance decLs
end Go.Proofs.Try
