/- A part of the proof of FnExactEntryFault: L7Pa, L7Pb. -/
import Derived.Test.YtdiobngppgokmaaVmPl
import Derived.Test.YtdiobngppgokmaaL7Fa
import Derived.Test.YtdiobngppgokmaaL7Fc
import Derived.Test.YtdiobngppgokmaaL7Fd
set_option maxHeartbeats 0
set_option linter.unusedVariables false
set_option linter.unusedSimpArgs false
namespace Go.Proofs.Try
open Go Go.VM Go.RowKit

abbrev Cm := Int × Int × Int × Int × Int × Int

/-! ### Numbers -/
def nmOk (x : Int) : Bool := decide (1 ≤ x ∧ x ≤ 999)
def adOk (x : Int) : Bool := decide (0 ≤ x ∧ x ≤ 4294967295)
def wtOk (x : Int) : Bool := decide (0 ≤ x ∧ x ≤ 9)
def stOk (x : Int) : Bool := decide (1 ≤ x ∧ x ≤ 3)
def ptOk (x : Int) : Bool := decide (0 ≤ x ∧ x ≤ 65535)
def prOk (x : Int) : Bool := decide (x = 6 ∨ x = 17)
def vrOk (x : Int) : Bool := decide (0 ≤ x ∧ x ≤ 1000000)

theorem bif_and {a b : Int} {x : Int} : (bif decide (x ≥ a) then some (decide (x ≤ b)) else some false) = some (decide (a ≤ x ∧ x ≤ b)) := by
  by_cases h : a ≤ x
  · rw [dt (show x ≥ a from h)]; simp [h]
  · rw [df (show ¬ x ≥ a from h)]; simp [h]
theorem bif_or {a b : Int} {x : Int} : (bif x == a then some true else some (x == b)) = some (decide (x = a ∨ x = b)) := by
  by_cases h : x = a
  · simp [h]
  · rw [beq_eq_false_iff_ne.2 h, cond_false]
    by_cases h2 : x = b
    · rw [beq_iff_eq.2 h2, dt (.inr h2)]
    · rw [beq_eq_false_iff_ne.2 h2, df (by rintro (h3 | h3) <;> contradiction)]
theorem sat36 : Sat prog cxT 36 (c36 fun x => some (decide (x.2.1 ≤ x.1 ∧ x.1 ≤ x.2.2))) := s36 _ fun x t h => by
  obtain ⟨x, a, b⟩ := x
  cases h
  exact ⟨0, bif_and⟩
theorem sat66 : Sat prog cxT 66 (c66 fun x => some (nmOk x)) := s66 _ fun x t h => by cases h; exact ⟨0, bif_and⟩
theorem sat68 : Sat prog cxT 68 (c68 fun x => some (wtOk x)) := s68 _ fun x t h => by cases h; exact ⟨0, bif_and⟩
theorem sat59 : Sat prog cxT 59 (c59 fun x => some (vrOk x)) := s59 _ fun x t h => by cases h; exact ⟨0, bif_and⟩
theorem sat67 : Sat prog cxT 67 (c67 fun x => some (adOk x)) := s67 _ fun x t h => by cases h; exact ⟨0, bif_and⟩
theorem sat71 : Sat prog cxT 71 (c71 fun x => some (stOk x)) := s71 _ fun x t h => by cases h; exact ⟨0, bif_and⟩
theorem sat74 : Sat prog cxT 74 (c74 fun x => some (ptOk x)) := s74 _ fun x t h => by cases h; exact ⟨0, bif_and⟩
theorem sat75 : Sat prog cxT 75 (c75 fun x => some (prOk x)) := s75 _ fun x t h => by cases h; exact ⟨0, bif_or⟩
theorem sat54 : Sat prog cxT 54 (c54 fun x => some (vrOk x)) := s54 _ sat36 _ fun x t h => by cases h; exact ⟨0, rfl⟩
theorem sat55 : Sat prog cxT 55 (c55 fun x => some (nmOk x)) := s55 _ sat36 _ fun x t h => by cases h; exact ⟨0, rfl⟩
theorem sat56 : Sat prog cxT 56 (c56 fun x => some (adOk x)) := s56 _ sat36 _ fun x t h => by cases h; exact ⟨0, rfl⟩
theorem sat58 : Sat prog cxT 58 (c58 fun x => some (prOk x)) := s58 _ fun x t h => by cases h; exact ⟨0, bif_or⟩
theorem sat65 : Sat prog cxT 65 (c65 fun x => some (ptOk x)) := s65 _ sat36 _ fun x t h => by cases h; exact ⟨0, rfl⟩
def top : Nat := 9223372036854775807
def mid : Nat := 1000000000
theorem beqF {a b : Int} (h : ¬ a = b) : (a == b) = false := by simpa using h
end Go.Proofs.Try

set_option maxHeartbeats 0
set_option linter.unusedVariables false
set_option linter.unusedSimpArgs false
namespace Go.Proofs.Try
open Go Go.VM Go.RowKit

/-! ### Entries: what laws do with them -/
abbrev En := Int × Int × Int × Int × Int × Int × Int × Int × Int
def dEn : En := (0, 0, 0, 0, 0, 0, 0, 0, 0)
instance decCm : DecidableEq Cm := inferInstance
instance decE1 : DecidableEq (Int × Cm) := instDecidableEqProd
instance decE2 : DecidableEq (Int × Int × Cm) := instDecidableEqProd
instance decEn : DecidableEq En := (instDecidableEqProd : DecidableEq (Int × Int × Int × Cm))
theorem sat38 : Sat prog cxT 38 (c38 fun x => some x) := s38 _ fun x t h => by cases h; exact ⟨0, rfl⟩
theorem sat12 : Sat prog cxT 12 (c12 fun x => some x) := s12 _ sat38 _ fun x t h => by cases h; exact ⟨0, rfl⟩
def m14 (x : List En × Int) : Option Int := if x.1.length ≤ top ∧ 0 ≤ x.2 ∧ x.2 ≤ 1048576 then some (szv x.2 (x.1.length : Int)) else none
def m16 (a : List En) : Option (List En) := if a.length ≤ mid then some a else none
def m18 (x : List En × List En) : Option Bool := if x.1.length ≤ 1000000000000 then some (decide (x.1 = x.2)) else none
/-! ### Marks -/
def mkE (v : Int) : En := (v, v + 1, v + 2, v + 3, v + 4, v + 5, v + 6, v + 7, v + 8)
def m27 (x : List En × Int) : Option (Int × List En) := if x.1.length ≤ 1000000000 ∧ 0 ≤ x.2 ∧ x.2 ≤ 100000000000 then some (x.2 + 9 * (x.1.length : Int), mkR mkE 9 x.1.length x.2) else none
def m28 (x : (Int × List En) × Int) : Option (Int × Int × List En) := if x.1.2.length ≤ 1000000000 ∧ 0 ≤ x.2 ∧ x.2 ≤ 100000000000 then some (x.2 + 9 * (x.1.2.length : Int), x.1.1, mkR mkE 9 x.1.2.length x.2) else none
/-- Rows that were marked hold their marks. -/
def hdE (x : List En × Int) : Prop := x.1.length ≤ 1000000000 ∧ 0 ≤ x.2 ∧ x.2 ≤ 100000000000 ∧ x.1 = mkR mkE 9 x.1.length x.2
instance (x : List En × Int) : Decidable (hdE x) := by unfold hdE; infer_instance
def m29 (x : (Int × List En) × Int) : Option Int := if hdE (x.1.2, x.2) then some (x.2 + 9 * (x.1.2.length : Int)) else none
def m26 (x : (Int × List En) × (Int × List En)) : Option Bool := if x.1.2.length ≤ 1000000000000 then some (decide (x.1 = x.2)) else none
end Go.Proofs.Try
