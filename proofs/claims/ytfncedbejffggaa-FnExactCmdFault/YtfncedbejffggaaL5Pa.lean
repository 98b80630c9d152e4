/- A part of the proof of FnExactCmdFault: L5Pa, L5Pb, L5Pc, L5Pd. -/
import Derived.Test.YtfncedbejffggaaVmPl
import Derived.Test.YtfncedbejffggaaL5Fa
import Derived.Test.YtfncedbejffggaaL5Fd
set_option maxHeartbeats 0
set_option linter.unusedVariables false
set_option linter.unusedSimpArgs false
namespace Go.Proofs.Try
open Go Go.VM Go.RowKit

/-! ### Numbers -/
def nmOk (x : Int) : Bool := decide (1 ≤ x ∧ x ≤ 999)
def adOk (x : Int) : Bool := decide (0 ≤ x ∧ x ≤ 4294967295)
def wtOk (x : Int) : Bool := decide (0 ≤ x ∧ x ≤ 9)
def stOk (x : Int) : Bool := decide (1 ≤ x ∧ x ≤ 3)
def ptOk (x : Int) : Bool := decide (0 ≤ x ∧ x ≤ 65535)
def prOk (x : Int) : Bool := decide (x = 6 ∨ x = 17)
def vrOk (x : Int) : Bool := decide (0 ≤ x ∧ x ≤ 1000000)

theorem bif_and {a b : Int} {x : Int} : (bif decide (x ≥ a) then some (decide (x ≤ b)) else some false) = some (decide (a ≤ x ∧ x ≤ b)) := by
  by_cases h : a ≤ x
  · rw [dt (show x ≥ a from h)]; simp [h]
  · rw [df (show ¬ x ≥ a from h)]; simp [h]
theorem bif_or {a b : Int} {x : Int} : (bif x == a then some true else some (x == b)) = some (decide (x = a ∨ x = b)) := by
  by_cases h : x = a
  · simp [h]
  · rw [beq_eq_false_iff_ne.2 h, cond_false]
    by_cases h2 : x = b
    · rw [beq_iff_eq.2 h2, dt (.inr h2)]
    · rw [beq_eq_false_iff_ne.2 h2, df (by rintro (h3 | h3) <;> contradiction)]
theorem sat41 : Sat prog cxT 41 (c41 fun x => some (decide (x.2.1 ≤ x.1 ∧ x.1 ≤ x.2.2))) := s41 _ fun x t h => by
  obtain ⟨x, a, b⟩ := x
  cases h
  exact ⟨0, bif_and⟩
theorem sat44 : Sat prog cxT 44 (c44 fun x => some (nmOk x)) := s44 _ fun x t h => by cases h; exact ⟨0, bif_and⟩
theorem sat45 : Sat prog cxT 45 (c45 fun x => some (wtOk x)) := s45 _ fun x t h => by cases h; exact ⟨0, bif_and⟩
theorem sat50 : Sat prog cxT 50 (c50 fun x => some (vrOk x)) := s50 _ fun x t h => by cases h; exact ⟨0, bif_and⟩
theorem sat89 : Sat prog cxT 89 (c89 fun x => some (adOk x)) := s89 _ fun x t h => by cases h; exact ⟨0, bif_and⟩
theorem sat90 : Sat prog cxT 90 (c90 fun x => some (stOk x)) := s90 _ fun x t h => by cases h; exact ⟨0, bif_and⟩
theorem sat91 : Sat prog cxT 91 (c91 fun x => some (ptOk x)) := s91 _ fun x t h => by cases h; exact ⟨0, bif_and⟩
theorem sat92 : Sat prog cxT 92 (c92 fun x => some (prOk x)) := s92 _ fun x t h => by cases h; exact ⟨0, bif_or⟩
theorem sat58 : Sat prog cxT 58 (c58 fun x => some (vrOk x)) := s58 _ sat41 _ fun x t h => by cases h; exact ⟨0, rfl⟩
theorem sat59 : Sat prog cxT 59 (c59 fun x => some (nmOk x)) := s59 _ sat41 _ fun x t h => by cases h; exact ⟨0, rfl⟩
theorem sat60 : Sat prog cxT 60 (c60 fun x => some (adOk x)) := s60 _ sat41 _ fun x t h => by cases h; exact ⟨0, rfl⟩
theorem sat62 : Sat prog cxT 62 (c62 fun x => some (prOk x)) := s62 _ fun x t h => by cases h; exact ⟨0, bif_or⟩
theorem sat95 : Sat prog cxT 95 (c95 fun x => some (ptOk x)) := s95 _ sat41 _ fun x t h => by cases h; exact ⟨0, rfl⟩
/-! ### What laws do with configurations -/
abbrev Cg := Int × List Bk × List Vp
def big : Nat := 1000000000000
def top : Nat := 9223372036854775807
def wV (v : Vp) : Int := (v.2.2.2.length : Int)
def wC (c : Cg) : Int := (c.2.1.length : Int) + (c.2.2.length : Int) + sumW wV c.2.2
def okC (c : Cg) : Prop := c.2.1.length ≤ big ∧ c.2.2.length ≤ big ∧ ∀ v ∈ c.2.2, v.2.2.2.length ≤ big
instance (c : Cg) : Decidable (okC c) := by unfold okC; infer_instance
def okZ (c : Cg) : Prop := c.2.1.length ≤ top ∧ c.2.2.length ≤ top ∧ ∀ v ∈ c.2.2, v.2.2.2.length ≤ top
instance (c : Cg) : Decidable (okZ c) := by unfold okZ; infer_instance
def dVp : Vp := (0, 0, 0, [])
def dBk : Bk := (0, 0, 0, 0, false)
def m17 (x : Cg × Int) : Option Int := if 0 ≤ x.2 ∧ x.2 ≤ 1048576 ∧ okZ x.1 then some (szv x.2 (wC x.1)) else none
end Go.Proofs.Try

set_option maxHeartbeats 0
set_option linter.unusedVariables false
set_option linter.unusedSimpArgs false
namespace Go.Proofs.Try
open Go Go.VM Go.RowKit

/-! ### Copies -/
def mid : Nat := 1000000000
def okM (c : Cg) : Prop := c.2.1.length ≤ mid ∧ c.2.2.length ≤ mid ∧ ∀ v ∈ c.2.2, v.2.2.2.length ≤ mid
instance (c : Cg) : Decidable (okM c) := by unfold okM; infer_instance
def m19 (c : Cg) : Option Cg := if okM c then some c else none
/-! ### Comparisons -/
instance decBk : DecidableEq Bk := inferInstance
instance decVp : DecidableEq Vp := inferInstance
instance decLs : DecidableEq (List Bk × List Vp) := @instDecidableEqProd _ _ (@instDecidableEqList _ decBk) (@instDecidableEqList _ decVp)
instance decCg : DecidableEq Cg := @instDecidableEqProd _ _ inferInstance decLs
def m21 (x : Cg × Cg) : Option Bool := if okC x.1 then some (decide (x.1 = x.2)) else none
end Go.Proofs.Try

set_option maxHeartbeats 0
set_option linter.unusedVariables false
set_option linter.unusedSimpArgs false
namespace Go.Proofs.Try
open Go Go.VM Go.RowKit

/-! ### Faults of configurations, plainly -/
def bkOk (b : Bk) : Bool := nmOk b.1 && adOk b.2.1 && wtOk b.2.2.1 && stOk b.2.2.2.1
def vpOk (v : Vp) : Bool := adOk v.1 && ptOk v.2.1 && prOk v.2.2.1
def beh (a b : Vp) : Bool := if a.1 = b.1 then (if a.2.1 = b.2.1 then decide (a.2.2.1 < b.2.2.1) else decide (a.2.1 < b.2.1)) else decide (a.1 < b.1)
def hasB (bs : List Bk) (y : Int) : Bool := bs.any fun b => b.1 == y
def rsN (ns : List Int) (i : Nat) : Int := if 0 < i ∧ ns.getD i 0 ≤ ns.getD (i - 1) 0 then 1 else 0
def knN (bs : List Bk) (ns : List Int) (i : Nat) : Int := if hasB bs (ns.getD i 0) then 0 else 4
def nF (bs : List Bk) (ns : List Int) : Int := if fst (knN bs ns) ns.length 0 = 0 then fst (rsN ns) ns.length 0 else 4
def bF (bs : List Bk) (i : Nat) : Int := if bkOk (bs.getD i dBk) then (if 0 < i ∧ (bs.getD i dBk).1 ≤ (bs.getD (i - 1) dBk).1 then 1 else 0) else 3
def vF (bs : List Bk) (vs : List Vp) (i : Nat) : Int := if vpOk (vs.getD i dVp) then (if 0 < i ∧ beh (vs.getD (i - 1) dVp) (vs.getD i dVp) = false then 1 else nF bs (vs.getD i dVp).2.2.2) else 3
def cF (c : Cg) : Int := if vrOk c.1 then (if 8 < c.2.1.length ∨ 4 < c.2.2.length then 2 else if fst (bF c.2.1) c.2.1.length 0 = 0 then fst (vF c.2.1 c.2.2) c.2.2.length 0 else fst (bF c.2.1) c.2.1.length 0) else 3

/-- Names of backends rise. -/
def ris (bs : List Bk) : Prop := ∀ i j, i < j → j < bs.length → (bs.getD i dBk).1 < (bs.getD j dBk).1
end Go.Proofs.Try

set_option maxHeartbeats 0
set_option linter.unusedVariables false
set_option linter.unusedSimpArgs false
namespace Go.Proofs.Try
open Go Go.VM Go.RowKit

/-! ### The specification's ConfigFault -/
end Go.Proofs.Try
