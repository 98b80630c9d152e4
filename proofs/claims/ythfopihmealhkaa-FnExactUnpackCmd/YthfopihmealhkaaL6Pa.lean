/- A part of the proof of FnExactUnpackCmd: L6Pa, L6Pc, L6Pe, L6Ph. -/
import Derived.Test.YthfopihmealhkaaVmPl
import Derived.Test.YthfopihmealhkaaL6Fa
import Derived.Test.YthfopihmealhkaaL6Fd
set_option maxHeartbeats 0
set_option linter.unusedVariables false
set_option linter.unusedSimpArgs false
namespace Go.Proofs.Try
open Go Go.VM Go.RowKit

abbrev Bk := Int × Int × Int × Int × Bool
abbrev Vp := Int × Int × Int × List Int
abbrev Cm := Int × Int × Int × Int × Int × Int

/-! ### Numbers -/
def nmOk (x : Int) : Bool := decide (1 ≤ x ∧ x ≤ 999)
def adOk (x : Int) : Bool := decide (0 ≤ x ∧ x ≤ 4294967295)
def wtOk (x : Int) : Bool := decide (0 ≤ x ∧ x ≤ 9)
def stOk (x : Int) : Bool := decide (1 ≤ x ∧ x ≤ 3)
def ptOk (x : Int) : Bool := decide (0 ≤ x ∧ x ≤ 65535)
def prOk (x : Int) : Bool := decide (x = 6 ∨ x = 17)
def vrOk (x : Int) : Bool := decide (0 ≤ x ∧ x ≤ 1000000)

theorem bif_and {a b : Int} {x : Int} : (bif decide (x ≥ a) then some (decide (x ≤ b)) else some false) = some (decide (a ≤ x ∧ x ≤ b)) := by
  by_cases h : a ≤ x
  · rw [dt (show x ≥ a from h)]; simp [h]
  · rw [df (show ¬ x ≥ a from h)]; simp [h]
theorem bif_or {a b : Int} {x : Int} : (bif x == a then some true else some (x == b)) = some (decide (x = a ∨ x = b)) := by
  by_cases h : x = a
  · simp [h]
  · rw [beq_eq_false_iff_ne.2 h, cond_false]
    by_cases h2 : x = b
    · rw [beq_iff_eq.2 h2, dt (.inr h2)]
    · rw [beq_eq_false_iff_ne.2 h2, df (by rintro (h3 | h3) <;> contradiction)]
theorem sat105 : Sat prog cxT 105 (c105 fun x => some (decide (x.2.1 ≤ x.1 ∧ x.1 ≤ x.2.2))) := s105 _ fun x t h => by
  obtain ⟨x, a, b⟩ := x
  cases h
  exact ⟨0, bif_and⟩
theorem sat131 : Sat prog cxT 131 (c131 fun x => some (nmOk x)) := s131 _ fun x t h => by cases h; exact ⟨0, bif_and⟩
theorem sat133 : Sat prog cxT 133 (c133 fun x => some (wtOk x)) := s133 _ fun x t h => by cases h; exact ⟨0, bif_and⟩
theorem sat91 : Sat prog cxT 91 (c91 fun x => some (vrOk x)) := s91 _ fun x t h => by cases h; exact ⟨0, bif_and⟩
theorem sat132 : Sat prog cxT 132 (c132 fun x => some (adOk x)) := s132 _ fun x t h => by cases h; exact ⟨0, bif_and⟩
theorem sat134 : Sat prog cxT 134 (c134 fun x => some (stOk x)) := s134 _ fun x t h => by cases h; exact ⟨0, bif_and⟩
theorem sat135 : Sat prog cxT 135 (c135 fun x => some (ptOk x)) := s135 _ fun x t h => by cases h; exact ⟨0, bif_and⟩
theorem sat136 : Sat prog cxT 136 (c136 fun x => some (prOk x)) := s136 _ fun x t h => by cases h; exact ⟨0, bif_or⟩
theorem sat99 : Sat prog cxT 99 (c99 fun x => some (vrOk x)) := s99 _ sat105 _ fun x t h => by cases h; exact ⟨0, rfl⟩
theorem sat106 : Sat prog cxT 106 (c106 fun x => some (nmOk x)) := s106 _ sat105 _ fun x t h => by cases h; exact ⟨0, rfl⟩
theorem sat107 : Sat prog cxT 107 (c107 fun x => some (adOk x)) := s107 _ sat105 _ fun x t h => by cases h; exact ⟨0, rfl⟩
theorem sat109 : Sat prog cxT 109 (c109 fun x => some (prOk x)) := s109 _ fun x t h => by cases h; exact ⟨0, bif_or⟩
theorem sat150 : Sat prog cxT 150 (c150 fun x => some (ptOk x)) := s150 _ sat105 _ fun x t h => by cases h; exact ⟨0, rfl⟩
/-! ### What laws do with configurations -/
abbrev Cg := Int × List Bk × List Vp
def big : Nat := 1000000000000
def top : Nat := 9223372036854775807
def wV (v : Vp) : Int := (v.2.2.2.length : Int)
def wC (c : Cg) : Int := (c.2.1.length : Int) + (c.2.2.length : Int) + sumW wV c.2.2
def okC (c : Cg) : Prop := c.2.1.length ≤ big ∧ c.2.2.length ≤ big ∧ ∀ v ∈ c.2.2, v.2.2.2.length ≤ big
instance (c : Cg) : Decidable (okC c) := by unfold okC; infer_instance
def okZ (c : Cg) : Prop := c.2.1.length ≤ top ∧ c.2.2.length ≤ top ∧ ∀ v ∈ c.2.2, v.2.2.2.length ≤ top
instance (c : Cg) : Decidable (okZ c) := by unfold okZ; infer_instance
def dVp : Vp := (0, 0, 0, [])
def dBk : Bk := (0, 0, 0, 0, false)
def m27 (x : Cg × Int) : Option Int := if 0 ≤ x.2 ∧ x.2 ≤ 1048576 ∧ okZ x.1 then some (szv x.2 (wC x.1)) else none
/-! ### Copies -/
def mid : Nat := 1000000000
def okM (c : Cg) : Prop := c.2.1.length ≤ mid ∧ c.2.2.length ≤ mid ∧ ∀ v ∈ c.2.2, v.2.2.2.length ≤ mid
instance (c : Cg) : Decidable (okM c) := by unfold okM; infer_instance
def m29 (c : Cg) : Option Cg := if okM c then some c else none
/-! ### Comparisons -/
instance decBk : DecidableEq Bk := inferInstance
instance decVp : DecidableEq Vp := inferInstance
instance decLs : DecidableEq (List Bk × List Vp) := @instDecidableEqProd _ _ (@instDecidableEqList _ decBk) (@instDecidableEqList _ decVp)
instance decCg : DecidableEq Cg := @instDecidableEqProd _ _ inferInstance decLs
def m31 (x : Cg × Cg) : Option Bool := if okC x.1 then some (decide (x.1 = x.2)) else none
end Go.Proofs.Try

set_option maxHeartbeats 0
set_option linter.unusedVariables false
set_option linter.unusedSimpArgs false
namespace Go.Proofs.Try
open Go Go.VM Go.RowKit

/-! ### Faults of configurations, plainly -/
def bkOk (b : Bk) : Bool := nmOk b.1 && adOk b.2.1 && wtOk b.2.2.1 && stOk b.2.2.2.1
def vpOk (v : Vp) : Bool := adOk v.1 && ptOk v.2.1 && prOk v.2.2.1
def beh (a b : Vp) : Bool := if a.1 = b.1 then (if a.2.1 = b.2.1 then decide (a.2.2.1 < b.2.2.1) else decide (a.2.1 < b.2.1)) else decide (a.1 < b.1)
def hasB (bs : List Bk) (y : Int) : Bool := bs.any fun b => b.1 == y
def rsN (ns : List Int) (i : Nat) : Int := if 0 < i ∧ ns.getD i 0 ≤ ns.getD (i - 1) 0 then 1 else 0
def knN (bs : List Bk) (ns : List Int) (i : Nat) : Int := if hasB bs (ns.getD i 0) then 0 else 4
def nF (bs : List Bk) (ns : List Int) : Int := if fst (knN bs ns) ns.length 0 = 0 then fst (rsN ns) ns.length 0 else 4
def bF (bs : List Bk) (i : Nat) : Int := if bkOk (bs.getD i dBk) then (if 0 < i ∧ (bs.getD i dBk).1 ≤ (bs.getD (i - 1) dBk).1 then 1 else 0) else 3
def vF (bs : List Bk) (vs : List Vp) (i : Nat) : Int := if vpOk (vs.getD i dVp) then (if 0 < i ∧ beh (vs.getD (i - 1) dVp) (vs.getD i dVp) = false then 1 else nF bs (vs.getD i dVp).2.2.2) else 3
def cF (c : Cg) : Int := if vrOk c.1 then (if 8 < c.2.1.length ∨ 4 < c.2.2.length then 2 else if fst (bF c.2.1) c.2.1.length 0 = 0 then fst (vF c.2.1 c.2.2) c.2.2.length 0 else fst (bF c.2.1) c.2.1.length 0) else 3

/-- Names of backends rise. -/
def ris (bs : List Bk) : Prop := ∀ i j, i < j → j < bs.length → (bs.getD i dBk).1 < (bs.getD j dBk).1
/-! ### The specification's ConfigFault -/
end Go.Proofs.Try

set_option maxHeartbeats 0
set_option linter.unusedVariables false
set_option linter.unusedSimpArgs false
namespace Go.Proofs.Try
open Go Go.VM Go.RowKit

/-! ### The program's ConfigFault -/
/-- The first place of which p is not so. -/
def low {α : Type} (p : α → Bool) : List α → Nat
  | [] => 0
  | x :: r => if p x then low p r + 1 else 0
def plB (bs : List Bk) (y : Int) : Nat := low (fun b : Bk => decide (b.1 < y)) bs
instance (bs : List Bk) : Decidable (ris bs) := by
  have : ris bs ↔ ∀ j, j < bs.length → ∀ i, i < j → (bs.getD i dBk).1 < (bs.getD j dBk).1 := ⟨fun h j hj i hi => h i j hi hj, fun h i j hi hj => h j hj i hi⟩
  exact decidable_of_iff _ this.symm
/-! names -/
/-! ConfigFault -/
end Go.Proofs.Try

set_option maxHeartbeats 0
set_option linter.unusedVariables false
set_option linter.unusedSimpArgs false
namespace Go.Proofs.Try
open Go Go.VM Go.RowKit

/-! FnExactConfigFault -/
abbrev Fl := Int × Int × Int × Int × Int
/-- Vips rise. -/
def risV (vs : List Vp) : Prop := ∀ i j, i < j → j < vs.length → beh (vs.getD i dVp) (vs.getD j dVp) = true
instance (vs : List Vp) : Decidable (risV vs) := by
  have : risV vs ↔ ∀ j, j < vs.length → ∀ i, i < j → beh (vs.getD i dVp) (vs.getD j dVp) = true := ⟨fun h j hj i hi => h i j hi hj, fun h i j hi hj => h j hj i hi⟩
  exact decidable_of_iff _ this.symm
abbrev Sh := Int × Int
def pick (bs : List Bk) (y : Int) : List Sh := if (bs.getD (plB bs y) dBk).2.2.2.2 = true ∧ (bs.getD (plB bs y) dBk).2.2.2.1 = 1 then [(y, (bs.getD (plB bs y) dBk).2.2.1)] else []
theorem known {bs : List Bk} {vs : List Vp} (h : ∀ j, j < vs.length → vF bs vs j = 0) {j : Nat} (hj : j < vs.length) {i : Nat} (hi : i < (vs.getD j dVp).2.2.2.length) : hasB bs ((vs.getD j dVp).2.2.2.getD i 0) = true := by
  have h1 := h j hj
  unfold vF at h1
  split at h1
  · split at h1
    · exact absurd h1 (by decide)
    · unfold nF at h1
      split at h1
      · rename_i h2
        have := fst_zero.1 h2 i (Nat.zero_le _) (by omega)
        unfold knN at this
        split at this
        · assumption
        · exact absurd this (by decide)
      · exact absurd h1 (by decide)
  · exact absurd h1 (by decide)
def okS (c : Cg) (y : Int) : Prop := okM c ∧ cF c = 0 ∧ 0 ≤ y ∧ y < (c.2.2.length : Int)
instance (c : Cg) (y : Int) : Decidable (okS c y) := by unfold okS; infer_instance
def m84 (x : List Int × Int) : Option (Int × List Int) := g84 (x.1.length + 1) x.1 x.2
def m78 (x : List Bk × Int) : Option (Int × List Bk) := g78 (x.1.length + 1) x.1 x.2
def m79 (x : List Vp × Int) : Option (Int × List Vp) := g79 m84 (x.1.length + 1) x.1 x.2
def m32 (x : Cg × Int) : Option (Int × Cg) := g32 m78 m79 0 x.1.1 x.1.2.1 x.1.2.2 x.2
/-! FnExactSharesFor -/
end Go.Proofs.Try
