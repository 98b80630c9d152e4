/- A part of the proof of FnExactHealthFault: LqPa, LqPb. -/
import Derived.Test.YtklmlomaleaaaaaLqPce
import Derived.Test.YtklmlomaleaaaaaLqFb
set_option maxHeartbeats 0
set_option linter.unusedVariables false
set_option linter.unusedSimpArgs false
namespace Go.Proofs.Try
open Go Go.VM Go.RowKit

/-! ### Healths -/
abbrev Hl := Int × Bool × Int
def hB (b : Bool) : Int := if b then 3 else 2
def hF (h : Hl) : Int := if nmOk h.1 = true ∧ 0 ≤ h.2.2 ∧ h.2.2 ≤ hB h.2.1 - 1 then 0 else 3
def mIn (x : Int × Int × Int) : Option Bool := some (decide (x.2.1 ≤ x.1 ∧ x.1 ≤ x.2.2))
theorem pIn (a b c : Int) : (bif (decide (a ≥ b)) then some (decide (a ≤ c)) else some Bool.false) = some (decide (b ≤ a ∧ a ≤ c)) := by
  by_cases h1 : b ≤ a
  · rw [dt (show a ≥ b from h1), cond_true]
    by_cases h2 : a ≤ c
    · rw [dt h2, dt ⟨h1, h2⟩]
    · rw [df h2, df (fun h => h2 h.2)]
  · rw [df (show ¬ a ≥ b from h1), cond_false, df (fun h => h1 h.1)]
theorem sat41' : Sat prog cxT 41 (c41 mIn) := sat41
theorem sat44 : Sat prog cxT 44 (c44 mIn) := s44 mIn fun x t h => by
  obtain ⟨a, b, c⟩ := x
  cases h; exact ⟨0, pIn a b c⟩
def mN (x : Int) : Option Bool := some (nmOk x)
theorem sat40' : Sat prog cxT 40 (c40 mN) := sat40
theorem sat43' : Sat prog cxT 43 (c43 mN) := sat43
def mB (h : Hl) : Option Int := some (hB h.2.1)
theorem sat42 : Sat prog cxT 42 (c42 mB) := s42 mB fun x t h => by
  obtain ⟨a, b, c⟩ := x
  cases h; refine ⟨0, ?_⟩
  show g42 0 a b c = some (hB b)
  cases b <;> rfl
def mB2 (b : Bool) : Option Int := some (hB b)
theorem sat45 : Sat prog cxT 45 (c45 mB2) := s45 mB2 fun x t h => by
  cases h; refine ⟨0, ?_⟩
  show g45 0 x = some (hB x)
  cases x <;> rfl
theorem hB_r (b : Bool) : 2 ≤ hB b ∧ hB b ≤ 3 := by cases b <;> simp [hB]
def mHF (h : Hl) : Option Int := some (hF h)
theorem pHF (a : Int) (b : Bool) (c : Int) : (tst (mN a) false fun (q1 : Bool) => bif (!q1) then some (3 : Int) else tst (some (hB b)) (0 : Int) fun (q2 : Int) => tst (mIn (c, ((0 : Int), (Go.IntKind.wrap Go.IntKind.i64 (q2 - (1 : Int)))))) false fun (q3 : Bool) => bif (!q3) then some (3 : Int) else some (0 : Int)) = some (hF (a, b, c)) := by
  have := hB_r b
  simp only [mN, mIn, tst_some, hF]
  rw [wi (by omega) (by omega)]
  cases h1 : nmOk a
  · rfl
  · by_cases h2 : 0 ≤ c ∧ c ≤ hB b - 1
    · rw [if_pos ⟨rfl, h2⟩, dt h2]; rfl
    · rw [if_neg (fun h => h2 h.2), df h2]; rfl
theorem sat10 : Sat prog cxT 10 (c10 mHF) := s10 mN mB mIn sat40' sat42 sat41' mHF fun x t h => by
  obtain ⟨a, b, c⟩ := x
  cases h; exact ⟨0, pHF a b c⟩
theorem sat12 : Sat prog cxT 12 (c12 mHF) := s12 mN mB2 mIn sat43' sat45 sat44 mHF fun x t h => by
  obtain ⟨a, b, c⟩ := x
  cases h; exact ⟨0, pHF a b c⟩
/-- One answer. -/
def pS (x : Hl × Bool) : Int × Bool × Int × Bool :=
  if x.2 = x.1.2.1 then (x.1.1, x.1.2.1, 0, false) else if x.1.2.2 + 1 = hB x.1.2.1 then (x.1.1, !x.1.2.1, 0, true) else (x.1.1, x.1.2.1, x.1.2.2 + 1, false)
def m46 (x : Hl × Bool) : Option (Int × Bool × Int × Bool) := if hF x.1 = 0 then some (pS x) else none
theorem sat11 : Sat prog cxT 11 (c11 fun h : Hl => some h) := s11 _ fun x t h => by
  cases h; exact ⟨0, rfl⟩
/-! The laws FnExactHealthFault and FnExactProbeHealth -/
def m3 (h : Hl) : Option Bool := some true
theorem sat3 : Sat prog cxT 3 (c3 m3) := s3 _ mHF mHF sat11 sat10 sat12 m3 fun x t h => by
  obtain ⟨a, b, c⟩ := x
  cases h; refine ⟨0, ?_⟩
  show g3 _ mHF mHF 0 a b c = some true
  unfold g3 mHF
  simp [tst_some]
def m4 (x : Hl × Bool) : Option Bool := some true
/-! ### Many answers -/
end Go.Proofs.Try

set_option maxHeartbeats 0
set_option linter.unusedVariables false
set_option linter.unusedSimpArgs false
namespace Go.Proofs.Try
open Go Go.VM Go.RowKit

/-! ### Lists of answers and of verdicts -/
def m17 (a : List Bool) : Option (List Bool) := if a.length ≤ mid then some a else none
def m19 (x : List Bool × List Bool) : Option Bool := if x.1.length ≤ big then some (decide (x.1 = x.2)) else none
/-! Verdicts -/
def m22 (a : List Vd) : Option (List Vd) := if a.length ≤ mid then some a else none
def m24 (x : List Vd × List Vd) : Option Bool := if x.1.length ≤ big then some (decide (x.1 = x.2)) else none
def m20 (x : List Vd × Int) : Option Int := if 0 ≤ x.2 ∧ x.2 ≤ 1048576 ∧ x.1.length ≤ top then some (szv x.2 x.1.length) else none
/-! The law FnExactVerdictsFault -/
end Go.Proofs.Try
