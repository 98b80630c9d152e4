/- A part of the proof of FnExactUnpackCmd: VmPl. -/
import Derived.Test.YthfopihmealhkaaVmJ
namespace Go.VM
open Go

/-! ### Loops that laws and programs share: plain forms -/
section
variable {α : Type}

/-- The first answer that is not 0, of n from i on. -/
def fst (f : Nat → Int) : Nat → Nat → Int
  | 0, _ => 0
  | n + 1, i => if f i = 0 then fst f n (i + 1) else f i
theorem fst_succ (f : Nat → Int) (n i : Nat) : fst f (n + 1) i = if f i = 0 then fst f n (i + 1) else f i := rfl
theorem fst_zero {f : Nat → Int} : ∀ {n i : Nat}, fst f n i = 0 ↔ ∀ j, i ≤ j → j < i + n → f j = 0
  | 0, i => by simp only [fst, true_iff]; intro j h1 h2; omega
  | n + 1, i => by
    rw [fst_succ]
    by_cases h : f i = 0
    · rw [if_pos h, fst_zero]
      constructor
      · intro k j h1 h2
        by_cases h3 : j = i
        · rw [h3]; exact h
        · exact k j (by omega) (by omega)
      · intro k j h1 h2; exact k j (by omega) (by omega)
    · rw [if_neg h]
      constructor
      · intro k; exact absurd k h
      · intro k; exact k i (Nat.le_refl _) (by omega)
/-- Sizes taken away piece by piece; -1: too much. -/
def szv (acc w : Int) : Int := if acc - w < 0 then -1 else acc - w
def sumW (w : α → Int) : List α → Int
  | [] => 0
  | x :: r => w x + sumW w r
end

end Go.VM
