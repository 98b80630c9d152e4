/- A part of the proof of FnExactVerdictFor: VmGr, VmGs, VmGt. -/
import Derived.Test.YtklmlomaleaaaaaVmPl
import Derived.WalkKit
import Derived.OwnWalkIn
import Derived.Below
import Derived.WalkMore
import Derived.Test.YtklmlomaleaaaaaVmCb
import Derived.Laws.CopyOwn
set_option linter.unusedVariables false
set_option linter.unusedSimpArgs false
namespace Go
open Go.RowKit
/-! ### append of what make makes, onto nil -/
section
variable {P : Program} (w : World)
end
end Go

namespace Go.VM
open Go Go.RowKit
section
variable {cx : Cx}

/-! ### Rows that are lent, laid open for walks; rows that walks have built, as results -/
theorem rep_row {w : World} {S : Nat → Prop} {n : Nat} {e : Nat} {xs : List (cx.ty e)} {u : Value} (h : RepL cx w S n (some (.inr (ro e xs))) u) :
    ∃ q c, u = .slice q xs.length c ∧ xs.length ≤ c ∧ (xs = [] ∨ ∃ b off, q = some ⟨b, off, none⟩ ∧ S b ∧ ∀ i x, xs[i]? = some x → ∀ j l, (cx.enc e false x)[j]? = some l → ∃ v m, w.cell? ⟨b, off + (i * cx.size e + j), none⟩ = some v ∧ RepL cx w S m l v) := by
  cases n with
  | zero => exact h.elim
  | succ n =>
    obtain ⟨a, cap, hu, hc, h⟩ := h
    refine ⟨a, cap, hu, hc, ?_⟩
    rcases h with h | ⟨b, off, ha, hS, h⟩
    · exact .inl h
    · refine .inr ⟨b, off, ha, hS, fun i x hx j l hl => ?_⟩
      obtain ⟨v, h1, h2⟩ := h i x hx j l hl
      exact ⟨v, n, h1, h2⟩

end
end Go.VM

set_option linter.unusedSimpArgs false
set_option linter.unusedVariables false
namespace Go
open Go.RowKit
/-! ### copy of elements of any size -/
end Go
namespace Go.VM
open Go Go.RowKit
section
variable {cx : Cx}
/-! ### Rows of rows, laid open cell by cell, and put together again -/
end
end Go.VM
