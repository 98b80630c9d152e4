/- A part of the proof of FnHealths: VmCb. -/
import Derived.Test.YtklmlomaleaaaaaVmJ
import Derived.Below
namespace Go.VM
open Go Go.RowKit
section
variable {cx : Cx}
/-! ### Contracts of plain values, to and from calls -/
theorem vals_of {vs us : List Value} (hl : us.length = vs.length) (h : ∀ (j : Nat) v u, vs[j]? = some v → us[j]? = some u → u = v) : us = vs :=
  List.ext_getElem hl fun j h1 h2 => h j _ _ (List.getElem?_eq_getElem h2) (List.getElem?_eq_getElem h1)
theorem one_arg {w : World} {S : Nat → Prop} {a : A cx.ty} {us : List Value} (h : ArgAs cx w S [a] us) : ∃ u, us = [u] ∧ ArgA cx w S a u := by
  match us, h with
  | [u], h => exact ⟨u, rfl, h.2 0 a u rfl rfl⟩
  | [], h => exact absurd h.1 (by simp)
  | _ :: _ :: r, h => exact absurd h.1 (by simp)
end
end Go.VM
