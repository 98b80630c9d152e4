/- A part of the proof of FnExactVerdictFor: VmCb. -/
import Derived.Test.YtklmlomaleaaaaaVmJ
import Derived.Below
set_option linter.unusedVariables false
namespace Go.VM
open Go Go.RowKit
section
variable {cx : Cx}
/-! ### Contracts of plain values, to and from calls -/
theorem args_lv {w : World} {S : Nat → Prop} (vs : List Value) : ArgAs cx w S (vs.map fun v => (.inl (lv v) : A cx.ty)) vs := ⟨by simp, fun j a u h1 h2 => by
  rw [List.getElem?_map, h2] at h1
  simp only [Option.map_some, Option.some.injEq] at h1
  subst h1
  exact rfl⟩
theorem one_res {w : World} {A0 N : Nat → Prop} {v u : Value} (h : ResV cx w A0 N (.inl (.inl (lv v))) u) : u = v := by
  obtain ⟨fp, _, _, h⟩ := h
  exact h.1
/-- A contract over plain values is a fact of calls in every world. -/
theorem call_one {P : Program} {f : FuncId} {F : List (A cx.ty) → Option (Bool × V cx.ty)} (h : Sat P cx f F) {l : List (A cx.ty)} {us : List Value} {v : Value} (hl : ∀ w, ArgAs cx w (fun _ => False) l us) (hF : F l = some (true, .inl (.inl (lv v)))) (w : World) :
    Calls P f us.toArray w fun e w' => e = .returned v ∧ Below w.heap.size w w' :=
  (h w (fun _ => False) l us _ (fun _ h => h.elim) (hl w) hF).mono fun e w' ⟨u, he, hb, hr⟩ => ⟨by rw [he, one_res hr], hb⟩
end
end Go.VM
