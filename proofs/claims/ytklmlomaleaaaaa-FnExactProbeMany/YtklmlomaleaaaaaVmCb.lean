/- A part of the proof of FnExactProbeMany: VmCb. -/
import Derived.Test.YtklmlomaleaaaaaVmJ
import Derived.Below
namespace Go.VM
open Go Go.RowKit
section
variable {cx : Cx}
/-! ### Contracts of plain values, to and from calls -/
theorem arg_agg {w : World} {S : Nat → Prop} (vs : List Value) : ArgA cx w S (.inr (vs.map lv)) (.agg vs.toArray) := ⟨vs, rfl, by simp, fun j a u h1 h2 => by
  rw [List.getElem?_map, h2] at h1
  simp only [Option.map_some, Option.some.injEq] at h1
  subst h1
  exact rfl⟩
theorem args_agg {w : World} {S : Nat → Prop} (vs : List Value) : ArgAs cx w S [.inr (vs.map lv)] [.agg vs.toArray] := ⟨rfl, fun j a u h1 h2 => by
  match j with
  | 0 => simp only [List.getElem?_cons_zero, Option.some.injEq] at h1 h2; subst h1; subst h2; exact arg_agg vs
  | j + 1 => simp at h1⟩
theorem vals_of {vs us : List Value} (hl : us.length = vs.length) (h : ∀ (j : Nat) v u, vs[j]? = some v → us[j]? = some u → u = v) : us = vs :=
  List.ext_getElem hl fun j h1 h2 => h j _ _ (List.getElem?_eq_getElem h2) (List.getElem?_eq_getElem h1)
theorem agg_arg {w : World} {S : Nat → Prop} {vs : List Value} {u : Value} (h : ArgA cx w S (.inr (vs.map lv)) u) : u = .agg vs.toArray := by
  obtain ⟨us, rfl, hl, h⟩ := h
  rw [vals_of (by simpa using hl) fun j v u h1 h2 => h j (lv v) u (by rw [List.getElem?_map, h1]; rfl) h2]
theorem one_res {w : World} {A0 N : Nat → Prop} {v u : Value} (h : ResV cx w A0 N (.inl (.inl (lv v))) u) : u = v := by
  obtain ⟨fp, _, _, h⟩ := h
  exact h.1
/-- A contract over plain values is a fact of calls in every world. -/
theorem call_one {P : Program} {f : FuncId} {F : List (A cx.ty) → Option (Bool × V cx.ty)} (h : Sat P cx f F) {l : List (A cx.ty)} {us : List Value} {v : Value} (hl : ∀ w, ArgAs cx w (fun _ => False) l us) (hF : F l = some (true, .inl (.inl (lv v)))) (w : World) :
    Calls P f us.toArray w fun e w' => e = .returned v ∧ Below w.heap.size w w' :=
  (h w (fun _ => False) l us _ (fun _ h => h.elim) (hl w) hF).mono fun e w' ⟨u, he, hb, hr⟩ => ⟨by rw [he, one_res hr], hb⟩
end
end Go.VM
