/- A part of the proof of FnExactUpdateFault: VmCb. -/
import Derived.Test.YtnmnomckcjihoaaGreatVmJ
import Derived.Below
set_option linter.unusedVariables false
namespace Go.VM
open Go Go.RowKit
section
variable {cx : Cx}
/-! ### Contracts of plain values, to and from calls -/
theorem args_lv {w : World} {S : Nat → Prop} (vs : List Value) : ArgAs cx w S (vs.map fun v => (.inl (lv v) : A cx.ty)) vs := ⟨by simp, fun j a u h1 h2 => by
  rw [List.getElem?_map, h2] at h1
  simp only [Option.map_some, Option.some.injEq] at h1
  subst h1
  exact rfl⟩
theorem arg_agg {w : World} {S : Nat → Prop} (vs : List Value) : ArgA cx w S (.inr (vs.map lv)) (.agg vs.toArray) := ⟨vs, rfl, by simp, fun j a u h1 h2 => by
  rw [List.getElem?_map, h2] at h1
  simp only [Option.map_some, Option.some.injEq] at h1
  subst h1
  exact rfl⟩
theorem args_agg {w : World} {S : Nat → Prop} (vs : List Value) : ArgAs cx w S [.inr (vs.map lv)] [.agg vs.toArray] := ⟨rfl, fun j a u h1 h2 => by
  match j with
  | 0 => simp only [List.getElem?_cons_zero, Option.some.injEq] at h1 h2; subst h1; subst h2; exact arg_agg vs
  | j + 1 => simp at h1⟩
theorem vals_of {vs us : List Value} (hl : us.length = vs.length) (h : ∀ (j : Nat) v u, vs[j]? = some v → us[j]? = some u → u = v) : us = vs :=
  List.ext_getElem hl fun j h1 h2 => h j _ _ (List.getElem?_eq_getElem h2) (List.getElem?_eq_getElem h1)
theorem agg_arg {w : World} {S : Nat → Prop} {vs : List Value} {u : Value} (h : ArgA cx w S (.inr (vs.map lv)) u) : u = .agg vs.toArray := by
  obtain ⟨us, rfl, hl, h⟩ := h
  rw [vals_of (by simpa using hl) fun j v u h1 h2 => h j (lv v) u (by rw [List.getElem?_map, h1]; rfl) h2]
theorem one_res {w : World} {A0 N : Nat → Prop} {v u : Value} (h : ResV cx w A0 N (.inl (.inl (lv v))) u) : u = v := by
  obtain ⟨fp, _, _, h⟩ := h
  exact h.1
theorem agg_res {w : World} {A0 N : Nat → Prop} {vs : List Value} {u : Value} (h : ResV cx w A0 N (.inl (.inr (vs.map lv))) u) : u = .agg vs.toArray := by
  obtain ⟨fp, _, _, us, fps, rfl, _, hl, hf, h⟩ := h
  have e : us = vs := vals_of (by simpa using hl) fun j v u h1 h2 => by
    have hj : j < fps.length := by rw [hf]; simpa using (List.getElem?_eq_some_iff.1 h1).1
    exact (h j (lv v) u fps[j] (by rw [List.getElem?_map, h1]; rfl) h2 (List.getElem?_eq_getElem hj)).1
  rw [e]
theorem tup_res {w : World} {A0 N : Nat → Prop} {vs : List Value} {u : Value} (h : ResV cx w A0 N (.inr (.inl (vs.map fun v => .inl (lv v)))) u) : u = .tuple vs.toArray := by
  obtain ⟨fp, _, _, us, fps, rfl, _, hl, hf, h⟩ := h
  have e : us = vs := vals_of (by simpa using hl) fun j v u h1 h2 => by
    have hj : j < fps.length := by rw [hf]; simpa using (List.getElem?_eq_some_iff.1 h1).1
    exact (h j (.inl (lv v)) u fps[j] (by rw [List.getElem?_map, h1]; rfl) h2 (List.getElem?_eq_getElem hj)).1
  rw [e]
theorem res_lv {w : World} {A0 N : Nat → Prop} (v : Value) : ResV cx w A0 N (.inl (.inl (lv v))) v := ⟨[], List.nodup_nil, by simp, rfl, rfl⟩
theorem one_arg {w : World} {S : Nat → Prop} {a : A cx.ty} {us : List Value} (h : ArgAs cx w S [a] us) : ∃ u, us = [u] ∧ ArgA cx w S a u := by
  match us, h with
  | [u], h => exact ⟨u, rfl, h.2 0 a u rfl rfl⟩
  | [], h => exact absurd h.1 (by simp)
  | _ :: _ :: r, h => exact absurd h.1 (by simp)
/-- A contract over plain values is a fact of calls in every world. -/
theorem call_one {P : Program} {f : FuncId} {F : List (A cx.ty) → Option (Bool × V cx.ty)} (h : Sat P cx f F) {l : List (A cx.ty)} {us : List Value} {v : Value} (hl : ∀ w, ArgAs cx w (fun _ => False) l us) (hF : F l = some (true, .inl (.inl (lv v)))) (w : World) :
    Calls P f us.toArray w fun e w' => e = .returned v ∧ Below w.heap.size w w' :=
  (h w (fun _ => False) l us _ (fun _ h => h.elim) (hl w) hF).mono fun e w' ⟨u, he, hb, hr⟩ => ⟨by rw [he, one_res hr], hb⟩
theorem call_agg {P : Program} {f : FuncId} {F : List (A cx.ty) → Option (Bool × V cx.ty)} (h : Sat P cx f F) {l : List (A cx.ty)} {us vs : List Value} (hl : ∀ w, ArgAs cx w (fun _ => False) l us) (hF : F l = some (true, .inl (.inr (vs.map lv)))) (w : World) :
    Calls P f us.toArray w fun e w' => e = .returned (.agg vs.toArray) ∧ Below w.heap.size w w' :=
  (h w (fun _ => False) l us _ (fun _ h => h.elim) (hl w) hF).mono fun e w' ⟨u, he, hb, hr⟩ => ⟨by rw [he, agg_res hr], hb⟩
theorem call_tup {P : Program} {f : FuncId} {F : List (A cx.ty) → Option (Bool × V cx.ty)} (h : Sat P cx f F) {l : List (A cx.ty)} {us vs : List Value} (hl : ∀ w, ArgAs cx w (fun _ => False) l us) (hF : F l = some (true, .inr (.inl (vs.map fun v => .inl (lv v))))) (w : World) :
    Calls P f us.toArray w fun e w' => e = .returned (.tuple vs.toArray) ∧ Below w.heap.size w w' :=
  (h w (fun _ => False) l us _ (fun _ h => h.elim) (hl w) hF).mono fun e w' ⟨u, he, hb, hr⟩ => ⟨by rw [he, tup_res hr], hb⟩
end
end Go.VM
