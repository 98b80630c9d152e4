/- A part of the proof of FnExactAddressText: VmCb, VmGr, VmGs. -/
import Derived.Test.YtfibmmgemhdebaaDoorVmJ
import Derived.Below
import Derived.Test.YtfibmmgemhdebaaDoorVmPl
import Derived.WalkKit
import Derived.OwnWalkIn
import Derived.WalkMore
namespace Go.VM
open Go Go.RowKit
section
variable {cx : Cx}
/-! ### Contracts of plain values, to and from calls -/
theorem args_lv {w : World} {S : Nat → Prop} (vs : List Value) : ArgAs cx w S (vs.map fun v => (.inl (lv v) : A cx.ty)) vs := ⟨by simp, fun j a u h1 h2 => by
  rw [List.getElem?_map, h2] at h1
  simp only [Option.map_some, Option.some.injEq] at h1
  subst h1
  exact rfl⟩
theorem vals_of {vs us : List Value} (hl : us.length = vs.length) (h : ∀ (j : Nat) v u, vs[j]? = some v → us[j]? = some u → u = v) : us = vs :=
  List.ext_getElem hl fun j h1 h2 => h j _ _ (List.getElem?_eq_getElem h2) (List.getElem?_eq_getElem h1)
theorem one_res {w : World} {A0 N : Nat → Prop} {v u : Value} (h : ResV cx w A0 N (.inl (.inl (lv v))) u) : u = v := by
  obtain ⟨fp, _, _, h⟩ := h
  exact h.1
theorem agg_res {w : World} {A0 N : Nat → Prop} {vs : List Value} {u : Value} (h : ResV cx w A0 N (.inl (.inr (vs.map lv))) u) : u = .agg vs.toArray := by
  obtain ⟨fp, _, _, us, fps, rfl, _, hl, hf, h⟩ := h
  have e : us = vs := vals_of (by simpa using hl) fun j v u h1 h2 => by
    have hj : j < fps.length := by rw [hf]; simpa using (List.getElem?_eq_some_iff.1 h1).1
    exact (h j (lv v) u fps[j] (by rw [List.getElem?_map, h1]; rfl) h2 (List.getElem?_eq_getElem hj)).1
  rw [e]
/-- A contract over plain values is a fact of calls in every world. -/
theorem call_one {P : Program} {f : FuncId} {F : List (A cx.ty) → Option (Bool × V cx.ty)} (h : Sat P cx f F) {l : List (A cx.ty)} {us : List Value} {v : Value} (hl : ∀ w, ArgAs cx w (fun _ => False) l us) (hF : F l = some (true, .inl (.inl (lv v)))) (w : World) :
    Calls P f us.toArray w fun e w' => e = .returned v ∧ Below w.heap.size w w' :=
  (h w (fun _ => False) l us _ (fun _ h => h.elim) (hl w) hF).mono fun e w' ⟨u, he, hb, hr⟩ => ⟨by rw [he, one_res hr], hb⟩
theorem call_agg {P : Program} {f : FuncId} {F : List (A cx.ty) → Option (Bool × V cx.ty)} (h : Sat P cx f F) {l : List (A cx.ty)} {us vs : List Value} (hl : ∀ w, ArgAs cx w (fun _ => False) l us) (hF : F l = some (true, .inl (.inr (vs.map lv)))) (w : World) :
    Calls P f us.toArray w fun e w' => e = .returned (.agg vs.toArray) ∧ Below w.heap.size w w' :=
  (h w (fun _ => False) l us _ (fun _ h => h.elim) (hl w) hF).mono fun e w' ⟨u, he, hb, hr⟩ => ⟨by rw [he, agg_res hr], hb⟩
end
end Go.VM

set_option linter.unusedSimpArgs false
namespace Go
open Go.RowKit
/-! ### append of what make makes, onto nil -/
section
variable {P : Program} (w : World)
end
theorem below_grown {W W' : World} {B e size n : Nat} {v : Value} {xs : List Value} (hB : B ≤ W.heap.size) (hown : W.ownsRow B e size v n xs) (hg : W.grownBy W' v.ownBlock) : Below B W W' :=
  (Below.refl B W).grown hg hB fun k e => by
    rcases hown.2 with ⟨rfl, _⟩ | ⟨g, cap, cur, rfl, hb, _, _⟩
    · cases e
    · obtain rfl : g = k := by simpa [Value.ownBlock] using e
      exact hb
end Go

namespace Go.VM
open Go Go.RowKit
section
variable {cx : Cx}

/-! ### Rows that are lent, laid open for walks; rows that walks have built, as results -/
theorem row_res (ok : cx.Ok) {w' : World} {A0 N : Nat → Prop} {e : Nat} (hf : cx.flat e = true) {xs : List (cx.ty e)} {v : Value} (h : ResV cx w' A0 N (.inl (.inl (ls { own := 2, nm := 0, e := e, o := true, xs := xs }))) v) :
    w'.ownsRow 0 e (cx.size e) v xs.length (flatVals cx e xs) ∧ ∀ b, v.ownBlock = some b → N b ∧ b < w'.heap.size := by
  obtain ⟨fp, hnd, hN, h⟩ := h
  have h : ResA cx w' (fun b => A0 b ∨ (N b ∧ b < w'.heap.size ∧ b ∉ fp)) (.inl (ls { own := 2, nm := 0, e := e, o := true, xs := xs })) v fp := h
  unfold ResA ResL at h
  simp only [ls, if_true] at h
  obtain ⟨_, n, h⟩ := h
  obtain ⟨h1, h2⟩ := flat_of_own (s := { own := 2, nm := 0, e := e, o := true, xs := xs }) ok hf h
  refine ⟨h1, fun b hb => hN b ?_⟩
  rw [h2, hb]; simp
end
end Go.VM
