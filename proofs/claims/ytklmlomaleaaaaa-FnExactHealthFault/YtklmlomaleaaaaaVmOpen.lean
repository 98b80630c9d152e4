/- A part of the proof of FnExactHealthFault: VmOpen, VmOpen2. -/
import Derived.Test.YtklmlomaleaaaaaVmJ
import Derived.ProofKit
namespace Go.VM
open Go Go.RowKit

/-! ### What comes in, opened -/
def LeafOk {ty : Nat → Type} (l : L ty) : Prop := (∃ v, l = lv v) ∨ ∃ s : SlD ty, l = ls s ∧ s.own = 0

def Opens (P : Program) (cx : Cx) (t : TypeId) {T : Type} (enc : T → List (L cx.ty)) (good : T → Prop) : Prop :=
  ∀ (H : Type) (e' : TypeId × Value → H) (w : World) (spare : Nat → Bool) (held : Bool) (fuel : Nat) (cs : List Value) (x : DataW H × List MemPlace), DataW.trod e' P w 0 spare held fuel t cs = some x →
    ∃ y : T, good y ∧ cs.length = (enc y).length ∧ (∀ l ∈ enc y, LeafOk l) ∧ ∃ n, ∀ (j : Nat) l c, (enc y)[j]? = some l → cs[j]? = some c → RepL cx w (Lent w) n l c

theorem opens_int {P : Program} {cx : Cx} {t : TypeId} {k : IntKind} (ht : P.underlying t = some (.int k)) : Opens P cx t (fun x : Int => [lv (.int k x)]) (fun x => (Lit.int k x).wf = true) := by
  intro H e' w spare held fuel cs x h
  obtain ⟨n, rfl, _, hw⟩ := DataW.trod_int ht h
  refine ⟨n, hw, rfl, fun l hl => .inl ⟨_, by simpa using hl⟩, 0, fun j l c h1 h2 => ?_⟩
  cases j with
  | zero =>
    simp only [List.getElem?_cons_zero, Option.some.injEq] at h1 h2
    subst h1; subst h2
    rfl
  | succ j => simp at h1

theorem opens_bool {P : Program} {cx : Cx} {t : TypeId} (ht : P.underlying t = some .bool) : Opens P cx t (fun x : Bool => [lv (.bool x)]) (fun _ => True) := by
  intro H e' w spare held fuel cs x h
  obtain ⟨n, rfl, _⟩ := DataW.trod_bool ht h
  refine ⟨n, trivial, rfl, fun l hl => .inl ⟨_, by simpa using hl⟩, 0, fun j l c h1 h2 => ?_⟩
  cases j with
  | zero =>
    simp only [List.getElem?_cons_zero, Option.some.injEq] at h1 h2
    subst h1; subst h2
    rfl
  | succ j => simp at h1

/-- Fields of one cell each, one behind the other. -/
def OpensF (P : Program) (cx : Cx) (fs : List Field) (off : Nat) {T : Type} (enc : T → List (L cx.ty)) (good : T → Prop) : Prop :=
  ∀ (H : Type) (e' : TypeId × Value → H) (w : World) (spare : Nat → Bool) (held : Bool) (fuel : Nat) (cs : List Value), off + fs.length ≤ cs.length →
    (∀ f ∈ fs, ∃ x, DataW.trod e' P w 0 spare held fuel f.type ((cs.drop f.offset).take (P.cellsOf f.type)) = some x) →
    ∃ y : T, good y ∧ (enc y).length = fs.length ∧ (∀ l ∈ enc y, LeafOk l) ∧ ∃ n, ∀ (j : Nat) l c, (enc y)[j]? = some l → cs[off + j]? = some c → RepL cx w (Lent w) n l c

theorem opensF_one {P : Program} {cx : Cx} {f : Field} {off : Nat} {T : Type} {l : T → L cx.ty} {good : T → Prop} (h : Opens P cx f.type (fun x => [l x]) good) (ho : f.offset = off) (hc : P.cellsOf f.type = 1) : OpensF P cx [f] off (fun x => [l x]) good := by
  intro H e' w spare held fuel cs hl ht
  obtain ⟨x, hx⟩ := ht f (List.mem_singleton.2 rfl)
  obtain ⟨y, hy, hlen, hlf, n, hr⟩ := h H e' w spare held fuel _ x hx
  refine ⟨y, hy, rfl, hlf, n, fun j a c h1 h2 => ?_⟩
  cases j with
  | zero =>
    refine hr 0 a c h1 ?_
    rw [hc, ho, List.getElem?_take, if_pos (by omega), List.getElem?_drop]
    exact h2
  | succ j => simp at h1

theorem opensF_cons {P : Program} {cx : Cx} {f : Field} {fs : List Field} {off : Nat} {T U : Type} {l : T → L cx.ty} {good : T → Prop} {enc : U → List (L cx.ty)} {good2 : U → Prop} (h : Opens P cx f.type (fun x => [l x]) good) (ho : f.offset = off) (hc : P.cellsOf f.type = 1)
    (h2 : OpensF P cx fs (off + 1) enc good2) : OpensF P cx (f :: fs) off (fun x : T × U => l x.1 :: enc x.2) (fun x => good x.1 ∧ good2 x.2) := by
  intro H e' w spare held fuel cs hl ht
  obtain ⟨y, hy, hylen, hlf, n, hr⟩ := opensF_one h ho hc H e' w spare held fuel cs (by simp at hl ⊢; omega) (fun g hg => ht g (by simp at hg; subst hg; exact List.mem_cons_self ..))
  obtain ⟨z, hz, hzlen, hlf2, m, hr2⟩ := h2 H e' w spare held fuel cs (by simp at hl; omega) (fun g hg => ht g (List.mem_cons_of_mem _ hg))
  refine ⟨(y, z), ⟨hy, hz⟩, by simp [hzlen], fun a ha => ?_, n + m, fun j a c h1 h2 => ?_⟩
  · rcases List.mem_cons.1 ha with ha | ha
    · exact hlf a (by simp [ha])
    · exact hlf2 a ha
  · cases j with
    | zero =>
      simp only [List.getElem?_cons_zero, Option.some.injEq] at h1
      subst h1
      exact RepL_up m (hr 0 _ c rfl h2)
    | succ j =>
      rw [Nat.add_comm n m]
      refine RepL_up n (hr2 j a c (by simpa using h1) ?_)
      rw [← h2]
      congr 1
      omega

theorem opens_struct {P : Program} {cx : Cx} {t : TypeId} {fs : Array Field} (ht : P.underlying t = some (.struct fs)) (hc : P.cellsOf t = fs.size) {T : Type} {enc : T → List (L cx.ty)} {good : T → Prop} (h : OpensF P cx fs.toList 0 enc good) : Opens P cx t enc good := by
  intro H e' w spare held fuel cs x hx
  obtain ⟨xs, n, _, _, hcl, hxl, hf⟩ := DataW.trod_struct ht hx
  obtain ⟨y, hy, hylen, hlf, m, hr⟩ := h H e' w spare held n cs (by simp; omega) (fun f hfm => by
    obtain ⟨i, hi⟩ := List.getElem?_of_mem hfm
    have hi2 : fs[i]? = some f := by simpa using hi
    have := hf i f hi2
    have hlt : i < xs.length := by rw [hxl]; exact (Array.getElem?_eq_some_iff.1 hi2).1
    rw [List.getElem?_eq_getElem hlt] at this
    exact ⟨_, this⟩)
  refine ⟨y, hy, by rw [hylen, hcl, hc]; simp, hlf, m, fun j l c h1 h2 => hr j l c h1 (by simpa using h2)⟩

theorem argL_of {cx : Cx} {w : World} {n : Nat} {l : L cx.ty} {u : Value} (h0 : LeafOk l) (h : RepL cx w (Lent w) n l u) : ArgL cx w (Lent w) l u := by
  rcases h0 with ⟨v, rfl⟩ | ⟨s, rfl, hs⟩
  · cases n <;> exact h
  · exact ⟨hs, n, h⟩

/-- A struct that came in. -/
theorem arg_struct {P : Program} {cx : Cx} {t : TypeId} {T : Type} {enc : T → List (L cx.ty)} {good : T → Prop} (h : Opens P cx t enc good) {H : Type} {e' : TypeId × Value → H} {w : World} {spare : Nat → Bool} {held : Bool} {fuel : Nat} {cs : Array Value} {x : DataW H × List MemPlace}
    (hx : DataW.trod e' P w 0 spare held fuel t cs.toList = some x) : ∃ y : T, good y ∧ ArgA cx w (Lent w) (.inr (enc y)) (.agg cs) := by
  obtain ⟨y, hy, hlen, hlf, n, hr⟩ := h H e' w spare held fuel _ x hx
  exact ⟨y, hy, cs.toList, by simp, hlen, fun j a u h1 h2 => argL_of (hlf a (List.mem_of_getElem? h1)) (hr j a u h1 h2)⟩

theorem agg_of_wide {P : Program} {w : World} {r : Reach} {base : Nat} {t : TypeId} {v : Value} {fs : Array Field} (ht : P.underlying t = some (.struct fs)) (h : Value.okWide P w r base t v) : ∃ cs, v = .agg cs := by
  unfold Value.okWide at h
  rw [ht] at h
  obtain ⟨cs, hv, _⟩ := h
  exact ⟨cs, hv⟩
end Go.VM

namespace Go.VM
open Go Go.RowKit

/-! ### Structs whose fields may have several cells -/
end Go.VM
