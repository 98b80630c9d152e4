/- A part of the proof of FnExactVerdictFor: VmOpen, VmOpen2. -/
import Derived.Test.YtklmlomaleaaaaaVmJ
import Derived.ProofKit
set_option linter.unusedVariables false
namespace Go.VM
open Go Go.RowKit

/-! ### What comes in, opened -/
def LeafOk {ty : Nat → Type} (l : L ty) : Prop := (∃ v, l = lv v) ∨ ∃ s : SlD ty, l = ls s ∧ s.own = 0

def Opens (P : Program) (cx : Cx) (t : TypeId) {T : Type} (enc : T → List (L cx.ty)) (good : T → Prop) : Prop :=
  ∀ (H : Type) (e' : TypeId × Value → H) (w : World) (spare : Nat → Bool) (held : Bool) (fuel : Nat) (cs : List Value) (x : DataW H × List MemPlace), DataW.trod e' P w 0 spare held fuel t cs = some x →
    ∃ y : T, good y ∧ cs.length = (enc y).length ∧ (∀ l ∈ enc y, LeafOk l) ∧ ∃ n, ∀ (j : Nat) l c, (enc y)[j]? = some l → cs[j]? = some c → RepL cx w (Lent w) n l c

theorem opens_int {P : Program} {cx : Cx} {t : TypeId} {k : IntKind} (ht : P.underlying t = some (.int k)) : Opens P cx t (fun x : Int => [lv (.int k x)]) (fun x => (Lit.int k x).wf = true) := by
  intro H e' w spare held fuel cs x h
  obtain ⟨n, rfl, _, hw⟩ := DataW.trod_int ht h
  refine ⟨n, hw, rfl, fun l hl => .inl ⟨_, by simpa using hl⟩, 0, fun j l c h1 h2 => ?_⟩
  cases j with
  | zero =>
    simp only [List.getElem?_cons_zero, Option.some.injEq] at h1 h2
    subst h1; subst h2
    rfl
  | succ j => simp at h1

theorem opens_bool {P : Program} {cx : Cx} {t : TypeId} (ht : P.underlying t = some .bool) : Opens P cx t (fun x : Bool => [lv (.bool x)]) (fun _ => True) := by
  intro H e' w spare held fuel cs x h
  obtain ⟨n, rfl, _⟩ := DataW.trod_bool ht h
  refine ⟨n, trivial, rfl, fun l hl => .inl ⟨_, by simpa using hl⟩, 0, fun j l c h1 h2 => ?_⟩
  cases j with
  | zero =>
    simp only [List.getElem?_cons_zero, Option.some.injEq] at h1 h2
    subst h1; subst h2
    rfl
  | succ j => simp at h1

theorem cells?_get {w : World} {a : Addr} {n : Nat} {cs : List Value} (h : w.cells? 0 a n = some cs) : cs.length = n ∧ ∀ (j : Nat) c, cs[j]? = some c → w.cell? (a.add j) = some c := by
  have h1 := World.cells?_some h
  refine ⟨h1.2.1, fun j c hj => ?_⟩
  have hl : j < n := by rw [← h1.2.1]; exact (List.getElem?_eq_some_iff.1 hj).1
  have := h1.2.2 j hl
  rw [this]; exact hj

theorem opens_slice {P : Program} {cx : Cx} {t e : TypeId} (ht : P.underlying t = some (.slice e)) (hc : P.cellsOf e = cx.size e) (hpos : 0 < cx.size e) (ok : cx.Ok) {good : cx.ty e → Prop} (he : Opens P cx e (cx.enc e false) good) :
    Opens P cx t (fun x : List (cx.ty e) => [ls (ro e x)]) (fun x => x.length ≤ maxLen ∧ ∀ y ∈ x, good y) := by
  intro H e' w spare held fuel cs x h
  rcases DataW.trod_slice ht h with ⟨rfl, _⟩ | ⟨a, len, cap, elems, rest, n, _, rfl, _, _, hl, hm, hlen, hel, _, _⟩
  · refine ⟨[], ⟨Nat.zero_le _, by simp⟩, rfl, fun l hl => .inr ⟨_, by simpa using hl, rfl⟩, 1, fun j l c h1 h2 => ?_⟩
    cases j with
    | zero =>
      simp only [List.getElem?_cons_zero, Option.some.injEq] at h1 h2
      subst h1; subst h2
      exact ⟨none, 0, rfl, Nat.le_refl _, .inl rfl⟩
    | succ j => simp at h1
  · have each : ∀ i, i < len → ∃ y : cx.ty e, good y ∧ ∃ m, ∀ (j : Nat) l, (cx.enc e false y)[j]? = some l → ∃ c, w.cell? (a.add (i * cx.size e + j)) = some c ∧ RepL cx w (Lent w) m l c := by
      intro i hi
      have h0 := hel i hi
      rw [List.getElem?_eq_getElem (by omega)] at h0
      obtain ⟨cs', hcs, hx⟩ := Option.bind_eq_some_iff.1 h0
      obtain ⟨y, hy, hlen', _, m, hr⟩ := he H e' w spare held n cs' _ hx
      obtain ⟨hcl, hcg⟩ := cells?_get hcs
      refine ⟨y, hy, m, fun j l hl => ?_⟩
      have hj : j < cs'.length := by rw [hlen']; exact (List.getElem?_eq_some_iff.1 hl).1
      refine ⟨cs'[j], ?_, hr j l _ hl (List.getElem?_eq_getElem hj)⟩
      have := hcg j _ (List.getElem?_eq_getElem hj)
      rw [hc] at this
      have e : (a.add (i * cx.size e)).add j = a.add (i * cx.size e + j) := by
        by_cases h1 : i * cx.size e = 0 <;> by_cases h2 : j = 0 <;> simp [Addr.add, h1, h2, Nat.add_assoc]
      rw [← e]; exact this
    have all : ∀ k, k ≤ len → ∃ ys : List (cx.ty e), ys.length = k ∧ (∀ y ∈ ys, good y) ∧ ∃ m, ∀ (i : Nat) y, ys[i]? = some y → ∀ (j : Nat) l, (cx.enc e false y)[j]? = some l → ∃ c, w.cell? (a.add (i * cx.size e + j)) = some c ∧ RepL cx w (Lent w) m l c := by
      intro k
      induction k with
      | zero => exact fun _ => ⟨[], rfl, by simp, 0, fun i y h => by simp at h⟩
      | succ k ih =>
        intro hk
        obtain ⟨ys, h1, h2, m, h3⟩ := ih (by omega)
        obtain ⟨y, hy, m2, hr⟩ := each k (by omega)
        refine ⟨ys ++ [y], by simp [h1], fun z hz => ?_, m + m2, fun i z hz j l hl => ?_⟩
        · rcases List.mem_append.1 hz with hz | hz
          · exact h2 z hz
          · simp only [List.mem_singleton] at hz
            subst hz; exact hy
        · by_cases hi : i < ys.length
          · rw [List.getElem?_append_left hi] at hz
            obtain ⟨c, hc1, hc2⟩ := h3 i z hz j l hl
            exact ⟨c, hc1, RepL_up m2 hc2⟩
          · rw [List.getElem?_append_right (by omega)] at hz
            have hik : i = k := by
              have := (List.getElem?_eq_some_iff.1 hz).1
              simp at this
              omega
            have : i - ys.length = 0 := by omega
            rw [this] at hz
            simp only [List.getElem?_cons_zero, Option.some.injEq] at hz
            subst hz
            subst hik
            obtain ⟨c, hc1, hc2⟩ := hr j l hl
            rw [Nat.add_comm m m2]
            exact ⟨c, hc1, RepL_up m hc2⟩
    obtain ⟨ys, h1, h2, m, h3⟩ := all len (Nat.le_refl _)
    refine ⟨ys, ⟨by rw [h1]; omega, h2⟩, rfl, fun l hl => .inr ⟨_, by simpa using hl, rfl⟩, m + 1, fun j l c g1 g2 => ?_⟩
    cases j with
    | zero =>
      simp only [List.getElem?_cons_zero, Option.some.injEq] at g1 g2
      subst g1; subst g2
      refine ⟨some a, cap, by show _ = Value.slice (some a) ys.length cap; rw [h1], by show ys.length ≤ cap; omega, ?_⟩
      by_cases h0 : ys = []
      · exact .inl h0
      · have hp : 0 < ys.length := List.length_pos_iff.2 h0
        obtain ⟨y0, hy0⟩ : ∃ y, ys[0]? = some y := ⟨_, List.getElem?_eq_getElem hp⟩
        have hel0 : 0 < (cx.enc e false y0).length := by rw [ok.len]; exact hpos
        obtain ⟨c0, hc0, _⟩ := h3 0 y0 hy0 0 _ (List.getElem?_eq_getElem hel0)
        have e0 : a.add (0 * cx.size e + 0) = a := by simp [Addr.add]
        rw [e0] at hc0
        have hs := cell_spot hc0
        obtain ⟨b, off, spot⟩ := a
        obtain ⟨rfl, hb⟩ := hs
        refine .inr ⟨b, off, rfl, hb, fun i y hy j l hl => ?_⟩
        obtain ⟨c, hc1, hc2⟩ := h3 i y hy j l hl
        refine ⟨c, ?_, hc2⟩
        show w.cell? ⟨b, off + (i * cx.size e + j), none⟩ = some c
        simpa [Addr.add_lit] using hc1
    | succ j => simp at g1

/-- Fields of one cell each, one behind the other. -/
def OpensF (P : Program) (cx : Cx) (fs : List Field) (off : Nat) {T : Type} (enc : T → List (L cx.ty)) (good : T → Prop) : Prop :=
  ∀ (H : Type) (e' : TypeId × Value → H) (w : World) (spare : Nat → Bool) (held : Bool) (fuel : Nat) (cs : List Value), off + fs.length ≤ cs.length →
    (∀ f ∈ fs, ∃ x, DataW.trod e' P w 0 spare held fuel f.type ((cs.drop f.offset).take (P.cellsOf f.type)) = some x) →
    ∃ y : T, good y ∧ (enc y).length = fs.length ∧ (∀ l ∈ enc y, LeafOk l) ∧ ∃ n, ∀ (j : Nat) l c, (enc y)[j]? = some l → cs[off + j]? = some c → RepL cx w (Lent w) n l c

theorem opensF_one {P : Program} {cx : Cx} {f : Field} {off : Nat} {T : Type} {l : T → L cx.ty} {good : T → Prop} (h : Opens P cx f.type (fun x => [l x]) good) (ho : f.offset = off) (hc : P.cellsOf f.type = 1) : OpensF P cx [f] off (fun x => [l x]) good := by
  intro H e' w spare held fuel cs hl ht
  obtain ⟨x, hx⟩ := ht f (List.mem_singleton.2 rfl)
  obtain ⟨y, hy, hlen, hlf, n, hr⟩ := h H e' w spare held fuel _ x hx
  refine ⟨y, hy, rfl, hlf, n, fun j a c h1 h2 => ?_⟩
  cases j with
  | zero =>
    refine hr 0 a c h1 ?_
    rw [hc, ho, List.getElem?_take, if_pos (by omega), List.getElem?_drop]
    exact h2
  | succ j => simp at h1

theorem opensF_cons {P : Program} {cx : Cx} {f : Field} {fs : List Field} {off : Nat} {T U : Type} {l : T → L cx.ty} {good : T → Prop} {enc : U → List (L cx.ty)} {good2 : U → Prop} (h : Opens P cx f.type (fun x => [l x]) good) (ho : f.offset = off) (hc : P.cellsOf f.type = 1)
    (h2 : OpensF P cx fs (off + 1) enc good2) : OpensF P cx (f :: fs) off (fun x : T × U => l x.1 :: enc x.2) (fun x => good x.1 ∧ good2 x.2) := by
  intro H e' w spare held fuel cs hl ht
  obtain ⟨y, hy, hylen, hlf, n, hr⟩ := opensF_one h ho hc H e' w spare held fuel cs (by simp at hl ⊢; omega) (fun g hg => ht g (by simp at hg; subst hg; exact List.mem_cons_self ..))
  obtain ⟨z, hz, hzlen, hlf2, m, hr2⟩ := h2 H e' w spare held fuel cs (by simp at hl; omega) (fun g hg => ht g (List.mem_cons_of_mem _ hg))
  refine ⟨(y, z), ⟨hy, hz⟩, by simp [hzlen], fun a ha => ?_, n + m, fun j a c h1 h2 => ?_⟩
  · rcases List.mem_cons.1 ha with ha | ha
    · exact hlf a (by simp [ha])
    · exact hlf2 a ha
  · cases j with
    | zero =>
      simp only [List.getElem?_cons_zero, Option.some.injEq] at h1
      subst h1
      exact RepL_up m (hr 0 _ c rfl h2)
    | succ j =>
      rw [Nat.add_comm n m]
      refine RepL_up n (hr2 j a c (by simpa using h1) ?_)
      rw [← h2]
      congr 1
      omega

theorem opens_struct {P : Program} {cx : Cx} {t : TypeId} {fs : Array Field} (ht : P.underlying t = some (.struct fs)) (hc : P.cellsOf t = fs.size) {T : Type} {enc : T → List (L cx.ty)} {good : T → Prop} (h : OpensF P cx fs.toList 0 enc good) : Opens P cx t enc good := by
  intro H e' w spare held fuel cs x hx
  obtain ⟨xs, n, _, _, hcl, hxl, hf⟩ := DataW.trod_struct ht hx
  obtain ⟨y, hy, hylen, hlf, m, hr⟩ := h H e' w spare held n cs (by simp; omega) (fun f hfm => by
    obtain ⟨i, hi⟩ := List.getElem?_of_mem hfm
    have hi2 : fs[i]? = some f := by simpa using hi
    have := hf i f hi2
    have hlt : i < xs.length := by rw [hxl]; exact (Array.getElem?_eq_some_iff.1 hi2).1
    rw [List.getElem?_eq_getElem hlt] at this
    exact ⟨_, this⟩)
  refine ⟨y, hy, by rw [hylen, hcl, hc]; simp, hlf, m, fun j l c h1 h2 => hr j l c h1 (by simpa using h2)⟩

theorem argL_of {cx : Cx} {w : World} {n : Nat} {l : L cx.ty} {u : Value} (h0 : LeafOk l) (h : RepL cx w (Lent w) n l u) : ArgL cx w (Lent w) l u := by
  rcases h0 with ⟨v, rfl⟩ | ⟨s, rfl, hs⟩
  · cases n <;> exact h
  · exact ⟨hs, n, h⟩

/-- A value of one cell that came in. -/
theorem arg_leaf {P : Program} {cx : Cx} {t : TypeId} {T : Type} {l : T → L cx.ty} {good : T → Prop} (h : Opens P cx t (fun y => [l y]) good) {H : Type} {e' : TypeId × Value → H} {w : World} {spare : Nat → Bool} {held : Bool} {fuel : Nat} {v : Value} {x : DataW H × List MemPlace}
    (hx : DataW.trod e' P w 0 spare held fuel t [v] = some x) : ∃ y : T, good y ∧ ArgA cx w (Lent w) (.inl (l y)) v := by
  obtain ⟨y, hy, _, hlf, n, hr⟩ := h H e' w spare held fuel _ x hx
  have hp : isPt (l y) = false := by
    rcases hlf _ (List.mem_singleton.2 rfl) with ⟨v, h⟩ | ⟨s, h, h0⟩
    · rw [h]; rfl
    · rw [h]; simp [ls, isPt, h0]
  exact ⟨y, hy, ArgA.leaf hp (argL_of (hlf _ (List.mem_singleton.2 rfl)) (hr 0 _ _ rfl rfl))⟩

end Go.VM

namespace Go.VM
open Go Go.RowKit

/-! ### Structs whose fields may have several cells -/
end Go.VM
