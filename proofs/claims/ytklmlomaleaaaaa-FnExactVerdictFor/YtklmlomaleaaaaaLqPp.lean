/- A part of the proof of FnExactVerdictFor: LqPp, LqQd, LqQe. -/
import Derived.Test.YtklmlomaleaaaaaLqQa
set_option linter.unusedVariables false
set_option maxHeartbeats 0
set_option linter.unusedVariables false
set_option linter.unusedSimpArgs false
namespace Go.Proofs.Try
open Go Go.VM Go.RowKit

/-! Draws -/
abbrev Src := List Int × Int
def okR (s : Src) (b : Int) : Prop := okB s.1 = true ∧ s.1.length ≤ 1048576 ∧ 0 ≤ s.2 ∧ s.2 ≤ b
instance (s : Src) (b : Int) : Decidable (okR s b) := by unfold okR; infer_instance
theorem okR.add {s : Src} {b : Int} (h : okR s b) {k : Int} (hk : 0 ≤ k) : okR (s.1, s.2 + k) (b + k) := by
  obtain ⟨h1, h2, h3, h4⟩ := h
  exact ⟨h1, h2, by simp only; omega, by simp only; omega⟩

def okS (c : List Int) : Prop := okB c = true ∧ c.length ≤ 1048576
instance (c : List Int) : Decidable (okS c) := by unfold okS; infer_instance
theorem okS.src {c : List Int} (h : okS c) : okR (c, 0) 0 := ⟨h.1, h.2, Int.le_refl _, Int.le_refl _⟩
end Go.Proofs.Try

set_option maxHeartbeats 0
set_option linter.unusedVariables false
set_option linter.unusedSimpArgs false
namespace Go.Proofs.Try
open Go Go.VM Go.RowKit

/-! ### Draws: each of them comes to something -/
section
variable {β : Type} {Q : β → Prop} {c : List Int} {a b n : Int}
end
end Go.Proofs.Try

set_option linter.unusedVariables false
set_option linter.unusedSimpArgs false
namespace Go.Proofs.Try
open Go Go.VM Go.RowKit

theorem lt_of_at {W : World} {b : Nat} {o : Obj} (h : W.heap[b]? = some o) : b < W.heap.size := (Array.getElem?_eq_some_iff.1 h).1
/-- The source's box. -/
def Bx (W : World) (g : Nat) (c : List Int) (a : Int) : Prop := ∃ cur t, W.heap[g]? = some (.cells cur t (0, 0)) ∧ ArgA cxT W (fun b => b < W.heap.size ∧ b ≠ g) (.inr [ls (ro 5 c), lv (.int .i64 a)]) (.agg cur)
theorem argA_mono {W W' : World} {S S' : Nat → Prop} {c : List Int} {a : Int} {cur : Array Value} (hw : ∀ b, S b → W'.heap[b]? = W.heap[b]?) (hS : ∀ b, S b → S' b) (h : ArgA cxT W S (.inr [ls (ro 5 c), lv (.int .i64 a)]) (.agg cur)) :
    ArgA cxT W' S' (.inr [ls (ro 5 c), lv (.int .i64 a)]) (.agg cur) := by
  obtain ⟨us, hu, hl, h⟩ := h
  refine ⟨us, hu, hl, fun j x u e1 e2 => ?_⟩
  have := h j x u e1 e2
  match j with
  | 0 =>
    simp only [List.getElem?_cons_zero, Option.some.injEq] at e1
    subst e1
    obtain ⟨h1, n, h2⟩ := this
    exact ⟨h1, n, RepL_mono cxT hw hS _ _ _ h2⟩
  | 1 =>
    simp only [List.getElem?_cons_succ, List.getElem?_cons_zero, Option.some.injEq] at e1
    subst e1
    exact this
  | j + 2 => simp at e1
theorem Bx.drew {W : World} {g : Nat} {c : List Int} {a : Int} (h : Bx W g c a) : Bx W.drew g c a := by
  obtain ⟨cur, t, h1, h2⟩ := h
  exact ⟨cur, t, h1, argA_mono (W := W) (W' := W.drew) (S := fun b => b < W.heap.size ∧ b ≠ g) (S' := fun b => b < W.drew.heap.size ∧ b ≠ g) (fun _ _ => rfl) (fun _ h => h) h2⟩
theorem Bx.alloc {W : World} {g : Nat} {c : List Int} {a : Int} (h : Bx W g c a) (o : Obj) : Bx (W.alloc o) g c a := by
  obtain ⟨cur, t, h1, h2⟩ := h
  have hb := (Below.refl W.heap.size W).alloc (Nat.le_refl _) o
  have hs : W.heap.size ≤ (W.alloc o).heap.size := hb.size
  exact ⟨cur, t, (hb.block g (lt_of_at h1)).trans h1, argA_mono (W := W) (W' := W.alloc o) (fun b hh => hb.block b hh.1) (fun b hh => ⟨Nat.lt_of_lt_of_le hh.1 hs, hh.2⟩) h2⟩
section
attribute [local go_sem] Oper.semAt_some
end
/-! spec.DrawProbeHealth -/
/-! The law FnHealths -/
end Go.Proofs.Try
