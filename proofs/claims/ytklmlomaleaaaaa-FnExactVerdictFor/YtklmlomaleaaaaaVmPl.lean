/- A part of the proof of FnExactVerdictFor: VmPl, VmPm, VmPn. -/
import Derived.Test.YtklmlomaleaaaaaVmJ
set_option linter.unusedVariables false
namespace Go.VM
open Go

/-! ### Loops that laws and programs share: plain forms -/
section
variable {α : Type}

theorem getD_at (d : α) {a : List α} {i : Nat} (h : i < a.length) : a.getD i d = a[i] := by simp [List.getD, List.getElem?_eq_getElem h]
theorem getD_mem (d : α) {a : List α} {i : Nat} (h : i < a.length) : a.getD i d ∈ a := by rw [getD_at d h]; exact List.getElem_mem h
/-- Two rows held against each other, piece by piece. -/
def eqL (d : α) (f : α × α → Option Bool) (a b : List α) : Nat → Int → Option Bool → Option Bool
  | 0, _, _ => none
  | n + 1, i, k => bif decide (i < (Nat.cast a.length : Int)) then bif (decide ((0 : Int) ≤ i) && decide (i < (Nat.cast a.length : Int))) then bif (decide ((0 : Int) ≤ i) && decide (i < (Nat.cast b.length : Int))) then
      tst (f (a.getD i.toNat d, b.getD i.toNat d)) false fun q => bif !q then some false else eqL d f a b n (IntKind.wrap .i64 (i + 1)) k
    else none else none else k
theorem eqL_ok [DecidableEq α] (d : α) (f : α × α → Option Bool) (a b : List α) (hl : a.length = b.length) (ha : a.length ≤ 1000000000000000000) (hf : ∀ x ∈ a, ∀ y ∈ b, f (x, y) = some (decide (x = y))) (k : Option Bool) :
    ∀ (n i : Nat), i ≤ a.length → a.length < n + i → eqL d f a b n i k = if a.drop i = b.drop i then k else some false
  | 0, i, h2, h3 => by omega
  | n + 1, i, h2, h3 => by
    unfold eqL
    by_cases hi : i < a.length
    · simp (disch := omega) only [dt, wi, cond_true, Bool.and_self, Int.toNat_natCast]
      rw [hf _ (getD_mem d hi) _ (getD_mem d (by omega)), tst_some, drop_cons d hi, drop_cons d (show i < b.length by omega)]
      have := eqL_ok d f a b hl ha hf k n (i + 1) (by omega) (by omega)
      rw [show (i : Int) + 1 = ((i + 1 : Nat) : Int) from rfl, this]
      by_cases hx : a.getD i d = b.getD i d
      · rw [hx]; simp
      · rw [dt_not hx, if_neg (fun h => hx (List.cons.inj h).1)]; rfl
    · simp (disch := omega) only [df, cond_false]
      rw [List.drop_eq_nil_of_le (by omega), List.drop_eq_nil_of_le (by omega)]
      simp
where dt_not {x y : α} (h : ¬ x = y) : (!decide (x = y)) = true := by simp [h]

/-- A row copied piece by piece. -/
def toL (d : α) (f : α → Option α) (a : List α) : Nat → List α → Int → (List α → Option (List α)) → Option (List α)
  | 0, _, _, _ => none
  | n + 1, o, i, k => bif decide (i < (Nat.cast a.length : Int)) then bif (decide ((0 : Int) ≤ i) && decide (i < (Nat.cast a.length : Int))) then tst (f (a.getD i.toNat d)) d fun q =>
      bif (decide ((0 : Int) ≤ i) && decide (i < (Nat.cast o.length : Int))) then toL d f a n (o.set i.toNat q) (IntKind.wrap .i64 (i + 1)) k else none else none else k o
theorem toL_ok (d : α) (f : α → Option α) (a : List α) (ha : a.length ≤ 1000000000000000000) (hf : ∀ x ∈ a, f x = some x) (k : List α → Option (List α)) :
    ∀ (n i : Nat) (o : List α), o.length = a.length → i ≤ a.length → a.length < n + i → o.take i = a.take i → toL d f a n o i k = k a
  | 0, i, o, _, h2, h3, _ => by omega
  | n + 1, i, o, h1, h2, h3, h4 => by
    unfold toL
    by_cases hi : i < a.length
    · simp (disch := omega) only [dt, wi, cond_true, Bool.and_self, Int.toNat_natCast]
      rw [hf _ (getD_mem d hi), tst_some, show (i : Int) + 1 = ((i + 1 : Nat) : Int) from rfl]
      refine toL_ok d f a ha hf k n (i + 1) _ (by rw [List.length_set]; exact h1) (by omega) (by omega) ?_
      rw [List.take_add_one, List.take_add_one, List.take_set_of_le (Nat.le_refl _), h4]
      congr 1
      rw [List.getElem?_set_self (by omega), List.getElem?_eq_getElem hi, getD_at d hi]
    · simp (disch := omega) only [df, cond_false]
      have hil : i = a.length := by omega
      rw [hil, List.take_length, ← h1, List.take_length] at h4
      rw [h4]

/-- Sizes taken away piece by piece; -1: too much. -/
def szv (acc w : Int) : Int := if acc - w < 0 then -1 else acc - w
end

end Go.VM

namespace Go.VM
open Go

/-! ### Marks, and how far two rows are alike: plain forms -/
end Go.VM

set_option linter.unusedVariables false
set_option linter.unusedSimpArgs false
namespace Go.VM
open Go Go.RowKit
/-! ### Marks whose number hangs on the element -/
end Go.VM
