/- A part of the proof of FnExactMailFault: LgPt, LgPu. -/
import Derived.Test.YtdnjjhambjafoaaGreatLgPc
import Derived.Test.YtdnjjhambjafoaaGreatVmPl
set_option maxHeartbeats 0
set_option linter.unusedVariables false
set_option linter.unusedSimpArgs false
namespace Go.Proofs.Tryz
open Go Go.VM Go.RowKit

/-! ### Mails: what laws do with them -/
abbrev Ml := Int × Int × Int × Int × Int × Int × Int × Bool × List En
instance decM1 : DecidableEq (Bool × List En) := inferInstance
instance decM2 : DecidableEq (Int × Bool × List En) := instDecidableEqProd
instance decM3 : DecidableEq (Int × Int × Bool × List En) := instDecidableEqProd
instance decM4 : DecidableEq (Int × Int × Int × Bool × List En) := instDecidableEqProd
instance decM5 : DecidableEq (Int × Int × Int × Int × Bool × List En) := instDecidableEqProd
instance decM6 : DecidableEq (Int × Int × Int × Int × Int × Bool × List En) := instDecidableEqProd
instance decM7 : DecidableEq (Int × Int × Int × Int × Int × Int × Bool × List En) := instDecidableEqProd
instance decMl : DecidableEq Ml := (instDecidableEqProd : DecidableEq (Int × Int × Int × Int × Int × Int × Int × Bool × List En))
def enM (x : Ml) : List En := x.2.2.2.2.2.2.2.2
def m20 (x : Ml × Ml) : Option Bool := if (enM x.1).length ≤ mid then some (decide (x.1 = x.2)) else none
theorem bifeqB {a b : Bool} {o : Option Bool} {p : Prop} [Decidable p] (h : a = b → o = some (decide p)) (h2 : ¬ a = b → ¬ p) : (bif !(a == b) then some false else o) = some (decide p) := by
  by_cases hp : a = b
  · rw [show (a == b) = true by simpa using hp]; exact h hp
  · rw [show (a == b) = false by simpa using hp, df (h2 hp)]; rfl
theorem sat20 : Sat prog cxT 20 (c20 m20) := s20 m57 sat57 m20 fun x t h => by
  obtain ⟨⟨a, b, c, d, e, f, g, o, l⟩, a', b', c', d', e', f', g', o', l'⟩ := x
  unfold m20 at h
  split at h
  · rename_i hc
    cases h
    have hc : l.length ≤ 1000000000 := hc
    refine ⟨0, ?_⟩
    show g20 m57 0 a b c d e f g o l a' b' c' d' e' f' g' o' l' = _
    unfold g20
    rw [show m57 (l, l') = some (decide (l = l')) from if_pos (by simp only; omega), tst_some]
    refine bifeq (fun e1 => bifeq (fun e2 => bifeq (fun e3 => bifeq (fun e4 => bifeq (fun e5 => bifeq (fun e6 => bifeq (fun e7 => bifeqB (fun e8 => bifeq2 (fun e9 => ?_) ?_) ?_) ?_) ?_) ?_) ?_) ?_) ?_) ?_
    · subst e1 e2 e3 e4 e5 e6 e7 e8 e9; simp
    all_goals intro e h; simp only [Prod.mk.injEq] at h; obtain ⟨q1, q2, q3, q4, q5, q6, q7, q8, q9⟩ := h; first | exact e q1 | exact e q2 | exact e q3 | exact e q4 | exact e q5 | exact e q6 | exact e q7 | exact e q8 | exact e q9
  · cases h
def enOk (l : List Ml) : Prop := ∀ x ∈ l, (enM x).length ≤ mid
instance (l : List Ml) : Decidable (enOk l) := by unfold enOk; infer_instance
/-! ### Marks of mails -/
def mkM (x : Ml) (v : Int) : Ml := (v, v + 1, v + 2, v + 3, v + 4, v + 5, v + 6, (Int.tmod (v + 7) 3 == 0), mkR mkE 9 (enM x).length (v + 8))
def wM (x : Ml) : Int := 8 + 9 * ((enM x).length : Int)
/-- Mails that were marked hold their marks. -/
def hdM (x : List Ml × Int) : Prop := x.1.length ≤ 1000000000 ∧ 0 ≤ x.2 ∧ x.2 + sumW wM x.1 ≤ 1000000000 ∧ x.1 = mkV mkM wM x.1 x.2
instance (x : List Ml × Int) : Decidable (hdM x) := by unfold hdM; infer_instance
end Go.Proofs.Tryz

set_option maxHeartbeats 0
set_option linter.unusedVariables false
set_option linter.unusedSimpArgs false
namespace Go.Proofs.Tryz
open Go Go.VM Go.RowKit

/-! ### Answers that bear a node -/
abbrev Nr := Int × Int × Int × Int × Int × List En × Int × Int × List Int × List Int × List Int × List Ml
def ndR (r : Nr) : Nd := (r.2.1, r.2.2.1, r.2.2.2.1, r.2.2.2.2.1, r.2.2.2.2.2.1, r.2.2.2.2.2.2.1, r.2.2.2.2.2.2.2.1, r.2.2.2.2.2.2.2.2.1, r.2.2.2.2.2.2.2.2.2.1, r.2.2.2.2.2.2.2.2.2.2.1)
def sdR (r : Nr) : List Ml := r.2.2.2.2.2.2.2.2.2.2.2
def nrOk (r : Nr) : Prop := nLen (ndR r) 100000000 ∧ (sdR r).length ≤ 1000000000 ∧ enOk (sdR r) ∧ k4 (ndR r) 1 + sumW wM (sdR r) ≤ 1000000000
instance (r : Nr) : Decidable (nrOk r) := by unfold nrOk; infer_instance
instance decR1 : DecidableEq (List Int × List Ml) := inferInstance
instance decR2 : DecidableEq (List Int × List Int × List Ml) := instDecidableEqProd
instance decR3 : DecidableEq (List Int × List Int × List Int × List Ml) := instDecidableEqProd
instance decR4 : DecidableEq (Int × List Int × List Int × List Int × List Ml) := instDecidableEqProd
instance decR5 : DecidableEq (Int × Int × List Int × List Int × List Int × List Ml) := instDecidableEqProd
instance decR6 : DecidableEq (List En × Int × Int × List Int × List Int × List Int × List Ml) := instDecidableEqProd
instance decR7 : DecidableEq (Int × List En × Int × Int × List Int × List Int × List Int × List Ml) := instDecidableEqProd
instance decR8 : DecidableEq (Int × Int × List En × Int × Int × List Int × List Int × List Int × List Ml) := instDecidableEqProd
instance decR9 : DecidableEq (Int × Int × Int × List En × Int × Int × List Int × List Int × List Int × List Ml) := instDecidableEqProd
instance decR10 : DecidableEq (Int × Int × Int × Int × List En × Int × Int × List Int × List Int × List Int × List Ml) := instDecidableEqProd
instance decNr : DecidableEq Nr := (instDecidableEqProd : DecidableEq (Int × Int × Int × Int × Int × List En × Int × Int × List Int × List Int × List Int × List Ml))
def hdR (r : Nr) : Prop := nrOk r ∧ ndR r = mkN (ndR r) 1 ∧ sdR r = mkV mkM wM (sdR r) (k4 (ndR r) 1)
instance (r : Nr) : Decidable (hdR r) := by unfold hdR; infer_instance
/-! ### A node that has just begun -/
end Go.Proofs.Tryz
