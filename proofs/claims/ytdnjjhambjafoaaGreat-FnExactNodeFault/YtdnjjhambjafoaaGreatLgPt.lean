/- A part of the proof of FnExactNodeFault: LgPt, LgPu. -/
import Derived.Test.YtdnjjhambjafoaaGreatLgPc
import Derived.Test.YtdnjjhambjafoaaGreatVmPl
set_option maxHeartbeats 0
set_option linter.unusedVariables false
set_option linter.unusedSimpArgs false
namespace Go.Proofs.Tryz
open Go Go.VM Go.RowKit

/-! ### Mails: what laws do with them -/
abbrev Ml := Int × Int × Int × Int × Int × Int × Int × Bool × List En
instance decM1 : DecidableEq (Bool × List En) := inferInstance
instance decM2 : DecidableEq (Int × Bool × List En) := instDecidableEqProd
instance decM3 : DecidableEq (Int × Int × Bool × List En) := instDecidableEqProd
instance decM4 : DecidableEq (Int × Int × Int × Bool × List En) := instDecidableEqProd
instance decM5 : DecidableEq (Int × Int × Int × Int × Bool × List En) := instDecidableEqProd
instance decM6 : DecidableEq (Int × Int × Int × Int × Int × Bool × List En) := instDecidableEqProd
instance decM7 : DecidableEq (Int × Int × Int × Int × Int × Int × Bool × List En) := instDecidableEqProd
instance decMl : DecidableEq Ml := (instDecidableEqProd : DecidableEq (Int × Int × Int × Int × Int × Int × Int × Bool × List En))
def enM (x : Ml) : List En := x.2.2.2.2.2.2.2.2
def enOk (l : List Ml) : Prop := ∀ x ∈ l, (enM x).length ≤ mid
instance (l : List Ml) : Decidable (enOk l) := by unfold enOk; infer_instance
/-! ### Marks of mails -/
def mkM (x : Ml) (v : Int) : Ml := (v, v + 1, v + 2, v + 3, v + 4, v + 5, v + 6, (Int.tmod (v + 7) 3 == 0), mkR mkE 9 (enM x).length (v + 8))
def wM (x : Ml) : Int := 8 + 9 * ((enM x).length : Int)
/-- Mails that were marked hold their marks. -/
def hdM (x : List Ml × Int) : Prop := x.1.length ≤ 1000000000 ∧ 0 ≤ x.2 ∧ x.2 + sumW wM x.1 ≤ 1000000000 ∧ x.1 = mkV mkM wM x.1 x.2
instance (x : List Ml × Int) : Decidable (hdM x) := by unfold hdM; infer_instance
end Go.Proofs.Tryz

set_option maxHeartbeats 0
set_option linter.unusedVariables false
set_option linter.unusedSimpArgs false
namespace Go.Proofs.Tryz
open Go Go.VM Go.RowKit

/-! ### Answers that bear a node -/
abbrev Nr := Int × Int × Int × Int × Int × List En × Int × Int × List Int × List Int × List Int × List Ml
def ndR (r : Nr) : Nd := (r.2.1, r.2.2.1, r.2.2.2.1, r.2.2.2.2.1, r.2.2.2.2.2.1, r.2.2.2.2.2.2.1, r.2.2.2.2.2.2.2.1, r.2.2.2.2.2.2.2.2.1, r.2.2.2.2.2.2.2.2.2.1, r.2.2.2.2.2.2.2.2.2.2.1)
def sdR (r : Nr) : List Ml := r.2.2.2.2.2.2.2.2.2.2.2
def nrOk (r : Nr) : Prop := nLen (ndR r) 100000000 ∧ (sdR r).length ≤ 1000000000 ∧ enOk (sdR r) ∧ k4 (ndR r) 1 + sumW wM (sdR r) ≤ 1000000000
instance (r : Nr) : Decidable (nrOk r) := by unfold nrOk; infer_instance
instance decR1 : DecidableEq (List Int × List Ml) := inferInstance
instance decR2 : DecidableEq (List Int × List Int × List Ml) := instDecidableEqProd
instance decR3 : DecidableEq (List Int × List Int × List Int × List Ml) := instDecidableEqProd
instance decR4 : DecidableEq (Int × List Int × List Int × List Int × List Ml) := instDecidableEqProd
instance decR5 : DecidableEq (Int × Int × List Int × List Int × List Int × List Ml) := instDecidableEqProd
instance decR6 : DecidableEq (List En × Int × Int × List Int × List Int × List Int × List Ml) := instDecidableEqProd
instance decR7 : DecidableEq (Int × List En × Int × Int × List Int × List Int × List Int × List Ml) := instDecidableEqProd
instance decR8 : DecidableEq (Int × Int × List En × Int × Int × List Int × List Int × List Int × List Ml) := instDecidableEqProd
instance decR9 : DecidableEq (Int × Int × Int × List En × Int × Int × List Int × List Int × List Int × List Ml) := instDecidableEqProd
instance decR10 : DecidableEq (Int × Int × Int × Int × List En × Int × Int × List Int × List Int × List Int × List Ml) := instDecidableEqProd
instance decNr : DecidableEq Nr := (instDecidableEqProd : DecidableEq (Int × Int × Int × Int × Int × List En × Int × Int × List Int × List Int × List Int × List Ml))
def hdR (r : Nr) : Prop := nrOk r ∧ ndR r = mkN (ndR r) 1 ∧ sdR r = mkV mkM wM (sdR r) (k4 (ndR r) 1)
instance (r : Nr) : Decidable (hdR r) := by unfold hdR; infer_instance
/-! ### A node that has just begun -/
end Go.Proofs.Tryz
