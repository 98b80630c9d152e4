/- A part of the proof of FnExactVerdictFor: LqTop, LqTopC. -/
import Derived.Test.YtklmlomaleaaaaaVmOpen
import Derived.Test.YtklmlomaleaaaaaVmJ
import Derived.Test.YtklmlomaleaaaaaLqPp
set_option linter.unusedVariables false
set_option maxHeartbeats 0
set_option linter.unusedVariables false
set_option linter.unusedSimpArgs false
namespace Go.Proofs.Try
open Go Go.VM Go.RowKit

theorem cells2 : prog.cellsOf 2 = 1 := by kernel_rfl
theorem cells4 : prog.cellsOf 4 = 1 := by kernel_rfl
theorem cells82 : prog.cellsOf 82 = 4 := by kernel_rfl
def i64In (x : Int) : Prop := (Lit.int .i64 x).wf = true
def vd_good (x : Vd) : Prop := i64In x.1 ∧ i64In x.2.1 ∧ True ∧ i64In x.2.2.2
set_option maxRecDepth 100000 in
theorem opVd : Opens prog cxT 82 (fun x : Vd => [lv (.int .i64 x.1), lv (.int .i64 x.2.1), lv (.bool x.2.2.1), lv (.int .i64 x.2.2.2)]) vd_good :=
  opens_struct underlying82 cells82 (opensF_cons (opens_int underlying2) rfl cells2 (opensF_cons (opens_int underlying2) rfl cells2 (opensF_cons (opens_bool underlying4) rfl cells4 (opensF_one (l := fun x : Int => lv (.int .i64 x)) (opens_int underlying2) rfl cells2))))
def opV_good (x : List Vd) : Prop := x.length ≤ maxLen ∧ ∀ y ∈ x, vd_good y
def row82 (xs : List Vd) : L cxT.ty := some (.inr (ro 82 xs))
set_option maxRecDepth 100000 in
theorem opV : Opens prog cxT 38 (fun x : List Vd => [row82 x]) opV_good :=
  opens_slice (cx := cxT) (e := 82) (good := vd_good) underlying38 cells82 (by decide) cxT_ok opVd
theorem len_top {n : Nat} (h : n ≤ maxLen) : n ≤ top := Nat.le_trans h (by decide)
end Go.Proofs.Try

namespace Go.Proofs.Try
open Go Go.VM Go.RowKit

end Go.Proofs.Try
