/- A part of the proof of FnExactCmdFault: L5Top. -/
import Derived.Test.YtfncedbejffggaaVmOpen
import Derived.Test.YtfncedbejffggaaL5Pe
namespace Go.Proofs.Try
open Go Go.VM Go.RowKit

theorem cells2 : prog.cellsOf 2 = 1 := by kernel_rfl
def i64In (x : Int) : Prop := (Lit.int .i64 x).wf = true
theorem cells56 : prog.cellsOf 56 = 6 := by kernel_rfl
def opM_good (f : Int × Int × Int × Int × Int × Int) : Prop := i64In f.1 ∧ i64In f.2.1 ∧ i64In f.2.2.1 ∧ i64In f.2.2.2.1 ∧ i64In f.2.2.2.2.1 ∧ i64In f.2.2.2.2.2
def encM (f : Int × Int × Int × Int × Int × Int) : List (L cxT.ty) := [lv (.int .i64 f.1), lv (.int .i64 f.2.1), lv (.int .i64 f.2.2.1), lv (.int .i64 f.2.2.2.1), lv (.int .i64 f.2.2.2.2.1), lv (.int .i64 f.2.2.2.2.2)]
set_option maxRecDepth 100000 in
theorem opM : Opens prog cxT 56 encM opM_good :=
  opens_struct underlying56 cells56 (opensF_cons (opens_int underlying2) rfl cells2 (opensF_cons (opens_int underlying2) rfl cells2 (opensF_cons (opens_int underlying2) rfl cells2 (opensF_cons (opens_int underlying2) rfl cells2 (opensF_cons (opens_int underlying2) rfl cells2 (opensF_one (l := fun x : Int => lv (.int .i64 x)) (opens_int underlying2) rfl cells2))))))
end Go.Proofs.Try
