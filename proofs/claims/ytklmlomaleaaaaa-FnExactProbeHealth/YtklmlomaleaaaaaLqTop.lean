/- A part of the proof of FnExactProbeHealth: LqTop, LqTopC. -/
import Derived.Test.YtklmlomaleaaaaaVmOpen
import Derived.Test.YtklmlomaleaaaaaVmJ
import Derived.Test.YtklmlomaleaaaaaLqPp
set_option maxHeartbeats 0
set_option linter.unusedVariables false
set_option linter.unusedSimpArgs false
namespace Go.Proofs.Try
open Go Go.VM Go.RowKit

theorem cells2 : prog.cellsOf 2 = 1 := by kernel_rfl
theorem cells4 : prog.cellsOf 4 = 1 := by kernel_rfl
theorem cells23 : prog.cellsOf 23 = 3 := by kernel_rfl
def i64In (x : Int) : Prop := (Lit.int .i64 x).wf = true
def opH_good (h : Hl) : Prop := i64In h.1 ∧ True ∧ i64In h.2.2
def encH (h : Hl) : List (L cxT.ty) := [lv (.int .i64 h.1), lv (.bool h.2.1), lv (.int .i64 h.2.2)]
set_option maxRecDepth 100000 in
theorem opH : Opens prog cxT 23 encH opH_good :=
  opens_struct underlying23 cells23 (opensF_cons (opens_int underlying2) rfl cells2 (opensF_cons (l := fun x : Bool => lv (.bool x)) (opens_bool underlying4) rfl cells4 (opensF_one (l := fun x : Int => lv (.int .i64 x)) (opens_int underlying2) rfl cells2)))
end Go.Proofs.Try

namespace Go.Proofs.Try
open Go Go.VM Go.RowKit

end Go.Proofs.Try
