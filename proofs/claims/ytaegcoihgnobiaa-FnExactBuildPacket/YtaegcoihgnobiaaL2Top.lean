/- A part of the proof of FnExactBuildPacket: L2Top. -/
import Derived.Test.YtaegcoihgnobiaaVmOpen
import Derived.Test.YtaegcoihgnobiaaL2Pa
namespace Go.Proofs.Try
open Go Go.VM Go.RowKit

theorem cells2 : prog.cellsOf 2 = 1 := by kernel_rfl
theorem cells5 : prog.cellsOf 5 = 1 := by kernel_rfl
theorem cells22 : prog.cellsOf 22 = 1 := by kernel_rfl
theorem cells34 : prog.cellsOf 34 = 6 := by kernel_rfl
def i64In (x : Int) : Prop := (Lit.int .i64 x).wf = true
def rowIn (x : List Int) : Prop := x.length ≤ maxLen ∧ ∀ y ∈ x, (Lit.int .u8 y).wf = true
def row5 (xs : List Int) : L cxT.ty := some (.inr (ro 5 xs))
theorem opR : Opens prog cxT 22 (fun x : List Int => [row5 x]) rowIn :=
  opens_slice (cx := cxT) (e := 5) (good := fun y : Int => (Lit.int .u8 y).wf = true) underlying22 cells5 (by decide) cxT_ok (opens_int (cx := cxT) underlying5)
def encP (p : Pk) : List (L cxT.ty) := [lv (.int .i64 p.1), lv (.int .i64 p.2.1), lv (.int .i64 p.2.2.1), lv (.int .i64 p.2.2.2.1), lv (.int .i64 p.2.2.2.2.1), row5 p.2.2.2.2.2]
def opP_good (p : Pk) : Prop := i64In p.1 ∧ i64In p.2.1 ∧ i64In p.2.2.1 ∧ i64In p.2.2.2.1 ∧ i64In p.2.2.2.2.1 ∧ rowIn p.2.2.2.2.2
theorem opP : Opens prog cxT 34 encP opP_good :=
  opens_struct underlying34 cells34 (opensF_cons (opens_int underlying2) rfl cells2 (opensF_cons (opens_int underlying2) rfl cells2 (opensF_cons (opens_int underlying2) rfl cells2 (opensF_cons (opens_int underlying2) rfl cells2 (opensF_cons (opens_int underlying2) rfl cells2 (opensF_one (l := row5) opR rfl cells22))))))
end Go.Proofs.Try
