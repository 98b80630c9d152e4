/- A part of the proof of FnExactHashFlow: L3Top. -/
import Derived.Test.YteiaijhjndielaaVmOpen
import Derived.Test.YteiaijhjndielaaL3Pc
namespace Go.Proofs.Try
open Go Go.VM Go.RowKit

theorem cells2 : prog.cellsOf 2 = 1 := by kernel_rfl
theorem cells5 : prog.cellsOf 5 = 1 := by kernel_rfl
theorem cells22 : prog.cellsOf 22 = 1 := by kernel_rfl
theorem cells42 : prog.cellsOf 42 = 6 := by kernel_rfl
theorem cells48 : prog.cellsOf 48 = 5 := by kernel_rfl
def i64In (x : Int) : Prop := (Lit.int .i64 x).wf = true
def rowIn (x : List Int) : Prop := x.length ≤ maxLen ∧ ∀ y ∈ x, (Lit.int .u8 y).wf = true
def row5 (xs : List Int) : L cxT.ty := some (.inr (ro 5 xs))
theorem opR : Opens prog cxT 22 (fun x : List Int => [row5 x]) rowIn :=
  opens_slice (cx := cxT) (e := 5) (good := fun y : Int => (Lit.int .u8 y).wf = true) underlying22 cells5 (by decide) cxT_ok (opens_int (cx := cxT) underlying5)
def encP (p : Pk) : List (L cxT.ty) := [lv (.int .i64 p.1), lv (.int .i64 p.2.1), lv (.int .i64 p.2.2.1), lv (.int .i64 p.2.2.2.1), lv (.int .i64 p.2.2.2.2.1), row5 p.2.2.2.2.2]
def opP_good (p : Pk) : Prop := i64In p.1 ∧ i64In p.2.1 ∧ i64In p.2.2.1 ∧ i64In p.2.2.2.1 ∧ i64In p.2.2.2.2.1 ∧ rowIn p.2.2.2.2.2
theorem opP : Opens prog cxT 42 encP opP_good :=
  opens_struct underlying42 cells42 (opensF_cons (opens_int underlying2) rfl cells2 (opensF_cons (opens_int underlying2) rfl cells2 (opensF_cons (opens_int underlying2) rfl cells2 (opensF_cons (opens_int underlying2) rfl cells2 (opensF_cons (opens_int underlying2) rfl cells2 (opensF_one (l := row5) opR rfl cells22))))))
def encF (p : F5) : List (L cxT.ty) := [lv (.int .i64 p.1), lv (.int .i64 p.2.1), lv (.int .i64 p.2.2.1), lv (.int .i64 p.2.2.2.1), lv (.int .i64 p.2.2.2.2)]
def opF_good (p : F5) : Prop := i64In p.1 ∧ i64In p.2.1 ∧ i64In p.2.2.1 ∧ i64In p.2.2.2.1 ∧ i64In p.2.2.2.2
theorem opF : Opens prog cxT 48 encF opF_good :=
  opens_struct underlying48 cells48 (opensF_cons (opens_int underlying2) rfl cells2 (opensF_cons (opens_int underlying2) rfl cells2 (opensF_cons (opens_int underlying2) rfl cells2 (opensF_cons (opens_int underlying2) rfl cells2 (opensF_one (l := fun x : Int => lv (.int .i64 x)) (opens_int underlying2) rfl cells2)))))
end Go.Proofs.Try
