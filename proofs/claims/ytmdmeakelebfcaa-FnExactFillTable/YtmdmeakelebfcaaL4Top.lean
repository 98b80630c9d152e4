/- A part of the proof of FnExactFillTable: L4Top. -/
import Derived.Test.YtmdmeakelebfcaaVmOpen
import Derived.Test.YtmdmeakelebfcaaL4Base
namespace Go.Proofs.Try
open Go Go.VM Go.RowKit

theorem cells2 : prog.cellsOf 2 = 1 := by kernel_rfl
theorem cells77 : prog.cellsOf 77 = 2 := by kernel_rfl
def i64In (x : Int) : Prop := (Lit.int .i64 x).wf = true
def opI_good (x : List Int) : Prop := x.length ≤ maxLen ∧ ∀ y ∈ x, (Lit.int .i64 y).wf = true
def row2 (xs : List Int) : L cxT.ty := some (.inr (ro 2 xs))
theorem opI : Opens prog cxT 26 (fun x : List Int => [row2 x]) opI_good :=
  opens_slice (cx := cxT) (e := 2) (good := fun y : Int => (Lit.int .i64 y).wf = true) underlying26 cells2 (by decide) cxT_ok (opens_int (cx := cxT) underlying2)
def sh_good (y : Int × Int) : Prop := i64In y.1 ∧ i64In y.2
def opS_good (x : List (Int × Int)) : Prop := x.length ≤ maxLen ∧ ∀ y ∈ x, sh_good y
def row77 (xs : List (Int × Int)) : L cxT.ty := some (.inr (ro 77 xs))
theorem opSh : Opens prog cxT 77 (fun p : Int × Int => [lv (.int .i64 p.1), lv (.int .i64 p.2)]) sh_good :=
  opens_struct underlying77 cells77 (opensF_cons (opens_int underlying2) rfl cells2 (opensF_one (l := fun x : Int => lv (.int .i64 x)) (opens_int underlying2) rfl cells2))
theorem opS : Opens prog cxT 45 (fun x : List (Int × Int) => [row77 x]) opS_good :=
  opens_slice (cx := cxT) (e := 77) (good := sh_good) underlying45 cells77 (by decide) cxT_ok opSh
end Go.Proofs.Try
