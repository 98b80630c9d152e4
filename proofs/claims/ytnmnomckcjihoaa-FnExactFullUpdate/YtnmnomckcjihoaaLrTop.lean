/- A part of the proof of FnExactFullUpdate: LrTop. -/
import Derived.Test.YtnmnomckcjihoaaVmOpen
import Derived.Test.YtnmnomckcjihoaaLrNa
set_option linter.unusedVariables false
set_option maxHeartbeats 0
set_option linter.unusedVariables false
set_option linter.unusedSimpArgs false
namespace Go.Proofs.Try
open Go Go.VM Go.RowKit

theorem cells2 : prog.cellsOf 2 = 1 := by kernel_rfl
theorem cells4 : prog.cellsOf 4 = 1 := by kernel_rfl
theorem cells22 : prog.cellsOf 22 = 1 := by kernel_rfl
theorem cells23 : prog.cellsOf 23 = 1 := by kernel_rfl
theorem cells25 : prog.cellsOf 25 = 3 := by kernel_rfl
theorem cells73 : prog.cellsOf 73 = 1 := by kernel_rfl
theorem cells80 : prog.cellsOf 80 = 4 := by kernel_rfl
theorem cells82 : prog.cellsOf 82 = 5 := by kernel_rfl
def i64In (x : Int) : Prop := (Lit.int .i64 x).wf = true
def opI_good (x : List Int) : Prop := x.length ≤ maxLen ∧ ∀ y ∈ x, i64In y
def row2 (xs : List Int) : L cxT.ty := some (.inr (ro 2 xs))
theorem opI : Opens prog cxT 73 (fun x : List Int => [row2 x]) opI_good :=
  opens_slice (cx := cxT) (e := 2) (good := i64In) underlying73 cells2 (by decide) cxT_ok (opens_int (cx := cxT) underlying2)
def bk_good (b : Bk) : Prop := i64In b.1 ∧ i64In b.2.1 ∧ i64In b.2.2.1 ∧ i64In b.2.2.2.1 ∧ True
set_option maxRecDepth 100000 in
theorem opBk : Opens prog cxT 82 (fun b : Bk => [lv (.int .i64 b.1), lv (.int .i64 b.2.1), lv (.int .i64 b.2.2.1), lv (.int .i64 b.2.2.2.1), lv (.bool b.2.2.2.2)]) bk_good :=
  opens_struct underlying82 cells82 (opensF_cons (opens_int underlying2) rfl cells2 (opensF_cons (opens_int underlying2) rfl cells2 (opensF_cons (opens_int underlying2) rfl cells2 (opensF_cons (opens_int underlying2) rfl cells2 (opensF_one (l := fun x : Bool => lv (.bool x)) (opens_bool underlying4) rfl cells4)))))
def bks_good (x : List Bk) : Prop := x.length ≤ maxLen ∧ ∀ y ∈ x, bk_good y
def row82 (xs : List Bk) : L cxT.ty := some (.inr (ro 82 xs))
set_option maxRecDepth 100000 in
theorem opBks : Opens prog cxT 22 (fun x : List Bk => [row82 x]) bks_good :=
  opens_slice (cx := cxT) (e := 82) (good := bk_good) underlying22 cells82 (by decide) cxT_ok opBk
def vp_good (b : Vp) : Prop := i64In b.1 ∧ i64In b.2.1 ∧ i64In b.2.2.1 ∧ opI_good b.2.2.2
set_option maxRecDepth 100000 in
theorem opVp : Opens prog cxT 80 (fun b : Vp => [lv (.int .i64 b.1), lv (.int .i64 b.2.1), lv (.int .i64 b.2.2.1), row2 b.2.2.2]) vp_good :=
  opens_struct underlying80 cells80 (opensF_cons (opens_int underlying2) rfl cells2 (opensF_cons (opens_int underlying2) rfl cells2 (opensF_cons (opens_int underlying2) rfl cells2 (opensF_one (l := row2) opI rfl cells73))))
def vps_good (x : List Vp) : Prop := x.length ≤ maxLen ∧ ∀ y ∈ x, vp_good y
def row80 (xs : List Vp) : L cxT.ty := some (.inr (ro 80 xs))
set_option maxRecDepth 100000 in
theorem opVps : Opens prog cxT 23 (fun x : List Vp => [row80 x]) vps_good :=
  opens_slice (cx := cxT) (e := 80) (good := vp_good) underlying23 cells80 (by decide) cxT_ok opVp
def opC_good (c : Cg) : Prop := i64In c.1 ∧ bks_good c.2.1 ∧ vps_good c.2.2
def encC (c : Cg) : List (L cxT.ty) := [lv (.int .i64 c.1), row82 c.2.1, row80 c.2.2]
set_option maxRecDepth 100000 in
theorem opC : Opens prog cxT 25 encC opC_good :=
  opens_struct underlying25 cells25 (opensF_cons (opens_int underlying2) rfl cells2 (opensF_cons (l := row82) opBks rfl cells22 (opensF_one (l := row80) opVps rfl cells23)))
theorem zC_of {c : Cg} (h : opC_good c) : okZ c := by
  have hm : maxLen ≤ top := by decide
  obtain ⟨_, ⟨h1, _⟩, h2, h3⟩ := h
  exact ⟨Nat.le_trans h1 hm, Nat.le_trans h2 hm, fun v hv => Nat.le_trans (h3 v hv).2.2.2.1 hm⟩
end Go.Proofs.Try
