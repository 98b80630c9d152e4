/- A part of the proof of FnExactUpdateFault: LtTop. -/
import Derived.Test.YtnmnomckcjihoaaGreatVmOpen
import Derived.Test.YtnmnomckcjihoaaGreatLtNa
set_option linter.unusedVariables false
set_option maxHeartbeats 0
set_option linter.unusedVariables false
set_option linter.unusedSimpArgs false
namespace Go.Proofs.Tryz
open Go Go.VM Go.RowKit

theorem cells2 : prog.cellsOf 2 = 1 := by kernel_rfl
theorem cells4 : prog.cellsOf 4 = 1 := by kernel_rfl
theorem cells22 : prog.cellsOf 22 = 1 := by kernel_rfl
theorem cells23 : prog.cellsOf 23 = 1 := by kernel_rfl
theorem cells26 : prog.cellsOf 26 = 1 := by kernel_rfl
theorem cells28 : prog.cellsOf 28 = 7 := by kernel_rfl
theorem cells72 : prog.cellsOf 72 = 6 := by kernel_rfl
theorem cells25 : prog.cellsOf 25 = 3 := by kernel_rfl
theorem cells94 : prog.cellsOf 94 = 1 := by kernel_rfl
theorem cells100 : prog.cellsOf 100 = 4 := by kernel_rfl
theorem cells104 : prog.cellsOf 104 = 5 := by kernel_rfl
def i64In (x : Int) : Prop := (Lit.int .i64 x).wf = true
def opI_good (x : List Int) : Prop := x.length ≤ maxLen ∧ ∀ y ∈ x, i64In y
def row2 (xs : List Int) : L cxT.ty := some (.inr (ro 2 xs))
theorem opI : Opens prog cxT 94 (fun x : List Int => [row2 x]) opI_good :=
  opens_slice (cx := cxT) (e := 2) (good := i64In) underlying94 cells2 (by decide) cxT_ok (opens_int (cx := cxT) underlying2)
def bk_good (b : Bk) : Prop := i64In b.1 ∧ i64In b.2.1 ∧ i64In b.2.2.1 ∧ i64In b.2.2.2.1 ∧ True
set_option maxRecDepth 100000 in
theorem opBk : Opens prog cxT 104 (fun b : Bk => [lv (.int .i64 b.1), lv (.int .i64 b.2.1), lv (.int .i64 b.2.2.1), lv (.int .i64 b.2.2.2.1), lv (.bool b.2.2.2.2)]) bk_good :=
  opens_struct underlying104 cells104 (opensF_cons (opens_int underlying2) rfl cells2 (opensF_cons (opens_int underlying2) rfl cells2 (opensF_cons (opens_int underlying2) rfl cells2 (opensF_cons (opens_int underlying2) rfl cells2 (opensF_one (l := fun x : Bool => lv (.bool x)) (opens_bool underlying4) rfl cells4)))))
def bks_good (x : List Bk) : Prop := x.length ≤ maxLen ∧ ∀ y ∈ x, bk_good y
def row104 (xs : List Bk) : L cxT.ty := some (.inr (ro 104 xs))
set_option maxRecDepth 100000 in
theorem opBks : Opens prog cxT 22 (fun x : List Bk => [row104 x]) bks_good :=
  opens_slice (cx := cxT) (e := 104) (good := bk_good) underlying22 cells104 (by decide) cxT_ok opBk
def vp_good (b : Vp) : Prop := i64In b.1 ∧ i64In b.2.1 ∧ i64In b.2.2.1 ∧ opI_good b.2.2.2
set_option maxRecDepth 100000 in
theorem opVp : Opens prog cxT 100 (fun b : Vp => [lv (.int .i64 b.1), lv (.int .i64 b.2.1), lv (.int .i64 b.2.2.1), row2 b.2.2.2]) vp_good :=
  opens_struct underlying100 cells100 (opensF_cons (opens_int underlying2) rfl cells2 (opensF_cons (opens_int underlying2) rfl cells2 (opensF_cons (opens_int underlying2) rfl cells2 (opensF_one (l := row2) opI rfl cells94))))
def vps_good (x : List Vp) : Prop := x.length ≤ maxLen ∧ ∀ y ∈ x, vp_good y
def row100 (xs : List Vp) : L cxT.ty := some (.inr (ro 100 xs))
set_option maxRecDepth 100000 in
theorem opVps : Opens prog cxT 23 (fun x : List Vp => [row100 x]) vps_good :=
  opens_slice (cx := cxT) (e := 100) (good := vp_good) underlying23 cells100 (by decide) cxT_ok opVp
def opC_good (c : Cg) : Prop := i64In c.1 ∧ bks_good c.2.1 ∧ vps_good c.2.2
def encC (c : Cg) : List (L cxT.ty) := [lv (.int .i64 c.1), row104 c.2.1, row100 c.2.2]
set_option maxRecDepth 100000 in
theorem opC : Opens prog cxT 25 encC opC_good :=
  opens_struct underlying25 cells25 (opensF_cons (opens_int underlying2) rfl cells2 (opensF_cons (l := row104) opBks rfl cells22 (opensF_one (l := row100) opVps rfl cells23)))
def cm_good (x : Cm) : Prop := i64In x.1 ∧ i64In x.2.1 ∧ i64In x.2.2.1 ∧ i64In x.2.2.2.1 ∧ i64In x.2.2.2.2.1 ∧ i64In x.2.2.2.2.2
set_option maxRecDepth 100000 in
theorem opCm : Opens prog cxT 72 (fun x : Cm => [lv (.int .i64 x.1), lv (.int .i64 x.2.1), lv (.int .i64 x.2.2.1), lv (.int .i64 x.2.2.2.1), lv (.int .i64 x.2.2.2.2.1), lv (.int .i64 x.2.2.2.2.2)]) cm_good :=
  opens_struct underlying72 cells72 (opensF_cons (opens_int underlying2) rfl cells2 (opensF_cons (opens_int underlying2) rfl cells2 (opensF_cons (opens_int underlying2) rfl cells2 (opensF_cons (opens_int underlying2) rfl cells2 (opensF_cons (opens_int underlying2) rfl cells2 (opensF_one (l := fun x : Int => lv (.int .i64 x)) (opens_int underlying2) rfl cells2))))))
def cms_good (x : List Cm) : Prop := x.length ≤ maxLen ∧ ∀ y ∈ x, cm_good y
def row72 (xs : List Cm) : L cxT.ty := some (.inr (ro 72 xs))
def encR (xs : List Cm) : List (L cxT.ty) := [row72 xs]
set_option maxRecDepth 100000 in
theorem opR : Opens prog cxT 26 encR cms_good :=
  opens_slice (cx := cxT) (e := 72) (good := cm_good) underlying26 cells72 (by decide) cxT_ok opCm
def cfU (u : Ud) : Cg := (u.2.2.2.1, u.2.2.2.2.1, u.2.2.2.2.2.1)
def opU_good (u : Ud) : Prop := i64In u.1 ∧ i64In u.2.1 ∧ True ∧ opC_good (cfU u) ∧ cms_good u.2.2.2.2.2.2
def encU (u : Ud) : List (L cxT.ty) := [lv (.int .i64 u.1), lv (.int .i64 u.2.1), lv (.bool u.2.2.1), lv (.int .i64 u.2.2.2.1), row104 u.2.2.2.2.1, row100 u.2.2.2.2.2.1, row72 u.2.2.2.2.2.2]
abbrev UP := Int × Int × Bool × Cg × List Cm
set_option maxRecDepth 100000 in
theorem opP : Opens prog cxT 28 (fun x : UP => [lv (.int .i64 x.1)] ++ ([lv (.int .i64 x.2.1)] ++ ([lv (.bool x.2.2.1)] ++ (encC x.2.2.2.1 ++ encR x.2.2.2.2)))) (fun x => i64In x.1 ∧ i64In x.2.1 ∧ True ∧ opC_good x.2.2.2.1 ∧ cms_good x.2.2.2.2) :=
  opens_structG (T := UP) (k := 1 + (1 + (1 + (3 + 1)))) underlying28 cells28 (opensG_cons (enc1 := fun x : Int => [lv (.int .i64 x)]) (good := i64In) (opens_int underlying2) rfl cells2 (opensG_cons (enc1 := fun x : Int => [lv (.int .i64 x)]) (good := i64In) (opens_int underlying2) rfl cells2 (opensG_cons (enc1 := fun x : Bool => [lv (.bool x)]) (good := fun _ => True) (opens_bool underlying4) rfl cells4 (opensG_cons (enc1 := encC) (good := opC_good) opC rfl cells25 (opensG_one (enc := encR) (good := cms_good) opR rfl cells26)))))
theorem opU : Opens prog cxT 28 encU opU_good := by
  intro H e' w spare held fuel cs x h
  obtain ⟨⟨a, b, c, d, r⟩, h1, h2⟩ := opP H e' w spare held fuel cs x h
  exact ⟨(a, b, c, d.1, d.2.1, d.2.2, r), h1, h2⟩
theorem zC_of {c : Cg} (h : opC_good c) : okZ c := by
  have hm : maxLen ≤ top := by decide
  obtain ⟨_, ⟨h1, _⟩, h2, h3⟩ := h
  exact ⟨Nat.le_trans h1 hm, Nat.le_trans h2 hm, fun v hv => Nat.le_trans (h3 v hv).2.2.2.1 hm⟩
theorem zU_of {u : Ud} (h : opU_good u) : zU u := ⟨zC_of h.2.2.2.1, Nat.le_trans h.2.2.2.2.1 (by decide)⟩
end Go.Proofs.Tryz
