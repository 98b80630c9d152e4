/- A part of the proof of FnExactEntryFault: L7Pc, L7Pd, L7Pe, L7Top. -/
import Derived.Test.YtdiobngppgokmaaL7Pa
import Derived.Test.YtdiobngppgokmaaL7Qc
import Derived.Test.YtdiobngppgokmaaL7Fe
import Derived.Test.YtdiobngppgokmaaL7Ff
import Derived.Test.YtdiobngppgokmaaVmOpen
set_option maxHeartbeats 0
set_option linter.unusedVariables false
set_option linter.unusedSimpArgs false
namespace Go.Proofs.Try
open Go Go.VM Go.RowKit

/-! ### What is not right with an entry, and with a log -/
def tmOk (x : Int) : Bool := decide (1 ≤ x ∧ x ≤ 100000)
def clOk (x : Int) : Bool := decide (0 ≤ x ∧ x ≤ 999)
def sqOk (x : Int) : Bool := decide (0 ≤ x ∧ x ≤ 1000000)
theorem sat39 : Sat prog cxT 39 (c39 fun x => some (tmOk x)) := s39 _ fun x t h => by cases h; exact ⟨0, bif_and⟩
theorem sat40 : Sat prog cxT 40 (c40 fun x => some (clOk x)) := s40 _ fun x t h => by cases h; exact ⟨0, bif_and⟩
theorem sat41 : Sat prog cxT 41 (c41 fun x => some (sqOk x)) := s41 _ fun x t h => by cases h; exact ⟨0, bif_and⟩
def z6 (q : Cm) : Bool := (((((q.1 == 0) && (q.2.1 == 0)) && (q.2.2.1 == 0)) && (q.2.2.2.1 == 0)) && (q.2.2.2.2.1 == 0)) && (q.2.2.2.2.2 == 0)
def enF (x : En) : Int := bif !tmOk x.1 then 3 else bif !clOk x.2.1 then 3 else bif !sqOk x.2.2.1 then 3 else bif !((x.2.1 == 0) == (x.2.2.1 == 0)) then 1 else bif x.2.1 != 0 then cmF x.2.2.2 else bif !z6 x.2.2.2 then 1 else 0
def mEn (x : En) : Option Int := some (enF x)
theorem some_bif {α : Type} (b : Bool) (x y : α) : (bif b then some x else some y) = some (bif b then x else y) := by cases b <;> rfl
theorem sat13 : Sat prog cxT 13 (c13 mEn) := s13 _ _ _ m42 sat39 sat40 sat41 sat42 mEn fun x t h => by
  obtain ⟨t, c, s, q⟩ := x
  cases h
  refine ⟨0, ?_⟩
  show g13 _ _ _ m42 0 t c s q.1 q.2.1 q.2.2.1 q.2.2.2.1 q.2.2.2.2.1 q.2.2.2.2.2 = _
  unfold g13
  simp only [tst_some]
  rw [show m42 (q.1, (q.2.1, (q.2.2.1, (q.2.2.2.1, (q.2.2.2.2.1, q.2.2.2.2.2))))) = some (cmF q) from rfl, tst_some]
  simp only [some_bif]
  rfl
theorem sat11 : Sat prog cxT 11 (c11 mEn) := s11 _ m42 sat36 sat37 mEn fun x t h => by
  obtain ⟨t, c, s, q⟩ := x
  cases h
  refine ⟨0, ?_⟩
  show g11 _ m42 0 t c s q.1 q.2.1 q.2.2.1 q.2.2.2.1 q.2.2.2.2.1 q.2.2.2.2.2 = _
  unfold g11
  simp only [tst_some]
  rw [show m42 (q.1, (q.2.1, (q.2.2.1, (q.2.2.2.1, (q.2.2.2.2.1, q.2.2.2.2.2))))) = some (cmF q) from rfl, tst_some]
  simp only [some_bif]
  rfl
/-- What is not right at one place of a log. -/
def lgE (a : List En) (i : Nat) : Int := if enF (a.getD i dEn) = 0 then (if 0 < i ∧ (a.getD i dEn).1 < (a.getD (i - 1) dEn).1 then 1 else 0) else enF (a.getD i dEn)
def logF (a : List En) : Int := if 40 < a.length then 2 else fst (lgE a) a.length 0
end Go.Proofs.Try

set_option maxHeartbeats 0
set_option linter.unusedVariables false
set_option linter.unusedSimpArgs false
namespace Go.Proofs.Try
open Go Go.VM Go.RowKit

/-! ### What stands where in a log -/
/-- Has a log an entry of an index and a term? -/
def fits (a : List En) (i t : Int) : Bool := bif i == 0 then t == 0 else decide (1 ≤ i ∧ i ≤ (a.length : Int)) && (a.getD (i - 1).toNat dEn).1 == t
def m22 (x : List En × Int × Int) : Option Bool := if x.1.length ≤ mid then some (decide (logF x.1 = 0) && fits x.1 x.2.1 x.2.2) else none
/-! ### How far two logs are alike -/
end Go.Proofs.Try

set_option maxHeartbeats 0
set_option linter.unusedVariables false
set_option linter.unusedSimpArgs false
namespace Go.Proofs.Try
open Go Go.VM Go.RowKit

/-! ### The laws of the look functions -/
theorem sat3 : Sat prog cxT 3 (c3 fun _ => some true) := s3 _ mEn mEn sat12 sat11 sat13 _ fun x t h => by
  obtain ⟨a, b, c, d, e, f, g, i, j⟩ := x
  cases h
  refine ⟨0, ?_⟩
  show g3 (fun x => some x) mEn mEn 0 a b c d e f g i j = some true
  unfold g3
  simp only [tst_some]
  have : mEn (a, b, c, d, e, f, g, i, j) = some (enF (a, b, c, d, e, f, g, i, j)) := rfl
  simp only [this, tst_some]
  rw [bneF rfl, cond_false]
end Go.Proofs.Try

namespace Go.Proofs.Try
open Go Go.VM Go.RowKit

theorem cells2 : prog.cellsOf 2 = 1 := by kernel_rfl
theorem cells23 : prog.cellsOf 23 = 6 := by kernel_rfl
theorem cells25 : prog.cellsOf 25 = 9 := by kernel_rfl
def i64In (x : Int) : Prop := (Lit.int .i64 x).wf = true
def opM_good (f : Cm) : Prop := i64In f.1 ∧ i64In f.2.1 ∧ i64In f.2.2.1 ∧ i64In f.2.2.2.1 ∧ i64In f.2.2.2.2.1 ∧ i64In f.2.2.2.2.2
def encM (f : Cm) : List (L cxT.ty) := [lv (.int .i64 f.1), lv (.int .i64 f.2.1), lv (.int .i64 f.2.2.1), lv (.int .i64 f.2.2.2.1), lv (.int .i64 f.2.2.2.2.1), lv (.int .i64 f.2.2.2.2.2)]
set_option maxRecDepth 100000 in
theorem opM : Opens prog cxT 23 encM opM_good :=
  opens_struct underlying23 cells23 (opensF_cons (opens_int underlying2) rfl cells2 (opensF_cons (opens_int underlying2) rfl cells2 (opensF_cons (opens_int underlying2) rfl cells2 (opensF_cons (opens_int underlying2) rfl cells2 (opensF_cons (opens_int underlying2) rfl cells2 (opensF_one (l := fun x : Int => lv (.int .i64 x)) (opens_int underlying2) rfl cells2))))))
def opE_good (x : En) : Prop := i64In x.1 ∧ i64In x.2.1 ∧ i64In x.2.2.1 ∧ opM_good x.2.2.2
def encE (x : En) : List (L cxT.ty) := [lv (.int .i64 x.1), lv (.int .i64 x.2.1), lv (.int .i64 x.2.2.1), lv (.int .i64 x.2.2.2.1), lv (.int .i64 x.2.2.2.2.1), lv (.int .i64 x.2.2.2.2.2.1), lv (.int .i64 x.2.2.2.2.2.2.1), lv (.int .i64 x.2.2.2.2.2.2.2.1), lv (.int .i64 x.2.2.2.2.2.2.2.2)]
def i1 (x : Int) : List (L cxT.ty) := [lv (.int .i64 x)]
theorem opI1 : Opens prog cxT 2 i1 i64In := opens_int underlying2
set_option maxRecDepth 100000 in
theorem opE : Opens prog cxT 25 encE opE_good :=
  opens_structG (T := En) (k := 1 + (1 + (1 + 6))) (enc := fun x => i1 x.1 ++ (i1 x.2.1 ++ (i1 x.2.2.1 ++ encM x.2.2.2))) (good := opE_good) underlying25 cells25
    (opensG_cons (enc1 := i1) (good := i64In) opI1 rfl cells2 (opensG_cons (enc1 := i1) (good := i64In) opI1 rfl cells2 (opensG_cons (enc1 := i1) (good := i64In) opI1 rfl cells2 (opensG_one (enc := encM) (good := opM_good) opM rfl cells23))))
end Go.Proofs.Try
