/- A part of the proof of FnHealths: LqQa, LqQb, LqQc. -/
import Derived.Test.YtklmlomaleaaaaaLqPa
import Derived.Test.YtklmlomaleaaaaaVmGr
import Derived.Test.YtklmlomaleaaaaaVmCb
import Derived.WalkKit
import Derived.OwnWalk
import Derived.Below
import Derived.WalkMore
import Derived.Deep.Cut
import Derived.Deep.DeepCutAuto
import Derived.Deep.RegionWith
set_option linter.unusedVariables false
set_option linter.unusedSimpArgs false
namespace Go.Proofs.Try
open Go Go.VM Go.RowKit

theorem set3 (W : World) (b : Nat) (v0 v1 v2 u0 u1 u2 : Value) (h : W.heap[b]? = some (.cells #[u0, u1, u2] 25 (0, 0))) :
    (((W.setCell ⟨b, 0, none⟩ v0).setCell ⟨b, 1, none⟩ v1).setCell ⟨b, 2, none⟩ v2).heap[b]? = some (.cells #[v0, v1, v2] 25 (0, 0)) ∧
    (∀ B w0, B ≤ b → Below B w0 W → Below B w0 (((W.setCell ⟨b, 0, none⟩ v0).setCell ⟨b, 1, none⟩ v1).setCell ⟨b, 2, none⟩ v2)) := by
  have h1 := heap_setCell_same W b 0 _ 25 v0 h
  have h2 := heap_setCell_same _ b 1 _ 25 v1 h1
  exact ⟨heap_setCell_same _ b 2 _ 25 v2 h2, fun B w0 hB h => ((h.setCell (p := ⟨b, 0, none⟩) hB _).setCell (p := ⟨b, 1, none⟩) hB _).setCell (p := ⟨b, 2, none⟩) hB _⟩
section
attribute [local go_sem] Oper.semAt_some
end
end Go.Proofs.Try

set_option linter.unusedVariables false
set_option linter.unusedSimpArgs false
namespace Go.Proofs.Try
open Go Go.VM Go.RowKit

section
attribute [local go_sem] Oper.semAt_some
end
end Go.Proofs.Try

set_option maxHeartbeats 0
set_option linter.unusedVariables false
set_option linter.unusedSimpArgs false
namespace Go.Proofs.Try
open Go Go.VM Go.RowKit

/-! The law FnExactProbeMany -/
end Go.Proofs.Try
