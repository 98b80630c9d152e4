/- A part of the proof of FnExactReplyOf: VmCb. -/
import Derived.Test.YtchokegffjaihaaVmJ
import Derived.Below
set_option linter.unusedSimpArgs false
set_option linter.unusedVariables false
namespace Go.VM
open Go Go.RowKit
section
variable {cx : Cx}
theorem aFE {w:World}{A0 N:Nat->Prop}{v u:Value}(h:ResV cx w A0 N (.inl (.inl (lv v))) u):u=v:=by
 obtain⟨fp,_,_,h⟩:=h;exact h.1
end
end Go.VM
