/- A part of the proof of FnWraps: VmCb. -/
import Derived.Test.YtaegcoihgnobiaaVmJ
import Derived.Below
set_option linter.unusedSimpArgs false
set_option linter.unusedVariables false
namespace Go.VM
open Go Go.RowKit
section
variable {cx : Cx}
theorem aFA {w:World}{A0 N:Nat->Prop}{v u:Value}(h:ResV cx w A0 N (.inl (.inl (lv v))) u):u=v:=by
 obtain⟨fp,_,_,h⟩:=h;exact h.1
theorem aFB {w:World}{S:Nat->Prop}{a:A cx.ty}{us:List Value}(h:ArgAs cx w S [a] us):∃ u,us=[u]/\ArgA cx w S a u:=by
 match us,h with
 | [u],h=>exact⟨u,rfl,h.2 0 a u rfl rfl⟩
 | [],h=>exact absurd h.1 (by simp)
 | _::_::r,h=>exact absurd h.1 (by simp)
end
end Go.VM
