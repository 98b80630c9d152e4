/- A part of the proof of FnWraps: VmPl, VmPm, VmPn. -/
import Derived.Test.YtaegcoihgnobiaaVmJ
set_option linter.unusedSimpArgs false
set_option linter.unusedVariables false
namespace Go.VM
open Go
section
variable {α : Type}
def lJ (w:α->Int):List α->Int
 | []=>0
 | x::r=>w x+lJ w r
end
end Go.VM
namespace Go.VM
open Go
end Go.VM
namespace Go.VM
open Go Go.RowKit
end Go.VM
