/- A part of the proof of FnExactUpdateFault: VmGr, VmGs, VmGt. -/
import Derived.Test.YtnmnomckcjihoaaGreatVmPl
import Derived.WalkKit
import Derived.OwnWalkIn
import Derived.Below
import Derived.WalkMore
import Derived.Test.YtnmnomckcjihoaaGreatVmCb
import Derived.Laws.CopyOwn
set_option linter.unusedVariables false
set_option linter.unusedSimpArgs false
namespace Go
open Go.RowKit
/-! ### append of what make makes, onto nil -/
section
variable {P : Program} (w : World)
end
end Go

namespace Go.VM
open Go Go.RowKit
section
variable {cx : Cx}

/-! ### Rows that are lent, laid open for walks; rows that walks have built, as results -/
end
end Go.VM

set_option linter.unusedSimpArgs false
set_option linter.unusedVariables false
namespace Go
open Go.RowKit
/-! ### copy of elements of any size -/
end Go
namespace Go.VM
open Go Go.RowKit
section
variable {cx : Cx}
/-! ### Rows of rows, laid open cell by cell, and put together again -/
end
end Go.VM
