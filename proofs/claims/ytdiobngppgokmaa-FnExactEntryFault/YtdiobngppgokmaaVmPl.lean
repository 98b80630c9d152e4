/- A part of the proof of FnExactEntryFault: VmPl, VmPm. -/
import Derived.Test.YtdiobngppgokmaaVmJ
namespace Go.VM
open Go

/-! ### Loops that laws and programs share: plain forms -/
section
variable {α : Type}

/-- The first answer that is not 0, of n from i on. -/
def fst (f : Nat → Int) : Nat → Nat → Int
  | 0, _ => 0
  | n + 1, i => if f i = 0 then fst f n (i + 1) else f i
/-- Sizes taken away piece by piece; -1: too much. -/
def szv (acc w : Int) : Int := if acc - w < 0 then -1 else acc - w
end

end Go.VM

namespace Go.VM
open Go

/-! ### Marks, and how far two rows are alike: plain forms -/
/-- A row of marks: each s behind the one ahead. -/
def mkR {α : Type} (f : Int → α) (s : Int) : Nat → Int → List α
  | 0, _ => []
  | n + 1, c => f c :: mkR f s n (c + s)
end Go.VM
