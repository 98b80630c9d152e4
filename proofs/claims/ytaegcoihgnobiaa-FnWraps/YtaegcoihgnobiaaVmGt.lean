/- A part of the proof of FnWraps: VmGt. -/
import Derived.Test.YtaegcoihgnobiaaVmGr
import Derived.Laws.CopyOwn
set_option linter.unusedSimpArgs false
set_option linter.unusedVariables false
namespace Go
open Go.VM
open Go.RowKit
theorem eD {w:World}{B e K n g cap':Nat}{xs:List Value}(h:w.ownsRow B e K (.slice (some ⟨g,0,none⟩) n cap') n xs) :
  ∃ cur,w.heap[g]?=some (.cells cur e (0,0))/\cur.size=cap' * K/\B<=g/\n<=cap'/\cap'<=maxLen/\xs=cur.toList.take (n * K):=by
 rcases h.2 with⟨hx,_⟩ | ⟨g',cap,cur,hv,hbg,hg,hnc,hcm,hcs,htake⟩
 ·injection hx with h1 h2 h3;cases h1
 ·injection hv with h1 h2 h3
  injection h1 with h1
  injection h1 with h1 h4 h5
  subst h1;subst h3;exact⟨cur,hg,hcs,hbg,hnc,hcm,htake.symm⟩
end Go
namespace Go.VM
open Go Go.RowKit
section
variable {cx : Cx}
end
end Go.VM
