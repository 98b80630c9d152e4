/- A part of the proof of FnExactLeaderOf: LmZa, LmZb, LmZc. -/
import Derived.Test.YtnmbggfkmkcmkaaGreatLmWa
import Derived.Test.YtnmbggfkmkcmkaaGreatLmFo
import Derived.Test.YtnmbggfkmkcmkaaGreatLmFi
import Derived.Test.YtnmbggfkmkcmkaaGreatLmFc
import Derived.Test.YtnmbggfkmkcmkaaGreatVmPl
set_option linter.unusedSimpArgs false
set_option linter.unusedVariables false
set_option maxHeartbeats 0
namespace Go.Proofs.Tryz
open Go Go.VM Go.RowKit
end Go.Proofs.Tryz
set_option maxHeartbeats 0
namespace Go.Proofs.Tryz
open Go Go.VM Go.RowKit
def prs {α:Type}(d:α)(r:α->α->Bool)(a:List α):Bool:=pP (λi=>pP (λk=>r (a.getD k d) (a.getD i d)) i 0) a.length 0
def aYQ (x y:Wn):Bool:=(x.1 != y.1) || (x.2 == y.2)
def m43 (x:List Wn×Unit):Option Bool:=if x.1.length<=lN then some (prs (0,0) aYQ x.1)else none
end Go.Proofs.Tryz
set_option maxHeartbeats 0
namespace Go.Proofs.Tryz
open Go Go.VM Go.RowKit
def aYX (x:Nd):List En:=x.2.2.2.2.1
theorem aA0 {c:Cl}(h:cOk c):c.1.length<=1000000000/\(∀ y∈c.1,nK y lN)/\c.2.2.1.length<=1000000000/\c.2.2.2.length<=1000000000:=by
 obtain⟨b1,b2,b3,b4,b5,b6⟩:=kV (a:=c.1) (b:=c.2.1) (c:=c.2.2.1) (d:=c.2.2.2) h;exact⟨by omega,aCK (by unfold lN;omega),by omega,by omega⟩
end Go.Proofs.Tryz
