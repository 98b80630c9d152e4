/- A part of the proof of FnLogs: VmPl, VmPm, VmPn. -/
import Derived.Test.YtlnabockdjjpbaaGreatVmJ
set_option linter.unusedSimpArgs false
set_option linter.unusedVariables false
namespace Go.VM
open Go
section
variable {α : Type}
def fst (f:Nat->Int):Nat->Nat->Int
 | 0,_=>0
 | n+1,i=>if f i=0 then fst f n (i+1)else f i
theorem vA (f:Nat->Int)(n i:Nat):fst f (n+1) i=if f i=0 then fst f n (i+1)else f i:=rfl
theorem aAP {f:Nat->Int}:∀ {n i:Nat},fst f n i=0↔∀ j,i<=j->j < i+n->f j=0
 | 0,i=>by simp only[fst,true_iff];intro j h1 h2;omega
 | n+1,i=>by
  rw[vA];by_cases h:f i=0
  ·rw[if_pos h,aAP];constructor
   ·intro k j h1 h2;by_cases h3:j=i
    ·rw[h3];exact h
    ·exact k j (by omega) (by omega)
   ·intro k j h1 h2;exact k j (by omega) (by omega)
  ·rw[if_neg h];constructor
   ·intro k;exact absurd k h
   ·intro k;exact k i (aI _) (by omega)
end
end Go.VM
namespace Go.VM
open Go
def mkR {α:Type}(f:Int->α)(s:Int):Nat->Int->List α
 | 0,_=>[]
 | n+1,c=>f c::mkR f s n (c+s)
def iD {α:Type}(p:α->α->Bool):List α->List α->Nat
 | x::a,y::b=>if p x y then iD p a b+1 else 0
 | _,_=>0
theorem jE {α:Type}(p:α->α->Bool):∀ (a b:List α),iD p a b<=a.length/\iD p a b<=b.length
 | [],b=>by simp[iD]
 | x::a,[]=>by simp[iD]
 | x::a,y::b=>by
  have:=jE p a b;simp only[iD,dI];split<;>omega
theorem vY {α:Type}(d:α)(p:α->α->Bool){a b:List α}{i:Nat}(ha:i < a.length)(hb:i < b.length):iD p (a.drop i) (b.drop i)=if p (a.getD i d) (b.getD i d)then iD p (a.drop (i+1)) (b.drop (i+1))+1 else 0:=by
 rw[rS d ha,rS d hb];rfl
theorem aAa {α:Type}(p:α->α->Bool){a b:List α}(h:a=[]\/b=[]):iD p a b=0:=by
 rcases h with rfl | rfl
 ·simp[iD]
 ·cases a<;>rfl
theorem aA5 {α:Type}{p:α->α->Bool}(h:∀ x,p x x=true):∀ a:List α,iD p a a=a.length
 | []=>rfl
 | x::a=>by simp[iD,h x,aA5 h a]
end Go.VM
namespace Go.VM
open Go Go.RowKit
end Go.VM
