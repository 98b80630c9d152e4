/- A part of the proof of FnLogs: LkPa, LkPb. -/
import Derived.Test.YtlnabockdjjpbaaGreatVmPl
import Derived.Test.YtlnabockdjjpbaaGreatVmCb
import Derived.Test.YtlnabockdjjpbaaGreatLkFa
import Derived.Test.YtlnabockdjjpbaaGreatLkFd
import Derived.Test.YtlnabockdjjpbaaGreatLkFe
set_option linter.unusedSimpArgs false
set_option linter.unusedVariables false
set_option maxHeartbeats 0
namespace Go.Proofs.Tryz
open Go Go.VM Go.RowKit
abbrev Cm:=Int×Int×Int×Int×Int×Int
def qS (x:Int):Bool:=decide (1<=x/\x<=999)
def wF (x:Int):Bool:=decide (0<=x/\x<=4294967295)
def aCT (x:Int):Bool:=decide (0<=x/\x<=9)
def aDA (x:Int):Bool:=decide (1<=x/\x<=3)
def pA (x:Int):Bool:=decide (0<=x/\x<=65535)
def wJ (x:Int):Bool:=decide (x=6\/x=17)
def nM (x:Int):Bool:=decide (0<=x/\x<=1000000)
theorem jM {a b:Int}{x:Int}:(bif decide (x>=a)then some (decide (x<=b))else some false)=some (decide (a<=x/\x<=b)):=by
 by_cases h:a<=x
 ·rw[dt (show x>=a from h)];simp[h]
 ·rw[df (show ¬ x>=a from h)];simp[h]
theorem aB0 {a b:Int}{x:Int}:(bif x == a then some true else some (x == b))=some (decide (x=a\/x=b)):=by
 by_cases h:x=a
 ·simp[h]
 ·rw[beq_eq_false_iff_ne.2 h,cond_false];by_cases h2:x=b
  ·rw[beq_iff_eq.2 h2,dt (.inr h2)]
  ·rw[beq_eq_false_iff_ne.2 h2,df (by rintro(h3 | h3)<;>contradiction)]
theorem nO:Sat prog bL 18 (yC λx=>some (decide (x.2.1<=x.1/\x.1<=x.2.2))):=s18 _ λx t h=>by
 obtain⟨x,a,b⟩:=x;cases h;exact⟨0,jM⟩
theorem aHU:Sat prog bL 54 (c54 λx=>some (qS x)):=s54 _ λx t h=>by cases h;exact⟨0,jM⟩
theorem aHS:Sat prog bL 56 (c56 λx=>some (aCT x)):=s56 _ λx t h=>by cases h;exact⟨0,jM⟩
theorem aH1:Sat prog bL 46 (c46 λx=>some (nM x)):=s46 _ λx t h=>by cases h;exact⟨0,jM⟩
theorem aHT:Sat prog bL 55 (c55 λx=>some (wF x)):=s55 _ λx t h=>by cases h;exact⟨0,jM⟩
theorem aHR:Sat prog bL 59 (c59 λx=>some (aDA x)):=s59 _ λx t h=>by cases h;exact⟨0,jM⟩
theorem aHQ:Sat prog bL 62 (c62 λx=>some (pA x)):=s62 _ λx t h=>by cases h;exact⟨0,jM⟩
theorem aHP:Sat prog bL 63 (c63 λx=>some (wJ x)):=s63 _ λx t h=>by cases h;exact⟨0,aB0⟩
theorem aHZ:Sat prog bL 49 (c49 λx=>some (nM x)):=s49 _ nO _ λx t h=>by cases h;exact⟨0,rfl⟩
theorem aHY:Sat prog bL 50 (c50 λx=>some (qS x)):=s50 _ nO _ λx t h=>by cases h;exact⟨0,rfl⟩
theorem aHX:Sat prog bL 51 (c51 λx=>some (wF x)):=s51 _ nO _ λx t h=>by cases h;exact⟨0,rfl⟩
theorem aHV:Sat prog bL 53 (c53 λx=>some (wJ x)):=s53 _ λx t h=>by cases h;exact⟨0,aB0⟩
theorem aHN:Sat prog bL 70 (c70 λx=>some (pA x)):=s70 _ nO _ λx t h=>by cases h;exact⟨0,rfl⟩
def sD:Nat:=1000000000
theorem aAg {a b:Int}(h:¬ a=b):(a == b)=false:=by simpa using h
end Go.Proofs.Tryz
set_option maxHeartbeats 0
namespace Go.Proofs.Tryz
open Go Go.VM Go.RowKit
abbrev En:=Int×Int×Int×Int×Int×Int×Int×Int×Int
def eU:En:=(0,0,0,0,0,0,0,0,0)
instance decCm:DecidableEq Cm:=inferInstance
instance decE1:DecidableEq (Int×Cm):=instDecidableEqProd
instance decE2:DecidableEq (Int×Int×Cm):=instDecidableEqProd
instance decEn:DecidableEq En:=(instDecidableEqProd:DecidableEq (Int×Int×Int×Cm))
def mkE (v:Int):En:=(v,v+1,v+2,v+3,v+4,v+5,v+6,v+7,v+8)
def hdE (x:List En×Int):Prop:=x.1.length<=1000000000/\0<=x.2/\x.2<=100000000000/\x.1=mkR mkE 9 x.1.length x.2
instance (x:List En×Int):Decidable (hdE x):=by unfold hdE;infer_instance
end Go.Proofs.Tryz
