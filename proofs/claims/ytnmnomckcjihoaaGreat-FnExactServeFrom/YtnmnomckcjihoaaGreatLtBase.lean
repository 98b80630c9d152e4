/- A part of the proof of FnExactServeFrom: LtBase. -/
import Derived.Test.YtnmnomckcjihoaaGreatVmJ
import Derived.Test.YtnmnomckcjihoaaGreatProg
set_option linter.unusedSimpArgs false
set_option linter.unusedVariables false
namespace Go.Proofs.Tryz
open Go Go.VM Go.RowKit
abbrev Bk:=Int×Int×Int×Int×Bool
abbrev Vp:=Int×Int×Int×List Int
abbrev CZ:Type:=Int×List Bk×List Vp
abbrev DZ:Type:=Int×Int×Int×Int×Int×Int
def tR (e:Nat):Type:=if e=2 then Int else if e=3 then Int else if e=5 then Int else if e=83 then Int×Int×Int×Int×Bool else if e=104 then Int×Int×Int×Int×Bool else if e=96 then Int×Int×Int×List (Int)else if e=100 then Int×Int×Int×List (Int)else if e=64 then Int×Int×Int×Int×Int×Int else if e=72 then Int×Int×Int×Int×Int×Int else if e=34 then Int×List Bk×List (Int×Int×Int×List (Int))else if e=25 then Int×List Bk×List (Int×Int×Int×List (Int))else Unit
def aTD (e:Nat):tR e:=by
 unfold tR
 repeat' split
 all_goals first | exact((0:Int):Int) | exact((0:Int):Int) | exact((0:Int):Int) | exact(((0:Int),(0:Int),(0:Int),(0:Int),false):Int×Int×Int×Int×Bool) | exact(((0:Int),(0:Int),(0:Int),(0:Int),false):Int×Int×Int×Int×Bool) | exact(((0:Int),(0:Int),(0:Int),[]):Int×Int×Int×List (Int)) | exact(((0:Int),(0:Int),(0:Int),[]):Int×Int×Int×List (Int)) | exact(((0:Int),(0:Int),(0:Int),(0:Int),(0:Int),(0:Int)):Int×Int×Int×Int×Int×Int) | exact(((0:Int),(0:Int),(0:Int),(0:Int),(0:Int),(0:Int)):Int×Int×Int×Int×Int×Int) | exact(((0:Int),[],[]):Int×List Bk×List (Int×Int×Int×List (Int))) | exact(((0:Int),[],[]):Int×List Bk×List (Int×Int×Int×List (Int))) | exact()
def cd2:Cd tR (tR 2):=fN .i64
def cd3:Cd tR (tR 3):=fN .i64
def cd5:Cd tR (tR 5):=fN .u8
def aVl:Cd tR (tR 83):=eQ (fN .i64) (eQ (fN .i64) (eQ (fN .i64) (eQ (fN .i64) aGW)))
def aRr:Cd tR (tR 104):=eQ (fN .i64) (eQ (fN .i64) (eQ (fN .i64) (eQ (fN .i64) aGW)))
def aVk:Cd tR (tR 96):=eQ (fN .i64) (eQ (fN .i64) (eQ (fN .i64) (aA5 2)))
def aRs:Cd tR (tR 100):=eQ (fN .i64) (eQ (fN .i64) (eQ (fN .i64) (aA5 2)))
def aVn:Cd tR (tR 64):=eQ (fN .i64) (eQ (fN .i64) (eQ (fN .i64) (eQ (fN .i64) (eQ (fN .i64) (fN .i64)))))
def aVm:Cd tR (tR 72):=eQ (fN .i64) (eQ (fN .i64) (eQ (fN .i64) (eQ (fN .i64) (eQ (fN .i64) (fN .i64)))))
def aVo:Cd tR (tR 34):=eQ (fN .i64) (eQ (aA5 83) (aA5 96))
def aVp:Cd tR (tR 25):=eQ (fN .i64) (eQ (aA5 104) (aA5 100))
def cdT (e:Nat):Cd tR (tR e):=
 if h:e=2 then h.symm▸cd2 else if h:e=3 then h.symm▸cd3 else if h:e=5 then h.symm▸cd5 else if h:e=83 then h.symm▸aVl else if h:e=104 then h.symm▸aRr else if h:e=96 then h.symm▸aVk else if h:e=100 then h.symm▸aRs else if h:e=64 then h.symm▸aVn else if h:e=72 then h.symm▸aVm else if h:e=34 then h.symm▸aVo else if h:e=25 then h.symm▸aVp else aLR (aTD e)
def cxT:Cx:=Cx.of cdT
theorem bQ:cxT.Ok:=Cx.of_ok cdT
set_option maxRecDepth 100000 in
theorem aA2 {e:Nat}(h:(cdT e).dom=true):e=2\/e=3\/e=5\/e=83\/e=104\/e=64\/e=72:=by
 by_cases h0:e=2
 ·exact .inl h0
 by_cases h1:e=3
 ·exact .inr (.inl h1)
 by_cases h2:e=5
 ·exact .inr (.inr (.inl h2))
 by_cases h3:e=83
 ·exact .inr (.inr (.inr (.inl h3)))
 by_cases h4:e=104
 ·exact .inr (.inr (.inr (.inr (.inl h4))))
 by_cases h5:e=96
 ·subst h5;exact absurd h (by intro hh;cases (show false=true from hh))
 by_cases h6:e=100
 ·subst h6;exact absurd h (by intro hh;cases (show false=true from hh))
 by_cases h7:e=64
 ·exact .inr (.inr (.inr (.inr (.inr (.inl h7)))))
 by_cases h8:e=72
 ·exact .inr (.inr (.inr (.inr (.inr (.inr (h8))))))
 by_cases h9:e=34
 ·subst h9;exact absurd h (by intro hh;cases (show false=true from hh))
 by_cases h10:e=25
 ·subst h10;exact absurd h (by intro hh;cases (show false=true from hh))
 ·unfold cdT at h;rw[dif_neg h0,dif_neg h1,dif_neg h2,dif_neg h3,dif_neg h4,dif_neg h5,dif_neg h6,dif_neg h7,dif_neg h8,dif_neg h9,dif_neg h10]at h;exact Bool.noConfusion h
set_option maxRecDepth 100000 in
theorem bH:cxT.POk prog:=by
  refine⟨λe he=>?_,λe he hu o x=>?_⟩
  · rcases aA2 he with rfl | rfl | rfl | rfl | rfl | rfl | rfl <;>
    exact⟨_,_,rfl,rfl,rfl,by decide,rfl,by decide,rfl⟩
  · rcases aA2 he with rfl | rfl | rfl | rfl | rfl | rfl | rfl
    · rw[show prog.underlying 2=_ from rfl]at hu;cases hu
    · rw[show prog.underlying 3=_ from rfl]at hu;cases hu
    · exact⟨x,rfl⟩
    · rw[show prog.underlying 83=_ from rfl]at hu;cases hu
    · rw[show prog.underlying 104=_ from rfl]at hu;cases hu
    · rw[show prog.underlying 64=_ from rfl]at hu;cases hu
    · rw[show prog.underlying 72=_ from rfl]at hu;cases hu
end Go.Proofs.Tryz
