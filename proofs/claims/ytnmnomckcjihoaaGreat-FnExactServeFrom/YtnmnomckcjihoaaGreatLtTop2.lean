/- A part of the proof of FnExactServeFrom: LtTop2. -/
import Derived.Test.YtnmnomckcjihoaaGreatVmOpen
import Derived.Test.YtnmnomckcjihoaaGreatLtNc
set_option linter.unusedSimpArgs false
set_option linter.unusedVariables false
set_option maxHeartbeats 0
namespace Go.Proofs.Tryz
open Go Go.VM Go.RowKit
theorem iQ:prog.cellsOf 2=1:=by kernel_rfl
theorem aLP:prog.cellsOf 4=1:=by kernel_rfl
theorem aIo:prog.cellsOf 22=1:=by kernel_rfl
theorem aIn:prog.cellsOf 23=1:=by kernel_rfl
theorem aEH:prog.cellsOf 72=6:=by kernel_rfl
theorem aEI:prog.cellsOf 25=3:=by kernel_rfl
theorem aIm:prog.cellsOf 94=1:=by kernel_rfl
theorem aCQ:prog.cellsOf 100=4:=by kernel_rfl
theorem aCP:prog.cellsOf 104=5:=by kernel_rfl
def kM (x:Int):Prop:=(Lit.int .i64 x).wf=true
def aCp (x:List Int):Prop:=x.length<=maxLen/\∀ y∈x,kM y
def aKs (xs:List Int):L cxT.ty:=some (.inr (ro 2 xs))
theorem opI:Opens prog cxT 94 (λx:List Int=>[aKs x]) aCp:=
 jW (cx:=cxT) (e:=2) (good:=kM) underlying94 iQ (by decide) bQ (eS (cx:=cxT) underlying2)
def aBW (b:Bk):Prop:=kM b.1/\kM b.2.1/\kM b.2.2.1/\kM b.2.2.2.1/\True
set_option maxRecDepth 100000 in
theorem aTz:Opens prog cxT 104 (λb:Bk=>[lv (.int .i64 b.1),lv (.int .i64 b.2.1),lv (.int .i64 b.2.2.1),lv (.int .i64 b.2.2.2.1),lv (.bool b.2.2.2.2)]) aBW:=
 kQ underlying104 aCP (eC (eS underlying2) rfl iQ (eC (eS underlying2) rfl iQ (eC (eS underlying2) rfl iQ (eC (eS underlying2) rfl iQ (lD (l:=λx:Bool=>lv (.bool x)) (aDd underlying4) rfl aLP)))))
def aCS (x:List Bk):Prop:=x.length<=maxLen/\∀ y∈x,aBW y
def aC9 (xs:List Bk):L cxT.ty:=some (.inr (ro 104 xs))
set_option maxRecDepth 100000 in
theorem aPg:Opens prog cxT 22 (λx:List Bk=>[aC9 x]) aCS:=
 jW (cx:=cxT) (e:=104) (good:=aBW) underlying22 aCP (by decide) bQ aTz
def aA9 (b:Vp):Prop:=kM b.1/\kM b.2.1/\kM b.2.2.1/\aCp b.2.2.2
set_option maxRecDepth 100000 in
theorem aTx:Opens prog cxT 100 (λb:Vp=>[lv (.int .i64 b.1),lv (.int .i64 b.2.1),lv (.int .i64 b.2.2.1),aKs b.2.2.2]) aA9:=
 kQ underlying100 aCQ (eC (eS underlying2) rfl iQ (eC (eS underlying2) rfl iQ (eC (eS underlying2) rfl iQ (lD (l:=aKs) opI rfl aIm))))
def aB8 (x:List Vp):Prop:=x.length<=maxLen/\∀ y∈x,aA9 y
def aDa (xs:List Vp):L cxT.ty:=some (.inr (ro 100 xs))
set_option maxRecDepth 100000 in
theorem aPf:Opens prog cxT 23 (λx:List Vp=>[aDa x]) aB8:=
 jW (cx:=cxT) (e:=100) (good:=aA9) underlying23 aCQ (by decide) bQ aTx
def sD (c:Cg):Prop:=kM c.1/\aCS c.2.1/\aB8 c.2.2
def aU7 (c:Cg):List (L cxT.ty):=[lv (.int .i64 c.1),aC9 c.2.1,aDa c.2.2]
set_option maxRecDepth 100000 in
theorem opC:Opens prog cxT 25 aU7 sD:=
 kQ underlying25 aEI (eC (eS underlying2) rfl iQ (eC (l:=aC9) aPg rfl aIo (lD (l:=aDa) aPf rfl aIn)))
def aBS (x:Cm):Prop:=kM x.1/\kM x.2.1/\kM x.2.2.1/\kM x.2.2.2.1/\kM x.2.2.2.2.1/\kM x.2.2.2.2.2
set_option maxRecDepth 100000 in
theorem aTy:Opens prog cxT 72 (λx:Cm=>[lv (.int .i64 x.1),lv (.int .i64 x.2.1),lv (.int .i64 x.2.2.1),lv (.int .i64 x.2.2.2.1),lv (.int .i64 x.2.2.2.2.1),lv (.int .i64 x.2.2.2.2.2)]) aBS:=
 kQ underlying72 aEH (eC (eS underlying2) rfl iQ (eC (eS underlying2) rfl iQ (eC (eS underlying2) rfl iQ (eC (eS underlying2) rfl iQ (eC (eS underlying2) rfl iQ (lD (l:=λx:Int=>lv (.int .i64 x)) (eS underlying2) rfl iQ))))))
def sR (x:List Cm):Prop:=x.length<=maxLen/\∀ y∈x,aBS y
def row72 (xs:List Cm):L cxT.ty:=some (.inr (ro 72 xs))
def aU6 (xs:List Cm):List (L cxT.ty):=[row72 xs]
set_option maxRecDepth 100000 in
theorem opR:Opens prog cxT 26 aU6 sR:=
 jW (cx:=cxT) (e:=72) (good:=aBS) underlying26 aEH (by decide) bQ aTy
theorem aMW {c:Cg}(h:sD c):okZ c:=by
 have hm:maxLen<=top:=by decide
 obtain⟨_,⟨h1,_⟩,h2,h3⟩:=h;exact⟨dD h1 hm,dD h2 hm,λv hv=>dD (h3 v hv).2.2.2.1 hm⟩
def zK (x:List Cg):Prop:=x.length<=maxLen/\∀ y∈x,sD y
def row25 (xs:List Cg):L cxT.ty:=some (.inr (ro 25 xs))
set_option maxRecDepth 100000 in
theorem opL:Opens prog cxT 41 (λx:List Cg=>[row25 x]) zK:=
 jW (cx:=cxT) (e:=25) (good:=sD) underlying41 aEI (by decide) bQ opC
abbrev opL_good:=zK
abbrev opG_good:=sR
theorem zS_of {l:List Cg}{g:List Cm}{fr:Int}(h1:zK l)(h2:sR g):zS (l,g,fr):=⟨dD h1.1 (by decide),λc hc=>aMW (h1.2 c hc),dD h2.1 (by decide)⟩
theorem opG:Opens prog cxT 26 (λx:List Cm=>[row72 x]) sR:=opR
end Go.Proofs.Tryz
