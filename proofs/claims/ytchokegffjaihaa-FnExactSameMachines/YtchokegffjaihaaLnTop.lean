/- A part of the proof of FnExactSameMachines: LnTop. -/
import Derived.Test.YtchokegffjaihaaVmOpen
import Derived.Test.YtchokegffjaihaaLnNa
set_option linter.unusedSimpArgs false
set_option linter.unusedVariables false
set_option maxHeartbeats 0
namespace Go.Proofs.Try
open Go Go.VM Go.RowKit
theorem iY:prog.cellsOf 2=1:=by kernel_rfl
theorem aFM:prog.cellsOf 4=1:=by kernel_rfl
theorem aEu:prog.cellsOf 22=1:=by kernel_rfl
theorem aEt:prog.cellsOf 23=1:=by kernel_rfl
theorem aBZ:prog.cellsOf 25=3:=by kernel_rfl
theorem aEs:prog.cellsOf 26=1:=by kernel_rfl
theorem aEr:prog.cellsOf 28=4:=by kernel_rfl
theorem aBY:prog.cellsOf 72=3:=by kernel_rfl
theorem aEq:prog.cellsOf 77=1:=by kernel_rfl
theorem aBX:prog.cellsOf 91=4:=by kernel_rfl
theorem aBW:prog.cellsOf 94=5:=by kernel_rfl
def kS (x:Int):Prop:=(Lit.int .i64 x).wf=true
def zW (x:List Int):Prop:=x.length<=maxLen/\∀ y∈x,kS y
def aFc (xs:List Int):L cxT.ty:=some (.inr (ro 2 xs))
theorem opI:Opens prog cxT 77 (λx:List Int=>[aFc x]) zW:=
 jW (cx:=cxT) (e:=2) (good:=kS) underlying77 iY (by decide) cS (eU (cx:=cxT) underlying2)
def zA (b:Bk):Prop:=kS b.1/\kS b.2.1/\kS b.2.2.1/\kS b.2.2.2.1/\True
set_option maxRecDepth 100000 in
theorem aJY:Opens prog cxT 94 (λb:Bk=>[lv (.int .i64 b.1),lv (.int .i64 b.2.1),lv (.int .i64 b.2.2.1),lv (.int .i64 b.2.2.2.1),lv (.bool b.2.2.2.2)]) zA:=
 jF underlying94 aBW (eJ (eU underlying2) rfl iY (eJ (eU underlying2) rfl iY (eJ (eU underlying2) rfl iY (eJ (eU underlying2) rfl iY (jQ (l:=λx:Bool=>lv (.bool x)) (aAL underlying4) rfl aFM)))))
def aAu (x:List Bk):Prop:=x.length<=maxLen/\∀ y∈x,zA y
def aBq (xs:List Bk):L cxT.ty:=some (.inr (ro 94 xs))
set_option maxRecDepth 100000 in
theorem aHJ:Opens prog cxT 22 (λx:List Bk=>[aBq x]) aAu:=
 jW (cx:=cxT) (e:=94) (good:=zA) underlying22 aBW (by decide) cS aJY
def xF (b:Vp):Prop:=kS b.1/\kS b.2.1/\kS b.2.2.1/\zW b.2.2.2
set_option maxRecDepth 100000 in
theorem aJW:Opens prog cxT 91 (λb:Vp=>[lv (.int .i64 b.1),lv (.int .i64 b.2.1),lv (.int .i64 b.2.2.1),aFc b.2.2.2]) xF:=
 jF underlying91 aBX (eJ (eU underlying2) rfl iY (eJ (eU underlying2) rfl iY (eJ (eU underlying2) rfl iY (jQ (l:=aFc) opI rfl aEq))))
def zE (x:List Vp):Prop:=x.length<=maxLen/\∀ y∈x,xF y
def aBr (xs:List Vp):L cxT.ty:=some (.inr (ro 91 xs))
set_option maxRecDepth 100000 in
theorem aHI:Opens prog cxT 23 (λx:List Vp=>[aBr x]) zE:=
 jW (cx:=cxT) (e:=91) (good:=xF) underlying23 aBX (by decide) cS aJW
def mG (c:Cg):Prop:=kS c.1/\aAu c.2.1/\zE c.2.2
def aEn (c:Cg):List (L cxT.ty):=[lv (.int .i64 c.1),aBq c.2.1,aBr c.2.2]
set_option maxRecDepth 100000 in
theorem opC:Opens prog cxT 25 aEn mG:=
 jF underlying25 aBZ (eJ (eU underlying2) rfl iY (eJ (l:=aBq) aHJ rfl aEu (jQ (l:=aBr) aHI rfl aEt)))
def xI (x:Ss):Prop:=kS x.1/\kS x.2.1/\kS x.2.2
set_option maxRecDepth 100000 in
theorem aJX:Opens prog cxT 72 (λx:Ss=>[lv (.int .i64 x.1),lv (.int .i64 x.2.1),lv (.int .i64 x.2.2)]) xI:=
 jF underlying72 aBY (eJ (eU underlying2) rfl iY (eJ (eU underlying2) rfl iY (jQ (l:=λx:Int=>lv (.int .i64 x)) (eU underlying2) rfl iY)))
def mE (x:List Ss):Prop:=x.length<=maxLen/\∀ y∈x,xI y
def aEB (xs:List Ss):L cxT.ty:=some (.inr (ro 72 xs))
def aEm (xs:List Ss):List (L cxT.ty):=[aEB xs]
set_option maxRecDepth 100000 in
theorem opR:Opens prog cxT 26 aEm mE:=
 jW (cx:=cxT) (e:=72) (good:=xI) underlying26 aBY (by decide) cS aJX
def opG_good (m:Mg):Prop:=mG (cfg m)/\mE m.2.2.2
def encG (m:Mg):List (L cxT.ty):=[lv (.int .i64 m.1),aBq m.2.1,aBr m.2.2.1,aEB m.2.2.2]
set_option maxRecDepth 100000 in
theorem opP:Opens prog cxT 28 (λx:Cg×List Ss=>aEn x.1++aEm x.2) (λx=>mG x.1/\mE x.2):=
 vL (T:=Cg×List Ss) (k:=3+1) (enc:=λx=>aEn x.1++aEm x.2) (good:=λx=>mG x.1/\mE x.2) underlying28 aEr (zV (enc1:=aEn) (good:=mG) opC rfl aBZ (sP (enc:=aEm) (good:=mE) opR rfl aEs))
theorem opG:Opens prog cxT 28 encG opG_good:=by
 intro H e' w spare held fuel cs x h;obtain⟨⟨c,r⟩,h1,h2⟩:=opP H e' w spare held fuel cs x h;exact⟨(c.1,c.2.1,c.2.2,r),h1,h2⟩
theorem zG_of {m:Mg}(h:opG_good m):zG m:=by
 have hm:maxLen<=top:=by decide
 obtain⟨⟨_,⟨h1,_⟩,h2,h3⟩,h4,_⟩:=h;exact⟨⟨cI h1 hm,cI h2 hm,λv hv=>cI (h3 v hv).2.2.2.1 hm⟩,cI h4 hm⟩
end Go.Proofs.Try
