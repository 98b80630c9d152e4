/- A part of the proof of FnExactMachineFault: LnTop. -/
import Derived.Test.YtchokegffjaihaaVmOpen
import Derived.Test.YtchokegffjaihaaLnNa
set_option linter.unusedSimpArgs false
set_option linter.unusedVariables false
set_option maxHeartbeats 0
namespace Go.Proofs.Try
open Go Go.VM Go.RowKit
theorem jI:prog.cellsOf 2=1:=by kernel_rfl
theorem aHy:prog.cellsOf 4=1:=by kernel_rfl
theorem aFv:prog.cellsOf 22=1:=by kernel_rfl
theorem aFu:prog.cellsOf 23=1:=by kernel_rfl
theorem aCO:prog.cellsOf 25=3:=by kernel_rfl
theorem aFt:prog.cellsOf 26=1:=by kernel_rfl
theorem aFs:prog.cellsOf 28=4:=by kernel_rfl
theorem aCN:prog.cellsOf 72=3:=by kernel_rfl
theorem aFr:prog.cellsOf 77=1:=by kernel_rfl
theorem aCM:prog.cellsOf 91=4:=by kernel_rfl
theorem aCL:prog.cellsOf 94=5:=by kernel_rfl
def lI (x:Int):Prop:=(Lit.int .i64 x).wf=true
def aAG (x:List Int):Prop:=x.length<=maxLen/\∀ y∈x,lI y
def aGt (xs:List Int):L cxT.ty:=some (.inr (ro 2 xs))
theorem opI:Opens prog cxT 77 (λx:List Int=>[aGt x]) aAG:=
 kL (cx:=cxT) (e:=2) (good:=lI) underlying77 jI (by decide) cA (fB (cx:=cxT) underlying2)
def aAg (b:Bk):Prop:=lI b.1/\lI b.2.1/\lI b.2.2.1/\lI b.2.2.2.1/\True
set_option maxRecDepth 100000 in
theorem aNd:Opens prog cxT 94 (λb:Bk=>[lv (.int .i64 b.1),lv (.int .i64 b.2.1),lv (.int .i64 b.2.2.1),lv (.int .i64 b.2.2.2.1),lv (.bool b.2.2.2.2)]) aAg:=
 jQ underlying94 aCL (eQ (fB underlying2) rfl jI (eQ (fB underlying2) rfl jI (eQ (fB underlying2) rfl jI (eQ (fB underlying2) rfl jI (kB (l:=λx:Bool=>lv (.bool x)) (aBs underlying4) rfl aHy)))))
def aA9 (x:List Bk):Prop:=x.length<=maxLen/\∀ y∈x,aAg y
def aCc (xs:List Bk):L cxT.ty:=some (.inr (ro 94 xs))
set_option maxRecDepth 100000 in
theorem aKa:Opens prog cxT 22 (λx:List Bk=>[aCc x]) aA9:=
 kL (cx:=cxT) (e:=94) (good:=aAg) underlying22 aCL (by decide) cA aNd
def yK (b:Vp):Prop:=lI b.1/\lI b.2.1/\lI b.2.2.1/\aAG b.2.2.2
set_option maxRecDepth 100000 in
theorem aNb:Opens prog cxT 91 (λb:Vp=>[lv (.int .i64 b.1),lv (.int .i64 b.2.1),lv (.int .i64 b.2.2.1),aGt b.2.2.2]) yK:=
 jQ underlying91 aCM (eQ (fB underlying2) rfl jI (eQ (fB underlying2) rfl jI (eQ (fB underlying2) rfl jI (kB (l:=aGt) opI rfl aFr))))
def aAn (x:List Vp):Prop:=x.length<=maxLen/\∀ y∈x,yK y
def aCd (xs:List Vp):L cxT.ty:=some (.inr (ro 91 xs))
set_option maxRecDepth 100000 in
theorem aJ9:Opens prog cxT 23 (λx:List Vp=>[aCd x]) aAn:=
 kL (cx:=cxT) (e:=91) (good:=yK) underlying23 aCM (by decide) cA aNb
def mZ (c:Cg):Prop:=lI c.1/\aA9 c.2.1/\aAn c.2.2
def aFo (c:Cg):List (L cxT.ty):=[lv (.int .i64 c.1),aCc c.2.1,aCd c.2.2]
set_option maxRecDepth 100000 in
theorem opC:Opens prog cxT 25 aFo mZ:=
 jQ underlying25 aCO (eQ (fB underlying2) rfl jI (eQ (l:=aCc) aKa rfl aFv (kB (l:=aCd) aJ9 rfl aFu)))
def yN (x:Ss):Prop:=lI x.1/\lI x.2.1/\lI x.2.2
set_option maxRecDepth 100000 in
theorem aNc:Opens prog cxT 72 (λx:Ss=>[lv (.int .i64 x.1),lv (.int .i64 x.2.1),lv (.int .i64 x.2.2)]) yN:=
 jQ underlying72 aCN (eQ (fB underlying2) rfl jI (eQ (fB underlying2) rfl jI (kB (l:=λx:Int=>lv (.int .i64 x)) (fB underlying2) rfl jI)))
def mX (x:List Ss):Prop:=x.length<=maxLen/\∀ y∈x,yN y
def aFG (xs:List Ss):L cxT.ty:=some (.inr (ro 72 xs))
def aFn (xs:List Ss):List (L cxT.ty):=[aFG xs]
set_option maxRecDepth 100000 in
theorem opR:Opens prog cxT 26 aFn mX:=
 kL (cx:=cxT) (e:=72) (good:=yN) underlying26 aCN (by decide) cA aNc
def opG_good (m:Mg):Prop:=mZ (cfg m)/\mX m.2.2.2
def encG (m:Mg):List (L cxT.ty):=[lv (.int .i64 m.1),aCc m.2.1,aCd m.2.2.1,aFG m.2.2.2]
set_option maxRecDepth 100000 in
theorem opP:Opens prog cxT 28 (λx:Cg×List Ss=>aFo x.1++aFn x.2) (λx=>mZ x.1/\mX x.2):=
 wQ (T:=Cg×List Ss) (k:=3+1) (enc:=λx=>aFo x.1++aFn x.2) (good:=λx=>mZ x.1/\mX x.2) underlying28 aFs (aAF (enc1:=aFo) (good:=mZ) opC rfl aCO (tR (enc:=aFn) (good:=mX) opR rfl aFt))
theorem opG:Opens prog cxT 28 encG opG_good:=by
 intro H e' w spare held fuel cs x h;obtain⟨⟨c,r⟩,h1,h2⟩:=opP H e' w spare held fuel cs x h;exact⟨(c.1,c.2.1,c.2.2,r),h1,h2⟩
theorem zG_of {m:Mg}(h:opG_good m):zG m:=by
 have hm:maxLen<=top:=by decide
 obtain⟨⟨_,⟨h1,_⟩,h2,h3⟩,h4,_⟩:=h;exact⟨⟨cW h1 hm,cW h2 hm,λv hv=>cW (h3 v hv).2.2.2.1 hm⟩,cW h4 hm⟩
end Go.Proofs.Try
