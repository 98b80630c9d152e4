/- A part of the proof of FnExactReplyOf: LnTop. -/
import Derived.Test.YtchokegffjaihaaVmOpen
import Derived.Test.YtchokegffjaihaaLnNa
set_option linter.unusedSimpArgs false
set_option linter.unusedVariables false
set_option maxHeartbeats 0
namespace Go.Proofs.Try
open Go Go.VM Go.RowKit
theorem jK:prog.cellsOf 2=1:=by kernel_rfl
theorem aIl:prog.cellsOf 4=1:=by kernel_rfl
theorem aF8:prog.cellsOf 22=1:=by kernel_rfl
theorem aF7:prog.cellsOf 23=1:=by kernel_rfl
theorem aC8:prog.cellsOf 25=3:=by kernel_rfl
theorem aF6:prog.cellsOf 26=1:=by kernel_rfl
theorem aF5:prog.cellsOf 28=4:=by kernel_rfl
theorem aC7:prog.cellsOf 72=3:=by kernel_rfl
theorem aF4:prog.cellsOf 77=1:=by kernel_rfl
theorem aC6:prog.cellsOf 91=4:=by kernel_rfl
theorem aC5:prog.cellsOf 94=5:=by kernel_rfl
def lN (x:Int):Prop:=(Lit.int .i64 x).wf=true
def aA3 (x:List Int):Prop:=x.length<=maxLen/\∀ y∈x,lN y
def aHd (xs:List Int):L cxT.ty:=some (.inr (ro 2 xs))
theorem opI:Opens prog cxT 77 (λx:List Int=>[aHd x]) aA3:=
 kP (cx:=cxT) (e:=2) (good:=lN) underlying77 jK (by decide) cA (fC (cx:=cxT) underlying2)
def aAD (b:Bk):Prop:=lN b.1/\lN b.2.1/\lN b.2.2.1/\lN b.2.2.2.1/\True
set_option maxRecDepth 100000 in
theorem aOf:Opens prog cxT 94 (λb:Bk=>[lv (.int .i64 b.1),lv (.int .i64 b.2.1),lv (.int .i64 b.2.2.1),lv (.int .i64 b.2.2.2.1),lv (.bool b.2.2.2.2)]) aAD:=
 jT underlying94 aC5 (eQ (fC underlying2) rfl jK (eQ (fC underlying2) rfl jK (eQ (fC underlying2) rfl jK (eQ (fC underlying2) rfl jK (kE (l:=λx:Bool=>lv (.bool x)) (aBM underlying4) rfl aIl)))))
def aBt (x:List Bk):Prop:=x.length<=maxLen/\∀ y∈x,aAD y
def aCx (xs:List Bk):L cxT.ty:=some (.inr (ro 94 xs))
set_option maxRecDepth 100000 in
theorem aK5:Opens prog cxT 22 (λx:List Bk=>[aCx x]) aBt:=
 kP (cx:=cxT) (e:=94) (good:=aAD) underlying22 aC5 (by decide) cA aOf
def zE (b:Vp):Prop:=lN b.1/\lN b.2.1/\lN b.2.2.1/\aA3 b.2.2.2
set_option maxRecDepth 100000 in
theorem aOd:Opens prog cxT 91 (λb:Vp=>[lv (.int .i64 b.1),lv (.int .i64 b.2.1),lv (.int .i64 b.2.2.1),aHd b.2.2.2]) zE:=
 jT underlying91 aC6 (eQ (fC underlying2) rfl jK (eQ (fC underlying2) rfl jK (eQ (fC underlying2) rfl jK (kE (l:=aHd) opI rfl aF4))))
def aAK (x:List Vp):Prop:=x.length<=maxLen/\∀ y∈x,zE y
def aCy (xs:List Vp):L cxT.ty:=some (.inr (ro 91 xs))
set_option maxRecDepth 100000 in
theorem aK4:Opens prog cxT 23 (λx:List Vp=>[aCy x]) aAK:=
 kP (cx:=cxT) (e:=91) (good:=zE) underlying23 aC6 (by decide) cA aOd
def nM (c:Cg):Prop:=lN c.1/\aBt c.2.1/\aAK c.2.2
def aF1 (c:Cg):List (L cxT.ty):=[lv (.int .i64 c.1),aCx c.2.1,aCy c.2.2]
set_option maxRecDepth 100000 in
theorem opC:Opens prog cxT 25 aF1 nM:=
 jT underlying25 aC8 (eQ (fC underlying2) rfl jK (eQ (l:=aCx) aK5 rfl aF8 (kE (l:=aCy) aK4 rfl aF7)))
def zI (x:Ss):Prop:=lN x.1/\lN x.2.1/\lN x.2.2
set_option maxRecDepth 100000 in
theorem aOe:Opens prog cxT 72 (λx:Ss=>[lv (.int .i64 x.1),lv (.int .i64 x.2.1),lv (.int .i64 x.2.2)]) zI:=
 jT underlying72 aC7 (eQ (fC underlying2) rfl jK (eQ (fC underlying2) rfl jK (kE (l:=λx:Int=>lv (.int .i64 x)) (fC underlying2) rfl jK)))
def nK (x:List Ss):Prop:=x.length<=maxLen/\∀ y∈x,zI y
def aGk (xs:List Ss):L cxT.ty:=some (.inr (ro 72 xs))
def aF0 (xs:List Ss):List (L cxT.ty):=[aGk xs]
set_option maxRecDepth 100000 in
theorem opR:Opens prog cxT 26 aF0 nK:=
 kP (cx:=cxT) (e:=72) (good:=zI) underlying26 aC7 (by decide) cA aOe
def opG_good (m:Mg):Prop:=nM (cfg m)/\nK m.2.2.2
def encG (m:Mg):List (L cxT.ty):=[lv (.int .i64 m.1),aCx m.2.1,aCy m.2.2.1,aGk m.2.2.2]
set_option maxRecDepth 100000 in
theorem opP:Opens prog cxT 28 (λx:Cg×List Ss=>aF1 x.1++aF0 x.2) (λx=>nM x.1/\nK x.2):=
 xH (T:=Cg×List Ss) (k:=3+1) (enc:=λx=>aF1 x.1++aF0 x.2) (good:=λx=>nM x.1/\nK x.2) underlying28 aF5 (aA2 (enc1:=aF1) (good:=nM) opC rfl aC8 (uG (enc:=aF0) (good:=nK) opR rfl aF6))
theorem opG:Opens prog cxT 28 encG opG_good:=by
 intro H e' w spare held fuel cs x h;obtain⟨⟨c,r⟩,h1,h2⟩:=opP H e' w spare held fuel cs x h;exact⟨(c.1,c.2.1,c.2.2,r),h1,h2⟩
theorem zG_of {m:Mg}(h:opG_good m):zG m:=by
 have hm:maxLen<=top:=by decide
 obtain⟨⟨_,⟨h1,_⟩,h2,h3⟩,h4,_⟩:=h;exact⟨⟨cW h1 hm,cW h2 hm,λv hv=>cW (h3 v hv).2.2.2.1 hm⟩,cW h4 hm⟩
end Go.Proofs.Try
