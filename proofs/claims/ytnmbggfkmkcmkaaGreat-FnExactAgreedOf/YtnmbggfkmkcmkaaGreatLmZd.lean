/- A part of the proof of FnExactLeaderOf: LmZd, LmZe, LmZf, LmTop. -/
import Derived.Test.YtnmbggfkmkcmkaaGreatLmZa
import Derived.Test.YtnmbggfkmkcmkaaGreatLmFo
import Derived.Test.YtnmbggfkmkcmkaaGreatVmOpen
set_option linter.unusedSimpArgs false
set_option linter.unusedVariables false
set_option maxHeartbeats 0
namespace Go.Proofs.Tryz
open Go Go.VM Go.RowKit
def sld (d:List Sl):List En:=d.map λs=>s.2
theorem aFi (d:List Sl):(sld d).length=d.length:=cN ..
def vR (d:List Sl)(i:Nat):List En:=sld (d.take i)
theorem aDn {d:List Sl}{i:Nat}(h:i<=d.length):(vR d i).length=i:=by unfold vR;rw[aFi,eB];omega
theorem aBQ {d:List Sl}{i:Nat}(h:i < d.length):vR d i++[(d.getD i dS).2]=vR d (i+1):=by
 unfold vR sld;rw[yU dS h,List.take_succ_eq_append_getElem h,cW]
 rfl
theorem aDo (d:List Sl):vR d d.length=sld d:=by unfold vR;rw[pR]
def yG (d:List Sl):Option (List En):=if d.length<=lN then some (sld d)else none
theorem aTX (L:Nat)(d:List Sl)(hd:d.length<=1000000000):∀ n i,i<=d.length->d.length < n+i->xD L d n (vR d i) (i:Int) some=some (sld d)
 | 0,i,h1,h2=>by omega
 | n+1,i,h1,h2=>by
  show B53_0 (λx=>x) (λo v=>xD L d n o v some) some d (vR d i) (i:Int)=_;unfold B53_0;by_cases hi:i < d.length
  ·have hu:=aDn h1;dsimp only[dX];rw[dt (by omega),cond_true,dt (by omega),bM,cond_true,dt (by rw[hu,rR];omega),cond_true,wi (by omega) (by omega),bB];show xD L d n (vR d i++[(d.getD i dS).2]) ((i+1:Nat):Int) some=_;rw[aBQ hi];exact aTX L d hd n (i+1) (by omega) (by omega)
  ·rw[df (by omega),cond_false,show i=d.length by omega,aDo]
theorem aRe:Sat prog cxT 53 (c53 yG):=s53 yG λd t h=>by
 unfold yG at h;split at h
 ·rename_i hc;cases h;exact⟨d.length+1,aTX _ d hc _ 0 (dI _) (by omega)⟩
 ·cases h
def yF (c:Cl):Option (List En):=if cOk c then some (sld c.2.2.2)else none
theorem aTW (L:Nat)(c:Cl)(hd:c.2.2.2.length<=1000000000):∀ n i,i<=c.2.2.2.length->c.2.2.2.length < n+i->xC L c n (vR c.2.2.2 i) (i:Int) some=some (sld c.2.2.2)
 | 0,i,h1,h2=>by omega
 | n+1,i,h1,h2=>by
  show B57_0 (λx=>x) (λo v=>xC L c n o v some) some c (vR c.2.2.2 i) (i:Int)=_;unfold B57_0;by_cases hi:i < c.2.2.2.length
  ·have hu:=aDn h1;dsimp only[dX,List.getD_cons_zero];rw[dt (by omega),cond_true,dt (by omega),bM,cond_true,dt (by rw[hu,rR];omega),cond_true,wi (by omega) (by omega),bB];show xC L c n (vR c.2.2.2 i++[(c.2.2.2.getD i dS).2]) ((i+1:Nat):Int) some=_;rw[aBQ hi];exact aTW L c hd n (i+1) (by omega) (by omega)
  ·dsimp only[List.getD_cons_zero];rw[df (by omega),cond_false,show i=c.2.2.2.length by omega,aDo]
theorem aRd:Sat prog cxT 57 (c57 yF):=s57 yF λc t h=>by
 unfold yF at h;split at h
 ·rename_i hc;cases h;exact⟨c.2.2.2.length+1,aTW _ c (aA0 hc).2.2.2 _ 0 (dI _) (by omega)⟩
 ·cases h
theorem bz {p:Bool}{k y:Int}(h:(bif p then k else y)=0)(hk:k≠0):p=false/\y=0:=by
 cases p
 ·exact⟨rfl,h⟩
 ·exact absurd h hk
theorem bzl {k y:Int}(h:(bif k != 0 then k else y)=0):y=0:=by
 by_cases hk:k=0
 ·rwa [wO hk]at h
 ·rw[rI hk]at h;exact absurd h hk
theorem aHZ {x:Nd}(h:ndF x=0):(0<=x.2.2.1/\0<=x.2.2.2.2.2.1/\x.2.2.2.2.2.1<=2)/\0<=x.2.2.2.2.2.2.1/\x.2.2.2.2.2.2.1<=((aYX x).length:Int):=by
 unfold ndF at h;have h1:=bz (bz h (by decide)).2 (by decide);have h2:=bz h1.2 (by decide);have h3:=bz h2.2 (by decide);have h4:=bz h3.2 (by decide);have h5:=bzl h4.2;have h6:=bz h5 (by decide);have h7:=bz h6.2 (by decide);have e2:=of_decide_eq_true (by simpa using h2.1);have e4:=of_decide_eq_true (by simpa using h4.1);have e7:=of_decide_eq_true (by simpa using h7.1);exact⟨⟨e2.1,e4⟩,e7⟩
theorem aVf {c:Cl}(h:clF c=0):(∀ i,i < c.1.length->ndF (c.1.getD i dN)=0/\(c.1.getD i dN).1=(i:Int))/\∀ i,i < c.2.2.2.length->enF (c.2.2.2.getD i dS).2=0:=by
 unfold clF at h;split at h
 ·cases h
 split at h
 ·cases h
 split at h
 ·cases h
 split at h
 ·rename_i hN;split at h
  ·split at h
   ·cases h
   split at h
   ·cases h
   split at h
   ·refine⟨λi hi=>?_,λi hi=>?_⟩
    ·have:=yV _ _ hN i (dI _) (by omega);unfold fN at this;split at this
     ·rename_i h1;split at this
      ·rename_i h2;exact⟨h1,h2⟩
      ·cases this
     ·rename_i h1;exact absurd this h1
    ·have:=yV _ _ h i (dI _) (by omega);unfold fS at this;split at this
     ·exact this
     ·cases this
   ·rename_i h1;exact absurd h h1
  ·rename_i h1;exact absurd h h1
 ·rename_i h1;exact absurd h h1
end Go.Proofs.Tryz
set_option maxHeartbeats 0
namespace Go.Proofs.Tryz
open Go Go.VM Go.RowKit
end Go.Proofs.Tryz
set_option maxHeartbeats 0
namespace Go.Proofs.Tryz
open Go Go.VM Go.RowKit
def mL (c:Cl):Option Bool:=if aD3 c then some true else none
end Go.Proofs.Tryz
set_option maxHeartbeats 0
namespace Go.Proofs.Tryz
open Go Go.VM Go.RowKit
theorem fZ:prog.cellsOf 2=1:=by kernel_rfl
theorem aPo:prog.cellsOf 4=1:=by kernel_rfl
theorem aFY:prog.cellsOf 86=1:=by kernel_rfl
theorem aDe:prog.cellsOf 71=1:=by kernel_rfl
theorem aD5:prog.cellsOf 111=6:=by kernel_rfl
theorem aAY:prog.cellsOf 113=9:=by kernel_rfl
theorem aFX:prog.cellsOf 88=10:=by kernel_rfl
theorem aFW:prog.cellsOf 91=9:=by kernel_rfl
theorem aD6:prog.cellsOf 109=2:=by kernel_rfl
theorem aD4:prog.cellsOf 115=10:=by kernel_rfl
theorem aKB:prog.cellsOf 22=1:=by kernel_rfl
theorem aKA:prog.cellsOf 23=1:=by kernel_rfl
theorem aKz:prog.cellsOf 24=1:=by kernel_rfl
theorem aKy:prog.cellsOf 25=1:=by kernel_rfl
theorem aKx:prog.cellsOf 27=4:=by kernel_rfl
def gK (x:Int):Prop:=(Lit.int .i64 x).wf=true
def zQ (f:Cm):Prop:=gK f.1/\gK f.2.1/\gK f.2.2.1/\gK f.2.2.2.1/\gK f.2.2.2.2.1/\gK f.2.2.2.2.2
def aPl (f:Cm):List (L cxT.ty):=[lv (.int .i64 f.1),lv (.int .i64 f.2.1),lv (.int .i64 f.2.2.1),lv (.int .i64 f.2.2.2.1),lv (.int .i64 f.2.2.2.2.1),lv (.int .i64 f.2.2.2.2.2)]
set_option maxRecDepth 100000 in
theorem opM:Opens prog cxT 111 aPl zQ:=
 jW underlying111 aD5 (cT (eC underlying2) rfl fZ (cT (eC underlying2) rfl fZ (cT (eC underlying2) rfl fZ (cT (eC underlying2) rfl fZ (cT (eC underlying2) rfl fZ (kK (l:=λx:Int=>lv (.int .i64 x)) (eC underlying2) rfl fZ))))))
def nY (x:En):Prop:=gK x.1/\gK x.2.1/\gK x.2.2.1/\zQ x.2.2.2
def aKt (x:En):List (L cxT.ty):=[lv (.int .i64 x.1),lv (.int .i64 x.2.1),lv (.int .i64 x.2.2.1),lv (.int .i64 x.2.2.2.1),lv (.int .i64 x.2.2.2.2.1),lv (.int .i64 x.2.2.2.2.2.1),lv (.int .i64 x.2.2.2.2.2.2.1),lv (.int .i64 x.2.2.2.2.2.2.2.1),lv (.int .i64 x.2.2.2.2.2.2.2.2)]
def i1 (x:Int):List (L cxT.ty):=[lv (.int .i64 x)]
theorem aJ8:Opens prog cxT 2 i1 gK:=eC underlying2
set_option maxRecDepth 100000 in
theorem opE:Opens prog cxT 113 aKt nY:=
 sK (T:=En) (k:=1+(1+(1+6))) (enc:=λx=>i1 x.1++(i1 x.2.1++(i1 x.2.2.1++aPl x.2.2.2))) (good:=nY) underlying113 aAY
  (nD (enc1:=i1) (good:=gK) aJ8 rfl fZ (nD (enc1:=i1) (good:=gK) aJ8 rfl fZ (nD (enc1:=i1) (good:=gK) aJ8 rfl fZ (tK (enc:=aPl) (good:=zQ) opM rfl aD5))))
def wA (x:List En):Prop:=x.length<=maxLen/\∀ y∈x,nY y
def zH (xs:List En):L cxT.ty:=some (.inr (ro 113 xs))
set_option maxRecDepth 100000 in
theorem aRI:Opens prog cxT 86 (λx:List En=>[zH x]) wA:=
 jN (cx:=cxT) (e:=113) (good:=nY) underlying86 aAY (by decide) bC opE
def rZ (x:List Int):Prop:=x.length<=maxLen/\∀ y∈x,gK y
def aEt (xs:List Int):L cxT.ty:=some (.inr (ro 2 xs))
set_option maxRecDepth 100000 in
theorem aOB:Opens prog cxT 71 (λx:List Int=>[aEt x]) rZ:=
 jN (cx:=cxT) (e:=2) (good:=gK) underlying71 fZ (by decide) bC (eC (cx:=cxT) underlying2)
def bAz (x:Nd):List (L cxT.ty):=[lv (.int .i64 x.1),lv (.int .i64 x.2.1),lv (.int .i64 x.2.2.1),lv (.int .i64 x.2.2.2.1),zH x.2.2.2.2.1,lv (.int .i64 x.2.2.2.2.2.1),lv (.int .i64 x.2.2.2.2.2.2.1),aEt x.2.2.2.2.2.2.2.1,aEt x.2.2.2.2.2.2.2.2.1,aEt x.2.2.2.2.2.2.2.2.2]
def qE (x:Nd):Prop:=gK x.1/\gK x.2.1/\gK x.2.2.1/\gK x.2.2.2.1/\wA x.2.2.2.2.1/\gK x.2.2.2.2.2.1/\gK x.2.2.2.2.2.2.1/\rZ x.2.2.2.2.2.2.2.1/\rZ x.2.2.2.2.2.2.2.2.1/\rZ x.2.2.2.2.2.2.2.2.2
set_option maxRecDepth 100000 in
theorem opN:Opens prog cxT 88 bAz qE:=
 jW underlying88 aFX (cT (eC underlying2) rfl fZ (cT (eC underlying2) rfl fZ (cT (eC underlying2) rfl fZ (cT (eC underlying2) rfl fZ (cT (l:=zH) aRI rfl aFY
  (cT (eC underlying2) rfl fZ (cT (eC underlying2) rfl fZ (cT (l:=aEt) aOB rfl aDe (cT (l:=aEt) aOB rfl aDe (kK (l:=aEt) aOB rfl aDe))))))))))
def bAA (x:Ml):List (L cxT.ty):=[lv (.int .i64 x.1),lv (.int .i64 x.2.1),lv (.int .i64 x.2.2.1),lv (.int .i64 x.2.2.2.1),lv (.int .i64 x.2.2.2.2.1),lv (.int .i64 x.2.2.2.2.2.1),lv (.int .i64 x.2.2.2.2.2.2.1),lv (.bool x.2.2.2.2.2.2.2.1),zH x.2.2.2.2.2.2.2.2]
def uP (x:Ml):Prop:=gK x.1/\gK x.2.1/\gK x.2.2.1/\gK x.2.2.2.1/\gK x.2.2.2.2.1/\gK x.2.2.2.2.2.1/\gK x.2.2.2.2.2.2.1/\True/\wA x.2.2.2.2.2.2.2.2
set_option maxRecDepth 100000 in
theorem opL:Opens prog cxT 91 bAA uP:=
 jW underlying91 aFW (cT (eC underlying2) rfl fZ (cT (eC underlying2) rfl fZ (cT (eC underlying2) rfl fZ (cT (eC underlying2) rfl fZ (cT (eC underlying2) rfl fZ
  (cT (eC underlying2) rfl fZ (cT (eC underlying2) rfl fZ (cT (l:=λx:Bool=>lv (.bool x)) (aEx underlying4) rfl aPo (kK (l:=zH) aRI rfl aFY)))))))))
def bAx (x:Wn):List (L cxT.ty):=[lv (.int .i64 x.1),lv (.int .i64 x.2)]
def uO (x:Wn):Prop:=gK x.1/\gK x.2
set_option maxRecDepth 100000 in
theorem opW:Opens prog cxT 109 bAx uO:=jW underlying109 aD6 (cT (eC underlying2) rfl fZ (kK (l:=λx:Int=>lv (.int .i64 x)) (eC underlying2) rfl fZ))
def bAy (x:Sl):List (L cxT.ty):=lv (.int .i64 x.1)::aKt x.2
def qD (x:Sl):Prop:=gK x.1/\nY x.2
set_option maxRecDepth 100000 in
theorem opS:Opens prog cxT 115 bAy qD:=
 sK (T:=Sl) (k:=1+9) (enc:=λx=>i1 x.1++aKt x.2) (good:=qD) underlying115 aD4 (nD (enc1:=i1) (good:=gK) aJ8 rfl fZ (tK (enc:=aKt) (good:=nY) opE rfl aAY))
def qB {α:Type}(p:α->Prop)(x:List α):Prop:=x.length<=maxLen/\∀ y∈x,p y
def aHK (xs:List Nd):L cxT.ty:=some (.inr (ro 88 xs))
def aHJ (xs:List Ml):L cxT.ty:=some (.inr (ro 91 xs))
def aEv (xs:List Wn):L cxT.ty:=some (.inr (ro 109 xs))
def aEu (xs:List Sl):L cxT.ty:=some (.inr (ro 115 xs))
set_option maxRecDepth 100000 in
theorem aYO:Opens prog cxT 22 (λx:List Nd=>[aHK x]) (qB qE):=jN (cx:=cxT) (e:=88) (good:=qE) underlying22 aFX (by decide) bC opN
set_option maxRecDepth 100000 in
theorem aYP:Opens prog cxT 23 (λx:List Ml=>[aHJ x]) (qB uP):=jN (cx:=cxT) (e:=91) (good:=uP) underlying23 aFW (by decide) bC opL
set_option maxRecDepth 100000 in
theorem aYM:Opens prog cxT 24 (λx:List Wn=>[aEv x]) (qB uO):=jN (cx:=cxT) (e:=109) (good:=uO) underlying24 aD6 (by decide) bC opW
set_option maxRecDepth 100000 in
theorem aYN:Opens prog cxT 25 (λx:List Sl=>[aEu x]) (qB qD):=jN (cx:=cxT) (e:=115) (good:=qD) underlying25 aD4 (by decide) bC opS
def encC (c:Cl):List (L cxT.ty):=[aHK c.1,aHJ c.2.1,aEv c.2.2.1,aEu c.2.2.2]
def opC_good (c:Cl):Prop:=qB qE c.1/\qB uP c.2.1/\qB uO c.2.2.1/\qB qD c.2.2.2
set_option maxRecDepth 100000 in
theorem opC:Opens prog cxT 27 encC opC_good:=
 jW underlying27 aKx (cT (l:=aHK) aYO rfl aKB (cT (l:=aHJ) aYP rfl aKA (cT (l:=aEv) aYM rfl aKz (kK (l:=aEu) aYN rfl aKy))))
theorem oQ {α:Type}{x:List α}{p:α->Prop}(h:x.length<=maxLen/\∀ y∈x,p y):x.length<=top:=dR h.1 (by decide)
theorem aOE {x:Nd}(h:qE x):nK x top:=⟨oQ h.2.2.2.2.1,oQ h.2.2.2.2.2.2.2.1,oQ h.2.2.2.2.2.2.2.2.1,oQ h.2.2.2.2.2.2.2.2.2⟩
theorem cl_top {c:Cl}(h:opC_good c):aD3 c:=⟨⟨oQ h.1,λx hx=>aOE (h.1.2 x hx)⟩,⟨oQ h.2.1,λx hx=>oQ (h.2.1.2 x hx).2.2.2.2.2.2.2.2⟩,oQ h.2.2.1,oQ h.2.2.2⟩
end Go.Proofs.Tryz
