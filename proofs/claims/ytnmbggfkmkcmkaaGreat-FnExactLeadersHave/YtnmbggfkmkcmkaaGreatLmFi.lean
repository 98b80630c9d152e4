/- A part of the proof of FnExactSafeCluster: LmFi, LmFl, LmFn. -/
import Derived.Test.YtnmbggfkmkcmkaaGreatLmBase
set_option linter.unusedSimpArgs false
set_option linter.unusedVariables false
set_option maxHeartbeats 0
set_option maxRecDepth 100000
namespace Go.Proofs.Tryz
open Go.IntKind (wrap)
open Go Go.VM Go.RowKit
def aMJ (bP:Y70):Env cxT:={ Kc:=cN [(70,xQ bP)],Kw:=cO [],lv:=λi=>[],xv:=λi=>none }
def G115 {B:Type}(u:(Bool×Bool×Bool×Bool)->B)(bP:Y70)(a0:Int):Option B:=
 cM (bP (a0,((5:Int),(8:Int)))) false λ(q1:Bool)=>bif (a0 != (5:Int))then bif (a0 == (1:Int))then some (u ((a0 != (6:Int)),true,(a0 != (4:Int)),q1))
   else some (u ((a0 != (6:Int)),q1,(a0 != (4:Int)),q1))
  else bif (a0 == (1:Int))then some (u (false,true,(a0 != (4:Int)),q1))
  else some (u (false,q1,(a0 != (4:Int)),q1))
def aJf (bP:Y70)(L:Nat)(a0:Int):Option (Bool×Bool×Bool×Bool):=G115 (λx=>x) bP a0
theorem bCi (bP:Y70)(L:Nat)(a0:Int):eV prog (aMJ bP) (bI L) f115 (aXq.enc a0)=(aJf bP L a0).map aG5:=by
 refine .trans (b:=G115 aG5 bP a0) (by kernel_rfl) ?_;unfold aJf G115
 repeat' first | with_reducible refine dG ?_ ?_ | with_reducible refine dE λ_=>?_ | with_reducible refine dF λ_=>?_ | exact rfl
def aRq (bP:Y70)(L:Nat)(x:Int):Option (Bool×Bool×Bool×Bool):=aJf bP L x
theorem aZz (bP:Y70)(h70:Sat prog cxT 70 (xQ bP))(m:Y115)(hm:∀ (x:Int) t,m x=some t->∃ L,aRq bP L x=some t):Sat prog cxT 115 (aWQ m):=
 bS bB aW (by rfl) (fn:=f115) rfl aXq aG5 aNv m (aMJ bP) (aI h70 aV) aP (aRq bP) (λL x=>bCi bP L x) hm aTa
def aMI (bP:Y70):Env cxT:={ Kc:=cN [(70,xQ bP)],Kw:=cO [],lv:=λi=>[],xv:=λi=>none }
def G116 {B:Type}(u:Bool->B)(bP:Y70)(a0:Int):Option B:=
 cM (bP (a0,((0:Int),(1000000:Int)))) false λ(q1:Bool)=>some (u q1)
def aPF (bP:Y70)(L:Nat)(a0:Int):Option Bool:=G116 (λx=>x) bP a0
theorem bCh (bP:Y70)(L:Nat)(a0:Int):eV prog (aMI bP) (bI L) f116 (aXp.enc a0)=(aPF bP L a0).map aG4:=by
 refine .trans (b:=G116 aG4 bP a0) (by kernel_rfl) ?_;unfold aPF G116
 repeat' first | with_reducible refine dG ?_ ?_ | with_reducible refine dE λ_=>?_ | with_reducible refine dF λ_=>?_ | exact rfl
def aRp (bP:Y70)(L:Nat)(x:Int):Option Bool:=aPF bP L x
theorem aZy (bP:Y70)(h70:Sat prog cxT 70 (xQ bP))(m:Y116)(hm:∀ (x:Int) t,m x=some t->∃ L,aRp bP L x=some t):Sat prog cxT 116 (aWP m):=
 bS bB aW (by rfl) (fn:=f116) rfl aXp aG4 aNu m (aMI bP) (aI h70 aV) aP (aRp bP) (λL x=>bCh bP L x) hm aS9
def aMH (bP:Y70):Env cxT:={ Kc:=cN [(70,xQ bP)],Kw:=cO [],lv:=λi=>[],xv:=λi=>none }
def G117 {B:Type}(u:Bool->B)(bP:Y70)(a0:Int):Option B:=
 cM (bP (a0,((1:Int),(999:Int)))) false λ(q1:Bool)=>some (u q1)
def aPE (bP:Y70)(L:Nat)(a0:Int):Option Bool:=G117 (λx=>x) bP a0
theorem bCg (bP:Y70)(L:Nat)(a0:Int):eV prog (aMH bP) (bI L) f117 (aXo.enc a0)=(aPE bP L a0).map aG3:=by
 refine .trans (b:=G117 aG3 bP a0) (by kernel_rfl) ?_;unfold aPE G117
 repeat' first | with_reducible refine dG ?_ ?_ | with_reducible refine dE λ_=>?_ | with_reducible refine dF λ_=>?_ | exact rfl
def aRo (bP:Y70)(L:Nat)(x:Int):Option Bool:=aPE bP L x
theorem aZx (bP:Y70)(h70:Sat prog cxT 70 (xQ bP))(m:Y117)(hm:∀ (x:Int) t,m x=some t->∃ L,aRo bP L x=some t):Sat prog cxT 117 (aWO m):=
 bS bB aW (by rfl) (fn:=f117) rfl aXo aG3 aNt m (aMH bP) (aI h70 aV) aP (aRo bP) (λL x=>bCg bP L x) hm aS8
def aMG (bP:Y70):Env cxT:={ Kc:=cN [(70,xQ bP)],Kw:=cO [],lv:=λi=>[],xv:=λi=>none }
def G118 {B:Type}(u:Bool->B)(bP:Y70)(a0:Int):Option B:=
 cM (bP (a0,((0:Int),(4294967295:Int)))) false λ(q1:Bool)=>some (u q1)
def aPD (bP:Y70)(L:Nat)(a0:Int):Option Bool:=G118 (λx=>x) bP a0
theorem bCf (bP:Y70)(L:Nat)(a0:Int):eV prog (aMG bP) (bI L) f118 (aXn.enc a0)=(aPD bP L a0).map aG2:=by
 refine .trans (b:=G118 aG2 bP a0) (by kernel_rfl) ?_;unfold aPD G118
 repeat' first | with_reducible refine dG ?_ ?_ | with_reducible refine dE λ_=>?_ | with_reducible refine dF λ_=>?_ | exact rfl
def aRn (bP:Y70)(L:Nat)(x:Int):Option Bool:=aPD bP L x
theorem aZw (bP:Y70)(h70:Sat prog cxT 70 (xQ bP))(m:Y118)(hm:∀ (x:Int) t,m x=some t->∃ L,aRn bP L x=some t):Sat prog cxT 118 (aWN m):=
 bS bB aW (by rfl) (fn:=f118) rfl aXn aG2 aNs m (aMG bP) (aI h70 aV) aP (aRn bP) (λL x=>bCf bP L x) hm aS7
def aMF (bP:Y70)(m137:Y137):Env cxT:={ Kc:=cN [(70,xQ bP),(137,aKH m137)],Kw:=cO [],lv:=λi=>[],xv:=λi=>none }
def G119 {B:Type}(u:Bool->B)(bP:Y70)(m137:Y137)(a0_0:Int)(a0_1:Int)(a0_2:Int)(a0_3:Int)(a0_4:Int)(a0_5:Int):Option B:=
 bif (a0_0 == (1:Int))then cM (bP (a0_4,((0:Int),(9:Int)))) false λ(q2:Bool)=>some (u q2)
 else bif (a0_0 == (2:Int))then cM (bP (a0_4,((0:Int),(9:Int)))) false λ(q2:Bool)=>some (u q2)
 else bif (a0_0 == (3:Int))then cM (bP (a0_4,((1:Int),(3:Int)))) false λ(q2:Bool)=>some (u q2)
 else bif (a0_0 == (9:Int))then cM (bP (a0_4,((0:Int),(1:Int)))) false λ(q2:Bool)=>some (u q2)
 else cM (m137 a0_4) false λ(q1:Bool)=>some (u q1)
def aJe (bP:Y70)(m137:Y137)(L:Nat)(a0_0:Int)(a0_1:Int)(a0_2:Int)(a0_3:Int)(a0_4:Int)(a0_5:Int):Option Bool:=G119 (λx=>x) bP m137 a0_0 a0_1 a0_2 a0_3 a0_4 a0_5
theorem bCe (bP:Y70)(m137:Y137)(L:Nat)(a0_0:Int)(a0_1:Int)(a0_2:Int)(a0_3:Int)(a0_4:Int)(a0_5:Int):eV prog (aMF bP m137) (bI L) f119 (aXm.enc (a0_0,a0_1,a0_2,a0_3,a0_4,a0_5))=(aJe bP m137 L a0_0 a0_1 a0_2 a0_3 a0_4 a0_5).map aG1:=by
 refine .trans (b:=G119 aG1 bP m137 a0_0 a0_1 a0_2 a0_3 a0_4 a0_5) (by kernel_rfl) ?_;unfold aJe G119
 repeat' first | with_reducible refine dG ?_ ?_ | with_reducible refine dE λ_=>?_ | with_reducible refine dF λ_=>?_ | exact rfl
def aRm (bP:Y70)(m137:Y137)(L:Nat)(x:(Int×Int×Int×Int×Int×Int)):Option Bool:=aJe bP m137 L x.1 x.2.1 x.2.2.1 x.2.2.2.1 x.2.2.2.2.1 x.2.2.2.2.2
theorem aZv (bP:Y70)(m137:Y137)(h70:Sat prog cxT 70 (xQ bP))(h137:Sat prog cxT 137 (aKH m137))(m:Y119)(hm:∀ (x:(Int×Int×Int×Int×Int×Int)) t,m x=some t->∃ L,aRm bP m137 L x=some t):Sat prog cxT 119 (aWM m):=
 bS bB aW (by rfl) (fn:=f119) rfl aXm aG1 aNr m (aMF bP m137) (aI h70 (aI h137 aV)) aP (aRm bP m137) (λL x=>bCe bP m137 L x.1 x.2.1 x.2.2.1 x.2.2.2.1 x.2.2.2.2.1 x.2.2.2.2.2) hm aS6
def aME:Env cxT:={ Kc:=cN [],Kw:=cO [],lv:=λi=>[],xv:=λi=>none }
def G120 {B:Type}(u:Bool->B)(a0:Int):Option B:=
 bif (a0 == (6:Int))then some (u true)
 else some (u (a0 == (17:Int)))
def aPC (L:Nat)(a0:Int):Option Bool:=G120 (λx=>x) a0
theorem bCd (L:Nat)(a0:Int):eV prog aME (bI L) f120 (aXl.enc a0)=(aPC L a0).map aG0:=by
 refine .trans (b:=G120 aG0 a0) (by kernel_rfl) ?_;unfold aPC G120
 repeat' first | with_reducible refine dG ?_ ?_ | with_reducible refine dE λ_=>?_ | with_reducible refine dF λ_=>?_ | exact rfl
def aRl (L:Nat)(x:Int):Option Bool:=aPC L x
theorem aZu (m:Y120)(hm:∀ (x:Int) t,m x=some t->∃ L,aRl L x=some t):Sat prog cxT 120 (aWL m):=
 bS bB aW (by rfl) (fn:=f120) rfl aXl aG0 aNq m aME aV aP (aRl) (λL x=>bCd L x) hm aS5
def aMr (bP:Y70):Env cxT:={ Kc:=cN [(70,xQ bP)],Kw:=cO [],lv:=λi=>[],xv:=λi=>none }
def G137 {B:Type}(u:Bool->B)(bP:Y70)(a0:Int):Option B:=
 cM (bP (a0,((0:Int),(65535:Int)))) false λ(q1:Bool)=>some (u q1)
def aPw (bP:Y70)(L:Nat)(a0:Int):Option Bool:=G137 (λx=>x) bP a0
theorem bBW (bP:Y70)(L:Nat)(a0:Int):eV prog (aMr bP) (bI L) f137 (aW5.enc a0)=(aPw bP L a0).map aGN:=by
 refine .trans (b:=G137 aGN bP a0) (by kernel_rfl) ?_;unfold aPw G137
 repeat' first | with_reducible refine dG ?_ ?_ | with_reducible refine dE λ_=>?_ | with_reducible refine dF λ_=>?_ | exact rfl
def aRf (bP:Y70)(L:Nat)(x:Int):Option Bool:=aPw bP L x
theorem aZe (bP:Y70)(h70:Sat prog cxT 70 (xQ bP))(m:Y137)(hm:∀ (x:Int) t,m x=some t->∃ L,aRf bP L x=some t):Sat prog cxT 137 (aKH m):=
 bS bB aW (by rfl) (fn:=f137) rfl aW5 aGN aNa m (aMr bP) (aI h70 aV) aP (aRf bP) (λL x=>bBW bP L x) hm aSP
def aMq:Env cxT:={ Kc:=cN [],Kw:=cO [],lv:=λi=>[],xv:=λi=>none }
def G138 {B:Type}(u:Bool->B)(a0:Int):Option B:=
 bif (decide (a0>=(0:Int)))then some (u (decide (a0<=(1000000:Int))))
 else some (u false)
def aPv (L:Nat)(a0:Int):Option Bool:=G138 (λx=>x) a0
theorem bBV (L:Nat)(a0:Int):eV prog aMq (bI L) f138 (aW4.enc a0)=(aPv L a0).map aGM:=by
 refine .trans (b:=G138 aGM a0) (by kernel_rfl) ?_;unfold aPv G138
 repeat' first | with_reducible refine dG ?_ ?_ | with_reducible refine dE λ_=>?_ | with_reducible refine dF λ_=>?_ | exact rfl
def aRe (L:Nat)(x:Int):Option Bool:=aPv L x
theorem aZd (m:Y138)(hm:∀ (x:Int) t,m x=some t->∃ L,aRe L x=some t):Sat prog cxT 138 (aWK m):=
 bS bB aW (by rfl) (fn:=f138) rfl aW4 aGM aM9 m aMq aV aP (aRe) (λL x=>bBV L x) hm aSO
def aMp:Env cxT:={ Kc:=cN [],Kw:=cO [],lv:=λi=>[],xv:=λi=>none }
def G140 {B:Type}(u:Bool->B)(a0:Int):Option B:=
 bif (decide (a0>=(1:Int)))then some (u (decide (a0<=(999:Int))))
 else some (u false)
def aPu (L:Nat)(a0:Int):Option Bool:=G140 (λx=>x) a0
theorem bBU (L:Nat)(a0:Int):eV prog aMp (bI L) f140 (aW3.enc a0)=(aPu L a0).map aGL:=by
 refine .trans (b:=G140 aGL a0) (by kernel_rfl) ?_;unfold aPu G140
 repeat' first | with_reducible refine dG ?_ ?_ | with_reducible refine dE λ_=>?_ | with_reducible refine dF λ_=>?_ | exact rfl
def aRd (L:Nat)(x:Int):Option Bool:=aPu L x
theorem aZc (m:Y140)(hm:∀ (x:Int) t,m x=some t->∃ L,aRd L x=some t):Sat prog cxT 140 (aWJ m):=
 bS bB aW (by rfl) (fn:=f140) rfl aW3 aGL aM8 m aMp aV aP (aRd) (λL x=>bBU L x) hm aSN
def aMo:Env cxT:={ Kc:=cN [],Kw:=cO [],lv:=λi=>[],xv:=λi=>none }
def G141 {B:Type}(u:Bool->B)(a0:Int):Option B:=
 bif (decide (a0>=(0:Int)))then some (u (decide (a0<=(4294967295:Int))))
 else some (u false)
def aPt (L:Nat)(a0:Int):Option Bool:=G141 (λx=>x) a0
theorem bBT (L:Nat)(a0:Int):eV prog aMo (bI L) f141 (aW2.enc a0)=(aPt L a0).map aGK:=by
 refine .trans (b:=G141 aGK a0) (by kernel_rfl) ?_;unfold aPt G141
 repeat' first | with_reducible refine dG ?_ ?_ | with_reducible refine dE λ_=>?_ | with_reducible refine dF λ_=>?_ | exact rfl
def aRc (L:Nat)(x:Int):Option Bool:=aPt L x
theorem aZb (m:Y141)(hm:∀ (x:Int) t,m x=some t->∃ L,aRc L x=some t):Sat prog cxT 141 (aWI m):=
 bS bB aW (by rfl) (fn:=f141) rfl aW2 aGK aM7 m aMo aV aP (aRc) (λL x=>bBT L x) hm aSM
def aMn:Env cxT:={ Kc:=cN [],Kw:=cO [],lv:=λi=>[],xv:=λi=>none }
def G142 {B:Type}(u:Bool->B)(a0:Int):Option B:=
 bif (decide (a0>=(0:Int)))then some (u (decide (a0<=(9:Int))))
 else some (u false)
def aPs (L:Nat)(a0:Int):Option Bool:=G142 (λx=>x) a0
theorem bBS (L:Nat)(a0:Int):eV prog aMn (bI L) f142 (aW1.enc a0)=(aPs L a0).map aGJ:=by
 refine .trans (b:=G142 aGJ a0) (by kernel_rfl) ?_;unfold aPs G142
 repeat' first | with_reducible refine dG ?_ ?_ | with_reducible refine dE λ_=>?_ | with_reducible refine dF λ_=>?_ | exact rfl
def aRb (L:Nat)(x:Int):Option Bool:=aPs L x
theorem aZa (m:Y142)(hm:∀ (x:Int) t,m x=some t->∃ L,aRb L x=some t):Sat prog cxT 142 (aWH m):=
 bS bB aW (by rfl) (fn:=f142) rfl aW1 aGJ aM6 m aMn aV aP (aRb) (λL x=>bBS L x) hm aSL
def aMm:Env cxT:={ Kc:=cN [],Kw:=cO [],lv:=λi=>[],xv:=λi=>none }
def G145 {B:Type}(u:Bool->B)(a0:Int):Option B:=
 bif (decide (a0>=(1:Int)))then some (u (decide (a0<=(3:Int))))
 else some (u false)
def aPr (L:Nat)(a0:Int):Option Bool:=G145 (λx=>x) a0
theorem bBR (L:Nat)(a0:Int):eV prog aMm (bI L) f145 (aW0.enc a0)=(aPr L a0).map aGI:=by
 refine .trans (b:=G145 aGI a0) (by kernel_rfl) ?_;unfold aPr G145
 repeat' first | with_reducible refine dG ?_ ?_ | with_reducible refine dE λ_=>?_ | with_reducible refine dF λ_=>?_ | exact rfl
def aRa (L:Nat)(x:Int):Option Bool:=aPr L x
theorem aY9 (m:Y145)(hm:∀ (x:Int) t,m x=some t->∃ L,aRa L x=some t):Sat prog cxT 145 (aWG m):=
 bS bB aW (by rfl) (fn:=f145) rfl aW0 aGI aM5 m aMm aV aP (aRa) (λL x=>bBR L x) hm aSK
def aMl:Env cxT:={ Kc:=cN [],Kw:=cO [],lv:=λi=>[],xv:=λi=>none }
def G148 {B:Type}(u:Bool->B)(a0:Int):Option B:=
 bif (decide (a0>=(0:Int)))then some (u (decide (a0<=(65535:Int))))
 else some (u false)
def aPq (L:Nat)(a0:Int):Option Bool:=G148 (λx=>x) a0
theorem bBQ (L:Nat)(a0:Int):eV prog aMl (bI L) f148 (aWZ.enc a0)=(aPq L a0).map aGH:=by
 refine .trans (b:=G148 aGH a0) (by kernel_rfl) ?_;unfold aPq G148
 repeat' first | with_reducible refine dG ?_ ?_ | with_reducible refine dE λ_=>?_ | with_reducible refine dF λ_=>?_ | exact rfl
def aQ9 (L:Nat)(x:Int):Option Bool:=aPq L x
theorem aY8 (m:Y148)(hm:∀ (x:Int) t,m x=some t->∃ L,aQ9 L x=some t):Sat prog cxT 148 (aWF m):=
 bS bB aW (by rfl) (fn:=f148) rfl aWZ aGH aM4 m aMl aV aP (aQ9) (λL x=>bBQ L x) hm aSJ
def aMk:Env cxT:={ Kc:=cN [],Kw:=cO [],lv:=λi=>[],xv:=λi=>none }
def G149 {B:Type}(u:Bool->B)(a0:Int):Option B:=
 bif (a0 == (6:Int))then some (u true)
 else some (u (a0 == (17:Int)))
def aPp (L:Nat)(a0:Int):Option Bool:=G149 (λx=>x) a0
theorem bBP (L:Nat)(a0:Int):eV prog aMk (bI L) f149 (aWY.enc a0)=(aPp L a0).map aGG:=by
 refine .trans (b:=G149 aGG a0) (by kernel_rfl) ?_;unfold aPp G149
 repeat' first | with_reducible refine dG ?_ ?_ | with_reducible refine dE λ_=>?_ | with_reducible refine dF λ_=>?_ | exact rfl
def aQ8 (L:Nat)(x:Int):Option Bool:=aPp L x
theorem aY7 (m:Y149)(hm:∀ (x:Int) t,m x=some t->∃ L,aQ8 L x=some t):Sat prog cxT 149 (aWE m):=
 bS bB aW (by rfl) (fn:=f149) rfl aWY aGG aM3 m aMk aV aP (aQ8) (λL x=>bBP L x) hm aSI
def aMj:Env cxT:={ Kc:=cN [],Kw:=cO [],lv:=λi=>[],xv:=λi=>none }
def G154 {B:Type}(u:Bool->B)(a0:Int):Option B:=
 bif (a0 == (0:Int))then some (u true)
 else some (u (a0 == (1:Int)))
def aPo (L:Nat)(a0:Int):Option Bool:=G154 (λx=>x) a0
theorem bBO (L:Nat)(a0:Int):eV prog aMj (bI L) f154 (aWX.enc a0)=(aPo L a0).map aGF:=by
 refine .trans (b:=G154 aGF a0) (by kernel_rfl) ?_;unfold aPo G154
 repeat' first | with_reducible refine dG ?_ ?_ | with_reducible refine dE λ_=>?_ | with_reducible refine dF λ_=>?_ | exact rfl
def aQ7 (L:Nat)(x:Int):Option Bool:=aPo L x
theorem aY6 (m:Y154)(hm:∀ (x:Int) t,m x=some t->∃ L,aQ7 L x=some t):Sat prog cxT 154 (aWD m):=
 bS bB aW (by rfl) (fn:=f154) rfl aWX aGF aM2 m aMj aV aP (aQ7) (λL x=>bBO L x) hm aSH
end Go.Proofs.Tryz
set_option maxHeartbeats 0
set_option maxRecDepth 100000
namespace Go.Proofs.Tryz
open Go.IntKind (wrap)
open Go Go.VM Go.RowKit
def aUg (dI:Y112):Env cxT:={ Kc:=cN [(112,aBN dI)],Kw:=cO [],lv:=λi=>[],xv:=λi=>none }
def G91 {B:Type}(u:(Int×Int×Int×Int×Int×Int×Int×Int×Int×Bool)->B)(dI:Y112)(a0:(List E9))(a1:Int):Option B:=
 bif (decide (a1 < (1:Int)))then some (u ((0:Int),(0:Int),(0:Int),(0:Int),(0:Int),(0:Int),(0:Int),(0:Int),(0:Int),false))
 else cM (dI a0) (0:Int) λ(q1:Int)=>bif (decide (a1 > q1))then some (u ((0:Int),(0:Int),(0:Int),(0:Int),(0:Int),(0:Int),(0:Int),(0:Int),(0:Int),false))
  else bif ((decide ((0:Int)<=(wrap .i64 (a1-(1:Int)))))&&(decide ((wrap .i64 (a1-(1:Int))) < (Nat.cast (List.length a0):Int))))then eF (List.getD a0 (Int.toNat (wrap .i64 (a1-(1:Int)))) ((0:Int),((0:Int),((0:Int),((0:Int),((0:Int),((0:Int),((0:Int),((0:Int),(0:Int)))))))))) λs2_0=>some (u (s2_0.1,s2_0.2.1,s2_0.2.2.1,s2_0.2.2.2.1,s2_0.2.2.2.2.1,s2_0.2.2.2.2.2.1,s2_0.2.2.2.2.2.2.1,s2_0.2.2.2.2.2.2.2.1,s2_0.2.2.2.2.2.2.2.2,true))
  else none
def g91 (dI:Y112)(L:Nat)(a0:(List E9))(a1:Int):Option (Int×Int×Int×Int×Int×Int×Int×Int×Int×Bool):=G91 (λx=>x) dI a0 a1
theorem e91 (dI:Y112)(L:Nat)(a0:(List E9))(a1:Int):eV prog (aUg dI) (bI L) f91 (a91.enc (a0,a1))=(g91 dI L a0 a1).map n91:=by
 refine .trans (b:=G91 n91 dI a0 a1) (by kernel_rfl) ?_;unfold g91 G91
 repeat' first | with_reducible refine dG ?_ ?_ | with_reducible refine dE λ_=>?_ | with_reducible refine dF λ_=>?_ | exact rfl
def w91 (dI:Y112)(L:Nat)(x:((List E9)×Int)):Option (Int×Int×Int×Int×Int×Int×Int×Int×Int×Bool):=g91 dI L x.1 x.2
theorem s91 (dI:Y112)(h112:Sat prog cxT 112 (aBN dI))(m:Y91)(hm:∀ (x:((List E9)×Int)) t,m x=some t->∃ L,w91 dI L x=some t):Sat prog cxT 91 (c91 m):=
 bS bB aW (by rfl) (fn:=f91) rfl a91 n91 aVg m (aUg dI) (aI h112 aV) aP (w91 dI) (λL x=>e91 dI L x.1 x.2) hm bAe
def aML:Env cxT:={ Kc:=cN [],Kw:=cO [],lv:=λi=>[],xv:=λi=>none }
def G112 {B:Type}(u:Int->B)(a0:(List E9)):Option B:=
 some (u (Nat.cast (List.length a0):Int))
def aPG (L:Nat)(a0:(List E9)):Option Int:=G112 (λx=>x) a0
theorem bCl (L:Nat)(a0:(List E9)):eV prog aML (bI L) f112 (aXt.enc a0)=(aPG L a0).map aG7:=by
 refine .trans (b:=G112 aG7 a0) (by kernel_rfl) ?_;unfold aPG G112
 repeat' first | with_reducible refine dG ?_ ?_ | with_reducible refine dE λ_=>?_ | with_reducible refine dF λ_=>?_ | exact rfl
def aRr (L:Nat)(x:(List E9)):Option Int:=aPG L x
theorem aZC (m:Y112)(hm:∀ (x:(List E9)) t,m x=some t->∃ L,aRr L x=some t):Sat prog cxT 112 (aBN m):=
 bS bB aW (by rfl) (fn:=f112) rfl aXt aG7 aNy m aML aV aP (aRr) (λL x=>bCl L x) hm aTd
def aUb:Env cxT:={ Kc:=cN [],Kw:=cO [],lv:=λi=>[],xv:=λi=>none }
def G98 {B:Type}(u:E9->B)(a0:(List E9)):Option B:=
 bif ((Nat.cast (List.length a0):Int) == (0:Int))then some (u ((0:Int),(0:Int),(0:Int),(0:Int),(0:Int),(0:Int),(0:Int),(0:Int),(0:Int)))
 else bif ((decide ((0:Int)<=(wrap .i64 ((Nat.cast (List.length a0):Int)-(1:Int)))))&&(decide ((wrap .i64 ((Nat.cast (List.length a0):Int)-(1:Int))) < (Nat.cast (List.length a0):Int))))then eF (List.getD a0 (Int.toNat (wrap .i64 ((Nat.cast (List.length a0):Int)-(1:Int)))) ((0:Int),((0:Int),((0:Int),((0:Int),((0:Int),((0:Int),((0:Int),((0:Int),(0:Int)))))))))) λs1_0=>some (u (s1_0.1,s1_0.2.1,s1_0.2.2.1,s1_0.2.2.2.1,s1_0.2.2.2.2.1,s1_0.2.2.2.2.2.1,s1_0.2.2.2.2.2.2.1,s1_0.2.2.2.2.2.2.2.1,s1_0.2.2.2.2.2.2.2.2))
 else none
def g98 (L:Nat)(a0:(List E9)):Option E9:=G98 (λx=>x) a0
theorem e98 (L:Nat)(a0:(List E9)):eV prog aUb (bI L) f98 (a98.enc a0)=(g98 L a0).map n98:=by
 refine .trans (b:=G98 n98 a0) (by kernel_rfl) ?_;unfold g98 G98
 repeat' first | with_reducible refine dG ?_ ?_ | with_reducible refine dE λ_=>?_ | with_reducible refine dF λ_=>?_ | exact rfl
def w98 (L:Nat)(x:(List E9)):Option E9:=g98 L x
theorem s98 (m:Y98)(hm:∀ (x:(List E9)) t,m x=some t->∃ L,w98 L x=some t):Sat prog cxT 98 (c98 m):=
 bS bB aW (by rfl) (fn:=f98) rfl a98 n98 aVa m aUb aV aP (w98) (λL x=>e98 L x) hm aZ8
def aMS:Env cxT:={ Kc:=cN [],Kw:=cO [],lv:=λi=>[],xv:=λi=>none }
def G100 {B:Type}(u:Bool->B)(a0_0:Int)(a0_1:Int)(a0_2:Int)(a0_3:Int)(a0_4:Int)(a0_5:Int)(a0_6:Int)(a0_7:Bool)(a0_8:(List E9)):Option B:=
 bif (a0_0 == (1:Int))then some (u (a0_6 == (0:Int)))
 else bif (a0_0 == (2:Int))then bif (a0_4 == (0:Int))then bif (a0_5 == (0:Int))then some (u (a0_6 == (0:Int)))
   else some (u false)
  else some (u false)
 else bif (a0_0 == (4:Int))then bif (a0_5 == (0:Int))then some (u (a0_6 == (0:Int)))
  else some (u false)
 else some (u true)
def aPK (L:Nat)(a0_0:Int)(a0_1:Int)(a0_2:Int)(a0_3:Int)(a0_4:Int)(a0_5:Int)(a0_6:Int)(a0_7:Bool)(a0_8:(List E9)):Option Bool:=G100 (λx=>x) a0_0 a0_1 a0_2 a0_3 a0_4 a0_5 a0_6 a0_7 a0_8
theorem bCw (L:Nat)(a0_0:Int)(a0_1:Int)(a0_2:Int)(a0_3:Int)(a0_4:Int)(a0_5:Int)(a0_6:Int)(a0_7:Bool)(a0_8:(List E9)):eV prog aMS (bI L) f100 (aXE.enc (a0_0,a0_1,a0_2,a0_3,a0_4,a0_5,a0_6,a0_7,a0_8))=(aPK L a0_0 a0_1 a0_2 a0_3 a0_4 a0_5 a0_6 a0_7 a0_8).map aHe:=by
 refine .trans (b:=G100 aHe a0_0 a0_1 a0_2 a0_3 a0_4 a0_5 a0_6 a0_7 a0_8) (by kernel_rfl) ?_;unfold aPK G100
 repeat' first | with_reducible refine dG ?_ ?_ | with_reducible refine dE λ_=>?_ | with_reducible refine dF λ_=>?_ | exact rfl
def aRw (L:Nat)(x:M9):Option Bool:=aPK L x.1 x.2.1 x.2.2.1 x.2.2.2.1 x.2.2.2.2.1 x.2.2.2.2.2.1 x.2.2.2.2.2.2.1 x.2.2.2.2.2.2.2.1 x.2.2.2.2.2.2.2.2
theorem aZN (m:Y100)(hm:∀ (x:M9) t,m x=some t->∃ L,aRw L x=some t):Sat prog cxT 100 (aK1 m):=
 bS bB aW (by rfl) (fn:=f100) rfl aXE aHe aNJ m aMS aV aP (aRw) (λL x=>bCw L x.1 x.2.1 x.2.2.1 x.2.2.2.1 x.2.2.2.2.1 x.2.2.2.2.2.1 x.2.2.2.2.2.2.1 x.2.2.2.2.2.2.2.1 x.2.2.2.2.2.2.2.2) hm aTo
end Go.Proofs.Tryz
set_option maxHeartbeats 0
set_option maxRecDepth 100000
namespace Go.Proofs.Tryz
open Go.IntKind (wrap)
open Go Go.VM Go.RowKit
def nG:Env cxT:={ Kc:=cN [],Kw:=cO [],lv:=λi=>if i=0 then[(0,[some 73,some 96,some 64,some 104]),(3,[])]else if i=2 then[(0,[some 73,some 96,some 64,some 104]),(3,[]),(4,[])]else[],xv:=λi=>if i=0 then some []else if i=2 then some [(0,[some 73,some 96,some 64,some 104]),(3,[])]else none }
def S37_0 (a0:C4)(v0_3:Int):St cxT.ty:={ slots:=[(.inr (.inr { kind:=2,nm:=0,cells:=[],s:={ own:=0,nm:=0,e:=35,o:=false,xs:=(List.cons a0 []) },i:=0,off:=0 })),aH,aH,(.inl (.inl (lv (.int .i64 v0_3))))]++List.replicate 51 aH,D:=[],F:=[],ctr:=1 }
def X37_0 (a0:C4):St cxT.ty:={ slots:=[]++List.replicate 55 aH,D:=[],F:=[],ctr:=1 }
def S37_2 (a0:C4)(v0_3:Int)(v2_4:Int):St cxT.ty:={ slots:=[(.inr (.inr { kind:=2,nm:=0,cells:=[],s:={ own:=0,nm:=0,e:=35,o:=false,xs:=(List.cons a0 []) },i:=0,off:=0 })),aH,aH,(.inl (.inl (lv (.int .i64 v0_3)))),(.inl (.inl (lv (.int .i64 v2_4))))]++List.replicate 50 aH,D:=[],F:=[],ctr:=1 }
def X37_2 (a0:C4)(v0_3:Int):St cxT.ty:={ slots:=[(.inr (.inr { kind:=2,nm:=0,cells:=[],s:={ own:=0,nm:=0,e:=35,o:=false,xs:=(List.cons a0 []) },i:=0,off:=0 })),aH,aH,(.inl (.inl (lv (.int .i64 v0_3))))]++List.replicate 51 aH,D:=[],F:=[],ctr:=1 }
def G37 {B:Type}(u:Bool->B)(hh0:Int->Option B)(a0:C4):Option B:=
 hh0 (0:Int)
def B37_0 {B:Type}(u:Bool->B)(gg:Int->Option B)(kk:Option B)(hh2:Int->Option B)(a0:C4)(v0_3:Int):Option B:=
 bif (decide (v0_3 < (Nat.cast (List.length a0.2.2.1):Int)))then hh2 (0:Int)
 else kk
def A37_0 {B:Type}(u:Bool->B)(a0:C4):Option B:=
 some (u true)
def B37_2 {B:Type}(u:Bool->B)(gg:Int->Option B)(kk:Option B)(a0:C4)(v0_3:Int)(v2_4:Int):Option B:=
 bif (decide (v2_4 < v0_3))then eF a0 λs1_0=>bif ((decide ((0:Int)<=v0_3))&&(decide (v0_3 < (Nat.cast (List.length s1_0.2.2.1):Int))))then bif ((decide ((0:Int)<=v2_4))&&(decide (v2_4 < (Nat.cast (List.length s1_0.2.2.1):Int))))then bif ((List.getD s1_0.2.2.1 v0_3.toNat ((0:Int),(0:Int))).1 == (List.getD s1_0.2.2.1 v2_4.toNat ((0:Int),(0:Int))).1)then bif ((decide ((0:Int)<=v0_3))&&(decide (v0_3 < (Nat.cast (List.length s1_0.2.2.1):Int))))then bif ((decide ((0:Int)<=v2_4))&&(decide (v2_4 < (Nat.cast (List.length s1_0.2.2.1):Int))))then bif ((List.getD s1_0.2.2.1 v0_3.toNat ((0:Int),(0:Int))).2 != (List.getD s1_0.2.2.1 v2_4.toNat ((0:Int),(0:Int))).2)then some (u false)
       else gg (wrap .i64 (v2_4+(1:Int)))
      else none
     else none
    else gg (wrap .i64 (v2_4+(1:Int)))
   else none
  else none
 else kk
def A37_2 {B:Type}(u:Bool->B)(gg:Int->Option B)(kk:Option B)(a0:C4)(v0_3:Int):Option B:=
 gg (wrap .i64 (v0_3+(1:Int)))
def rJ (L:Nat)(a0:C4)(v0_3:Int):Nat->Int->(Option Bool)->Option Bool
 | 0,_,_=>none
 | n+1,v2_4,k=>B37_2 (λx=>x) (λv2_4=>rJ L a0 v0_3 n v2_4 k) k a0 v0_3 v2_4
theorem aL8 (L:Nat)(a0:C4)(v0_3:Int)(k:St cxT.ty->Option (V cxT.ty))(xk:Nat->St cxT.ty->Option (V cxT.ty))(k':Option Bool)(hk:k (X37_2 a0 v0_3)=(k').map n37):∀ (n:Nat) (v2_4:Int),aS prog nG L f37 2 [1,0,1,0,0,1,0,0,1,0,0] (bE (aM prog f37) k xk) n (S37_2 a0 v0_3 v2_4)=(rJ L a0 v0_3 n v2_4 k').map n37
 | 0,_=>rfl
 | n+1,v2_4=>by
  rw[bF];have ih:=aL8 L a0 v0_3 k xk k' hk n;refine .trans (b:=B37_2 n37 (λv2_4=>(aS prog nG L f37 2 [1,0,1,0,0,1,0,0,1,0,0] (bE (aM prog f37) k xk) n) (S37_2 a0 v0_3 v2_4)) (k (X37_2 a0 v0_3)) a0 v0_3 v2_4) (by kernel_rfl) ?_;unfold rJ B37_2
  repeat' first | with_reducible refine dG ?_ ?_ | with_reducible refine dE λ_=>?_ | with_reducible refine dF λ_=>?_ | with_reducible exact ih _ | with_reducible exact hk | exact rfl
def qG (L:Nat)(a0:C4):Nat->Int->(Option Bool)->Option Bool
 | 0,_,_=>none
 | n+1,v0_3,k=>B37_0 (λx=>x) (λv0_3=>qG L a0 n v0_3 k) k (λv2_4=>rJ L a0 v0_3 L v2_4 (A37_2 (λx=>x) (λv0_3=>qG L a0 n v0_3 k) k a0 v0_3)) a0 v0_3
theorem aL9 (L:Nat)(a0:C4)(k:St cxT.ty->Option (V cxT.ty))(xk:Nat->St cxT.ty->Option (V cxT.ty))(k':Option Bool)(hk:k (X37_0 a0)=(k').map n37):∀ (n:Nat) (v0_3:Int),aS prog nG L f37 0 [1,0,1,0,0] (bE (aM prog f37) k xk) n (S37_0 a0 v0_3)=(qG L a0 n v0_3 k').map n37
 | 0,_=>rfl
 | n+1,v0_3=>by
  rw[bF];have ih:=aL9 L a0 k xk k' hk n;have hin2:∀ (v2_4:Int),aS prog nG L f37 2 [1,0,1,0,0,1,0,0,1,0,0] (bE (aM prog f37) (yV prog nG L f37 0 [1,0,1,0,0] [1,0,0,1] (bE (aM prog f37) k xk) (aS prog nG L f37 0 [1,0,1,0,0] (bE (aM prog f37) k xk) n)).n (yV prog nG L f37 0 [1,0,1,0,0] [1,0,0,1] (bE (aM prog f37) k xk) (aS prog nG L f37 0 [1,0,1,0,0] (bE (aM prog f37) k xk) n)).x) L (S37_2 a0 v0_3 v2_4)=((λv2_4=>rJ L a0 v0_3 L v2_4 (A37_2 (λx=>x) (λv0_3=>qG L a0 n v0_3 k') k' a0 v0_3)) v2_4).map n37:=λv2_4=>aL8 L a0 v0_3 _ _ _ (by refine .trans (b:=A37_2 n37 (λv0_3=>(aS prog nG L f37 0 [1,0,1,0,0] (bE (aM prog f37) k xk) n) (S37_0 a0 v0_3)) (k (X37_0 a0)) a0 v0_3) (by kernel_rfl) ?_;unfold A37_2;repeat' first | with_reducible refine dG ?_ ?_ | with_reducible refine dE λ_=>?_ | with_reducible refine dF λ_=>?_ | with_reducible exact ih _ | with_reducible exact hk | exact rfl) L v2_4
  refine .trans (b:=B37_0 n37 (λv0_3=>(aS prog nG L f37 0 [1,0,1,0,0] (bE (aM prog f37) k xk) n) (S37_0 a0 v0_3)) (k (X37_0 a0)) (λv2_4=>aS prog nG L f37 2 [1,0,1,0,0,1,0,0,1,0,0] (bE (aM prog f37) (yV prog nG L f37 0 [1,0,1,0,0] [1,0,0,1] (bE (aM prog f37) k xk) (aS prog nG L f37 0 [1,0,1,0,0] (bE (aM prog f37) k xk) n)).n (yV prog nG L f37 0 [1,0,1,0,0] [1,0,0,1] (bE (aM prog f37) k xk) (aS prog nG L f37 0 [1,0,1,0,0] (bE (aM prog f37) k xk) n)).x) L (S37_2 a0 v0_3 v2_4)) a0 v0_3) (by kernel_rfl) ?_;unfold qG B37_0
  repeat' first | with_reducible refine dG ?_ ?_ | with_reducible refine dE λ_=>?_ | with_reducible refine dF λ_=>?_ | with_reducible exact ih _ | with_reducible exact hk | with_reducible exact hin2 _ | exact rfl
def g37 (L:Nat)(a0:C4):Option Bool:=G37 (λx=>x) (λv0_3=>qG L a0 L v0_3 (A37_0 (λx=>x) a0)) a0
theorem e37 (L:Nat)(a0:C4):eV prog nG (bI L) f37 (a37.enc a0)=(g37 L a0).map n37:=by
 have hin0:∀ (v0_3:Int),aS prog nG L f37 0 [1,0,1,0,0] (bE (aM prog f37) (bU prog nG L f37 [1,0,1] (aM prog f37)).n (bU prog nG L f37 [1,0,1] (aM prog f37)).x) L (S37_0 a0 v0_3)=((λv0_3=>qG L a0 L v0_3 (A37_0 (λx=>x) a0)) v0_3).map n37:=λv0_3=>aL9 L a0 _ _ _ (by refine .trans (b:=A37_0 n37 a0) (by kernel_rfl) ?_;unfold A37_0;repeat' first | with_reducible refine dG ?_ ?_ | with_reducible refine dE λ_=>?_ | with_reducible refine dF λ_=>?_ | exact rfl) L v0_3
 refine .trans (b:=G37 n37 (λv0_3=>aS prog nG L f37 0 [1,0,1,0,0] (bE (aM prog f37) (bU prog nG L f37 [1,0,1] (aM prog f37)).n (bU prog nG L f37 [1,0,1] (aM prog f37)).x) L (S37_0 a0 v0_3)) a0) (by kernel_rfl) ?_;unfold g37 G37
 repeat' first | with_reducible refine dG ?_ ?_ | with_reducible refine dE λ_=>?_ | with_reducible refine dF λ_=>?_ | with_reducible exact hin0 _ | exact rfl
def w37 (L:Nat)(x:C4):Option Bool:=g37 L x
theorem s37 (m:Y37)(hm:∀ (x:C4) t,m x=some t->∃ L,w37 L x=some t):Sat prog cxT 37 (c37 m):=
 bS bB aW (by rfl) (fn:=f37) rfl a37 n37 aV1 m nG aV aP (w37) (λL x=>e37 L x) hm bAZ
def nE (gN:Y86):Env cxT:={ Kc:=cN [(86,c86 gN)],Kw:=cO [],lv:=λi=>if i=0 then[(0,[some 73,some 96,some 64,some 104]),(3,[])]else if i=2 then[(0,[some 73,some 96,some 64,some 104]),(3,[]),(4,[])]else[],xv:=λi=>if i=0 then some []else if i=2 then some [(0,[some 73,some 96,some 64,some 104]),(3,[])]else none }
def S49_0 (a0:C4)(v0_3:Int):St cxT.ty:={ slots:=[(.inr (.inr { kind:=2,nm:=0,cells:=[],s:={ own:=0,nm:=0,e:=35,o:=false,xs:=(List.cons a0 []) },i:=0,off:=0 })),aH,aH,(.inl (.inl (lv (.int .i64 v0_3))))]++List.replicate 33 aH,D:=[],F:=[],ctr:=1 }
def X49_0 (a0:C4):St cxT.ty:={ slots:=[]++List.replicate 37 aH,D:=[],F:=[],ctr:=1 }
def S49_2 (a0:C4)(v0_3:Int)(v2_4:Int):St cxT.ty:={ slots:=[(.inr (.inr { kind:=2,nm:=0,cells:=[],s:={ own:=0,nm:=0,e:=35,o:=false,xs:=(List.cons a0 []) },i:=0,off:=0 })),aH,aH,(.inl (.inl (lv (.int .i64 v0_3)))),(.inl (.inl (lv (.int .i64 v2_4))))]++List.replicate 32 aH,D:=[],F:=[],ctr:=1 }
def X49_2 (a0:C4)(v0_3:Int):St cxT.ty:={ slots:=[(.inr (.inr { kind:=2,nm:=0,cells:=[],s:={ own:=0,nm:=0,e:=35,o:=false,xs:=(List.cons a0 []) },i:=0,off:=0 })),aH,aH,(.inl (.inl (lv (.int .i64 v0_3))))]++List.replicate 33 aH,D:=[],F:=[],ctr:=1 }
def G49 {B:Type}(u:Bool->B)(hh0:Int->Option B)(gN:Y86)(a0:C4):Option B:=
 hh0 (0:Int)
def B49_0 {B:Type}(u:Bool->B)(gg:Int->Option B)(kk:Option B)(hh2:Int->Option B)(gN:Y86)(a0:C4)(v0_3:Int):Option B:=
 bif (decide (v0_3 < (Nat.cast (List.length a0.1):Int)))then hh2 (0:Int)
 else kk
def A49_0 {B:Type}(u:Bool->B)(gN:Y86)(a0:C4):Option B:=
 some (u true)
def B49_2 {B:Type}(u:Bool->B)(gg:Int->Option B)(kk:Option B)(gN:Y86)(a0:C4)(v0_3:Int)(v2_4:Int):Option B:=
 bif (decide (v2_4 < v0_3))then eF a0 λs1_0=>bif ((decide ((0:Int)<=v0_3))&&(decide (v0_3 < (Nat.cast (List.length s1_0.1):Int))))then bif ((decide ((0:Int)<=v2_4))&&(decide (v2_4 < (Nat.cast (List.length s1_0.1):Int))))then cM (gN ((List.getD s1_0.1 v0_3.toNat ((0:Int),((0:Int),((0:Int),((0:Int),(([]:List E9),((0:Int),((0:Int),(([]:List (Int)),(([]:List (Int)),([]:List (Int)))))))))))).2.2.2.2.1,(List.getD s1_0.1 v2_4.toNat ((0:Int),((0:Int),((0:Int),((0:Int),(([]:List E9),((0:Int),((0:Int),(([]:List (Int)),(([]:List (Int)),([]:List (Int)))))))))))).2.2.2.2.1)) false λ(q4:Bool)=>bif (!q4)then some (u false)
     else gg (wrap .i64 (v2_4+(1:Int)))
   else none
  else none
 else kk
def A49_2 {B:Type}(u:Bool->B)(gg:Int->Option B)(kk:Option B)(gN:Y86)(a0:C4)(v0_3:Int):Option B:=
 gg (wrap .i64 (v0_3+(1:Int)))
def qD (gN:Y86)(L:Nat)(a0:C4)(v0_3:Int):Nat->Int->(Option Bool)->Option Bool
 | 0,_,_=>none
 | n+1,v2_4,k=>B49_2 (λx=>x) (λv2_4=>qD gN L a0 v0_3 n v2_4 k) k gN a0 v0_3 v2_4
theorem aLV (gN:Y86)(L:Nat)(a0:C4)(v0_3:Int)(k:St cxT.ty->Option (V cxT.ty))(xk:Nat->St cxT.ty->Option (V cxT.ty))(k':Option Bool)(hk:k (X49_2 a0 v0_3)=(k').map n49):∀ (n:Nat) (v2_4:Int),aS prog (nE gN) L f49 2 [1,0,1,0,0,1,0,0,1,0,0] (bE (aM prog f49) k xk) n (S49_2 a0 v0_3 v2_4)=(qD gN L a0 v0_3 n v2_4 k').map n49
 | 0,_=>rfl
 | n+1,v2_4=>by
  rw[bF];have ih:=aLV gN L a0 v0_3 k xk k' hk n;refine .trans (b:=B49_2 n49 (λv2_4=>(aS prog (nE gN) L f49 2 [1,0,1,0,0,1,0,0,1,0,0] (bE (aM prog f49) k xk) n) (S49_2 a0 v0_3 v2_4)) (k (X49_2 a0 v0_3)) gN a0 v0_3 v2_4) (by kernel_rfl) ?_;unfold qD B49_2
  repeat' first | with_reducible refine dG ?_ ?_ | with_reducible refine dE λ_=>?_ | with_reducible refine dF λ_=>?_ | with_reducible exact ih _ | with_reducible exact hk | exact rfl
def qE (gN:Y86)(L:Nat)(a0:C4):Nat->Int->(Option Bool)->Option Bool
 | 0,_,_=>none
 | n+1,v0_3,k=>B49_0 (λx=>x) (λv0_3=>qE gN L a0 n v0_3 k) k (λv2_4=>qD gN L a0 v0_3 L v2_4 (A49_2 (λx=>x) (λv0_3=>qE gN L a0 n v0_3 k) k gN a0 v0_3)) gN a0 v0_3
theorem aLW (gN:Y86)(L:Nat)(a0:C4)(k:St cxT.ty->Option (V cxT.ty))(xk:Nat->St cxT.ty->Option (V cxT.ty))(k':Option Bool)(hk:k (X49_0 a0)=(k').map n49):∀ (n:Nat) (v0_3:Int),aS prog (nE gN) L f49 0 [1,0,1,0,0] (bE (aM prog f49) k xk) n (S49_0 a0 v0_3)=(qE gN L a0 n v0_3 k').map n49
 | 0,_=>rfl
 | n+1,v0_3=>by
  rw[bF];have ih:=aLW gN L a0 k xk k' hk n;have hin2:∀ (v2_4:Int),aS prog (nE gN) L f49 2 [1,0,1,0,0,1,0,0,1,0,0] (bE (aM prog f49) (yV prog (nE gN) L f49 0 [1,0,1,0,0] [1,0,0,1] (bE (aM prog f49) k xk) (aS prog (nE gN) L f49 0 [1,0,1,0,0] (bE (aM prog f49) k xk) n)).n (yV prog (nE gN) L f49 0 [1,0,1,0,0] [1,0,0,1] (bE (aM prog f49) k xk) (aS prog (nE gN) L f49 0 [1,0,1,0,0] (bE (aM prog f49) k xk) n)).x) L (S49_2 a0 v0_3 v2_4)=((λv2_4=>qD gN L a0 v0_3 L v2_4 (A49_2 (λx=>x) (λv0_3=>qE gN L a0 n v0_3 k') k' gN a0 v0_3)) v2_4).map n49:=λv2_4=>aLV gN L a0 v0_3 _ _ _ (by refine .trans (b:=A49_2 n49 (λv0_3=>(aS prog (nE gN) L f49 0 [1,0,1,0,0] (bE (aM prog f49) k xk) n) (S49_0 a0 v0_3)) (k (X49_0 a0)) gN a0 v0_3) (by kernel_rfl) ?_;unfold A49_2;repeat' first | with_reducible refine dG ?_ ?_ | with_reducible refine dE λ_=>?_ | with_reducible refine dF λ_=>?_ | with_reducible exact ih _ | with_reducible exact hk | exact rfl) L v2_4
  refine .trans (b:=B49_0 n49 (λv0_3=>(aS prog (nE gN) L f49 0 [1,0,1,0,0] (bE (aM prog f49) k xk) n) (S49_0 a0 v0_3)) (k (X49_0 a0)) (λv2_4=>aS prog (nE gN) L f49 2 [1,0,1,0,0,1,0,0,1,0,0] (bE (aM prog f49) (yV prog (nE gN) L f49 0 [1,0,1,0,0] [1,0,0,1] (bE (aM prog f49) k xk) (aS prog (nE gN) L f49 0 [1,0,1,0,0] (bE (aM prog f49) k xk) n)).n (yV prog (nE gN) L f49 0 [1,0,1,0,0] [1,0,0,1] (bE (aM prog f49) k xk) (aS prog (nE gN) L f49 0 [1,0,1,0,0] (bE (aM prog f49) k xk) n)).x) L (S49_2 a0 v0_3 v2_4)) gN a0 v0_3) (by kernel_rfl) ?_;unfold qE B49_0
  repeat' first | with_reducible refine dG ?_ ?_ | with_reducible refine dE λ_=>?_ | with_reducible refine dF λ_=>?_ | with_reducible exact ih _ | with_reducible exact hk | with_reducible exact hin2 _ | exact rfl
def g49 (gN:Y86)(L:Nat)(a0:C4):Option Bool:=G49 (λx=>x) (λv0_3=>qE gN L a0 L v0_3 (A49_0 (λx=>x) gN a0)) gN a0
theorem e49 (gN:Y86)(L:Nat)(a0:C4):eV prog (nE gN) (bI L) f49 (a49.enc a0)=(g49 gN L a0).map n49:=by
 have hin0:∀ (v0_3:Int),aS prog (nE gN) L f49 0 [1,0,1,0,0] (bE (aM prog f49) (bU prog (nE gN) L f49 [1,0,1] (aM prog f49)).n (bU prog (nE gN) L f49 [1,0,1] (aM prog f49)).x) L (S49_0 a0 v0_3)=((λv0_3=>qE gN L a0 L v0_3 (A49_0 (λx=>x) gN a0)) v0_3).map n49:=λv0_3=>aLW gN L a0 _ _ _ (by refine .trans (b:=A49_0 n49 gN a0) (by kernel_rfl) ?_;unfold A49_0;repeat' first | with_reducible refine dG ?_ ?_ | with_reducible refine dE λ_=>?_ | with_reducible refine dF λ_=>?_ | exact rfl) L v0_3
 refine .trans (b:=G49 n49 (λv0_3=>aS prog (nE gN) L f49 0 [1,0,1,0,0] (bE (aM prog f49) (bU prog (nE gN) L f49 [1,0,1] (aM prog f49)).n (bU prog (nE gN) L f49 [1,0,1] (aM prog f49)).x) L (S49_0 a0 v0_3)) gN a0) (by kernel_rfl) ?_;unfold g49 G49
 repeat' first | with_reducible refine dG ?_ ?_ | with_reducible refine dE λ_=>?_ | with_reducible refine dF λ_=>?_ | with_reducible exact hin0 _ | exact rfl
def w49 (gN:Y86)(L:Nat)(x:C4):Option Bool:=g49 gN L x
theorem s49 (gN:Y86)(h86:Sat prog cxT 86 (c86 gN))(m:Y49)(hm:∀ (x:C4) t,m x=some t->∃ L,w49 gN L x=some t):Sat prog cxT 49 (c49 m):=
 bS bB aW (by rfl) (fn:=f49) rfl a49 n49 aVP m (nE gN) (aI h86 aV) aP (w49 gN) (λL x=>e49 gN L x) hm bAN
def aBo (m110:Y110)(gF:Y111):Env cxT:={ Kc:=cN [(110,aKX m110),(111,aKW gF)],Kw:=cO [],lv:=λi=>if i=0 then[(0,[some 102]),(1,[some 102]),(6,[])]else[],xv:=λi=>if i=0 then some []else none }
def S86_0 (a0:(List E9))(a1:(List E9))(v0_6:Int):St cxT.ty:={ slots:=[(.inl (.inl (ls { own:=0,nm:=0,e:=102,o:=false,xs:=a0 }))),(.inl (.inl (ls { own:=0,nm:=0,e:=102,o:=false,xs:=a1 }))),aH,aH,aH,aH,(.inl (.inl (lv (.int .i64 v0_6))))]++List.replicate 24 aH,D:=[],F:=[],ctr:=1 }
def X86_0 (a0:(List E9))(a1:(List E9)):St cxT.ty:={ slots:=[]++List.replicate 31 aH,D:=[],F:=[],ctr:=1 }
def G86 {B:Type}(u:Bool->B)(hh0:Int->Option B)(m110:Y110)(gF:Y111)(a0:(List E9))(a1:(List E9)):Option B:=
 cM (m110 (a0,a1)) (0:Int) λ(q1:Int)=>hh0 q1
def B86_0 {B:Type}(u:Bool->B)(gg:Int->Option B)(kk:Option B)(m110:Y110)(gF:Y111)(a0:(List E9))(a1:(List E9))(v0_6:Int):Option B:=
 cM (gF ((Nat.cast (List.length a0):Int),(Nat.cast (List.length a1):Int))) (0:Int) λ(q1:Int)=>bif (decide (v0_6 < q1))then bif ((decide ((0:Int)<=v0_6))&&(decide (v0_6 < (Nat.cast (List.length a0):Int))))then bif ((decide ((0:Int)<=v0_6))&&(decide (v0_6 < (Nat.cast (List.length a1):Int))))then bif ((List.getD a0 v0_6.toNat ((0:Int),((0:Int),((0:Int),((0:Int),((0:Int),((0:Int),((0:Int),((0:Int),(0:Int)))))))))).1 == (List.getD a1 v0_6.toNat ((0:Int),((0:Int),((0:Int),((0:Int),((0:Int),((0:Int),((0:Int),((0:Int),(0:Int)))))))))).1)then some (u false)
     else gg (wrap .i64 (v0_6+(1:Int)))
    else none
   else none
  else kk
def A86_0 {B:Type}(u:Bool->B)(m110:Y110)(gF:Y111)(a0:(List E9))(a1:(List E9)):Option B:=
 some (u true)
def xF (m110:Y110)(gF:Y111)(L:Nat)(a0:(List E9))(a1:(List E9)):Nat->Int->(Option Bool)->Option Bool
 | 0,_,_=>none
 | n+1,v0_6,k=>B86_0 (λx=>x) (λv0_6=>xF m110 gF L a0 a1 n v0_6 k) k m110 gF a0 a1 v0_6
theorem aLG (m110:Y110)(gF:Y111)(L:Nat)(a0:(List E9))(a1:(List E9))(k:St cxT.ty->Option (V cxT.ty))(xk:Nat->St cxT.ty->Option (V cxT.ty))(k':Option Bool)(hk:k (X86_0 a0 a1)=(k').map n86):∀ (n:Nat) (v0_6:Int),aS prog (aBo m110 gF) L f86 0 [1,1,0,1,0,0] (bE (aM prog f86) k xk) n (S86_0 a0 a1 v0_6)=(xF m110 gF L a0 a1 n v0_6 k').map n86
 | 0,_=>rfl
 | n+1,v0_6=>by
  rw[bF];have ih:=aLG m110 gF L a0 a1 k xk k' hk n;refine .trans (b:=B86_0 n86 (λv0_6=>(aS prog (aBo m110 gF) L f86 0 [1,1,0,1,0,0] (bE (aM prog f86) k xk) n) (S86_0 a0 a1 v0_6)) (k (X86_0 a0 a1)) m110 gF a0 a1 v0_6) (by kernel_rfl) ?_;unfold xF B86_0
  repeat' first | with_reducible refine dG ?_ ?_ | with_reducible refine dE λ_=>?_ | with_reducible refine dF λ_=>?_ | with_reducible exact ih _ | with_reducible exact hk | exact rfl
def g86 (m110:Y110)(gF:Y111)(L:Nat)(a0:(List E9))(a1:(List E9)):Option Bool:=G86 (λx=>x) (λv0_6=>xF m110 gF L a0 a1 L v0_6 (A86_0 (λx=>x) m110 gF a0 a1)) m110 gF a0 a1
theorem e86 (m110:Y110)(gF:Y111)(L:Nat)(a0:(List E9))(a1:(List E9)):eV prog (aBo m110 gF) (bI L) f86 (a86.enc (a0,a1))=(g86 m110 gF L a0 a1).map n86:=by
 have hin0:∀ (v0_6:Int),aS prog (aBo m110 gF) L f86 0 [1,1,0,1,0,0] (bE (aM prog f86) (bU prog (aBo m110 gF) L f86 [1,1,0,1] (aM prog f86)).n (bU prog (aBo m110 gF) L f86 [1,1,0,1] (aM prog f86)).x) L (S86_0 a0 a1 v0_6)=((λv0_6=>xF m110 gF L a0 a1 L v0_6 (A86_0 (λx=>x) m110 gF a0 a1)) v0_6).map n86:=λv0_6=>aLG m110 gF L a0 a1 _ _ _ (by refine .trans (b:=A86_0 n86 m110 gF a0 a1) (by kernel_rfl) ?_;unfold A86_0;repeat' first | with_reducible refine dG ?_ ?_ | with_reducible refine dE λ_=>?_ | with_reducible refine dF λ_=>?_ | exact rfl) L v0_6
 refine .trans (b:=G86 n86 (λv0_6=>aS prog (aBo m110 gF) L f86 0 [1,1,0,1,0,0] (bE (aM prog f86) (bU prog (aBo m110 gF) L f86 [1,1,0,1] (aM prog f86)).n (bU prog (aBo m110 gF) L f86 [1,1,0,1] (aM prog f86)).x) L (S86_0 a0 a1 v0_6)) m110 gF a0 a1) (by kernel_rfl) ?_;unfold g86 G86
 repeat' first | with_reducible refine dG ?_ ?_ | with_reducible refine dE λ_=>?_ | with_reducible refine dF λ_=>?_ | with_reducible exact hin0 _ | exact rfl
def w86 (m110:Y110)(gF:Y111)(L:Nat)(x:((List E9)×(List E9))):Option Bool:=g86 m110 gF L x.1 x.2
theorem s86 (m110:Y110)(gF:Y111)(h110:Sat prog cxT 110 (aKX m110))(h111:Sat prog cxT 111 (aKW gF))(m:Y86)(hm:∀ (x:((List E9)×(List E9))) t,m x=some t->∃ L,w86 m110 gF L x=some t):Sat prog cxT 86 (c86 m):=
 bS bB aW (by rfl) (fn:=f86) rfl a86 n86 aVl m (aBo m110 gF) (aI h110 (aI h111 aV)) aP (w86 m110 gF) (λL x=>e86 m110 gF L x.1 x.2) hm bAj
def aMM:Env cxT:={ Kc:=cN [],Kw:=cO [],lv:=λi=>[],xv:=λi=>none }
def G111 {B:Type}(u:Int->B)(a0:Int)(a1:Int):Option B:=
 bif (decide (a0 < a1))then some (u a0)
 else some (u a1)
def aPH (L:Nat)(a0:Int)(a1:Int):Option Int:=G111 (λx=>x) a0 a1
theorem bCm (L:Nat)(a0:Int)(a1:Int):eV prog aMM (bI L) f111 (aXu.enc (a0,a1))=(aPH L a0 a1).map aG8:=by
 refine .trans (b:=G111 aG8 a0 a1) (by kernel_rfl) ?_;unfold aPH G111
 repeat' first | with_reducible refine dG ?_ ?_ | with_reducible refine dE λ_=>?_ | with_reducible refine dF λ_=>?_ | exact rfl
def aRs (L:Nat)(x:(Int×Int)):Option Int:=aPH L x.1 x.2
theorem aZD (m:Y111)(hm:∀ (x:(Int×Int)) t,m x=some t->∃ L,aRs L x=some t):Sat prog cxT 111 (aKW m):=
 bS bB aW (by rfl) (fn:=f111) rfl aXu aG8 aNz m aMM aV aP (aRs) (λL x=>bCm L x.1 x.2) hm aTe
def tO:Env cxT:={ Kc:=cN [],Kw:=cO [],lv:=λi=>if i=0 then[(0,[some 102]),(1,[some 102]),(5,[])]else[],xv:=λi=>if i=0 then some [(5,[])]else none }
def S110_0 (a0:(List E9))(a1:(List E9))(v0_5:Int):St cxT.ty:={ slots:=[(.inl (.inl (ls { own:=0,nm:=0,e:=102,o:=false,xs:=a0 }))),(.inl (.inl (ls { own:=0,nm:=0,e:=102,o:=false,xs:=a1 }))),aH,aH,aH,(.inl (.inl (lv (.int .i64 v0_5))))]++List.replicate 24 aH,D:=[],F:=[],ctr:=1 }
def X110_0 (a0:(List E9))(a1:(List E9))(w0_5:Int):St cxT.ty:={ slots:=[aH,aH,aH,aH,aH,(.inl (.inl (lv (.int .i64 w0_5))))]++List.replicate 24 aH,D:=[],F:=[],ctr:=1 }
def G110 {B:Type}(u:Int->B)(hh0:Int->Option B)(a0:(List E9))(a1:(List E9)):Option B:=
 hh0 (0:Int)
def B110_0 {B:Type}(u:Int->B)(gg:Int->Option B)(kk:Int->Option B)(a0:(List E9))(a1:(List E9))(v0_5:Int):Option B:=
 bif (decide (v0_5 < (Nat.cast (List.length a0):Int)))then eF (List.getD a0 v0_5.toNat ((0:Int),((0:Int),((0:Int),((0:Int),((0:Int),((0:Int),((0:Int),((0:Int),(0:Int)))))))))) λs1_0=>eF (List.getD a1 v0_5.toNat ((0:Int),((0:Int),((0:Int),((0:Int),((0:Int),((0:Int),((0:Int),((0:Int),(0:Int)))))))))) λs1_1=>bif (decide (v0_5 < (Nat.cast (List.length a1):Int)))then bif ((decide ((0:Int)<=v0_5))&&(decide (v0_5 < (Nat.cast (List.length a0):Int))))then bif ((decide ((0:Int)<=v0_5))&&(decide (v0_5 < (Nat.cast (List.length a1):Int))))then bif (((((((((s1_0.1 == s1_1.1)&&(s1_0.2.1 == s1_1.2.1))&&(s1_0.2.2.1 == s1_1.2.2.1))&&(s1_0.2.2.2.1 == s1_1.2.2.2.1))&&(s1_0.2.2.2.2.1 == s1_1.2.2.2.2.1))&&(s1_0.2.2.2.2.2.1 == s1_1.2.2.2.2.2.1))&&(s1_0.2.2.2.2.2.2.1 == s1_1.2.2.2.2.2.2.1))&&(s1_0.2.2.2.2.2.2.2.1 == s1_1.2.2.2.2.2.2.2.1))&&(s1_0.2.2.2.2.2.2.2.2 == s1_1.2.2.2.2.2.2.2.2))then gg (wrap .i64 (v0_5+(1:Int)))
     else kk v0_5
    else none
   else none
  else kk v0_5
 else kk v0_5
def A110_0 {B:Type}(u:Int->B)(a0:(List E9))(a1:(List E9))(w0_5:Int):Option B:=
 some (u w0_5)
def uG (L:Nat)(a0:(List E9))(a1:(List E9)):Nat->Int->(Int->Option Int)->Option Int
 | 0,_,_=>none
 | n+1,v0_5,k=>B110_0 (λx=>x) (λv0_5=>uG L a0 a1 n v0_5 k) k a0 a1 v0_5
theorem aIZ (L:Nat)(a0:(List E9))(a1:(List E9))(k:St cxT.ty->Option (V cxT.ty))(xk:Nat->St cxT.ty->Option (V cxT.ty))(k':Int->Option Int)(hk:∀ (w0_5:Int),k (X110_0 a0 a1 w0_5)=(k' w0_5).map zW):∀ (n:Nat) (v0_5:Int),aS prog tO L f110 0 [1,1,0,0,0] (bE (aM prog f110) k xk) n (S110_0 a0 a1 v0_5)=(uG L a0 a1 n v0_5 k').map zW
 | 0,_=>rfl
 | n+1,v0_5=>by
  rw[bF];have ih:=aIZ L a0 a1 k xk k' hk n;refine .trans (b:=B110_0 zW (λv0_5=>(aS prog tO L f110 0 [1,1,0,0,0] (bE (aM prog f110) k xk) n) (S110_0 a0 a1 v0_5)) (λw0_5=>k (X110_0 a0 a1 w0_5)) a0 a1 v0_5) (by kernel_rfl) ?_;unfold uG B110_0
  repeat' first | with_reducible refine dG ?_ ?_ | with_reducible refine dE λ_=>?_ | with_reducible refine dF λ_=>?_ | with_reducible exact ih _ | with_reducible exact hk _ | exact rfl
def aJh (L:Nat)(a0:(List E9))(a1:(List E9)):Option Int:=G110 (λx=>x) (λv0_5=>uG L a0 a1 L v0_5 (λw0_5=>A110_0 (λx=>x) a0 a1 w0_5)) a0 a1
theorem bCn (L:Nat)(a0:(List E9))(a1:(List E9)):eV prog tO (bI L) f110 (aXv.enc (a0,a1))=(aJh L a0 a1).map zW:=by
 have hin0:∀ (v0_5:Int),aS prog tO L f110 0 [1,1,0,0,0] (bE (aM prog f110) (bU prog tO L f110 [1,1,0] (aM prog f110)).n (bU prog tO L f110 [1,1,0] (aM prog f110)).x) L (S110_0 a0 a1 v0_5)=((λv0_5=>uG L a0 a1 L v0_5 (λw0_5=>A110_0 (λx=>x) a0 a1 w0_5)) v0_5).map zW:=λv0_5=>aIZ L a0 a1 _ _ _ (λw0_5=>by refine .trans (b:=A110_0 zW a0 a1 w0_5) (by kernel_rfl) ?_;unfold A110_0;repeat' first | with_reducible refine dG ?_ ?_ | with_reducible refine dE λ_=>?_ | with_reducible refine dF λ_=>?_ | exact rfl) L v0_5
 refine .trans (b:=G110 zW (λv0_5=>aS prog tO L f110 0 [1,1,0,0,0] (bE (aM prog f110) (bU prog tO L f110 [1,1,0] (aM prog f110)).n (bU prog tO L f110 [1,1,0] (aM prog f110)).x) L (S110_0 a0 a1 v0_5)) a0 a1) (by kernel_rfl) ?_;unfold aJh G110
 repeat' first | with_reducible refine dG ?_ ?_ | with_reducible refine dE λ_=>?_ | with_reducible refine dF λ_=>?_ | with_reducible exact hin0 _ | exact rfl
def aN4 (L:Nat)(x:((List E9)×(List E9))):Option Int:=aJh L x.1 x.2
theorem aZE (m:Y110)(hm:∀ (x:((List E9)×(List E9))) t,m x=some t->∃ L,aN4 L x=some t):Sat prog cxT 110 (aKX m):=
 bS bB aW (by rfl) (fn:=f110) rfl aXv zW aNA m tO aV aP (aN4) (λL x=>bCn L x.1 x.2) hm aTf
def nC:Env cxT:={ Kc:=cN [],Kw:=cO [],lv:=λi=>if i=0 then[(0,[some 73,some 96,some 64,some 104]),(3,[])]else if i=2 then[(0,[some 73,some 96,some 64,some 104]),(3,[]),(4,[none,none,none,none,some 102,none,none,some 2,some 2,some 2]),(5,[])]else[],xv:=λi=>if i=0 then some []else if i=2 then some [(0,[some 73,some 96,some 64,some 104]),(3,[])]else none }
def S52_0 (a0:C4)(v0_3:Int):St cxT.ty:={ slots:=[(.inr (.inr { kind:=2,nm:=0,cells:=[],s:={ own:=0,nm:=0,e:=35,o:=false,xs:=(List.cons a0 []) },i:=0,off:=0 })),aH,aH,(.inl (.inl (lv (.int .i64 v0_3))))]++List.replicate 51 aH,D:=[],F:=[],ctr:=1 }
def X52_0 (a0:C4):St cxT.ty:={ slots:=[]++List.replicate 55 aH,D:=[],F:=[],ctr:=1 }
def S52_2 (a0:C4)(v0_3:Int)(v2_5:Int):St cxT.ty:={ slots:=[(.inr (.inr { kind:=2,nm:=0,cells:=[],s:={ own:=0,nm:=0,e:=35,o:=false,xs:=(List.cons a0 []) },i:=0,off:=0 })),aH,aH,(.inl (.inl (lv (.int .i64 v0_3)))),(.inr (.inr { kind:=2,nm:=0,cells:=[],s:={ own:=0,nm:=0,e:=73,o:=false,xs:=a0.1 },i:=v0_3.toNat,off:=0 })),(.inl (.inl (lv (.int .i64 v2_5))))]++List.replicate 49 aH,D:=[],F:=[],ctr:=1 }
def X52_2 (a0:C4)(v0_3:Int):St cxT.ty:={ slots:=[(.inr (.inr { kind:=2,nm:=0,cells:=[],s:={ own:=0,nm:=0,e:=35,o:=false,xs:=(List.cons a0 []) },i:=0,off:=0 })),aH,aH,(.inl (.inl (lv (.int .i64 v0_3))))]++List.replicate 51 aH,D:=[],F:=[],ctr:=1 }
def G52 {B:Type}(u:Bool->B)(hh0:Int->Option B)(a0:C4):Option B:=
 hh0 (0:Int)
def B52_0 {B:Type}(u:Bool->B)(gg:Int->Option B)(kk:Option B)(hh2:Int->Option B)(a0:C4)(v0_3:Int):Option B:=
 bif (decide (v0_3 < (Nat.cast (List.length a0.1):Int)))then eF a0 λs1_0=>bif ((decide ((0:Int)<=v0_3))&&(decide (v0_3 < (Nat.cast (List.length s1_0.1):Int))))then bif (decide ((List.getD s1_0.1 v0_3.toNat ((0:Int),((0:Int),((0:Int),((0:Int),(([]:List E9),((0:Int),((0:Int),(([]:List (Int)),(([]:List (Int)),([]:List (Int)))))))))))).2.2.2.2.2.2.1 > (Nat.cast (List.length s1_0.2.2.2):Int)))then some (u false)
   else hh2 (0:Int)
  else none
 else kk
def A52_0 {B:Type}(u:Bool->B)(a0:C4):Option B:=
 some (u true)
def B52_2 {B:Type}(u:Bool->B)(gg:Int->Option B)(kk:Option B)(a0:C4)(v0_3:Int)(v2_5:Int):Option B:=
 bif (decide (v2_5 < (List.getD a0.1 v0_3.toNat ((0:Int),((0:Int),((0:Int),((0:Int),(([]:List E9),((0:Int),((0:Int),(([]:List (Int)),(([]:List (Int)),([]:List (Int)))))))))))).2.2.2.2.2.2.1))then eF a0 λs1_0=>eF (List.getD s1_0.1 v0_3.toNat ((0:Int),((0:Int),((0:Int),((0:Int),(([]:List E9),((0:Int),((0:Int),(([]:List (Int)),(([]:List (Int)),([]:List (Int)))))))))))) λs1_1=>eF (List.getD s1_1.2.2.2.2.1 v2_5.toNat ((0:Int),((0:Int),((0:Int),((0:Int),((0:Int),((0:Int),((0:Int),((0:Int),(0:Int)))))))))) λs1_2=>eF (List.getD s1_0.2.2.2 v2_5.toNat ((0:Int),((0:Int),((0:Int),((0:Int),((0:Int),((0:Int),((0:Int),((0:Int),((0:Int),(0:Int))))))))))) λs1_3=>bif ((decide ((0:Int)<=v2_5))&&(decide (v2_5 < (Nat.cast (List.length s1_1.2.2.2.2.1):Int))))then bif ((decide ((0:Int)<=v2_5))&&(decide (v2_5 < (Nat.cast (List.length s1_0.2.2.2):Int))))then bif (!(((((((((s1_2.1 == s1_3.2.1)&&(s1_2.2.1 == s1_3.2.2.1))&&(s1_2.2.2.1 == s1_3.2.2.2.1))&&(s1_2.2.2.2.1 == s1_3.2.2.2.2.1))&&(s1_2.2.2.2.2.1 == s1_3.2.2.2.2.2.1))&&(s1_2.2.2.2.2.2.1 == s1_3.2.2.2.2.2.2.1))&&(s1_2.2.2.2.2.2.2.1 == s1_3.2.2.2.2.2.2.2.1))&&(s1_2.2.2.2.2.2.2.2.1 == s1_3.2.2.2.2.2.2.2.2.1))&&(s1_2.2.2.2.2.2.2.2.2 == s1_3.2.2.2.2.2.2.2.2.2)))then some (u false)
    else gg (wrap .i64 (v2_5+(1:Int)))
   else none
  else none
 else kk
def A52_2 {B:Type}(u:Bool->B)(gg:Int->Option B)(kk:Option B)(a0:C4)(v0_3:Int):Option B:=
 gg (wrap .i64 (v0_3+(1:Int)))
def rH (L:Nat)(a0:C4)(v0_3:Int):Nat->Int->(Option Bool)->Option Bool
 | 0,_,_=>none
 | n+1,v2_5,k=>B52_2 (λx=>x) (λv2_5=>rH L a0 v0_3 n v2_5 k) k a0 v0_3 v2_5
theorem aLQ (L:Nat)(a0:C4)(v0_3:Int)(k:St cxT.ty->Option (V cxT.ty))(xk:Nat->St cxT.ty->Option (V cxT.ty))(k':Option Bool)(hk:k (X52_2 a0 v0_3)=(k').map n52):∀ (n:Nat) (v2_5:Int),aS prog nC L f52 2 [1,0,1,0,0,1,0,0,1,1,1,0,0] (bE (aM prog f52) k xk) n (S52_2 a0 v0_3 v2_5)=(rH L a0 v0_3 n v2_5 k').map n52
 | 0,_=>rfl
 | n+1,v2_5=>by
  rw[bF];have ih:=aLQ L a0 v0_3 k xk k' hk n;refine .trans (b:=B52_2 n52 (λv2_5=>(aS prog nC L f52 2 [1,0,1,0,0,1,0,0,1,1,1,0,0] (bE (aM prog f52) k xk) n) (S52_2 a0 v0_3 v2_5)) (k (X52_2 a0 v0_3)) a0 v0_3 v2_5) (by kernel_rfl) ?_;unfold rH B52_2
  repeat' first | with_reducible refine dG ?_ ?_ | with_reducible refine dE λ_=>?_ | with_reducible refine dF λ_=>?_ | with_reducible exact ih _ | with_reducible exact hk | exact rfl
def qA (L:Nat)(a0:C4):Nat->Int->(Option Bool)->Option Bool
 | 0,_,_=>none
 | n+1,v0_3,k=>B52_0 (λx=>x) (λv0_3=>qA L a0 n v0_3 k) k (λv2_5=>rH L a0 v0_3 L v2_5 (A52_2 (λx=>x) (λv0_3=>qA L a0 n v0_3 k) k a0 v0_3)) a0 v0_3
theorem aLR (L:Nat)(a0:C4)(k:St cxT.ty->Option (V cxT.ty))(xk:Nat->St cxT.ty->Option (V cxT.ty))(k':Option Bool)(hk:k (X52_0 a0)=(k').map n52):∀ (n:Nat) (v0_3:Int),aS prog nC L f52 0 [1,0,1,0,0] (bE (aM prog f52) k xk) n (S52_0 a0 v0_3)=(qA L a0 n v0_3 k').map n52
 | 0,_=>rfl
 | n+1,v0_3=>by
  rw[bF];have ih:=aLR L a0 k xk k' hk n;have hin2:∀ (v2_5:Int),aS prog nC L f52 2 [1,0,1,0,0,1,0,0,1,1,1,0,0] (bE (aM prog f52) (yV prog nC L f52 0 [1,0,1,0,0] [1,0,0,1,1,1] (bE (aM prog f52) k xk) (aS prog nC L f52 0 [1,0,1,0,0] (bE (aM prog f52) k xk) n)).n (yV prog nC L f52 0 [1,0,1,0,0] [1,0,0,1,1,1] (bE (aM prog f52) k xk) (aS prog nC L f52 0 [1,0,1,0,0] (bE (aM prog f52) k xk) n)).x) L (S52_2 a0 v0_3 v2_5)=((λv2_5=>rH L a0 v0_3 L v2_5 (A52_2 (λx=>x) (λv0_3=>qA L a0 n v0_3 k') k' a0 v0_3)) v2_5).map n52:=λv2_5=>aLQ L a0 v0_3 _ _ _ (by refine .trans (b:=A52_2 n52 (λv0_3=>(aS prog nC L f52 0 [1,0,1,0,0] (bE (aM prog f52) k xk) n) (S52_0 a0 v0_3)) (k (X52_0 a0)) a0 v0_3) (by kernel_rfl) ?_;unfold A52_2;repeat' first | with_reducible refine dG ?_ ?_ | with_reducible refine dE λ_=>?_ | with_reducible refine dF λ_=>?_ | with_reducible exact ih _ | with_reducible exact hk | exact rfl) L v2_5
  refine .trans (b:=B52_0 n52 (λv0_3=>(aS prog nC L f52 0 [1,0,1,0,0] (bE (aM prog f52) k xk) n) (S52_0 a0 v0_3)) (k (X52_0 a0)) (λv2_5=>aS prog nC L f52 2 [1,0,1,0,0,1,0,0,1,1,1,0,0] (bE (aM prog f52) (yV prog nC L f52 0 [1,0,1,0,0] [1,0,0,1,1,1] (bE (aM prog f52) k xk) (aS prog nC L f52 0 [1,0,1,0,0] (bE (aM prog f52) k xk) n)).n (yV prog nC L f52 0 [1,0,1,0,0] [1,0,0,1,1,1] (bE (aM prog f52) k xk) (aS prog nC L f52 0 [1,0,1,0,0] (bE (aM prog f52) k xk) n)).x) L (S52_2 a0 v0_3 v2_5)) a0 v0_3) (by kernel_rfl) ?_;unfold qA B52_0
  repeat' first | with_reducible refine dG ?_ ?_ | with_reducible refine dE λ_=>?_ | with_reducible refine dF λ_=>?_ | with_reducible exact ih _ | with_reducible exact hk | with_reducible exact hin2 _ | exact rfl
def g52 (L:Nat)(a0:C4):Option Bool:=G52 (λx=>x) (λv0_3=>qA L a0 L v0_3 (A52_0 (λx=>x) a0)) a0
theorem e52 (L:Nat)(a0:C4):eV prog nC (bI L) f52 (a52.enc a0)=(g52 L a0).map n52:=by
 have hin0:∀ (v0_3:Int),aS prog nC L f52 0 [1,0,1,0,0] (bE (aM prog f52) (bU prog nC L f52 [1,0,1] (aM prog f52)).n (bU prog nC L f52 [1,0,1] (aM prog f52)).x) L (S52_0 a0 v0_3)=((λv0_3=>qA L a0 L v0_3 (A52_0 (λx=>x) a0)) v0_3).map n52:=λv0_3=>aLR L a0 _ _ _ (by refine .trans (b:=A52_0 n52 a0) (by kernel_rfl) ?_;unfold A52_0;repeat' first | with_reducible refine dG ?_ ?_ | with_reducible refine dE λ_=>?_ | with_reducible refine dF λ_=>?_ | exact rfl) L v0_3
 refine .trans (b:=G52 n52 (λv0_3=>aS prog nC L f52 0 [1,0,1,0,0] (bE (aM prog f52) (bU prog nC L f52 [1,0,1] (aM prog f52)).n (bU prog nC L f52 [1,0,1] (aM prog f52)).x) L (S52_0 a0 v0_3)) a0) (by kernel_rfl) ?_;unfold g52 G52
 repeat' first | with_reducible refine dG ?_ ?_ | with_reducible refine dE λ_=>?_ | with_reducible refine dF λ_=>?_ | with_reducible exact hin0 _ | exact rfl
def w52 (L:Nat)(x:C4):Option Bool:=g52 L x
theorem s52 (m:Y52)(hm:∀ (x:C4) t,m x=some t->∃ L,w52 L x=some t):Sat prog cxT 52 (c52 m):=
 bS bB aW (by rfl) (fn:=f52) rfl a52 n52 aVM m nC aV aP (w52) (λL x=>e52 L x) hm bAK
def nA:Env cxT:={ Kc:=cN [],Kw:=cO [],lv:=λi=>if i=0 then[(0,[some 73,some 96,some 64,some 104]),(3,[])]else if i=2 then[(0,[some 73,some 96,some 64,some 104]),(3,[]),(4,[none,none,none,none,some 102,none,none,some 2,some 2,some 2]),(5,[])]else[],xv:=λi=>if i=0 then some []else if i=2 then some [(0,[some 73,some 96,some 64,some 104]),(3,[])]else none }
def S55_0 (a0:C4)(v0_3:Int):St cxT.ty:={ slots:=[(.inr (.inr { kind:=2,nm:=0,cells:=[],s:={ own:=0,nm:=0,e:=35,o:=false,xs:=(List.cons a0 []) },i:=0,off:=0 })),aH,aH,(.inl (.inl (lv (.int .i64 v0_3))))]++List.replicate 71 aH,D:=[],F:=[],ctr:=1 }
def X55_0 (a0:C4):St cxT.ty:={ slots:=[]++List.replicate 75 aH,D:=[],F:=[],ctr:=1 }
def S55_2 (a0:C4)(v0_3:Int)(v2_5:Int):St cxT.ty:={ slots:=[(.inr (.inr { kind:=2,nm:=0,cells:=[],s:={ own:=0,nm:=0,e:=35,o:=false,xs:=(List.cons a0 []) },i:=0,off:=0 })),aH,aH,(.inl (.inl (lv (.int .i64 v0_3)))),(.inr (.inr { kind:=2,nm:=0,cells:=[],s:={ own:=0,nm:=0,e:=73,o:=false,xs:=a0.1 },i:=v0_3.toNat,off:=0 })),(.inl (.inl (lv (.int .i64 v2_5))))]++List.replicate 69 aH,D:=[],F:=[],ctr:=1 }
def X55_2 (a0:C4)(v0_3:Int):St cxT.ty:={ slots:=[(.inr (.inr { kind:=2,nm:=0,cells:=[],s:={ own:=0,nm:=0,e:=35,o:=false,xs:=(List.cons a0 []) },i:=0,off:=0 })),aH,aH,(.inl (.inl (lv (.int .i64 v0_3))))]++List.replicate 71 aH,D:=[],F:=[],ctr:=1 }
def G55 {B:Type}(u:Bool->B)(hh0:Int->Option B)(a0:C4):Option B:=
 hh0 (0:Int)
def B55_0 {B:Type}(u:Bool->B)(gg:Int->Option B)(kk:Option B)(hh2:Int->Option B)(a0:C4)(v0_3:Int):Option B:=
 bif (decide (v0_3 < (Nat.cast (List.length a0.1):Int)))then bif ((decide ((0:Int)<=v0_3))&&(decide (v0_3 < (Nat.cast (List.length a0.1):Int))))then bif ((List.getD a0.1 v0_3.toNat ((0:Int),((0:Int),((0:Int),((0:Int),(([]:List E9),((0:Int),((0:Int),(([]:List (Int)),(([]:List (Int)),([]:List (Int)))))))))))).2.2.2.2.2.1 != (2:Int))then gg (wrap .i64 (v0_3+(1:Int)))
   else hh2 (0:Int)
  else none
 else kk
def A55_0 {B:Type}(u:Bool->B)(a0:C4):Option B:=
 some (u true)
def B55_2 {B:Type}(u:Bool->B)(gg:Int->Option B)(kk:Option B)(a0:C4)(v0_3:Int)(v2_5:Int):Option B:=
 bif (decide (v2_5 < (Nat.cast (List.length a0.2.2.2):Int)))then eF a0 λs1_0=>eF (List.getD s1_0.2.2.2 v2_5.toNat ((0:Int),((0:Int),((0:Int),((0:Int),((0:Int),((0:Int),((0:Int),((0:Int),((0:Int),(0:Int))))))))))) λs1_1=>eF (List.getD s1_0.1 v0_3.toNat ((0:Int),((0:Int),((0:Int),((0:Int),(([]:List E9),((0:Int),((0:Int),(([]:List (Int)),(([]:List (Int)),([]:List (Int)))))))))))) λs1_2=>eF (List.getD s1_2.2.2.2.2.1 v2_5.toNat ((0:Int),((0:Int),((0:Int),((0:Int),((0:Int),((0:Int),((0:Int),((0:Int),(0:Int)))))))))) λs1_3=>bif ((decide ((0:Int)<=v2_5))&&(decide (v2_5 < (Nat.cast (List.length s1_0.2.2.2):Int))))then bif (decide (s1_1.1<=s1_2.2.2.1))then bif (decide (v2_5>=(Nat.cast (List.length s1_2.2.2.2.2.1):Int)))then some (u false)
    else bif ((decide ((0:Int)<=v2_5))&&(decide (v2_5 < (Nat.cast (List.length s1_2.2.2.2.2.1):Int))))then bif ((decide ((0:Int)<=v2_5))&&(decide (v2_5 < (Nat.cast (List.length s1_0.2.2.2):Int))))then bif (!(((((((((s1_3.1 == s1_1.2.1)&&(s1_3.2.1 == s1_1.2.2.1))&&(s1_3.2.2.1 == s1_1.2.2.2.1))&&(s1_3.2.2.2.1 == s1_1.2.2.2.2.1))&&(s1_3.2.2.2.2.1 == s1_1.2.2.2.2.2.1))&&(s1_3.2.2.2.2.2.1 == s1_1.2.2.2.2.2.2.1))&&(s1_3.2.2.2.2.2.2.1 == s1_1.2.2.2.2.2.2.2.1))&&(s1_3.2.2.2.2.2.2.2.1 == s1_1.2.2.2.2.2.2.2.2.1))&&(s1_3.2.2.2.2.2.2.2.2 == s1_1.2.2.2.2.2.2.2.2.2)))then some (u false)
      else gg (wrap .i64 (v2_5+(1:Int)))
     else none
    else none
   else gg (wrap .i64 (v2_5+(1:Int)))
  else none
 else kk
def A55_2 {B:Type}(u:Bool->B)(gg:Int->Option B)(kk:Option B)(a0:C4)(v0_3:Int):Option B:=
 gg (wrap .i64 (v0_3+(1:Int)))
def rG (L:Nat)(a0:C4)(v0_3:Int):Nat->Int->(Option Bool)->Option Bool
 | 0,_,_=>none
 | n+1,v2_5,k=>B55_2 (λx=>x) (λv2_5=>rG L a0 v0_3 n v2_5 k) k a0 v0_3 v2_5
theorem aLN (L:Nat)(a0:C4)(v0_3:Int)(k:St cxT.ty->Option (V cxT.ty))(xk:Nat->St cxT.ty->Option (V cxT.ty))(k':Option Bool)(hk:k (X55_2 a0 v0_3)=(k').map n55):∀ (n:Nat) (v2_5:Int),aS prog nA L f55 2 [1,0,1,0,0,1,0,0,1,1,1,0,0] (bE (aM prog f55) k xk) n (S55_2 a0 v0_3 v2_5)=(rG L a0 v0_3 n v2_5 k').map n55
 | 0,_=>rfl
 | n+1,v2_5=>by
  rw[bF];have ih:=aLN L a0 v0_3 k xk k' hk n;refine .trans (b:=B55_2 n55 (λv2_5=>(aS prog nA L f55 2 [1,0,1,0,0,1,0,0,1,1,1,0,0] (bE (aM prog f55) k xk) n) (S55_2 a0 v0_3 v2_5)) (k (X55_2 a0 v0_3)) a0 v0_3 v2_5) (by kernel_rfl) ?_;unfold rG B55_2
  repeat' first | with_reducible refine dG ?_ ?_ | with_reducible refine dE λ_=>?_ | with_reducible refine dF λ_=>?_ | with_reducible exact ih _ | with_reducible exact hk | exact rfl
def pZ (L:Nat)(a0:C4):Nat->Int->(Option Bool)->Option Bool
 | 0,_,_=>none
 | n+1,v0_3,k=>B55_0 (λx=>x) (λv0_3=>pZ L a0 n v0_3 k) k (λv2_5=>rG L a0 v0_3 L v2_5 (A55_2 (λx=>x) (λv0_3=>pZ L a0 n v0_3 k) k a0 v0_3)) a0 v0_3
theorem aLO (L:Nat)(a0:C4)(k:St cxT.ty->Option (V cxT.ty))(xk:Nat->St cxT.ty->Option (V cxT.ty))(k':Option Bool)(hk:k (X55_0 a0)=(k').map n55):∀ (n:Nat) (v0_3:Int),aS prog nA L f55 0 [1,0,1,0,0] (bE (aM prog f55) k xk) n (S55_0 a0 v0_3)=(pZ L a0 n v0_3 k').map n55
 | 0,_=>rfl
 | n+1,v0_3=>by
  rw[bF];have ih:=aLO L a0 k xk k' hk n;have hin2:∀ (v2_5:Int),aS prog nA L f55 2 [1,0,1,0,0,1,0,0,1,1,1,0,0] (bE (aM prog f55) (yV prog nA L f55 0 [1,0,1,0,0] [1,0,0,1,1,1] (bE (aM prog f55) k xk) (aS prog nA L f55 0 [1,0,1,0,0] (bE (aM prog f55) k xk) n)).n (yV prog nA L f55 0 [1,0,1,0,0] [1,0,0,1,1,1] (bE (aM prog f55) k xk) (aS prog nA L f55 0 [1,0,1,0,0] (bE (aM prog f55) k xk) n)).x) L (S55_2 a0 v0_3 v2_5)=((λv2_5=>rG L a0 v0_3 L v2_5 (A55_2 (λx=>x) (λv0_3=>pZ L a0 n v0_3 k') k' a0 v0_3)) v2_5).map n55:=λv2_5=>aLN L a0 v0_3 _ _ _ (by refine .trans (b:=A55_2 n55 (λv0_3=>(aS prog nA L f55 0 [1,0,1,0,0] (bE (aM prog f55) k xk) n) (S55_0 a0 v0_3)) (k (X55_0 a0)) a0 v0_3) (by kernel_rfl) ?_;unfold A55_2;repeat' first | with_reducible refine dG ?_ ?_ | with_reducible refine dE λ_=>?_ | with_reducible refine dF λ_=>?_ | with_reducible exact ih _ | with_reducible exact hk | exact rfl) L v2_5
  refine .trans (b:=B55_0 n55 (λv0_3=>(aS prog nA L f55 0 [1,0,1,0,0] (bE (aM prog f55) k xk) n) (S55_0 a0 v0_3)) (k (X55_0 a0)) (λv2_5=>aS prog nA L f55 2 [1,0,1,0,0,1,0,0,1,1,1,0,0] (bE (aM prog f55) (yV prog nA L f55 0 [1,0,1,0,0] [1,0,0,1,1,1] (bE (aM prog f55) k xk) (aS prog nA L f55 0 [1,0,1,0,0] (bE (aM prog f55) k xk) n)).n (yV prog nA L f55 0 [1,0,1,0,0] [1,0,0,1,1,1] (bE (aM prog f55) k xk) (aS prog nA L f55 0 [1,0,1,0,0] (bE (aM prog f55) k xk) n)).x) L (S55_2 a0 v0_3 v2_5)) a0 v0_3) (by kernel_rfl) ?_;unfold pZ B55_0
  repeat' first | with_reducible refine dG ?_ ?_ | with_reducible refine dE λ_=>?_ | with_reducible refine dF λ_=>?_ | with_reducible exact ih _ | with_reducible exact hk | with_reducible exact hin2 _ | exact rfl
def g55 (L:Nat)(a0:C4):Option Bool:=G55 (λx=>x) (λv0_3=>pZ L a0 L v0_3 (A55_0 (λx=>x) a0)) a0
theorem e55 (L:Nat)(a0:C4):eV prog nA (bI L) f55 (a55.enc a0)=(g55 L a0).map n55:=by
 have hin0:∀ (v0_3:Int),aS prog nA L f55 0 [1,0,1,0,0] (bE (aM prog f55) (bU prog nA L f55 [1,0,1] (aM prog f55)).n (bU prog nA L f55 [1,0,1] (aM prog f55)).x) L (S55_0 a0 v0_3)=((λv0_3=>pZ L a0 L v0_3 (A55_0 (λx=>x) a0)) v0_3).map n55:=λv0_3=>aLO L a0 _ _ _ (by refine .trans (b:=A55_0 n55 a0) (by kernel_rfl) ?_;unfold A55_0;repeat' first | with_reducible refine dG ?_ ?_ | with_reducible refine dE λ_=>?_ | with_reducible refine dF λ_=>?_ | exact rfl) L v0_3
 refine .trans (b:=G55 n55 (λv0_3=>aS prog nA L f55 0 [1,0,1,0,0] (bE (aM prog f55) (bU prog nA L f55 [1,0,1] (aM prog f55)).n (bU prog nA L f55 [1,0,1] (aM prog f55)).x) L (S55_0 a0 v0_3)) a0) (by kernel_rfl) ?_;unfold g55 G55
 repeat' first | with_reducible refine dG ?_ ?_ | with_reducible refine dE λ_=>?_ | with_reducible refine dF λ_=>?_ | with_reducible exact hin0 _ | exact rfl
def w55 (L:Nat)(x:C4):Option Bool:=g55 L x
theorem s55 (m:Y55)(hm:∀ (x:C4) t,m x=some t->∃ L,w55 L x=some t):Sat prog cxT 55 (c55 m):=
 bS bB aW (by rfl) (fn:=f55) rfl a55 n55 aVJ m nA aV aP (w55) (λL x=>e55 L x) hm bAH
def aUO (eQ:Y36)(nT:Y37):Env cxT:={ Kc:=cN [(36,c36 eQ),(37,c37 nT)],Kw:=cO [],lv:=λi=>[],xv:=λi=>none }
def G11 {B:Type}(u:Bool->B)(eQ:Y36)(nT:Y37)(a0_0:(List N10))(a0_1:(List M9))(a0_2:(List W2))(a0_3:(List S10)):Option B:=
 cM (eQ (a0_0,(a0_1,(a0_2,a0_3)))) (0:Int) λ(q1:Int)=>bif (q1 == (0:Int))then cM (nT (a0_0,(a0_1,(a0_2,a0_3)))) false λ(q3:Bool)=>some (u q3)
  else some (u false)
def g11 (eQ:Y36)(nT:Y37)(L:Nat)(a0_0:(List N10))(a0_1:(List M9))(a0_2:(List W2))(a0_3:(List S10)):Option Bool:=G11 (λx=>x) eQ nT a0_0 a0_1 a0_2 a0_3
theorem e11 (eQ:Y36)(nT:Y37)(L:Nat)(a0_0:(List N10))(a0_1:(List M9))(a0_2:(List W2))(a0_3:(List S10)):eV prog (aUO eQ nT) (bI L) f11 (a11.enc (a0_0,a0_1,a0_2,a0_3))=(g11 eQ nT L a0_0 a0_1 a0_2 a0_3).map n11:=by
 refine .trans (b:=G11 n11 eQ nT a0_0 a0_1 a0_2 a0_3) (by kernel_rfl) ?_;unfold g11 G11
 repeat' first | with_reducible refine dG ?_ ?_ | with_reducible refine dE λ_=>?_ | with_reducible refine dF λ_=>?_ | exact rfl
def w11 (eQ:Y36)(nT:Y37)(L:Nat)(x:C4):Option Bool:=g11 eQ nT L x.1 x.2.1 x.2.2.1 x.2.2.2
theorem s11 (eQ:Y36)(nT:Y37)(h36:Sat prog cxT 36 (c36 eQ))(h37:Sat prog cxT 37 (c37 nT))(m:Y11)(hm:∀ (x:C4) t,m x=some t->∃ L,w11 eQ nT L x=some t):Sat prog cxT 11 (c11 m):=
 bS bB aW (by rfl) (fn:=f11) rfl a11 n11 aWj m (aUO eQ nT) (aI h36 (aI h37 aV)) aP (w11 eQ nT) (λL x=>e11 eQ nT L x.1 x.2.1 x.2.2.1 x.2.2.2) hm bBg
def aUK (eQ:Y36)(nS:Y49):Env cxT:={ Kc:=cN [(36,c36 eQ),(49,c49 nS)],Kw:=cO [],lv:=λi=>[],xv:=λi=>none }
def G15 {B:Type}(u:Bool->B)(eQ:Y36)(nS:Y49)(a0_0:(List N10))(a0_1:(List M9))(a0_2:(List W2))(a0_3:(List S10)):Option B:=
 cM (eQ (a0_0,(a0_1,(a0_2,a0_3)))) (0:Int) λ(q1:Int)=>bif (q1 == (0:Int))then cM (nS (a0_0,(a0_1,(a0_2,a0_3)))) false λ(q3:Bool)=>some (u q3)
  else some (u false)
def g15 (eQ:Y36)(nS:Y49)(L:Nat)(a0_0:(List N10))(a0_1:(List M9))(a0_2:(List W2))(a0_3:(List S10)):Option Bool:=G15 (λx=>x) eQ nS a0_0 a0_1 a0_2 a0_3
theorem e15 (eQ:Y36)(nS:Y49)(L:Nat)(a0_0:(List N10))(a0_1:(List M9))(a0_2:(List W2))(a0_3:(List S10)):eV prog (aUK eQ nS) (bI L) f15 (a15.enc (a0_0,a0_1,a0_2,a0_3))=(g15 eQ nS L a0_0 a0_1 a0_2 a0_3).map n15:=by
 refine .trans (b:=G15 n15 eQ nS a0_0 a0_1 a0_2 a0_3) (by kernel_rfl) ?_;unfold g15 G15
 repeat' first | with_reducible refine dG ?_ ?_ | with_reducible refine dE λ_=>?_ | with_reducible refine dF λ_=>?_ | exact rfl
def w15 (eQ:Y36)(nS:Y49)(L:Nat)(x:C4):Option Bool:=g15 eQ nS L x.1 x.2.1 x.2.2.1 x.2.2.2
theorem s15 (eQ:Y36)(nS:Y49)(h36:Sat prog cxT 36 (c36 eQ))(h49:Sat prog cxT 49 (c49 nS))(m:Y15)(hm:∀ (x:C4) t,m x=some t->∃ L,w15 eQ nS L x=some t):Sat prog cxT 15 (c15 m):=
 bS bB aW (by rfl) (fn:=f15) rfl a15 n15 aWe m (aUK eQ nS) (aI h36 (aI h49 aV)) aP (w15 eQ nS) (λL x=>e15 eQ nS L x.1 x.2.1 x.2.2.1 x.2.2.2) hm bBc
def aUI (eQ:Y36)(nR:Y52):Env cxT:={ Kc:=cN [(36,c36 eQ),(52,c52 nR)],Kw:=cO [],lv:=λi=>[],xv:=λi=>none }
def G17 {B:Type}(u:Bool->B)(eQ:Y36)(nR:Y52)(a0_0:(List N10))(a0_1:(List M9))(a0_2:(List W2))(a0_3:(List S10)):Option B:=
 cM (eQ (a0_0,(a0_1,(a0_2,a0_3)))) (0:Int) λ(q1:Int)=>bif (q1 == (0:Int))then cM (nR (a0_0,(a0_1,(a0_2,a0_3)))) false λ(q3:Bool)=>some (u q3)
  else some (u false)
def g17 (eQ:Y36)(nR:Y52)(L:Nat)(a0_0:(List N10))(a0_1:(List M9))(a0_2:(List W2))(a0_3:(List S10)):Option Bool:=G17 (λx=>x) eQ nR a0_0 a0_1 a0_2 a0_3
theorem e17 (eQ:Y36)(nR:Y52)(L:Nat)(a0_0:(List N10))(a0_1:(List M9))(a0_2:(List W2))(a0_3:(List S10)):eV prog (aUI eQ nR) (bI L) f17 (a17.enc (a0_0,a0_1,a0_2,a0_3))=(g17 eQ nR L a0_0 a0_1 a0_2 a0_3).map n17:=by
 refine .trans (b:=G17 n17 eQ nR a0_0 a0_1 a0_2 a0_3) (by kernel_rfl) ?_;unfold g17 G17
 repeat' first | with_reducible refine dG ?_ ?_ | with_reducible refine dE λ_=>?_ | with_reducible refine dF λ_=>?_ | exact rfl
def w17 (eQ:Y36)(nR:Y52)(L:Nat)(x:C4):Option Bool:=g17 eQ nR L x.1 x.2.1 x.2.2.1 x.2.2.2
theorem s17 (eQ:Y36)(nR:Y52)(h36:Sat prog cxT 36 (c36 eQ))(h52:Sat prog cxT 52 (c52 nR))(m:Y17)(hm:∀ (x:C4) t,m x=some t->∃ L,w17 eQ nR L x=some t):Sat prog cxT 17 (c17 m):=
 bS bB aW (by rfl) (fn:=f17) rfl a17 n17 aWc m (aUI eQ nR) (aI h36 (aI h52 aV)) aP (w17 eQ nR) (λL x=>e17 eQ nR L x.1 x.2.1 x.2.2.1 x.2.2.2) hm bBa
def aUH (eQ:Y36)(nQ:Y55):Env cxT:={ Kc:=cN [(36,c36 eQ),(55,c55 nQ)],Kw:=cO [],lv:=λi=>[],xv:=λi=>none }
def G19 {B:Type}(u:Bool->B)(eQ:Y36)(nQ:Y55)(a0_0:(List N10))(a0_1:(List M9))(a0_2:(List W2))(a0_3:(List S10)):Option B:=
 cM (eQ (a0_0,(a0_1,(a0_2,a0_3)))) (0:Int) λ(q1:Int)=>bif (q1 == (0:Int))then cM (nQ (a0_0,(a0_1,(a0_2,a0_3)))) false λ(q3:Bool)=>some (u q3)
  else some (u false)
def g19 (eQ:Y36)(nQ:Y55)(L:Nat)(a0_0:(List N10))(a0_1:(List M9))(a0_2:(List W2))(a0_3:(List S10)):Option Bool:=G19 (λx=>x) eQ nQ a0_0 a0_1 a0_2 a0_3
theorem e19 (eQ:Y36)(nQ:Y55)(L:Nat)(a0_0:(List N10))(a0_1:(List M9))(a0_2:(List W2))(a0_3:(List S10)):eV prog (aUH eQ nQ) (bI L) f19 (a19.enc (a0_0,a0_1,a0_2,a0_3))=(g19 eQ nQ L a0_0 a0_1 a0_2 a0_3).map n19:=by
 refine .trans (b:=G19 n19 eQ nQ a0_0 a0_1 a0_2 a0_3) (by kernel_rfl) ?_;unfold g19 G19
 repeat' first | with_reducible refine dG ?_ ?_ | with_reducible refine dE λ_=>?_ | with_reducible refine dF λ_=>?_ | exact rfl
def w19 (eQ:Y36)(nQ:Y55)(L:Nat)(x:C4):Option Bool:=g19 eQ nQ L x.1 x.2.1 x.2.2.1 x.2.2.2
theorem s19 (eQ:Y36)(nQ:Y55)(h36:Sat prog cxT 36 (c36 eQ))(h55:Sat prog cxT 55 (c55 nQ))(m:Y19)(hm:∀ (x:C4) t,m x=some t->∃ L,w19 eQ nQ L x=some t):Sat prog cxT 19 (c19 m):=
 bS bB aW (by rfl) (fn:=f19) rfl a19 n19 aWa m (aUH eQ nQ) (aI h36 (aI h55 aV)) aP (w19 eQ nQ) (λL x=>e19 eQ nQ L x.1 x.2.1 x.2.2.1 x.2.2.2) hm bA8
def aUG (eQ:Y36)(nT:Y37)(nS:Y49)(nR:Y52)(nQ:Y55):Env cxT:={ Kc:=cN [(36,c36 eQ),(37,c37 nT),(49,c49 nS),(52,c52 nR),(55,c55 nQ)],Kw:=cO [],lv:=λi=>[],xv:=λi=>none }
def G21 {B:Type}(u:Bool->B)(eQ:Y36)(nT:Y37)(nS:Y49)(nR:Y52)(nQ:Y55)(a0_0:(List N10))(a0_1:(List M9))(a0_2:(List W2))(a0_3:(List S10)):Option B:=
 cM (eQ (a0_0,(a0_1,(a0_2,a0_3)))) (0:Int) λ(q1:Int)=>bif (q1 == (0:Int))then cM (nT (a0_0,(a0_1,(a0_2,a0_3)))) false λ(q3:Bool)=>bif q3 then cM (nS (a0_0,(a0_1,(a0_2,a0_3)))) false λ(q5:Bool)=>bif q5 then cM (nR (a0_0,(a0_1,(a0_2,a0_3)))) false λ(q7:Bool)=>bif q7 then cM (nQ (a0_0,(a0_1,(a0_2,a0_3)))) false λ(q9:Bool)=>some (u q9)
        else some (u false)
      else some (u false)
    else some (u false)
  else some (u false)
def g21 (eQ:Y36)(nT:Y37)(nS:Y49)(nR:Y52)(nQ:Y55)(L:Nat)(a0_0:(List N10))(a0_1:(List M9))(a0_2:(List W2))(a0_3:(List S10)):Option Bool:=G21 (λx=>x) eQ nT nS nR nQ a0_0 a0_1 a0_2 a0_3
theorem e21 (eQ:Y36)(nT:Y37)(nS:Y49)(nR:Y52)(nQ:Y55)(L:Nat)(a0_0:(List N10))(a0_1:(List M9))(a0_2:(List W2))(a0_3:(List S10)):eV prog (aUG eQ nT nS nR nQ) (bI L) f21 (a21.enc (a0_0,a0_1,a0_2,a0_3))=(g21 eQ nT nS nR nQ L a0_0 a0_1 a0_2 a0_3).map n21:=by
 refine .trans (b:=G21 n21 eQ nT nS nR nQ a0_0 a0_1 a0_2 a0_3) (by kernel_rfl) ?_;unfold g21 G21
 repeat' first | with_reducible refine dG ?_ ?_ | with_reducible refine dE λ_=>?_ | with_reducible refine dF λ_=>?_ | exact rfl
def w21 (eQ:Y36)(nT:Y37)(nS:Y49)(nR:Y52)(nQ:Y55)(L:Nat)(x:C4):Option Bool:=g21 eQ nT nS nR nQ L x.1 x.2.1 x.2.2.1 x.2.2.2
theorem s21 (eQ:Y36)(nT:Y37)(nS:Y49)(nR:Y52)(nQ:Y55)(h36:Sat prog cxT 36 (c36 eQ))(h37:Sat prog cxT 37 (c37 nT))(h49:Sat prog cxT 49 (c49 nS))(h52:Sat prog cxT 52 (c52 nR))(h55:Sat prog cxT 55 (c55 nQ))(m:Y21)(hm:∀ (x:C4) t,m x=some t->∃ L,w21 eQ nT nS nR nQ L x=some t):Sat prog cxT 21 (c21 m):=
 bS bB aW (by rfl) (fn:=f21) rfl a21 n21 aV8 m (aUG eQ nT nS nR nQ) (aI h36 (aI h37 (aI h49 (aI h52 (aI h55 aV))))) aP (w21 eQ nT nS nR nQ) (λL x=>e21 eQ nT nS nR nQ L x.1 x.2.1 x.2.2.1 x.2.2.2) hm bA6
end Go.Proofs.Tryz
