/- A part of the proof of FnExactLeaderOf: LmFi, LmFl, LmFn. -/
import Derived.Test.YtnmbggfkmkcmkaaGreatLmBase
set_option linter.unusedSimpArgs false
set_option linter.unusedVariables false
set_option maxHeartbeats 0
set_option maxRecDepth 100000
namespace Go.Proofs.Tryz
open Go.IntKind (wrap)
open Go Go.VM Go.RowKit
def aMo (bN:Y70):Env cxT:={ Kc:=cR [(70,xL bN)],Kw:=cQ [],lv:=λi=>[],xv:=λi=>none }
def G115 {B:Type}(u:(Bool×Bool×Bool×Bool)->B)(bN:Y70)(a0:Int):Option B:=
 cU (bN (a0,((5:Int),(8:Int)))) false λ(q1:Bool)=>bif (a0 != (5:Int))then bif (a0 == (1:Int))then some (u ((a0 != (6:Int)),true,(a0 != (4:Int)),q1))
   else some (u ((a0 != (6:Int)),q1,(a0 != (4:Int)),q1))
  else bif (a0 == (1:Int))then some (u (false,true,(a0 != (4:Int)),q1))
  else some (u (false,q1,(a0 != (4:Int)),q1))
def aIR (bN:Y70)(L:Nat)(a0:Int):Option (Bool×Bool×Bool×Bool):=G115 (λx=>x) bN a0
theorem bBa (bN:Y70)(L:Nat)(a0:Int):fP prog (aMo bN) (bJ L) f115 (aWl.enc a0)=(aIR bN L a0).map aGO:=by
 refine .trans (b:=G115 aGO bN a0) (by kernel_rfl) ?_;unfold aIR G115
 repeat' first | with_reducible refine dP ?_ ?_ | with_reducible refine dL λ_=>?_ | with_reducible refine dO λ_=>?_ | exact rfl
def aQD (bN:Y70)(L:Nat)(x:Int):Option (Bool×Bool×Bool×Bool):=aIR bN L x
theorem aYu (bN:Y70)(h70:Sat prog cxT 70 (xL bN))(m:Y115)(hm:∀ (x:Int) t,m x=some t->∃ L,aQD bN L x=some t):Sat prog cxT 115 (aVL m):=
 cF bC aX (by rfl) (fn:=f115) rfl aWl aGO aM8 m (aMo bN) (aL h70 aW) aQ (aQD bN) (λL x=>bBa bN L x) hm aSn
def aMn (bN:Y70):Env cxT:={ Kc:=cR [(70,xL bN)],Kw:=cQ [],lv:=λi=>[],xv:=λi=>none }
def G116 {B:Type}(u:Bool->B)(bN:Y70)(a0:Int):Option B:=
 cU (bN (a0,((0:Int),(1000000:Int)))) false λ(q1:Bool)=>some (u q1)
def aPf (bN:Y70)(L:Nat)(a0:Int):Option Bool:=G116 (λx=>x) bN a0
theorem bA9 (bN:Y70)(L:Nat)(a0:Int):fP prog (aMn bN) (bJ L) f116 (aWk.enc a0)=(aPf bN L a0).map aGN:=by
 refine .trans (b:=G116 aGN bN a0) (by kernel_rfl) ?_;unfold aPf G116
 repeat' first | with_reducible refine dP ?_ ?_ | with_reducible refine dL λ_=>?_ | with_reducible refine dO λ_=>?_ | exact rfl
def aQC (bN:Y70)(L:Nat)(x:Int):Option Bool:=aPf bN L x
theorem aYt (bN:Y70)(h70:Sat prog cxT 70 (xL bN))(m:Y116)(hm:∀ (x:Int) t,m x=some t->∃ L,aQC bN L x=some t):Sat prog cxT 116 (aVK m):=
 cF bC aX (by rfl) (fn:=f116) rfl aWk aGN aM7 m (aMn bN) (aL h70 aW) aQ (aQC bN) (λL x=>bA9 bN L x) hm aSm
def aMm (bN:Y70):Env cxT:={ Kc:=cR [(70,xL bN)],Kw:=cQ [],lv:=λi=>[],xv:=λi=>none }
def G117 {B:Type}(u:Bool->B)(bN:Y70)(a0:Int):Option B:=
 cU (bN (a0,((1:Int),(999:Int)))) false λ(q1:Bool)=>some (u q1)
def aPe (bN:Y70)(L:Nat)(a0:Int):Option Bool:=G117 (λx=>x) bN a0
theorem bA8 (bN:Y70)(L:Nat)(a0:Int):fP prog (aMm bN) (bJ L) f117 (aWj.enc a0)=(aPe bN L a0).map aGM:=by
 refine .trans (b:=G117 aGM bN a0) (by kernel_rfl) ?_;unfold aPe G117
 repeat' first | with_reducible refine dP ?_ ?_ | with_reducible refine dL λ_=>?_ | with_reducible refine dO λ_=>?_ | exact rfl
def aQB (bN:Y70)(L:Nat)(x:Int):Option Bool:=aPe bN L x
theorem aYs (bN:Y70)(h70:Sat prog cxT 70 (xL bN))(m:Y117)(hm:∀ (x:Int) t,m x=some t->∃ L,aQB bN L x=some t):Sat prog cxT 117 (aVJ m):=
 cF bC aX (by rfl) (fn:=f117) rfl aWj aGM aM6 m (aMm bN) (aL h70 aW) aQ (aQB bN) (λL x=>bA8 bN L x) hm aSl
def aMl (bN:Y70):Env cxT:={ Kc:=cR [(70,xL bN)],Kw:=cQ [],lv:=λi=>[],xv:=λi=>none }
def G118 {B:Type}(u:Bool->B)(bN:Y70)(a0:Int):Option B:=
 cU (bN (a0,((0:Int),(4294967295:Int)))) false λ(q1:Bool)=>some (u q1)
def aPd (bN:Y70)(L:Nat)(a0:Int):Option Bool:=G118 (λx=>x) bN a0
theorem bA7 (bN:Y70)(L:Nat)(a0:Int):fP prog (aMl bN) (bJ L) f118 (aWi.enc a0)=(aPd bN L a0).map aGL:=by
 refine .trans (b:=G118 aGL bN a0) (by kernel_rfl) ?_;unfold aPd G118
 repeat' first | with_reducible refine dP ?_ ?_ | with_reducible refine dL λ_=>?_ | with_reducible refine dO λ_=>?_ | exact rfl
def aQA (bN:Y70)(L:Nat)(x:Int):Option Bool:=aPd bN L x
theorem aYr (bN:Y70)(h70:Sat prog cxT 70 (xL bN))(m:Y118)(hm:∀ (x:Int) t,m x=some t->∃ L,aQA bN L x=some t):Sat prog cxT 118 (aVI m):=
 cF bC aX (by rfl) (fn:=f118) rfl aWi aGL aM5 m (aMl bN) (aL h70 aW) aQ (aQA bN) (λL x=>bA7 bN L x) hm aSk
def aMk (bN:Y70)(m137:Y137):Env cxT:={ Kc:=cR [(70,xL bN),(137,aKC m137)],Kw:=cQ [],lv:=λi=>[],xv:=λi=>none }
def G119 {B:Type}(u:Bool->B)(bN:Y70)(m137:Y137)(a0_0:Int)(a0_1:Int)(a0_2:Int)(a0_3:Int)(a0_4:Int)(a0_5:Int):Option B:=
 bif (a0_0 == (1:Int))then cU (bN (a0_4,((0:Int),(9:Int)))) false λ(q2:Bool)=>some (u q2)
 else bif (a0_0 == (2:Int))then cU (bN (a0_4,((0:Int),(9:Int)))) false λ(q2:Bool)=>some (u q2)
 else bif (a0_0 == (3:Int))then cU (bN (a0_4,((1:Int),(3:Int)))) false λ(q2:Bool)=>some (u q2)
 else bif (a0_0 == (9:Int))then cU (bN (a0_4,((0:Int),(1:Int)))) false λ(q2:Bool)=>some (u q2)
 else cU (m137 a0_4) false λ(q1:Bool)=>some (u q1)
def aIQ (bN:Y70)(m137:Y137)(L:Nat)(a0_0:Int)(a0_1:Int)(a0_2:Int)(a0_3:Int)(a0_4:Int)(a0_5:Int):Option Bool:=G119 (λx=>x) bN m137 a0_0 a0_1 a0_2 a0_3 a0_4 a0_5
theorem bA6 (bN:Y70)(m137:Y137)(L:Nat)(a0_0:Int)(a0_1:Int)(a0_2:Int)(a0_3:Int)(a0_4:Int)(a0_5:Int):fP prog (aMk bN m137) (bJ L) f119 (aWh.enc (a0_0,a0_1,a0_2,a0_3,a0_4,a0_5))=(aIQ bN m137 L a0_0 a0_1 a0_2 a0_3 a0_4 a0_5).map aGK:=by
 refine .trans (b:=G119 aGK bN m137 a0_0 a0_1 a0_2 a0_3 a0_4 a0_5) (by kernel_rfl) ?_;unfold aIQ G119
 repeat' first | with_reducible refine dP ?_ ?_ | with_reducible refine dL λ_=>?_ | with_reducible refine dO λ_=>?_ | exact rfl
def aQz (bN:Y70)(m137:Y137)(L:Nat)(x:(Int×Int×Int×Int×Int×Int)):Option Bool:=aIQ bN m137 L x.1 x.2.1 x.2.2.1 x.2.2.2.1 x.2.2.2.2.1 x.2.2.2.2.2
theorem aYq (bN:Y70)(m137:Y137)(h70:Sat prog cxT 70 (xL bN))(h137:Sat prog cxT 137 (aKC m137))(m:Y119)(hm:∀ (x:(Int×Int×Int×Int×Int×Int)) t,m x=some t->∃ L,aQz bN m137 L x=some t):Sat prog cxT 119 (aVH m):=
 cF bC aX (by rfl) (fn:=f119) rfl aWh aGK aM4 m (aMk bN m137) (aL h70 (aL h137 aW)) aQ (aQz bN m137) (λL x=>bA6 bN m137 L x.1 x.2.1 x.2.2.1 x.2.2.2.1 x.2.2.2.2.1 x.2.2.2.2.2) hm aSj
def aMj:Env cxT:={ Kc:=cR [],Kw:=cQ [],lv:=λi=>[],xv:=λi=>none }
def G120 {B:Type}(u:Bool->B)(a0:Int):Option B:=
 bif (a0 == (6:Int))then some (u true)
 else some (u (a0 == (17:Int)))
def aPc (L:Nat)(a0:Int):Option Bool:=G120 (λx=>x) a0
theorem bA5 (L:Nat)(a0:Int):fP prog aMj (bJ L) f120 (aWg.enc a0)=(aPc L a0).map aGJ:=by
 refine .trans (b:=G120 aGJ a0) (by kernel_rfl) ?_;unfold aPc G120
 repeat' first | with_reducible refine dP ?_ ?_ | with_reducible refine dL λ_=>?_ | with_reducible refine dO λ_=>?_ | exact rfl
def aQy (L:Nat)(x:Int):Option Bool:=aPc L x
theorem aYp (m:Y120)(hm:∀ (x:Int) t,m x=some t->∃ L,aQy L x=some t):Sat prog cxT 120 (aVG m):=
 cF bC aX (by rfl) (fn:=f120) rfl aWg aGJ aM3 m aMj aW aQ (aQy) (λL x=>bA5 L x) hm aSi
def aL6 (bN:Y70):Env cxT:={ Kc:=cR [(70,xL bN)],Kw:=cQ [],lv:=λi=>[],xv:=λi=>none }
def G137 {B:Type}(u:Bool->B)(bN:Y70)(a0:Int):Option B:=
 cU (bN (a0,((0:Int),(65535:Int)))) false λ(q1:Bool)=>some (u q1)
def aO6 (bN:Y70)(L:Nat)(a0:Int):Option Bool:=G137 (λx=>x) bN a0
theorem bAP (bN:Y70)(L:Nat)(a0:Int):fP prog (aL6 bN) (bJ L) f137 (aV0.enc a0)=(aO6 bN L a0).map aGw:=by
 refine .trans (b:=G137 aGw bN a0) (by kernel_rfl) ?_;unfold aO6 G137
 repeat' first | with_reducible refine dP ?_ ?_ | with_reducible refine dL λ_=>?_ | with_reducible refine dO λ_=>?_ | exact rfl
def aQs (bN:Y70)(L:Nat)(x:Int):Option Bool:=aO6 bN L x
theorem aX9 (bN:Y70)(h70:Sat prog cxT 70 (xL bN))(m:Y137)(hm:∀ (x:Int) t,m x=some t->∃ L,aQs bN L x=some t):Sat prog cxT 137 (aKC m):=
 cF bC aX (by rfl) (fn:=f137) rfl aV0 aGw aMN m (aL6 bN) (aL h70 aW) aQ (aQs bN) (λL x=>bAP bN L x) hm aR2
def aL5:Env cxT:={ Kc:=cR [],Kw:=cQ [],lv:=λi=>[],xv:=λi=>none }
def G138 {B:Type}(u:Bool->B)(a0:Int):Option B:=
 bif (decide (a0>=(0:Int)))then some (u (decide (a0<=(1000000:Int))))
 else some (u false)
def aO5 (L:Nat)(a0:Int):Option Bool:=G138 (λx=>x) a0
theorem bAO (L:Nat)(a0:Int):fP prog aL5 (bJ L) f138 (aVZ.enc a0)=(aO5 L a0).map aGv:=by
 refine .trans (b:=G138 aGv a0) (by kernel_rfl) ?_;unfold aO5 G138
 repeat' first | with_reducible refine dP ?_ ?_ | with_reducible refine dL λ_=>?_ | with_reducible refine dO λ_=>?_ | exact rfl
def aQr (L:Nat)(x:Int):Option Bool:=aO5 L x
theorem aX8 (m:Y138)(hm:∀ (x:Int) t,m x=some t->∃ L,aQr L x=some t):Sat prog cxT 138 (aVF m):=
 cF bC aX (by rfl) (fn:=f138) rfl aVZ aGv aMM m aL5 aW aQ (aQr) (λL x=>bAO L x) hm aR1
def aL4:Env cxT:={ Kc:=cR [],Kw:=cQ [],lv:=λi=>[],xv:=λi=>none }
def G140 {B:Type}(u:Bool->B)(a0:Int):Option B:=
 bif (decide (a0>=(1:Int)))then some (u (decide (a0<=(999:Int))))
 else some (u false)
def aO4 (L:Nat)(a0:Int):Option Bool:=G140 (λx=>x) a0
theorem bAM (L:Nat)(a0:Int):fP prog aL4 (bJ L) f140 (aVY.enc a0)=(aO4 L a0).map aGu:=by
 refine .trans (b:=G140 aGu a0) (by kernel_rfl) ?_;unfold aO4 G140
 repeat' first | with_reducible refine dP ?_ ?_ | with_reducible refine dL λ_=>?_ | with_reducible refine dO λ_=>?_ | exact rfl
def aQq (L:Nat)(x:Int):Option Bool:=aO4 L x
theorem aX7 (m:Y140)(hm:∀ (x:Int) t,m x=some t->∃ L,aQq L x=some t):Sat prog cxT 140 (aVE m):=
 cF bC aX (by rfl) (fn:=f140) rfl aVY aGu aML m aL4 aW aQ (aQq) (λL x=>bAM L x) hm aR0
def aL3:Env cxT:={ Kc:=cR [],Kw:=cQ [],lv:=λi=>[],xv:=λi=>none }
def G141 {B:Type}(u:Bool->B)(a0:Int):Option B:=
 bif (decide (a0>=(0:Int)))then some (u (decide (a0<=(4294967295:Int))))
 else some (u false)
def aO3 (L:Nat)(a0:Int):Option Bool:=G141 (λx=>x) a0
theorem bAL (L:Nat)(a0:Int):fP prog aL3 (bJ L) f141 (aVX.enc a0)=(aO3 L a0).map aGt:=by
 refine .trans (b:=G141 aGt a0) (by kernel_rfl) ?_;unfold aO3 G141
 repeat' first | with_reducible refine dP ?_ ?_ | with_reducible refine dL λ_=>?_ | with_reducible refine dO λ_=>?_ | exact rfl
def aQp (L:Nat)(x:Int):Option Bool:=aO3 L x
theorem aX6 (m:Y141)(hm:∀ (x:Int) t,m x=some t->∃ L,aQp L x=some t):Sat prog cxT 141 (aVD m):=
 cF bC aX (by rfl) (fn:=f141) rfl aVX aGt aMK m aL3 aW aQ (aQp) (λL x=>bAL L x) hm aRZ
def aL2:Env cxT:={ Kc:=cR [],Kw:=cQ [],lv:=λi=>[],xv:=λi=>none }
def G142 {B:Type}(u:Bool->B)(a0:Int):Option B:=
 bif (decide (a0>=(0:Int)))then some (u (decide (a0<=(9:Int))))
 else some (u false)
def aO2 (L:Nat)(a0:Int):Option Bool:=G142 (λx=>x) a0
theorem bAK (L:Nat)(a0:Int):fP prog aL2 (bJ L) f142 (aVW.enc a0)=(aO2 L a0).map aGs:=by
 refine .trans (b:=G142 aGs a0) (by kernel_rfl) ?_;unfold aO2 G142
 repeat' first | with_reducible refine dP ?_ ?_ | with_reducible refine dL λ_=>?_ | with_reducible refine dO λ_=>?_ | exact rfl
def aQo (L:Nat)(x:Int):Option Bool:=aO2 L x
theorem aX5 (m:Y142)(hm:∀ (x:Int) t,m x=some t->∃ L,aQo L x=some t):Sat prog cxT 142 (aVC m):=
 cF bC aX (by rfl) (fn:=f142) rfl aVW aGs aMJ m aL2 aW aQ (aQo) (λL x=>bAK L x) hm aRY
def aL1:Env cxT:={ Kc:=cR [],Kw:=cQ [],lv:=λi=>[],xv:=λi=>none }
def G145 {B:Type}(u:Bool->B)(a0:Int):Option B:=
 bif (decide (a0>=(1:Int)))then some (u (decide (a0<=(3:Int))))
 else some (u false)
def aO1 (L:Nat)(a0:Int):Option Bool:=G145 (λx=>x) a0
theorem bAJ (L:Nat)(a0:Int):fP prog aL1 (bJ L) f145 (aVV.enc a0)=(aO1 L a0).map aGr:=by
 refine .trans (b:=G145 aGr a0) (by kernel_rfl) ?_;unfold aO1 G145
 repeat' first | with_reducible refine dP ?_ ?_ | with_reducible refine dL λ_=>?_ | with_reducible refine dO λ_=>?_ | exact rfl
def aQn (L:Nat)(x:Int):Option Bool:=aO1 L x
theorem aX4 (m:Y145)(hm:∀ (x:Int) t,m x=some t->∃ L,aQn L x=some t):Sat prog cxT 145 (aVB m):=
 cF bC aX (by rfl) (fn:=f145) rfl aVV aGr aMI m aL1 aW aQ (aQn) (λL x=>bAJ L x) hm aRX
def aL0:Env cxT:={ Kc:=cR [],Kw:=cQ [],lv:=λi=>[],xv:=λi=>none }
def G148 {B:Type}(u:Bool->B)(a0:Int):Option B:=
 bif (decide (a0>=(0:Int)))then some (u (decide (a0<=(65535:Int))))
 else some (u false)
def aO0 (L:Nat)(a0:Int):Option Bool:=G148 (λx=>x) a0
theorem bAI (L:Nat)(a0:Int):fP prog aL0 (bJ L) f148 (aVU.enc a0)=(aO0 L a0).map aGq:=by
 refine .trans (b:=G148 aGq a0) (by kernel_rfl) ?_;unfold aO0 G148
 repeat' first | with_reducible refine dP ?_ ?_ | with_reducible refine dL λ_=>?_ | with_reducible refine dO λ_=>?_ | exact rfl
def aQm (L:Nat)(x:Int):Option Bool:=aO0 L x
theorem aX3 (m:Y148)(hm:∀ (x:Int) t,m x=some t->∃ L,aQm L x=some t):Sat prog cxT 148 (aVA m):=
 cF bC aX (by rfl) (fn:=f148) rfl aVU aGq aMH m aL0 aW aQ (aQm) (λL x=>bAI L x) hm aRW
def aLZ:Env cxT:={ Kc:=cR [],Kw:=cQ [],lv:=λi=>[],xv:=λi=>none }
def G149 {B:Type}(u:Bool->B)(a0:Int):Option B:=
 bif (a0 == (6:Int))then some (u true)
 else some (u (a0 == (17:Int)))
def aOZ (L:Nat)(a0:Int):Option Bool:=G149 (λx=>x) a0
theorem bAH (L:Nat)(a0:Int):fP prog aLZ (bJ L) f149 (aVT.enc a0)=(aOZ L a0).map aGp:=by
 refine .trans (b:=G149 aGp a0) (by kernel_rfl) ?_;unfold aOZ G149
 repeat' first | with_reducible refine dP ?_ ?_ | with_reducible refine dL λ_=>?_ | with_reducible refine dO λ_=>?_ | exact rfl
def aQl (L:Nat)(x:Int):Option Bool:=aOZ L x
theorem aX2 (m:Y149)(hm:∀ (x:Int) t,m x=some t->∃ L,aQl L x=some t):Sat prog cxT 149 (aVz m):=
 cF bC aX (by rfl) (fn:=f149) rfl aVT aGp aMG m aLZ aW aQ (aQl) (λL x=>bAH L x) hm aRV
def aLY:Env cxT:={ Kc:=cR [],Kw:=cQ [],lv:=λi=>[],xv:=λi=>none }
def G154 {B:Type}(u:Bool->B)(a0:Int):Option B:=
 bif (a0 == (0:Int))then some (u true)
 else some (u (a0 == (1:Int)))
def aOY (L:Nat)(a0:Int):Option Bool:=G154 (λx=>x) a0
theorem bAG (L:Nat)(a0:Int):fP prog aLY (bJ L) f154 (aVS.enc a0)=(aOY L a0).map aGo:=by
 refine .trans (b:=G154 aGo a0) (by kernel_rfl) ?_;unfold aOY G154
 repeat' first | with_reducible refine dP ?_ ?_ | with_reducible refine dL λ_=>?_ | with_reducible refine dO λ_=>?_ | exact rfl
def aQk (L:Nat)(x:Int):Option Bool:=aOY L x
theorem aX1 (m:Y154)(hm:∀ (x:Int) t,m x=some t->∃ L,aQk L x=some t):Sat prog cxT 154 (aVy m):=
 cF bC aX (by rfl) (fn:=f154) rfl aVS aGo aMF m aLY aW aQ (aQk) (λL x=>bAG L x) hm aRU
end Go.Proofs.Tryz
set_option maxHeartbeats 0
set_option maxRecDepth 100000
namespace Go.Proofs.Tryz
open Go.IntKind (wrap)
open Go Go.VM Go.RowKit
def aTn (eU:Y112):Env cxT:={ Kc:=cR [(112,aD8 eU)],Kw:=cQ [],lv:=λi=>[],xv:=λi=>none }
def G91 {B:Type}(u:(Int×Int×Int×Int×Int×Int×Int×Int×Int×Bool)->B)(eU:Y112)(a0:(List E9))(a1:Int):Option B:=
 bif (decide (a1 < (1:Int)))then some (u ((0:Int),(0:Int),(0:Int),(0:Int),(0:Int),(0:Int),(0:Int),(0:Int),(0:Int),false))
 else cU (eU a0) (0:Int) λ(q1:Int)=>bif (decide (a1 > q1))then some (u ((0:Int),(0:Int),(0:Int),(0:Int),(0:Int),(0:Int),(0:Int),(0:Int),(0:Int),false))
  else bif ((decide ((0:Int)<=(wrap .i64 (a1-(1:Int)))))&&(decide ((wrap .i64 (a1-(1:Int))) < (Nat.cast (List.length a0):Int))))then dX (List.getD a0 (Int.toNat (wrap .i64 (a1-(1:Int)))) ((0:Int),((0:Int),((0:Int),((0:Int),((0:Int),((0:Int),((0:Int),((0:Int),(0:Int)))))))))) λs2_0=>some (u (s2_0.1,s2_0.2.1,s2_0.2.2.1,s2_0.2.2.2.1,s2_0.2.2.2.2.1,s2_0.2.2.2.2.2.1,s2_0.2.2.2.2.2.2.1,s2_0.2.2.2.2.2.2.2.1,s2_0.2.2.2.2.2.2.2.2,true))
  else none
def g91 (eU:Y112)(L:Nat)(a0:(List E9))(a1:Int):Option (Int×Int×Int×Int×Int×Int×Int×Int×Int×Bool):=G91 (λx=>x) eU a0 a1
theorem e91 (eU:Y112)(L:Nat)(a0:(List E9))(a1:Int):fP prog (aTn eU) (bJ L) f91 (a91.enc (a0,a1))=(g91 eU L a0 a1).map n91:=by
 refine .trans (b:=G91 n91 eU a0 a1) (by kernel_rfl) ?_;unfold g91 G91
 repeat' first | with_reducible refine dP ?_ ?_ | with_reducible refine dL λ_=>?_ | with_reducible refine dO λ_=>?_ | exact rfl
def w91 (eU:Y112)(L:Nat)(x:((List E9)×Int)):Option (Int×Int×Int×Int×Int×Int×Int×Int×Int×Bool):=g91 eU L x.1 x.2
theorem s91 (eU:Y112)(h112:Sat prog cxT 112 (aD8 eU))(m:Y91)(hm:∀ (x:((List E9)×Int)) t,m x=some t->∃ L,w91 eU L x=some t):Sat prog cxT 91 (c91 m):=
 cF bC aX (by rfl) (fn:=f91) rfl a91 n91 aUj m (aTn eU) (aL h112 aW) aQ (w91 eU) (λL x=>e91 eU L x.1 x.2) hm aZb
def aMq:Env cxT:={ Kc:=cR [],Kw:=cQ [],lv:=λi=>[],xv:=λi=>none }
def G112 {B:Type}(u:Int->B)(a0:(List E9)):Option B:=
 some (u (Nat.cast (List.length a0):Int))
def aPg (L:Nat)(a0:(List E9)):Option Int:=G112 (λx=>x) a0
theorem bBd (L:Nat)(a0:(List E9)):fP prog aMq (bJ L) f112 (aWo.enc a0)=(aPg L a0).map aGQ:=by
 refine .trans (b:=G112 aGQ a0) (by kernel_rfl) ?_;unfold aPg G112
 repeat' first | with_reducible refine dP ?_ ?_ | with_reducible refine dL λ_=>?_ | with_reducible refine dO λ_=>?_ | exact rfl
def aQE (L:Nat)(x:(List E9)):Option Int:=aPg L x
theorem aYx (m:Y112)(hm:∀ (x:(List E9)) t,m x=some t->∃ L,aQE L x=some t):Sat prog cxT 112 (aD8 m):=
 cF bC aX (by rfl) (fn:=f112) rfl aWo aGQ aNb m aMq aW aQ (aQE) (λL x=>bBd L x) hm aSq
def aTi:Env cxT:={ Kc:=cR [],Kw:=cQ [],lv:=λi=>[],xv:=λi=>none }
def G98 {B:Type}(u:E9->B)(a0:(List E9)):Option B:=
 bif ((Nat.cast (List.length a0):Int) == (0:Int))then some (u ((0:Int),(0:Int),(0:Int),(0:Int),(0:Int),(0:Int),(0:Int),(0:Int),(0:Int)))
 else bif ((decide ((0:Int)<=(wrap .i64 ((Nat.cast (List.length a0):Int)-(1:Int)))))&&(decide ((wrap .i64 ((Nat.cast (List.length a0):Int)-(1:Int))) < (Nat.cast (List.length a0):Int))))then dX (List.getD a0 (Int.toNat (wrap .i64 ((Nat.cast (List.length a0):Int)-(1:Int)))) ((0:Int),((0:Int),((0:Int),((0:Int),((0:Int),((0:Int),((0:Int),((0:Int),(0:Int)))))))))) λs1_0=>some (u (s1_0.1,s1_0.2.1,s1_0.2.2.1,s1_0.2.2.2.1,s1_0.2.2.2.2.1,s1_0.2.2.2.2.2.1,s1_0.2.2.2.2.2.2.1,s1_0.2.2.2.2.2.2.2.1,s1_0.2.2.2.2.2.2.2.2))
 else none
def g98 (L:Nat)(a0:(List E9)):Option E9:=G98 (λx=>x) a0
theorem e98 (L:Nat)(a0:(List E9)):fP prog aTi (bJ L) f98 (a98.enc a0)=(g98 L a0).map n98:=by
 refine .trans (b:=G98 n98 a0) (by kernel_rfl) ?_;unfold g98 G98
 repeat' first | with_reducible refine dP ?_ ?_ | with_reducible refine dL λ_=>?_ | with_reducible refine dO λ_=>?_ | exact rfl
def w98 (L:Nat)(x:(List E9)):Option E9:=g98 L x
theorem s98 (m:Y98)(hm:∀ (x:(List E9)) t,m x=some t->∃ L,w98 L x=some t):Sat prog cxT 98 (c98 m):=
 cF bC aX (by rfl) (fn:=f98) rfl a98 n98 aUc m aTi aW aQ (w98) (λL x=>e98 L x) hm aY4
def aMw:Env cxT:={ Kc:=cR [],Kw:=cQ [],lv:=λi=>[],xv:=λi=>none }
def G100 {B:Type}(u:Bool->B)(a0_0:Int)(a0_1:Int)(a0_2:Int)(a0_3:Int)(a0_4:Int)(a0_5:Int)(a0_6:Int)(a0_7:Bool)(a0_8:(List E9)):Option B:=
 bif (a0_0 == (1:Int))then some (u (a0_6 == (0:Int)))
 else bif (a0_0 == (2:Int))then bif (a0_4 == (0:Int))then bif (a0_5 == (0:Int))then some (u (a0_6 == (0:Int)))
   else some (u false)
  else some (u false)
 else bif (a0_0 == (4:Int))then bif (a0_5 == (0:Int))then some (u (a0_6 == (0:Int)))
  else some (u false)
 else some (u true)
def aPj (L:Nat)(a0_0:Int)(a0_1:Int)(a0_2:Int)(a0_3:Int)(a0_4:Int)(a0_5:Int)(a0_6:Int)(a0_7:Bool)(a0_8:(List E9)):Option Bool:=G100 (λx=>x) a0_0 a0_1 a0_2 a0_3 a0_4 a0_5 a0_6 a0_7 a0_8
theorem bBm (L:Nat)(a0_0:Int)(a0_1:Int)(a0_2:Int)(a0_3:Int)(a0_4:Int)(a0_5:Int)(a0_6:Int)(a0_7:Bool)(a0_8:(List E9)):fP prog aMw (bJ L) f100 (aWx.enc (a0_0,a0_1,a0_2,a0_3,a0_4,a0_5,a0_6,a0_7,a0_8))=(aPj L a0_0 a0_1 a0_2 a0_3 a0_4 a0_5 a0_6 a0_7 a0_8).map aGW:=by
 refine .trans (b:=G100 aGW a0_0 a0_1 a0_2 a0_3 a0_4 a0_5 a0_6 a0_7 a0_8) (by kernel_rfl) ?_;unfold aPj G100
 repeat' first | with_reducible refine dP ?_ ?_ | with_reducible refine dL λ_=>?_ | with_reducible refine dO λ_=>?_ | exact rfl
def aQI (L:Nat)(x:M9):Option Bool:=aPj L x.1 x.2.1 x.2.2.1 x.2.2.2.1 x.2.2.2.2.1 x.2.2.2.2.2.1 x.2.2.2.2.2.2.1 x.2.2.2.2.2.2.2.1 x.2.2.2.2.2.2.2.2
theorem aYG (m:Y100)(hm:∀ (x:M9) t,m x=some t->∃ L,aQI L x=some t):Sat prog cxT 100 (aKU m):=
 cF bC aX (by rfl) (fn:=f100) rfl aWx aGW aNk m aMw aW aQ (aQI) (λL x=>bBm L x.1 x.2.1 x.2.2.1 x.2.2.2.1 x.2.2.2.2.1 x.2.2.2.2.2.1 x.2.2.2.2.2.2.1 x.2.2.2.2.2.2.2.1 x.2.2.2.2.2.2.2.2) hm aSz
end Go.Proofs.Tryz
set_option maxHeartbeats 0
set_option maxRecDepth 100000
namespace Go.Proofs.Tryz
open Go.IntKind (wrap)
open Go Go.VM Go.RowKit
def aBw:Env cxT:={ Kc:=cR [],Kw:=cQ [],lv:=λi=>if i=0 then[(0,[some 73,some 96,some 64,some 104]),(3,[some 102]),(4,[])]else[],xv:=λi=>if i=0 then some [(3,[some 102])]else none }
def S57_0 (a0:C4)(v0_3:(List E9))(v0_4:Int):St cxT.ty:={ slots:=[(.inr (.inr { kind:=2,nm:=0,cells:=[],s:={ own:=0,nm:=0,e:=35,o:=false,xs:=(List.cons a0 []) },i:=0,off:=0 })),aJ,aJ,(.inl (.inl (ls { own:=1,nm:=192,e:=102,o:=true,xs:=v0_3 }))),(.inl (.inl (lv (.int .i64 v0_4))))]++List.replicate 22 aJ,D:=[],F:=[],ctr:=1 }
def X57_0 (a0:C4)(w0_3:(List E9)):St cxT.ty:={ slots:=[aJ,aJ,aJ,(.inl (.inl (ls { own:=1,nm:=192,e:=102,o:=true,xs:=w0_3 })))]++List.replicate 23 aJ,D:=[],F:=[],ctr:=1 }
def G57 {B:Type}(u:(List E9)->B)(hh0:(List E9)->Int->Option B)(a0:C4):Option B:=
 hh0 [] (0:Int)
def B57_0 {B:Type}(u:(List E9)->B)(gg:(List E9)->Int->Option B)(kk:(List E9)->Option B)(a0:C4)(v0_3:(List E9))(v0_4:Int):Option B:=
 bif (decide (v0_4 < (Nat.cast (List.length a0.2.2.2):Int)))then dX a0 λs1_0=>dX (List.getD s1_0.2.2.2 v0_4.toNat ((0:Int),((0:Int),((0:Int),((0:Int),((0:Int),((0:Int),((0:Int),((0:Int),((0:Int),(0:Int))))))))))) λs1_1=>bif ((decide ((0:Int)<=v0_4))&&(decide (v0_4 < (Nat.cast (List.length s1_0.2.2.2):Int))))then bif (decide (((List.length v0_3)+(List.length (List.cons (s1_1.2.1,(s1_1.2.2.1,(s1_1.2.2.2.1,(s1_1.2.2.2.2.1,(s1_1.2.2.2.2.2.1,(s1_1.2.2.2.2.2.2.1,(s1_1.2.2.2.2.2.2.2.1,(s1_1.2.2.2.2.2.2.2.2.1,s1_1.2.2.2.2.2.2.2.2.2)))))))) [])))<=(1000000000:Nat)))then gg (v0_3++(List.cons (s1_1.2.1,(s1_1.2.2.1,(s1_1.2.2.2.1,(s1_1.2.2.2.2.1,(s1_1.2.2.2.2.2.1,(s1_1.2.2.2.2.2.2.1,(s1_1.2.2.2.2.2.2.2.1,(s1_1.2.2.2.2.2.2.2.2.1,s1_1.2.2.2.2.2.2.2.2.2)))))))) [])) (wrap .i64 (v0_4+(1:Int)))
   else none
  else none
 else kk v0_3
def A57_0 {B:Type}(u:(List E9)->B)(a0:C4)(w0_3:(List E9)):Option B:=
 some (u w0_3)
def xC (L:Nat)(a0:C4):Nat->(List E9)->Int->((List E9)->Option (List E9))->Option (List E9)
 | 0,_,_,_=>none
 | n+1,v0_3,v0_4,k=>B57_0 (λx=>x) (λv0_3 v0_4=>xC L a0 n v0_3 v0_4 k) k a0 v0_3 v0_4
theorem aLF (L:Nat)(a0:C4)(k:St cxT.ty->Option (V cxT.ty))(xk:Nat->St cxT.ty->Option (V cxT.ty))(k':(List E9)->Option (List E9))(hk:∀ (w0_3:(List E9)),k (X57_0 a0 w0_3)=(k' w0_3).map n57):∀ (n:Nat) (v0_3:(List E9)) (v0_4:Int),bA prog aBw L f57 0 [1,1,0,1,0,0] (cB (aY prog f57) k xk) n (S57_0 a0 v0_3 v0_4)=(xC L a0 n v0_3 v0_4 k').map n57
 | 0,_,_=>rfl
 | n+1,v0_3,v0_4=>by
  rw[bQ];have ih:=aLF L a0 k xk k' hk n;refine .trans (b:=B57_0 n57 (λv0_3 v0_4=>(bA prog aBw L f57 0 [1,1,0,1,0,0] (cB (aY prog f57) k xk) n) (S57_0 a0 v0_3 v0_4)) (λw0_3=>k (X57_0 a0 w0_3)) a0 v0_3 v0_4) (by kernel_rfl) ?_;unfold xC B57_0
  repeat' first | with_reducible refine dP ?_ ?_ | with_reducible refine dL λ_=>?_ | with_reducible refine dO λ_=>?_ | with_reducible exact ih _ _ | with_reducible exact hk _ | exact rfl
def g57 (L:Nat)(a0:C4):Option (List E9):=G57 (λx=>x) (λv0_3 v0_4=>xC L a0 L v0_3 v0_4 (λw0_3=>A57_0 (λx=>x) a0 w0_3)) a0
theorem e57 (L:Nat)(a0:C4):fP prog aBw (bJ L) f57 (a57.enc a0)=(g57 L a0).map n57:=by
 have hin0:∀ (v0_3:(List E9)) (v0_4:Int),bA prog aBw L f57 0 [1,1,0,1,0,0] (cB (aY prog f57) (cA prog aBw L f57 [1,1,0,1] (aY prog f57)).n (cA prog aBw L f57 [1,1,0,1] (aY prog f57)).x) L (S57_0 a0 v0_3 v0_4)=((λv0_3 v0_4=>xC L a0 L v0_3 v0_4 (λw0_3=>A57_0 (λx=>x) a0 w0_3)) v0_3 v0_4).map n57:=λv0_3 v0_4=>aLF L a0 _ _ _ (λw0_3=>by refine .trans (b:=A57_0 n57 a0 w0_3) (by kernel_rfl) ?_;unfold A57_0;repeat' first | with_reducible refine dP ?_ ?_ | with_reducible refine dL λ_=>?_ | with_reducible refine dO λ_=>?_ | exact rfl) L v0_3 v0_4
 refine .trans (b:=G57 n57 (λv0_3 v0_4=>bA prog aBw L f57 0 [1,1,0,1,0,0] (cB (aY prog f57) (cA prog aBw L f57 [1,1,0,1] (aY prog f57)).n (cA prog aBw L f57 [1,1,0,1] (aY prog f57)).x) L (S57_0 a0 v0_3 v0_4)) a0) (by kernel_rfl) ?_;unfold g57 G57
 repeat' first | with_reducible refine dP ?_ ?_ | with_reducible refine dL λ_=>?_ | with_reducible refine dO λ_=>?_ | with_reducible exact hin0 _ _ | exact rfl
def w57 (L:Nat)(x:C4):Option (List E9):=g57 L x
theorem s57 (m:Y57)(hm:∀ (x:C4) t,m x=some t->∃ L,w57 L x=some t):Sat prog cxT 57 (c57 m):=
 cF bC aX (by rfl) (fn:=f57) rfl a57 n57 aUN m aBw aW aQ (w57) (λL x=>e57 L x) hm aZF
def aTO (hM:Y36)(yF:Y57):Env cxT:={ Kc:=cR [(36,c36 hM),(57,c57 yF)],Kw:=cQ [],lv:=λi=>[],xv:=λi=>none }
def G23 {B:Type}(u:(Int×(List E9))->B)(hM:Y36)(yF:Y57)(a0_0:(List N10))(a0_1:(List M9))(a0_2:(List W2))(a0_3:(List S10)):Option B:=
 cU (hM (a0_0,(a0_1,(a0_2,a0_3)))) (0:Int) λ(q1:Int)=>bif (q1 != (0:Int))then some (u (q1,[]))
  else cU (yF (a0_0,(a0_1,(a0_2,a0_3)))) [] λ(q2:(List E9))=>some (u ((0:Int),q2))
def g23 (hM:Y36)(yF:Y57)(L:Nat)(a0_0:(List N10))(a0_1:(List M9))(a0_2:(List W2))(a0_3:(List S10)):Option (Int×(List E9)):=G23 (λx=>x) hM yF a0_0 a0_1 a0_2 a0_3
theorem e23 (hM:Y36)(yF:Y57)(L:Nat)(a0_0:(List N10))(a0_1:(List M9))(a0_2:(List W2))(a0_3:(List S10)):fP prog (aTO hM yF) (bJ L) f23 (a23.enc (a0_0,a0_1,a0_2,a0_3))=(g23 hM yF L a0_0 a0_1 a0_2 a0_3).map n23:=by
 refine .trans (b:=G23 n23 hM yF a0_0 a0_1 a0_2 a0_3) (by kernel_rfl) ?_;unfold g23 G23
 repeat' first | with_reducible refine dP ?_ ?_ | with_reducible refine dL λ_=>?_ | with_reducible refine dO λ_=>?_ | exact rfl
def w23 (hM:Y36)(yF:Y57)(L:Nat)(x:C4):Option (Int×(List E9)):=g23 hM yF L x.1 x.2.1 x.2.2.1 x.2.2.2
theorem s23 (hM:Y36)(yF:Y57)(h36:Sat prog cxT 36 (c36 hM))(h57:Sat prog cxT 57 (c57 yF))(m:Y23)(hm:∀ (x:C4) t,m x=some t->∃ L,w23 hM yF L x=some t):Sat prog cxT 23 (c23 m):=
 cF bC aX (by rfl) (fn:=f23) rfl a23 n23 aU9 m (aTO hM yF) (aL h36 (aL h57 aW)) aQ (w23 hM yF) (λL x=>e23 hM yF L x.1 x.2.1 x.2.2.1 x.2.2.2) hm aZ2
def aBJ (hM:Y36):Env cxT:={ Kc:=cR [(36,c36 hM)],Kw:=cQ [],lv:=λi=>if i=0 then[(1,[some 73,some 96,some 64,some 104]),(2,[]),(4,[]),(5,[])]else[],xv:=λi=>if i=0 then some [(2,[]),(4,[])]else none }
def S29_0 (a0_0:(List N10))(a0_1:(List M9))(a0_2:(List W2))(a0_3:(List S10))(v0_1_0:(List N10))(v0_1_1:(List M9))(v0_1_2:(List W2))(v0_1_3:(List S10))(v0_2_0:Int)(v0_2_1:Int)(v0_4:Int)(v0_5:Int):St cxT.ty:={ slots:=[aJ,(.inr (.inr { kind:=0,nm:=64,cells:=[(ls { own:=0,nm:=0,e:=73,o:=false,xs:=v0_1_0 }),(ls { own:=0,nm:=0,e:=96,o:=false,xs:=v0_1_1 }),(ls { own:=0,nm:=0,e:=64,o:=false,xs:=v0_1_2 }),(ls { own:=0,nm:=0,e:=104,o:=false,xs:=v0_1_3 })],s:={ own:=0,nm:=0,e:=0,o:=false,xs:=([]:List (PUnit)) },i:=0,off:=0 })),(.inr (.inr { kind:=0,nm:=128,cells:=[(lv (.int .i64 v0_2_0)),(lv (.int .i64 v0_2_1))],s:={ own:=0,nm:=0,e:=0,o:=false,xs:=([]:List (PUnit)) },i:=0,off:=0 })),aJ,(.inl (.inl (lv (.int .i64 v0_4)))),(.inl (.inl (lv (.int .i64 v0_5))))]++List.replicate 44 aJ,D:=[],F:=[],ctr:=1 }
def X29_0 (a0_0:(List N10))(a0_1:(List M9))(a0_2:(List W2))(a0_3:(List S10))(w0_2_0:Int)(w0_2_1:Int)(w0_4:Int):St cxT.ty:={ slots:=[aJ,aJ,(.inr (.inr { kind:=0,nm:=128,cells:=[(lv (.int .i64 w0_2_0)),(lv (.int .i64 w0_2_1))],s:={ own:=0,nm:=0,e:=0,o:=false,xs:=([]:List (PUnit)) },i:=0,off:=0 })),aJ,(.inl (.inl (lv (.int .i64 w0_4))))]++List.replicate 45 aJ,D:=[],F:=[],ctr:=1 }
def G29 {B:Type}(u:(Int×Int)->B)(hh0:(List N10)->(List M9)->(List W2)->(List S10)->Int->Int->Int->Int->Option B)(hM:Y36)(a0_0:(List N10))(a0_1:(List M9))(a0_2:(List W2))(a0_3:(List S10)):Option B:=
 cU (hM (a0_0,(a0_1,(a0_2,a0_3)))) (0:Int) λ(q1:Int)=>bif (q1 != (0:Int))then some (u (q1,(0:Int)))
  else hh0 a0_0 a0_1 a0_2 a0_3 (0:Int) (0:Int) (-(1:Int)) (0:Int)
def B29_0 {B:Type}(u:(Int×Int)->B)(gg:(List N10)->(List M9)->(List W2)->(List S10)->Int->Int->Int->Int->Option B)(kk:Int->Int->Int->Option B)(hM:Y36)(a0_0:(List N10))(a0_1:(List M9))(a0_2:(List W2))(a0_3:(List S10))(v0_1_0:(List N10))(v0_1_1:(List M9))(v0_1_2:(List W2))(v0_1_3:(List S10))(v0_2_0:Int)(v0_2_1:Int)(v0_4:Int)(v0_5:Int):Option B:=
 bif (decide (v0_5 < (Nat.cast (List.length v0_1_0):Int)))then bif ((decide ((0:Int)<=v0_5))&&(decide (v0_5 < (Nat.cast (List.length v0_1_0):Int))))then bif ((List.getD v0_1_0 v0_5.toNat ((0:Int),((0:Int),((0:Int),((0:Int),(([]:List E9),((0:Int),((0:Int),(([]:List (Int)),(([]:List (Int)),([]:List (Int)))))))))))).2.2.2.2.2.1 == (2:Int))then bif (decide (v0_4 < (0:Int)))then gg v0_1_0 v0_1_1 v0_1_2 v0_1_3 v0_2_0 v0_2_1 v0_5 (wrap .i64 (v0_5+(1:Int)))
    else bif ((decide ((0:Int)<=v0_5))&&(decide (v0_5 < (Nat.cast (List.length v0_1_0):Int))))then bif ((decide ((0:Int)<=v0_4))&&(decide (v0_4 < (Nat.cast (List.length v0_1_0):Int))))then bif (decide ((List.getD v0_1_0 v0_5.toNat ((0:Int),((0:Int),((0:Int),((0:Int),(([]:List E9),((0:Int),((0:Int),(([]:List (Int)),(([]:List (Int)),([]:List (Int)))))))))))).2.2.1 > (List.getD v0_1_0 v0_4.toNat ((0:Int),((0:Int),((0:Int),((0:Int),(([]:List E9),((0:Int),((0:Int),(([]:List (Int)),(([]:List (Int)),([]:List (Int)))))))))))).2.2.1))then gg v0_1_0 v0_1_1 v0_1_2 v0_1_3 v0_2_0 v0_2_1 v0_5 (wrap .i64 (v0_5+(1:Int)))
      else gg v0_1_0 v0_1_1 v0_1_2 v0_1_3 v0_2_0 v0_2_1 v0_4 (wrap .i64 (v0_5+(1:Int)))
     else none
    else none
   else gg v0_1_0 v0_1_1 v0_1_2 v0_1_3 v0_2_0 v0_2_1 v0_4 (wrap .i64 (v0_5+(1:Int)))
  else none
 else kk v0_2_0 v0_2_1 v0_4
def A29_0 {B:Type}(u:(Int×Int)->B)(hM:Y36)(a0_0:(List N10))(a0_1:(List M9))(a0_2:(List W2))(a0_3:(List S10))(w0_2_0:Int)(w0_2_1:Int)(w0_4:Int):Option B:=
 bif (decide (w0_4 < (0:Int)))then some (u ((4:Int),(0:Int)))
 else some (u ((0:Int),w0_4))
def qS (hM:Y36)(L:Nat)(a0_0:(List N10))(a0_1:(List M9))(a0_2:(List W2))(a0_3:(List S10)):Nat->(List N10)->(List M9)->(List W2)->(List S10)->Int->Int->Int->Int->(Int->Int->Int->Option (Int×Int))->Option (Int×Int)
 | 0,_,_,_,_,_,_,_,_,_=>none
 | n+1,v0_1_0,v0_1_1,v0_1_2,v0_1_3,v0_2_0,v0_2_1,v0_4,v0_5,k=>B29_0 (λx=>x) (λv0_1_0 v0_1_1 v0_1_2 v0_1_3 v0_2_0 v0_2_1 v0_4 v0_5=>qS hM L a0_0 a0_1 a0_2 a0_3 n v0_1_0 v0_1_1 v0_1_2 v0_1_3 v0_2_0 v0_2_1 v0_4 v0_5 k) k hM a0_0 a0_1 a0_2 a0_3 v0_1_0 v0_1_1 v0_1_2 v0_1_3 v0_2_0 v0_2_1 v0_4 v0_5
theorem aLW (hM:Y36)(L:Nat)(a0_0:(List N10))(a0_1:(List M9))(a0_2:(List W2))(a0_3:(List S10))(k:St cxT.ty->Option (V cxT.ty))(xk:Nat->St cxT.ty->Option (V cxT.ty))(k':Int->Int->Int->Option (Int×Int))(hk:∀ (w0_2_0:Int) (w0_2_1:Int) (w0_4:Int),k (X29_0 a0_0 a0_1 a0_2 a0_3 w0_2_0 w0_2_1 w0_4)=(k' w0_2_0 w0_2_1 w0_4).map n29):∀ (n:Nat) (v0_1_0:(List N10)) (v0_1_1:(List M9)) (v0_1_2:(List W2)) (v0_1_3:(List S10)) (v0_2_0:Int) (v0_2_1:Int) (v0_4:Int) (v0_5:Int),bA prog (aBJ hM) L f29 0 [1,1,1,0,1,0,0] (cB (aY prog f29) k xk) n (S29_0 a0_0 a0_1 a0_2 a0_3 v0_1_0 v0_1_1 v0_1_2 v0_1_3 v0_2_0 v0_2_1 v0_4 v0_5)=(qS hM L a0_0 a0_1 a0_2 a0_3 n v0_1_0 v0_1_1 v0_1_2 v0_1_3 v0_2_0 v0_2_1 v0_4 v0_5 k').map n29
 | 0,_,_,_,_,_,_,_,_=>rfl
 | n+1,v0_1_0,v0_1_1,v0_1_2,v0_1_3,v0_2_0,v0_2_1,v0_4,v0_5=>by
  rw[bQ];have ih:=aLW hM L a0_0 a0_1 a0_2 a0_3 k xk k' hk n;refine .trans (b:=B29_0 n29 (λv0_1_0 v0_1_1 v0_1_2 v0_1_3 v0_2_0 v0_2_1 v0_4 v0_5=>(bA prog (aBJ hM) L f29 0 [1,1,1,0,1,0,0] (cB (aY prog f29) k xk) n) (S29_0 a0_0 a0_1 a0_2 a0_3 v0_1_0 v0_1_1 v0_1_2 v0_1_3 v0_2_0 v0_2_1 v0_4 v0_5)) (λw0_2_0 w0_2_1 w0_4=>k (X29_0 a0_0 a0_1 a0_2 a0_3 w0_2_0 w0_2_1 w0_4)) hM a0_0 a0_1 a0_2 a0_3 v0_1_0 v0_1_1 v0_1_2 v0_1_3 v0_2_0 v0_2_1 v0_4 v0_5) (by kernel_rfl) ?_;unfold qS B29_0
  repeat' first | with_reducible refine dP ?_ ?_ | with_reducible refine dL λ_=>?_ | with_reducible refine dO λ_=>?_ | with_reducible exact ih _ _ _ _ _ _ _ _ | with_reducible exact hk _ _ _ | exact rfl
def g29 (hM:Y36)(L:Nat)(a0_0:(List N10))(a0_1:(List M9))(a0_2:(List W2))(a0_3:(List S10)):Option (Int×Int):=G29 (λx=>x) (λv0_1_0 v0_1_1 v0_1_2 v0_1_3 v0_2_0 v0_2_1 v0_4 v0_5=>qS hM L a0_0 a0_1 a0_2 a0_3 L v0_1_0 v0_1_1 v0_1_2 v0_1_3 v0_2_0 v0_2_1 v0_4 v0_5 (λw0_2_0 w0_2_1 w0_4=>A29_0 (λx=>x) hM a0_0 a0_1 a0_2 a0_3 w0_2_0 w0_2_1 w0_4)) hM a0_0 a0_1 a0_2 a0_3
theorem e29 (hM:Y36)(L:Nat)(a0_0:(List N10))(a0_1:(List M9))(a0_2:(List W2))(a0_3:(List S10)):fP prog (aBJ hM) (bJ L) f29 (a29.enc (a0_0,a0_1,a0_2,a0_3))=(g29 hM L a0_0 a0_1 a0_2 a0_3).map n29:=by
 have hin0:∀ (v0_1_0:(List N10)) (v0_1_1:(List M9)) (v0_1_2:(List W2)) (v0_1_3:(List S10)) (v0_2_0:Int) (v0_2_1:Int) (v0_4:Int) (v0_5:Int),bA prog (aBJ hM) L f29 0 [1,1,1,0,1,0,0] (cB (aY prog f29) (cA prog (aBJ hM) L f29 [1,1,1,0,1] (aY prog f29)).n (cA prog (aBJ hM) L f29 [1,1,1,0,1] (aY prog f29)).x) L (S29_0 a0_0 a0_1 a0_2 a0_3 v0_1_0 v0_1_1 v0_1_2 v0_1_3 v0_2_0 v0_2_1 v0_4 v0_5)=((λv0_1_0 v0_1_1 v0_1_2 v0_1_3 v0_2_0 v0_2_1 v0_4 v0_5=>qS hM L a0_0 a0_1 a0_2 a0_3 L v0_1_0 v0_1_1 v0_1_2 v0_1_3 v0_2_0 v0_2_1 v0_4 v0_5 (λw0_2_0 w0_2_1 w0_4=>A29_0 (λx=>x) hM a0_0 a0_1 a0_2 a0_3 w0_2_0 w0_2_1 w0_4)) v0_1_0 v0_1_1 v0_1_2 v0_1_3 v0_2_0 v0_2_1 v0_4 v0_5).map n29:=λv0_1_0 v0_1_1 v0_1_2 v0_1_3 v0_2_0 v0_2_1 v0_4 v0_5=>aLW hM L a0_0 a0_1 a0_2 a0_3 _ _ _ (λw0_2_0 w0_2_1 w0_4=>by refine .trans (b:=A29_0 n29 hM a0_0 a0_1 a0_2 a0_3 w0_2_0 w0_2_1 w0_4) (by kernel_rfl) ?_;unfold A29_0;repeat' first | with_reducible refine dP ?_ ?_ | with_reducible refine dL λ_=>?_ | with_reducible refine dO λ_=>?_ | exact rfl) L v0_1_0 v0_1_1 v0_1_2 v0_1_3 v0_2_0 v0_2_1 v0_4 v0_5
 refine .trans (b:=G29 n29 (λv0_1_0 v0_1_1 v0_1_2 v0_1_3 v0_2_0 v0_2_1 v0_4 v0_5=>bA prog (aBJ hM) L f29 0 [1,1,1,0,1,0,0] (cB (aY prog f29) (cA prog (aBJ hM) L f29 [1,1,1,0,1] (aY prog f29)).n (cA prog (aBJ hM) L f29 [1,1,1,0,1] (aY prog f29)).x) L (S29_0 a0_0 a0_1 a0_2 a0_3 v0_1_0 v0_1_1 v0_1_2 v0_1_3 v0_2_0 v0_2_1 v0_4 v0_5)) hM a0_0 a0_1 a0_2 a0_3) (by kernel_rfl) ?_;unfold g29 G29
 repeat' first | with_reducible refine dP ?_ ?_ | with_reducible refine dL λ_=>?_ | with_reducible refine dO λ_=>?_ | with_reducible exact hin0 _ _ _ _ _ _ _ _ | exact rfl
def w29 (hM:Y36)(L:Nat)(x:C4):Option (Int×Int):=g29 hM L x.1 x.2.1 x.2.2.1 x.2.2.2
theorem s29 (hM:Y36)(h36:Sat prog cxT 36 (c36 hM))(m:Y29)(hm:∀ (x:C4) t,m x=some t->∃ L,w29 hM L x=some t):Sat prog cxT 29 (c29 m):=
 cF bC aX (by rfl) (fn:=f29) rfl a29 n29 aU3 m (aBJ hM) (aL h36 aW) aQ (w29 hM) (λL x=>e29 hM L x.1 x.2.1 x.2.2.1 x.2.2.2) hm aZW
end Go.Proofs.Tryz
