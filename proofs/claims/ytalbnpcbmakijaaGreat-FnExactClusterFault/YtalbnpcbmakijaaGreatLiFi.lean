/- A part of the proof of FnExactClusterFault: LiFi, LiFl, LiFm. -/
import Derived.Test.YtalbnpcbmakijaaGreatLiBase
set_option linter.unusedSimpArgs false
set_option linter.unusedVariables false
set_option maxHeartbeats 0
set_option maxRecDepth 100000
namespace Go.Proofs.Tryz
open Go.IntKind (wrap)
open Go Go.VM Go.RowKit
def aJ6 (bI:Y88):Env cxT:={ Kc:=dD [(88,vE bI)],Kw:=dF [],lv:=λi=>[],xv:=λi=>none }
def G183 {B:Type}(u:(Bool×Bool×Bool×Bool)->B)(bI:Y88)(a0:Int):Option B:=
 dL (bI (a0,((5:Int),(8:Int)))) false λ(q1:Bool)=>bif (a0 != (5:Int))then bif (a0 == (1:Int))then some (u ((a0 != (6:Int)),true,(a0 != (4:Int)),q1))
   else some (u ((a0 != (6:Int)),q1,(a0 != (4:Int)),q1))
  else bif (a0 == (1:Int))then some (u (false,true,(a0 != (4:Int)),q1))
  else some (u (false,q1,(a0 != (4:Int)),q1))
def aHe (bI:Y88)(L:Nat)(a0:Int):Option (Bool×Bool×Bool×Bool):=G183 (λx=>x) bI a0
theorem aXf (bI:Y88)(L:Nat)(a0:Int):fP prog (aJ6 bI) (bO L) f183 (aTc.enc a0)=(aHe bI L a0).map aFc:=by
 refine .trans (b:=G183 aFc bI a0) (by kernel_rfl) ?_;unfold aHe G183
 repeat' first | with_reducible refine eC ?_ ?_ | with_reducible refine eA λ_=>?_ | with_reducible refine eB λ_=>?_ | exact rfl
def aLy (bI:Y88)(L:Nat)(x:Int):Option (Bool×Bool×Bool×Bool):=aHe bI L x
theorem aU3 (bI:Y88)(h88:Sat prog cxT 88 (vE bI))(m:Y183)(hm:∀ (x:Int) t,m x=some t->∃ L,aLy bI L x=some t):Sat prog cxT 183 (aSN m):=
 cF bD aZ (by rfl) (fn:=f183) rfl aTc aFc aKU m (aJ6 bI) (aN h88 aY) aR (aLy bI) (λL x=>aXf bI L x) hm aP0
def aJ5 (bI:Y88):Env cxT:={ Kc:=dD [(88,vE bI)],Kw:=dF [],lv:=λi=>[],xv:=λi=>none }
def G184 {B:Type}(u:Bool->B)(bI:Y88)(a0:Int):Option B:=
 dL (bI (a0,((0:Int),(1000000:Int)))) false λ(q1:Bool)=>some (u q1)
def aNl (bI:Y88)(L:Nat)(a0:Int):Option Bool:=G184 (λx=>x) bI a0
theorem aXe (bI:Y88)(L:Nat)(a0:Int):fP prog (aJ5 bI) (bO L) f184 (aTb.enc a0)=(aNl bI L a0).map aFb:=by
 refine .trans (b:=G184 aFb bI a0) (by kernel_rfl) ?_;unfold aNl G184
 repeat' first | with_reducible refine eC ?_ ?_ | with_reducible refine eA λ_=>?_ | with_reducible refine eB λ_=>?_ | exact rfl
def aOx (bI:Y88)(L:Nat)(x:Int):Option Bool:=aNl bI L x
theorem aU2 (bI:Y88)(h88:Sat prog cxT 88 (vE bI))(m:Y184)(hm:∀ (x:Int) t,m x=some t->∃ L,aOx bI L x=some t):Sat prog cxT 184 (aSM m):=
 cF bD aZ (by rfl) (fn:=f184) rfl aTb aFb aKT m (aJ5 bI) (aN h88 aY) aR (aOx bI) (λL x=>aXe bI L x) hm aPZ
def aJ4 (bI:Y88):Env cxT:={ Kc:=dD [(88,vE bI)],Kw:=dF [],lv:=λi=>[],xv:=λi=>none }
def G185 {B:Type}(u:Bool->B)(bI:Y88)(a0:Int):Option B:=
 dL (bI (a0,((1:Int),(999:Int)))) false λ(q1:Bool)=>some (u q1)
def aNk (bI:Y88)(L:Nat)(a0:Int):Option Bool:=G185 (λx=>x) bI a0
theorem aXd (bI:Y88)(L:Nat)(a0:Int):fP prog (aJ4 bI) (bO L) f185 (aTa.enc a0)=(aNk bI L a0).map aFa:=by
 refine .trans (b:=G185 aFa bI a0) (by kernel_rfl) ?_;unfold aNk G185
 repeat' first | with_reducible refine eC ?_ ?_ | with_reducible refine eA λ_=>?_ | with_reducible refine eB λ_=>?_ | exact rfl
def aOw (bI:Y88)(L:Nat)(x:Int):Option Bool:=aNk bI L x
theorem aU1 (bI:Y88)(h88:Sat prog cxT 88 (vE bI))(m:Y185)(hm:∀ (x:Int) t,m x=some t->∃ L,aOw bI L x=some t):Sat prog cxT 185 (aSL m):=
 cF bD aZ (by rfl) (fn:=f185) rfl aTa aFa aKS m (aJ4 bI) (aN h88 aY) aR (aOw bI) (λL x=>aXd bI L x) hm aPY
def aJ3 (bI:Y88):Env cxT:={ Kc:=dD [(88,vE bI)],Kw:=dF [],lv:=λi=>[],xv:=λi=>none }
def G186 {B:Type}(u:Bool->B)(bI:Y88)(a0:Int):Option B:=
 dL (bI (a0,((0:Int),(4294967295:Int)))) false λ(q1:Bool)=>some (u q1)
def aNj (bI:Y88)(L:Nat)(a0:Int):Option Bool:=G186 (λx=>x) bI a0
theorem aXc (bI:Y88)(L:Nat)(a0:Int):fP prog (aJ3 bI) (bO L) f186 (aS9.enc a0)=(aNj bI L a0).map aE9:=by
 refine .trans (b:=G186 aE9 bI a0) (by kernel_rfl) ?_;unfold aNj G186
 repeat' first | with_reducible refine eC ?_ ?_ | with_reducible refine eA λ_=>?_ | with_reducible refine eB λ_=>?_ | exact rfl
def aOv (bI:Y88)(L:Nat)(x:Int):Option Bool:=aNj bI L x
theorem aU0 (bI:Y88)(h88:Sat prog cxT 88 (vE bI))(m:Y186)(hm:∀ (x:Int) t,m x=some t->∃ L,aOv bI L x=some t):Sat prog cxT 186 (aSK m):=
 cF bD aZ (by rfl) (fn:=f186) rfl aS9 aE9 aKR m (aJ3 bI) (aN h88 aY) aR (aOv bI) (λL x=>aXc bI L x) hm aPX
def aJ2 (bI:Y88)(m213:Y213):Env cxT:={ Kc:=dD [(88,vE bI),(213,aIM m213)],Kw:=dF [],lv:=λi=>[],xv:=λi=>none }
def G187 {B:Type}(u:Bool->B)(bI:Y88)(m213:Y213)(a0_0:Int)(a0_1:Int)(a0_2:Int)(a0_3:Int)(a0_4:Int)(a0_5:Int):Option B:=
 bif (a0_0 == (1:Int))then dL (bI (a0_4,((0:Int),(9:Int)))) false λ(q2:Bool)=>some (u q2)
 else bif (a0_0 == (2:Int))then dL (bI (a0_4,((0:Int),(9:Int)))) false λ(q2:Bool)=>some (u q2)
 else bif (a0_0 == (3:Int))then dL (bI (a0_4,((1:Int),(3:Int)))) false λ(q2:Bool)=>some (u q2)
 else bif (a0_0 == (9:Int))then dL (bI (a0_4,((0:Int),(1:Int)))) false λ(q2:Bool)=>some (u q2)
 else dL (m213 a0_4) false λ(q1:Bool)=>some (u q1)
def aHd (bI:Y88)(m213:Y213)(L:Nat)(a0_0:Int)(a0_1:Int)(a0_2:Int)(a0_3:Int)(a0_4:Int)(a0_5:Int):Option Bool:=G187 (λx=>x) bI m213 a0_0 a0_1 a0_2 a0_3 a0_4 a0_5
theorem aXb (bI:Y88)(m213:Y213)(L:Nat)(a0_0:Int)(a0_1:Int)(a0_2:Int)(a0_3:Int)(a0_4:Int)(a0_5:Int):fP prog (aJ2 bI m213) (bO L) f187 (aS8.enc (a0_0,a0_1,a0_2,a0_3,a0_4,a0_5))=(aHd bI m213 L a0_0 a0_1 a0_2 a0_3 a0_4 a0_5).map aE8:=by
 refine .trans (b:=G187 aE8 bI m213 a0_0 a0_1 a0_2 a0_3 a0_4 a0_5) (by kernel_rfl) ?_;unfold aHd G187
 repeat' first | with_reducible refine eC ?_ ?_ | with_reducible refine eA λ_=>?_ | with_reducible refine eB λ_=>?_ | exact rfl
def aLx (bI:Y88)(m213:Y213)(L:Nat)(x:(Int×Int×Int×Int×Int×Int)):Option Bool:=aHd bI m213 L x.1 x.2.1 x.2.2.1 x.2.2.2.1 x.2.2.2.2.1 x.2.2.2.2.2
theorem aUZ (bI:Y88)(m213:Y213)(h88:Sat prog cxT 88 (vE bI))(h213:Sat prog cxT 213 (aIM m213))(m:Y187)(hm:∀ (x:(Int×Int×Int×Int×Int×Int)) t,m x=some t->∃ L,aLx bI m213 L x=some t):Sat prog cxT 187 (aSJ m):=
 cF bD aZ (by rfl) (fn:=f187) rfl aS8 aE8 aKQ m (aJ2 bI m213) (aN h88 (aN h213 aY)) aR (aLx bI m213) (λL x=>aXb bI m213 L x.1 x.2.1 x.2.2.1 x.2.2.2.1 x.2.2.2.2.1 x.2.2.2.2.2) hm aPW
def aJ1:Env cxT:={ Kc:=dD [],Kw:=dF [],lv:=λi=>[],xv:=λi=>none }
def G188 {B:Type}(u:Bool->B)(a0:Int):Option B:=
 bif (a0 == (6:Int))then some (u true)
 else some (u (a0 == (17:Int)))
def aNi (L:Nat)(a0:Int):Option Bool:=G188 (λx=>x) a0
theorem aXa (L:Nat)(a0:Int):fP prog aJ1 (bO L) f188 (aS7.enc a0)=(aNi L a0).map aE7:=by
 refine .trans (b:=G188 aE7 a0) (by kernel_rfl) ?_;unfold aNi G188
 repeat' first | with_reducible refine eC ?_ ?_ | with_reducible refine eA λ_=>?_ | with_reducible refine eB λ_=>?_ | exact rfl
def aOu (L:Nat)(x:Int):Option Bool:=aNi L x
theorem aUY (m:Y188)(hm:∀ (x:Int) t,m x=some t->∃ L,aOu L x=some t):Sat prog cxT 188 (aSI m):=
 cF bD aZ (by rfl) (fn:=f188) rfl aS7 aE7 aKP m aJ1 aY aR (aOu) (λL x=>aXa L x) hm aPV
def aJW (bI:Y88):Env cxT:={ Kc:=dD [(88,vE bI)],Kw:=dF [],lv:=λi=>[],xv:=λi=>none }
def G213 {B:Type}(u:Bool->B)(bI:Y88)(a0:Int):Option B:=
 dL (bI (a0,((0:Int),(65535:Int)))) false λ(q1:Bool)=>some (u q1)
def aNf (bI:Y88)(L:Nat)(a0:Int):Option Bool:=G213 (λx=>x) bI a0
theorem aW5 (bI:Y88)(L:Nat)(a0:Int):fP prog (aJW bI) (bO L) f213 (aS2.enc a0)=(aNf bI L a0).map aE2:=by
 refine .trans (b:=G213 aE2 bI a0) (by kernel_rfl) ?_;unfold aNf G213
 repeat' first | with_reducible refine eC ?_ ?_ | with_reducible refine eA λ_=>?_ | with_reducible refine eB λ_=>?_ | exact rfl
def aOr (bI:Y88)(L:Nat)(x:Int):Option Bool:=aNf bI L x
theorem aUT (bI:Y88)(h88:Sat prog cxT 88 (vE bI))(m:Y213)(hm:∀ (x:Int) t,m x=some t->∃ L,aOr bI L x=some t):Sat prog cxT 213 (aIM m):=
 cF bD aZ (by rfl) (fn:=f213) rfl aS2 aE2 aKK m (aJW bI) (aN h88 aY) aR (aOr bI) (λL x=>aW5 bI L x) hm aPQ
def aJY:Env cxT:={ Kc:=dD [],Kw:=dF [],lv:=λi=>[],xv:=λi=>none }
def G191 {B:Type}(u:Bool->B)(a0:Int):Option B:=
 bif (decide (a0>=(0:Int)))then some (u (decide (a0<=(1000000:Int))))
 else some (u false)
def aNg (L:Nat)(a0:Int):Option Bool:=G191 (λx=>x) a0
theorem aW7 (L:Nat)(a0:Int):fP prog aJY (bO L) f191 (aS4.enc a0)=(aNg L a0).map aE4:=by
 refine .trans (b:=G191 aE4 a0) (by kernel_rfl) ?_;unfold aNg G191
 repeat' first | with_reducible refine eC ?_ ?_ | with_reducible refine eA λ_=>?_ | with_reducible refine eB λ_=>?_ | exact rfl
def aOs (L:Nat)(x:Int):Option Bool:=aNg L x
theorem aUV (m:Y191)(hm:∀ (x:Int) t,m x=some t->∃ L,aOs L x=some t):Sat prog cxT 191 (aSH m):=
 cF bD aZ (by rfl) (fn:=f191) rfl aS4 aE4 aKM m aJY aY aR (aOs) (λL x=>aW7 L x) hm aPS
def aJV:Env cxT:={ Kc:=dD [],Kw:=dF [],lv:=λi=>[],xv:=λi=>none }
def G214 {B:Type}(u:Bool->B)(a0:Int):Option B:=
 bif (decide (a0>=(1:Int)))then some (u (decide (a0<=(999:Int))))
 else some (u false)
def aNe (L:Nat)(a0:Int):Option Bool:=G214 (λx=>x) a0
theorem aW4 (L:Nat)(a0:Int):fP prog aJV (bO L) f214 (aS1.enc a0)=(aNe L a0).map aE1:=by
 refine .trans (b:=G214 aE1 a0) (by kernel_rfl) ?_;unfold aNe G214
 repeat' first | with_reducible refine eC ?_ ?_ | with_reducible refine eA λ_=>?_ | with_reducible refine eB λ_=>?_ | exact rfl
def aOq (L:Nat)(x:Int):Option Bool:=aNe L x
theorem aUS (m:Y214)(hm:∀ (x:Int) t,m x=some t->∃ L,aOq L x=some t):Sat prog cxT 214 (aSG m):=
 cF bD aZ (by rfl) (fn:=f214) rfl aS1 aE1 aKJ m aJV aY aR (aOq) (λL x=>aW4 L x) hm aPP
def aJU:Env cxT:={ Kc:=dD [],Kw:=dF [],lv:=λi=>[],xv:=λi=>none }
def G215 {B:Type}(u:Bool->B)(a0:Int):Option B:=
 bif (decide (a0>=(0:Int)))then some (u (decide (a0<=(4294967295:Int))))
 else some (u false)
def aNd (L:Nat)(a0:Int):Option Bool:=G215 (λx=>x) a0
theorem aW3 (L:Nat)(a0:Int):fP prog aJU (bO L) f215 (aS0.enc a0)=(aNd L a0).map aE0:=by
 refine .trans (b:=G215 aE0 a0) (by kernel_rfl) ?_;unfold aNd G215
 repeat' first | with_reducible refine eC ?_ ?_ | with_reducible refine eA λ_=>?_ | with_reducible refine eB λ_=>?_ | exact rfl
def aOp (L:Nat)(x:Int):Option Bool:=aNd L x
theorem aUR (m:Y215)(hm:∀ (x:Int) t,m x=some t->∃ L,aOp L x=some t):Sat prog cxT 215 (aSF m):=
 cF bD aZ (by rfl) (fn:=f215) rfl aS0 aE0 aKI m aJU aY aR (aOp) (λL x=>aW3 L x) hm aPO
def aJT:Env cxT:={ Kc:=dD [],Kw:=dF [],lv:=λi=>[],xv:=λi=>none }
def G216 {B:Type}(u:Bool->B)(a0:Int):Option B:=
 bif (decide (a0>=(0:Int)))then some (u (decide (a0<=(9:Int))))
 else some (u false)
def aNc (L:Nat)(a0:Int):Option Bool:=G216 (λx=>x) a0
theorem aW2 (L:Nat)(a0:Int):fP prog aJT (bO L) f216 (aSZ.enc a0)=(aNc L a0).map aEZ:=by
 refine .trans (b:=G216 aEZ a0) (by kernel_rfl) ?_;unfold aNc G216
 repeat' first | with_reducible refine eC ?_ ?_ | with_reducible refine eA λ_=>?_ | with_reducible refine eB λ_=>?_ | exact rfl
def aOo (L:Nat)(x:Int):Option Bool:=aNc L x
theorem aUQ (m:Y216)(hm:∀ (x:Int) t,m x=some t->∃ L,aOo L x=some t):Sat prog cxT 216 (aSE m):=
 cF bD aZ (by rfl) (fn:=f216) rfl aSZ aEZ aKH m aJT aY aR (aOo) (λL x=>aW2 L x) hm aPN
def aJS:Env cxT:={ Kc:=dD [],Kw:=dF [],lv:=λi=>[],xv:=λi=>none }
def G219 {B:Type}(u:Bool->B)(a0:Int):Option B:=
 bif (decide (a0>=(1:Int)))then some (u (decide (a0<=(3:Int))))
 else some (u false)
def aNb (L:Nat)(a0:Int):Option Bool:=G219 (λx=>x) a0
theorem aW1 (L:Nat)(a0:Int):fP prog aJS (bO L) f219 (aSY.enc a0)=(aNb L a0).map aEY:=by
 refine .trans (b:=G219 aEY a0) (by kernel_rfl) ?_;unfold aNb G219
 repeat' first | with_reducible refine eC ?_ ?_ | with_reducible refine eA λ_=>?_ | with_reducible refine eB λ_=>?_ | exact rfl
def aOn (L:Nat)(x:Int):Option Bool:=aNb L x
theorem aUP (m:Y219)(hm:∀ (x:Int) t,m x=some t->∃ L,aOn L x=some t):Sat prog cxT 219 (aSD m):=
 cF bD aZ (by rfl) (fn:=f219) rfl aSY aEY aKG m aJS aY aR (aOn) (λL x=>aW1 L x) hm aPM
def aJR:Env cxT:={ Kc:=dD [],Kw:=dF [],lv:=λi=>[],xv:=λi=>none }
def G222 {B:Type}(u:Bool->B)(a0:Int):Option B:=
 bif (decide (a0>=(0:Int)))then some (u (decide (a0<=(65535:Int))))
 else some (u false)
def aNa (L:Nat)(a0:Int):Option Bool:=G222 (λx=>x) a0
theorem aW0 (L:Nat)(a0:Int):fP prog aJR (bO L) f222 (aSX.enc a0)=(aNa L a0).map aEX:=by
 refine .trans (b:=G222 aEX a0) (by kernel_rfl) ?_;unfold aNa G222
 repeat' first | with_reducible refine eC ?_ ?_ | with_reducible refine eA λ_=>?_ | with_reducible refine eB λ_=>?_ | exact rfl
def aOm (L:Nat)(x:Int):Option Bool:=aNa L x
theorem aUO (m:Y222)(hm:∀ (x:Int) t,m x=some t->∃ L,aOm L x=some t):Sat prog cxT 222 (aSC m):=
 cF bD aZ (by rfl) (fn:=f222) rfl aSX aEX aKF m aJR aY aR (aOm) (λL x=>aW0 L x) hm aPL
def aJQ:Env cxT:={ Kc:=dD [],Kw:=dF [],lv:=λi=>[],xv:=λi=>none }
def G223 {B:Type}(u:Bool->B)(a0:Int):Option B:=
 bif (a0 == (6:Int))then some (u true)
 else some (u (a0 == (17:Int)))
def aM9 (L:Nat)(a0:Int):Option Bool:=G223 (λx=>x) a0
theorem aWZ (L:Nat)(a0:Int):fP prog aJQ (bO L) f223 (aSW.enc a0)=(aM9 L a0).map aEW:=by
 refine .trans (b:=G223 aEW a0) (by kernel_rfl) ?_;unfold aM9 G223
 repeat' first | with_reducible refine eC ?_ ?_ | with_reducible refine eA λ_=>?_ | with_reducible refine eB λ_=>?_ | exact rfl
def aOl (L:Nat)(x:Int):Option Bool:=aM9 L x
theorem aUN (m:Y223)(hm:∀ (x:Int) t,m x=some t->∃ L,aOl L x=some t):Sat prog cxT 223 (aSB m):=
 cF bD aZ (by rfl) (fn:=f223) rfl aSW aEW aKE m aJQ aY aR (aOl) (λL x=>aWZ L x) hm aPK
def aJP:Env cxT:={ Kc:=dD [],Kw:=dF [],lv:=λi=>[],xv:=λi=>none }
def G228 {B:Type}(u:Bool->B)(a0:Int):Option B:=
 bif (a0 == (0:Int))then some (u true)
 else some (u (a0 == (1:Int)))
def aM8 (L:Nat)(a0:Int):Option Bool:=G228 (λx=>x) a0
theorem aWY (L:Nat)(a0:Int):fP prog aJP (bO L) f228 (aSV.enc a0)=(aM8 L a0).map aEV:=by
 refine .trans (b:=G228 aEV a0) (by kernel_rfl) ?_;unfold aM8 G228
 repeat' first | with_reducible refine eC ?_ ?_ | with_reducible refine eA λ_=>?_ | with_reducible refine eB λ_=>?_ | exact rfl
def aOk (L:Nat)(x:Int):Option Bool:=aM8 L x
theorem aUM (m:Y228)(hm:∀ (x:Int) t,m x=some t->∃ L,aOk L x=some t):Sat prog cxT 228 (aSA m):=
 cF bD aZ (by rfl) (fn:=f228) rfl aSV aEV aKD m aJP aY aR (aOk) (λL x=>aWY L x) hm aPJ
end Go.Proofs.Tryz
set_option maxHeartbeats 0
set_option maxRecDepth 100000
namespace Go.Proofs.Tryz
open Go.IntKind (wrap)
open Go Go.VM Go.RowKit
def aJ0 (eO:Y190):Env cxT:={ Kc:=dD [(190,aCL eO)],Kw:=dF [],lv:=λi=>[],xv:=λi=>none }
def G189 {B:Type}(u:(Int×Int×Int×Int×Int×Int×Int×Int×Int×Bool)->B)(eO:Y190)(a0:(List E9))(a1:Int):Option B:=
 bif (decide (a1 < (1:Int)))then some (u ((0:Int),(0:Int),(0:Int),(0:Int),(0:Int),(0:Int),(0:Int),(0:Int),(0:Int),false))
 else dL (eO a0) (0:Int) λ(q1:Int)=>bif (decide (a1 > q1))then some (u ((0:Int),(0:Int),(0:Int),(0:Int),(0:Int),(0:Int),(0:Int),(0:Int),(0:Int),false))
  else bif ((decide ((0:Int)<=(wrap .i64 (a1-(1:Int)))))&&(decide ((wrap .i64 (a1-(1:Int))) < (Nat.cast (List.length a0):Int))))then fB (List.getD a0 (Int.toNat (wrap .i64 (a1-(1:Int)))) ((0:Int),((0:Int),((0:Int),((0:Int),((0:Int),((0:Int),((0:Int),((0:Int),(0:Int)))))))))) λs2_0=>some (u (s2_0.1,s2_0.2.1,s2_0.2.2.1,s2_0.2.2.2.1,s2_0.2.2.2.2.1,s2_0.2.2.2.2.2.1,s2_0.2.2.2.2.2.2.1,s2_0.2.2.2.2.2.2.2.1,s2_0.2.2.2.2.2.2.2.2,true))
  else none
def aHc (eO:Y190)(L:Nat)(a0:(List E9))(a1:Int):Option (Int×Int×Int×Int×Int×Int×Int×Int×Int×Bool):=G189 (λx=>x) eO a0 a1
theorem aW9 (eO:Y190)(L:Nat)(a0:(List E9))(a1:Int):fP prog (aJ0 eO) (bO L) f189 (aS6.enc (a0,a1))=(aHc eO L a0 a1).map aE6:=by
 refine .trans (b:=G189 aE6 eO a0 a1) (by kernel_rfl) ?_;unfold aHc G189
 repeat' first | with_reducible refine eC ?_ ?_ | with_reducible refine eA λ_=>?_ | with_reducible refine eB λ_=>?_ | exact rfl
def aLw (eO:Y190)(L:Nat)(x:((List E9)×Int)):Option (Int×Int×Int×Int×Int×Int×Int×Int×Int×Bool):=aHc eO L x.1 x.2
theorem aUX (eO:Y190)(h190:Sat prog cxT 190 (aCL eO))(m:Y189)(hm:∀ (x:((List E9)×Int)) t,m x=some t->∃ L,aLw eO L x=some t):Sat prog cxT 189 (aIO m):=
 cF bD aZ (by rfl) (fn:=f189) rfl aS6 aE6 aKO m (aJ0 eO) (aN h190 aY) aR (aLw eO) (λL x=>aW9 eO L x.1 x.2) hm aPU
def aJZ:Env cxT:={ Kc:=dD [],Kw:=dF [],lv:=λi=>[],xv:=λi=>none }
def G190 {B:Type}(u:Int->B)(a0:(List E9)):Option B:=
 some (u (Nat.cast (List.length a0):Int))
def aNh (L:Nat)(a0:(List E9)):Option Int:=G190 (λx=>x) a0
theorem aW8 (L:Nat)(a0:(List E9)):fP prog aJZ (bO L) f190 (aS5.enc a0)=(aNh L a0).map aE5:=by
 refine .trans (b:=G190 aE5 a0) (by kernel_rfl) ?_;unfold aNh G190
 repeat' first | with_reducible refine eC ?_ ?_ | with_reducible refine eA λ_=>?_ | with_reducible refine eB λ_=>?_ | exact rfl
def aOt (L:Nat)(x:(List E9)):Option Int:=aNh L x
theorem aUW (m:Y190)(hm:∀ (x:(List E9)) t,m x=some t->∃ L,aOt L x=some t):Sat prog cxT 190 (aCL m):=
 cF bD aZ (by rfl) (fn:=f190) rfl aS5 aE5 aKN m aJZ aY aR (aOt) (λL x=>aW8 L x) hm aPT
def aKp:Env cxT:={ Kc:=dD [],Kw:=dF [],lv:=λi=>[],xv:=λi=>none }
def G124 {B:Type}(u:E9->B)(a0:(List E9)):Option B:=
 bif ((Nat.cast (List.length a0):Int) == (0:Int))then some (u ((0:Int),(0:Int),(0:Int),(0:Int),(0:Int),(0:Int),(0:Int),(0:Int),(0:Int)))
 else bif ((decide ((0:Int)<=(wrap .i64 ((Nat.cast (List.length a0):Int)-(1:Int)))))&&(decide ((wrap .i64 ((Nat.cast (List.length a0):Int)-(1:Int))) < (Nat.cast (List.length a0):Int))))then fB (List.getD a0 (Int.toNat (wrap .i64 ((Nat.cast (List.length a0):Int)-(1:Int)))) ((0:Int),((0:Int),((0:Int),((0:Int),((0:Int),((0:Int),((0:Int),((0:Int),(0:Int)))))))))) λs1_0=>some (u (s1_0.1,s1_0.2.1,s1_0.2.2.1,s1_0.2.2.2.1,s1_0.2.2.2.2.1,s1_0.2.2.2.2.2.1,s1_0.2.2.2.2.2.2.1,s1_0.2.2.2.2.2.2.2.1,s1_0.2.2.2.2.2.2.2.2))
 else none
def aIv (L:Nat)(a0:(List E9)):Option E9:=G124 (λx=>x) a0
theorem aXJ (L:Nat)(a0:(List E9)):fP prog aKp (bO L) f124 (aTF.enc a0)=(aIv L a0).map aFv:=by
 refine .trans (b:=G124 aFv a0) (by kernel_rfl) ?_;unfold aIv G124
 repeat' first | with_reducible refine eC ?_ ?_ | with_reducible refine eA λ_=>?_ | with_reducible refine eB λ_=>?_ | exact rfl
def aLR (L:Nat)(x:(List E9)):Option E9:=aIv L x
theorem aVw (m:Y124)(hm:∀ (x:(List E9)) t,m x=some t->∃ L,aLR L x=some t):Sat prog cxT 124 (aFR m):=
 cF bD aZ (by rfl) (fn:=f124) rfl aTF aFv aLn m aKp aY aR (aLR) (λL x=>aXJ L x) hm aQt
def aKl:Env cxT:={ Kc:=dD [],Kw:=dF [],lv:=λi=>[],xv:=λi=>none }
def G138 {B:Type}(u:Bool->B)(a0_0:Int)(a0_1:Int)(a0_2:Int)(a0_3:Int)(a0_4:Int)(a0_5:Int)(a0_6:Int)(a0_7:Bool)(a0_8:(List E9)):Option B:=
 bif (a0_0 == (1:Int))then some (u (a0_6 == (0:Int)))
 else bif (a0_0 == (2:Int))then bif (a0_4 == (0:Int))then bif (a0_5 == (0:Int))then some (u (a0_6 == (0:Int)))
   else some (u false)
  else some (u false)
 else bif (a0_0 == (4:Int))then bif (a0_5 == (0:Int))then some (u (a0_6 == (0:Int)))
  else some (u false)
 else some (u true)
def aNs (L:Nat)(a0_0:Int)(a0_1:Int)(a0_2:Int)(a0_3:Int)(a0_4:Int)(a0_5:Int)(a0_6:Int)(a0_7:Bool)(a0_8:(List E9)):Option Bool:=G138 (λx=>x) a0_0 a0_1 a0_2 a0_3 a0_4 a0_5 a0_6 a0_7 a0_8
theorem aXC (L:Nat)(a0_0:Int)(a0_1:Int)(a0_2:Int)(a0_3:Int)(a0_4:Int)(a0_5:Int)(a0_6:Int)(a0_7:Bool)(a0_8:(List E9)):fP prog aKl (bO L) f138 (aTz.enc (a0_0,a0_1,a0_2,a0_3,a0_4,a0_5,a0_6,a0_7,a0_8))=(aNs L a0_0 a0_1 a0_2 a0_3 a0_4 a0_5 a0_6 a0_7 a0_8).map aFr:=by
 refine .trans (b:=G138 aFr a0_0 a0_1 a0_2 a0_3 a0_4 a0_5 a0_6 a0_7 a0_8) (by kernel_rfl) ?_;unfold aNs G138
 repeat' first | with_reducible refine eC ?_ ?_ | with_reducible refine eA λ_=>?_ | with_reducible refine eB λ_=>?_ | exact rfl
def aOE (L:Nat)(x:M9):Option Bool:=aNs L x.1 x.2.1 x.2.2.1 x.2.2.2.1 x.2.2.2.2.1 x.2.2.2.2.2.1 x.2.2.2.2.2.2.1 x.2.2.2.2.2.2.2.1 x.2.2.2.2.2.2.2.2
theorem aVq (m:Y138)(hm:∀ (x:M9) t,m x=some t->∃ L,aOE L x=some t):Sat prog cxT 138 (aI4 m):=
 cF bD aZ (by rfl) (fn:=f138) rfl aTz aFr aLh m aKl aY aR (aOE) (λL x=>aXC L x.1 x.2.1 x.2.2.1 x.2.2.2.1 x.2.2.2.2.1 x.2.2.2.2.2.1 x.2.2.2.2.2.2.1 x.2.2.2.2.2.2.2.1 x.2.2.2.2.2.2.2.2) hm aQn
end Go.Proofs.Tryz
set_option maxHeartbeats 0
set_option maxRecDepth 100000
namespace Go.Proofs.Tryz
open Go.IntKind (wrap)
open Go Go.VM Go.RowKit
def ev3 (vL:Y11)(uV:Y13)(m12:Y12)(m14:Y14)(wH:Y15):Env cxT:={ Kc:=dD [(11,c11 vL),(13,c13 uV),(12,c12 m12),(14,c14 m14),(15,c15 wH)],Kw:=dF [],lv:=λi=>[],xv:=λi=>none }
def G3 {B:Type}(u:Bool->B)(vL:Y11)(uV:Y13)(m12:Y12)(m14:Y14)(wH:Y15)(a0_0:(List N10))(a0_1:(List M9))(a0_2:(List W2))(a0_3:(List S10)):Option B:=
 dL (vL (((a0_0,(a0_1,(a0_2,a0_3))).1,((a0_0,(a0_1,(a0_2,a0_3))).2.1,((a0_0,(a0_1,(a0_2,a0_3))).2.2.1,(a0_0,(a0_1,(a0_2,a0_3))).2.2.2))),(1048576:Int))) (0:Int) λ(q1:Int)=>bif (decide (q1 < (0:Int)))then some (u true)
  else dL (uV ((a0_0,(a0_1,(a0_2,a0_3))).1,((a0_0,(a0_1,(a0_2,a0_3))).2.1,((a0_0,(a0_1,(a0_2,a0_3))).2.2.1,(a0_0,(a0_1,(a0_2,a0_3))).2.2.2)))) ([],[],[],[]) λ(q2:C4)=>dL (m12 (q2.1,(q2.2.1,(q2.2.2.1,q2.2.2.2)))) (0:Int) λ(q3:Int)=>dL (uV ((a0_0,(a0_1,(a0_2,a0_3))).1,((a0_0,(a0_1,(a0_2,a0_3))).2.1,((a0_0,(a0_1,(a0_2,a0_3))).2.2.1,(a0_0,(a0_1,(a0_2,a0_3))).2.2.2)))) ([],[],[],[]) λ(q4:C4)=>dL (m14 (q2.1,(q2.2.1,(q2.2.2.1,q2.2.2.2)))) (0:Int) λ(q5:Int)=>bif (q5 != q3)then some (u false)
      else dL (uV ((a0_0,(a0_1,(a0_2,a0_3))).1,((a0_0,(a0_1,(a0_2,a0_3))).2.1,((a0_0,(a0_1,(a0_2,a0_3))).2.2.1,(a0_0,(a0_1,(a0_2,a0_3))).2.2.2)))) ([],[],[],[]) λ(q6:C4)=>dL (wH ((q2.1,(q2.2.1,(q2.2.2.1,q2.2.2.2))),(q2.1,(q2.2.1,(q2.2.2.1,q2.2.2.2))))) false λ(q7:Bool)=>bif (!q7)then some (u false)
        else some (u true)
def g3 (vL:Y11)(uV:Y13)(m12:Y12)(m14:Y14)(wH:Y15)(L:Nat)(a0_0:(List N10))(a0_1:(List M9))(a0_2:(List W2))(a0_3:(List S10)):Option Bool:=G3 (λx=>x) vL uV m12 m14 wH a0_0 a0_1 a0_2 a0_3
theorem e3 (vL:Y11)(uV:Y13)(m12:Y12)(m14:Y14)(wH:Y15)(L:Nat)(a0_0:(List N10))(a0_1:(List M9))(a0_2:(List W2))(a0_3:(List S10)):aIB prog (ev3 vL uV m12 m14 wH) (bO L) f3 (a3.enc (a0_0,a0_1,a0_2,a0_3))=(g3 vL uV m12 m14 wH L a0_0 a0_1 a0_2 a0_3).map n3:=by
 refine .trans (b:=G3 n3 vL uV m12 m14 wH a0_0 a0_1 a0_2 a0_3) (by kernel_rfl) ?_;unfold g3 G3
 repeat' first | with_reducible refine eC ?_ ?_ | with_reducible refine eA λ_=>?_ | with_reducible refine eB λ_=>?_ | exact rfl
def w3 (vL:Y11)(uV:Y13)(m12:Y12)(m14:Y14)(wH:Y15)(L:Nat)(x:C4):Option Bool:=g3 vL uV m12 m14 wH L x.1 x.2.1 x.2.2.1 x.2.2.2
theorem s3 (vL:Y11)(uV:Y13)(m12:Y12)(m14:Y14)(wH:Y15)(h11:Sat prog cxT 11 (c11 vL))(h13:Sat prog cxT 13 (c13 uV))(h12:Sat prog cxT 12 (c12 m12))(h14:Sat prog cxT 14 (c14 m14))(h15:Sat prog cxT 15 (c15 wH))(m:Y3)(hm:∀ (x:C4) t,m x=some t->∃ L,w3 vL uV m12 m14 wH L x=some t):Sat prog cxT 3 (c3 m):=
 aOP bD aZ (by rfl) (fn:=f3) rfl a3 n3 dd3 m (ev3 vL uV m12 m14 wH) (aN h11 (aN h13 (aN h12 (aN h14 (aN h15 aY))))) aR (w3 vL uV m12 m14 wH) (λL x=>e3 vL uV m12 m14 wH L x.1 x.2.1 x.2.2.1 x.2.2.2) hm hs3
end Go.Proofs.Tryz
