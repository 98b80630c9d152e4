/- A part of the proof of FnExactCopyMail: LiFi, LiFl, LiFm. -/
import Derived.Test.YtalbnpcbmakijaaGreatLiBase
set_option linter.unusedSimpArgs false
set_option linter.unusedVariables false
set_option maxHeartbeats 0
set_option maxRecDepth 100000
namespace Go.Proofs.Tryz
open Go.IntKind (wrap)
open Go Go.VM Go.RowKit
def aN8 (bM:Y88):Env cxT:={ Kc:=cS [(88,xQ bM)],Kw:=cR [],lv:=λi=>[],xv:=λi=>none }
def G183 {B:Type}(u:(Bool×Bool×Bool×Bool)->B)(bM:Y88)(a0:Int):Option B:=
 dB (bM (a0,((5:Int),(8:Int)))) false λ(q1:Bool)=>bif (a0 != (5:Int))then bif (a0 == (1:Int))then some (u ((a0 != (6:Int)),true,(a0 != (4:Int)),q1))
   else some (u ((a0 != (6:Int)),q1,(a0 != (4:Int)),q1))
  else bif (a0 == (1:Int))then some (u (false,true,(a0 != (4:Int)),q1))
  else some (u (false,q1,(a0 != (4:Int)),q1))
def aKp (bM:Y88)(L:Nat)(a0:Int):Option (Bool×Bool×Bool×Bool):=G183 (λx=>x) bM a0
theorem bEB (bM:Y88)(L:Nat)(a0:Int):fK prog (aN8 bM) (bJ L) f183 (aZp.enc a0)=(aKp bM L a0).map aHU:=by
 refine .trans (b:=G183 aHU bM a0) (by kernel_rfl) ?_;unfold aKp G183
 repeat' first | with_reducible refine dP ?_ ?_ | with_reducible refine dL λ_=>?_ | with_reducible refine dO λ_=>?_ | exact rfl
def aPR (bM:Y88)(L:Nat)(x:Int):Option (Bool×Bool×Bool×Bool):=aKp bM L x
theorem bBH (bM:Y88)(h88:Sat prog cxT 88 (xQ bM))(m:Y183)(hm:∀ (x:Int) t,m x=some t->∃ L,aPR bM L x=some t):Sat prog cxT 183 (aY0 m):=
 cD bA aW (by rfl) (fn:=f183) rfl aZp aHU aOZ m (aN8 bM) (aL h88 aV) aP (aPR bM) (λL x=>bEB bM L x) hm aVn
def aN7 (bM:Y88):Env cxT:={ Kc:=cS [(88,xQ bM)],Kw:=cR [],lv:=λi=>[],xv:=λi=>none }
def G184 {B:Type}(u:Bool->B)(bM:Y88)(a0:Int):Option B:=
 dB (bM (a0,((0:Int),(1000000:Int)))) false λ(q1:Bool)=>some (u q1)
def aR2 (bM:Y88)(L:Nat)(a0:Int):Option Bool:=G184 (λx=>x) bM a0
theorem bEA (bM:Y88)(L:Nat)(a0:Int):fK prog (aN7 bM) (bJ L) f184 (aZo.enc a0)=(aR2 bM L a0).map aHT:=by
 refine .trans (b:=G184 aHT bM a0) (by kernel_rfl) ?_;unfold aR2 G184
 repeat' first | with_reducible refine dP ?_ ?_ | with_reducible refine dL λ_=>?_ | with_reducible refine dO λ_=>?_ | exact rfl
def aTv (bM:Y88)(L:Nat)(x:Int):Option Bool:=aR2 bM L x
theorem bBG (bM:Y88)(h88:Sat prog cxT 88 (xQ bM))(m:Y184)(hm:∀ (x:Int) t,m x=some t->∃ L,aTv bM L x=some t):Sat prog cxT 184 (aYZ m):=
 cD bA aW (by rfl) (fn:=f184) rfl aZo aHT aOY m (aN7 bM) (aL h88 aV) aP (aTv bM) (λL x=>bEA bM L x) hm aVm
def aN6 (bM:Y88):Env cxT:={ Kc:=cS [(88,xQ bM)],Kw:=cR [],lv:=λi=>[],xv:=λi=>none }
def G185 {B:Type}(u:Bool->B)(bM:Y88)(a0:Int):Option B:=
 dB (bM (a0,((1:Int),(999:Int)))) false λ(q1:Bool)=>some (u q1)
def aR1 (bM:Y88)(L:Nat)(a0:Int):Option Bool:=G185 (λx=>x) bM a0
theorem bEz (bM:Y88)(L:Nat)(a0:Int):fK prog (aN6 bM) (bJ L) f185 (aZn.enc a0)=(aR1 bM L a0).map aHS:=by
 refine .trans (b:=G185 aHS bM a0) (by kernel_rfl) ?_;unfold aR1 G185
 repeat' first | with_reducible refine dP ?_ ?_ | with_reducible refine dL λ_=>?_ | with_reducible refine dO λ_=>?_ | exact rfl
def aTu (bM:Y88)(L:Nat)(x:Int):Option Bool:=aR1 bM L x
theorem bBF (bM:Y88)(h88:Sat prog cxT 88 (xQ bM))(m:Y185)(hm:∀ (x:Int) t,m x=some t->∃ L,aTu bM L x=some t):Sat prog cxT 185 (aYY m):=
 cD bA aW (by rfl) (fn:=f185) rfl aZn aHS aOX m (aN6 bM) (aL h88 aV) aP (aTu bM) (λL x=>bEz bM L x) hm aVl
def aN5 (bM:Y88):Env cxT:={ Kc:=cS [(88,xQ bM)],Kw:=cR [],lv:=λi=>[],xv:=λi=>none }
def G186 {B:Type}(u:Bool->B)(bM:Y88)(a0:Int):Option B:=
 dB (bM (a0,((0:Int),(4294967295:Int)))) false λ(q1:Bool)=>some (u q1)
def aR0 (bM:Y88)(L:Nat)(a0:Int):Option Bool:=G186 (λx=>x) bM a0
theorem bEy (bM:Y88)(L:Nat)(a0:Int):fK prog (aN5 bM) (bJ L) f186 (aZm.enc a0)=(aR0 bM L a0).map aHR:=by
 refine .trans (b:=G186 aHR bM a0) (by kernel_rfl) ?_;unfold aR0 G186
 repeat' first | with_reducible refine dP ?_ ?_ | with_reducible refine dL λ_=>?_ | with_reducible refine dO λ_=>?_ | exact rfl
def aTt (bM:Y88)(L:Nat)(x:Int):Option Bool:=aR0 bM L x
theorem bBE (bM:Y88)(h88:Sat prog cxT 88 (xQ bM))(m:Y186)(hm:∀ (x:Int) t,m x=some t->∃ L,aTt bM L x=some t):Sat prog cxT 186 (aYX m):=
 cD bA aW (by rfl) (fn:=f186) rfl aZm aHR aOW m (aN5 bM) (aL h88 aV) aP (aTt bM) (λL x=>bEy bM L x) hm aVk
def aN4 (bM:Y88)(m213:Y213):Env cxT:={ Kc:=cS [(88,xQ bM),(213,aMz m213)],Kw:=cR [],lv:=λi=>[],xv:=λi=>none }
def G187 {B:Type}(u:Bool->B)(bM:Y88)(m213:Y213)(a0_0:Int)(a0_1:Int)(a0_2:Int)(a0_3:Int)(a0_4:Int)(a0_5:Int):Option B:=
 bif (a0_0 == (1:Int))then dB (bM (a0_4,((0:Int),(9:Int)))) false λ(q2:Bool)=>some (u q2)
 else bif (a0_0 == (2:Int))then dB (bM (a0_4,((0:Int),(9:Int)))) false λ(q2:Bool)=>some (u q2)
 else bif (a0_0 == (3:Int))then dB (bM (a0_4,((1:Int),(3:Int)))) false λ(q2:Bool)=>some (u q2)
 else bif (a0_0 == (9:Int))then dB (bM (a0_4,((0:Int),(1:Int)))) false λ(q2:Bool)=>some (u q2)
 else dB (m213 a0_4) false λ(q1:Bool)=>some (u q1)
def aKo (bM:Y88)(m213:Y213)(L:Nat)(a0_0:Int)(a0_1:Int)(a0_2:Int)(a0_3:Int)(a0_4:Int)(a0_5:Int):Option Bool:=G187 (λx=>x) bM m213 a0_0 a0_1 a0_2 a0_3 a0_4 a0_5
theorem bEx (bM:Y88)(m213:Y213)(L:Nat)(a0_0:Int)(a0_1:Int)(a0_2:Int)(a0_3:Int)(a0_4:Int)(a0_5:Int):fK prog (aN4 bM m213) (bJ L) f187 (aZl.enc (a0_0,a0_1,a0_2,a0_3,a0_4,a0_5))=(aKo bM m213 L a0_0 a0_1 a0_2 a0_3 a0_4 a0_5).map aHQ:=by
 refine .trans (b:=G187 aHQ bM m213 a0_0 a0_1 a0_2 a0_3 a0_4 a0_5) (by kernel_rfl) ?_;unfold aKo G187
 repeat' first | with_reducible refine dP ?_ ?_ | with_reducible refine dL λ_=>?_ | with_reducible refine dO λ_=>?_ | exact rfl
def aPQ (bM:Y88)(m213:Y213)(L:Nat)(x:(Int×Int×Int×Int×Int×Int)):Option Bool:=aKo bM m213 L x.1 x.2.1 x.2.2.1 x.2.2.2.1 x.2.2.2.2.1 x.2.2.2.2.2
theorem bBD (bM:Y88)(m213:Y213)(h88:Sat prog cxT 88 (xQ bM))(h213:Sat prog cxT 213 (aMz m213))(m:Y187)(hm:∀ (x:(Int×Int×Int×Int×Int×Int)) t,m x=some t->∃ L,aPQ bM m213 L x=some t):Sat prog cxT 187 (aYW m):=
 cD bA aW (by rfl) (fn:=f187) rfl aZl aHQ aOV m (aN4 bM m213) (aL h88 (aL h213 aV)) aP (aPQ bM m213) (λL x=>bEx bM m213 L x.1 x.2.1 x.2.2.1 x.2.2.2.1 x.2.2.2.2.1 x.2.2.2.2.2) hm aVj
def aN3:Env cxT:={ Kc:=cS [],Kw:=cR [],lv:=λi=>[],xv:=λi=>none }
def G188 {B:Type}(u:Bool->B)(a0:Int):Option B:=
 bif (a0 == (6:Int))then some (u true)
 else some (u (a0 == (17:Int)))
def aRZ (L:Nat)(a0:Int):Option Bool:=G188 (λx=>x) a0
theorem bEw (L:Nat)(a0:Int):fK prog aN3 (bJ L) f188 (aZk.enc a0)=(aRZ L a0).map aHP:=by
 refine .trans (b:=G188 aHP a0) (by kernel_rfl) ?_;unfold aRZ G188
 repeat' first | with_reducible refine dP ?_ ?_ | with_reducible refine dL λ_=>?_ | with_reducible refine dO λ_=>?_ | exact rfl
def aTs (L:Nat)(x:Int):Option Bool:=aRZ L x
theorem bBC (m:Y188)(hm:∀ (x:Int) t,m x=some t->∃ L,aTs L x=some t):Sat prog cxT 188 (aYV m):=
 cD bA aW (by rfl) (fn:=f188) rfl aZk aHP aOU m aN3 aV aP (aTs) (λL x=>bEw L x) hm aVi
def aNY (bM:Y88):Env cxT:={ Kc:=cS [(88,xQ bM)],Kw:=cR [],lv:=λi=>[],xv:=λi=>none }
def G213 {B:Type}(u:Bool->B)(bM:Y88)(a0:Int):Option B:=
 dB (bM (a0,((0:Int),(65535:Int)))) false λ(q1:Bool)=>some (u q1)
def aRW (bM:Y88)(L:Nat)(a0:Int):Option Bool:=G213 (λx=>x) bM a0
theorem bEr (bM:Y88)(L:Nat)(a0:Int):fK prog (aNY bM) (bJ L) f213 (aZf.enc a0)=(aRW bM L a0).map aHK:=by
 refine .trans (b:=G213 aHK bM a0) (by kernel_rfl) ?_;unfold aRW G213
 repeat' first | with_reducible refine dP ?_ ?_ | with_reducible refine dL λ_=>?_ | with_reducible refine dO λ_=>?_ | exact rfl
def aTp (bM:Y88)(L:Nat)(x:Int):Option Bool:=aRW bM L x
theorem bBx (bM:Y88)(h88:Sat prog cxT 88 (xQ bM))(m:Y213)(hm:∀ (x:Int) t,m x=some t->∃ L,aTp bM L x=some t):Sat prog cxT 213 (aMz m):=
 cD bA aW (by rfl) (fn:=f213) rfl aZf aHK aOP m (aNY bM) (aL h88 aV) aP (aTp bM) (λL x=>bEr bM L x) hm aVd
def aN0:Env cxT:={ Kc:=cS [],Kw:=cR [],lv:=λi=>[],xv:=λi=>none }
def G191 {B:Type}(u:Bool->B)(a0:Int):Option B:=
 bif (decide (a0>=(0:Int)))then some (u (decide (a0<=(1000000:Int))))
 else some (u false)
def aRX (L:Nat)(a0:Int):Option Bool:=G191 (λx=>x) a0
theorem bEt (L:Nat)(a0:Int):fK prog aN0 (bJ L) f191 (aZh.enc a0)=(aRX L a0).map aHM:=by
 refine .trans (b:=G191 aHM a0) (by kernel_rfl) ?_;unfold aRX G191
 repeat' first | with_reducible refine dP ?_ ?_ | with_reducible refine dL λ_=>?_ | with_reducible refine dO λ_=>?_ | exact rfl
def aTq (L:Nat)(x:Int):Option Bool:=aRX L x
theorem bBz (m:Y191)(hm:∀ (x:Int) t,m x=some t->∃ L,aTq L x=some t):Sat prog cxT 191 (aYU m):=
 cD bA aW (by rfl) (fn:=f191) rfl aZh aHM aOR m aN0 aV aP (aTq) (λL x=>bEt L x) hm aVf
def aNX:Env cxT:={ Kc:=cS [],Kw:=cR [],lv:=λi=>[],xv:=λi=>none }
def G214 {B:Type}(u:Bool->B)(a0:Int):Option B:=
 bif (decide (a0>=(1:Int)))then some (u (decide (a0<=(999:Int))))
 else some (u false)
def aRV (L:Nat)(a0:Int):Option Bool:=G214 (λx=>x) a0
theorem bEq (L:Nat)(a0:Int):fK prog aNX (bJ L) f214 (aZe.enc a0)=(aRV L a0).map aHJ:=by
 refine .trans (b:=G214 aHJ a0) (by kernel_rfl) ?_;unfold aRV G214
 repeat' first | with_reducible refine dP ?_ ?_ | with_reducible refine dL λ_=>?_ | with_reducible refine dO λ_=>?_ | exact rfl
def aTo (L:Nat)(x:Int):Option Bool:=aRV L x
theorem bBw (m:Y214)(hm:∀ (x:Int) t,m x=some t->∃ L,aTo L x=some t):Sat prog cxT 214 (aYT m):=
 cD bA aW (by rfl) (fn:=f214) rfl aZe aHJ aOO m aNX aV aP (aTo) (λL x=>bEq L x) hm aVc
def aNW:Env cxT:={ Kc:=cS [],Kw:=cR [],lv:=λi=>[],xv:=λi=>none }
def G215 {B:Type}(u:Bool->B)(a0:Int):Option B:=
 bif (decide (a0>=(0:Int)))then some (u (decide (a0<=(4294967295:Int))))
 else some (u false)
def aRU (L:Nat)(a0:Int):Option Bool:=G215 (λx=>x) a0
theorem bEp (L:Nat)(a0:Int):fK prog aNW (bJ L) f215 (aZd.enc a0)=(aRU L a0).map aHI:=by
 refine .trans (b:=G215 aHI a0) (by kernel_rfl) ?_;unfold aRU G215
 repeat' first | with_reducible refine dP ?_ ?_ | with_reducible refine dL λ_=>?_ | with_reducible refine dO λ_=>?_ | exact rfl
def aTn (L:Nat)(x:Int):Option Bool:=aRU L x
theorem bBv (m:Y215)(hm:∀ (x:Int) t,m x=some t->∃ L,aTn L x=some t):Sat prog cxT 215 (aYS m):=
 cD bA aW (by rfl) (fn:=f215) rfl aZd aHI aON m aNW aV aP (aTn) (λL x=>bEp L x) hm aVb
def aNV:Env cxT:={ Kc:=cS [],Kw:=cR [],lv:=λi=>[],xv:=λi=>none }
def G216 {B:Type}(u:Bool->B)(a0:Int):Option B:=
 bif (decide (a0>=(0:Int)))then some (u (decide (a0<=(9:Int))))
 else some (u false)
def aRT (L:Nat)(a0:Int):Option Bool:=G216 (λx=>x) a0
theorem bEo (L:Nat)(a0:Int):fK prog aNV (bJ L) f216 (aZc.enc a0)=(aRT L a0).map aHH:=by
 refine .trans (b:=G216 aHH a0) (by kernel_rfl) ?_;unfold aRT G216
 repeat' first | with_reducible refine dP ?_ ?_ | with_reducible refine dL λ_=>?_ | with_reducible refine dO λ_=>?_ | exact rfl
def aTm (L:Nat)(x:Int):Option Bool:=aRT L x
theorem bBu (m:Y216)(hm:∀ (x:Int) t,m x=some t->∃ L,aTm L x=some t):Sat prog cxT 216 (aYR m):=
 cD bA aW (by rfl) (fn:=f216) rfl aZc aHH aOM m aNV aV aP (aTm) (λL x=>bEo L x) hm aVa
def aNU:Env cxT:={ Kc:=cS [],Kw:=cR [],lv:=λi=>[],xv:=λi=>none }
def G219 {B:Type}(u:Bool->B)(a0:Int):Option B:=
 bif (decide (a0>=(1:Int)))then some (u (decide (a0<=(3:Int))))
 else some (u false)
def aRS (L:Nat)(a0:Int):Option Bool:=G219 (λx=>x) a0
theorem bEn (L:Nat)(a0:Int):fK prog aNU (bJ L) f219 (aZb.enc a0)=(aRS L a0).map aHG:=by
 refine .trans (b:=G219 aHG a0) (by kernel_rfl) ?_;unfold aRS G219
 repeat' first | with_reducible refine dP ?_ ?_ | with_reducible refine dL λ_=>?_ | with_reducible refine dO λ_=>?_ | exact rfl
def aTl (L:Nat)(x:Int):Option Bool:=aRS L x
theorem bBt (m:Y219)(hm:∀ (x:Int) t,m x=some t->∃ L,aTl L x=some t):Sat prog cxT 219 (aYQ m):=
 cD bA aW (by rfl) (fn:=f219) rfl aZb aHG aOL m aNU aV aP (aTl) (λL x=>bEn L x) hm aU9
def aNT:Env cxT:={ Kc:=cS [],Kw:=cR [],lv:=λi=>[],xv:=λi=>none }
def G222 {B:Type}(u:Bool->B)(a0:Int):Option B:=
 bif (decide (a0>=(0:Int)))then some (u (decide (a0<=(65535:Int))))
 else some (u false)
def aRR (L:Nat)(a0:Int):Option Bool:=G222 (λx=>x) a0
theorem bEm (L:Nat)(a0:Int):fK prog aNT (bJ L) f222 (aZa.enc a0)=(aRR L a0).map aHF:=by
 refine .trans (b:=G222 aHF a0) (by kernel_rfl) ?_;unfold aRR G222
 repeat' first | with_reducible refine dP ?_ ?_ | with_reducible refine dL λ_=>?_ | with_reducible refine dO λ_=>?_ | exact rfl
def aTk (L:Nat)(x:Int):Option Bool:=aRR L x
theorem bBs (m:Y222)(hm:∀ (x:Int) t,m x=some t->∃ L,aTk L x=some t):Sat prog cxT 222 (aYP m):=
 cD bA aW (by rfl) (fn:=f222) rfl aZa aHF aOK m aNT aV aP (aTk) (λL x=>bEm L x) hm aU8
def aNS:Env cxT:={ Kc:=cS [],Kw:=cR [],lv:=λi=>[],xv:=λi=>none }
def G223 {B:Type}(u:Bool->B)(a0:Int):Option B:=
 bif (a0 == (6:Int))then some (u true)
 else some (u (a0 == (17:Int)))
def aRQ (L:Nat)(a0:Int):Option Bool:=G223 (λx=>x) a0
theorem bEl (L:Nat)(a0:Int):fK prog aNS (bJ L) f223 (aY9.enc a0)=(aRQ L a0).map aHE:=by
 refine .trans (b:=G223 aHE a0) (by kernel_rfl) ?_;unfold aRQ G223
 repeat' first | with_reducible refine dP ?_ ?_ | with_reducible refine dL λ_=>?_ | with_reducible refine dO λ_=>?_ | exact rfl
def aTj (L:Nat)(x:Int):Option Bool:=aRQ L x
theorem bBr (m:Y223)(hm:∀ (x:Int) t,m x=some t->∃ L,aTj L x=some t):Sat prog cxT 223 (aYO m):=
 cD bA aW (by rfl) (fn:=f223) rfl aY9 aHE aOJ m aNS aV aP (aTj) (λL x=>bEl L x) hm aU7
def aNR:Env cxT:={ Kc:=cS [],Kw:=cR [],lv:=λi=>[],xv:=λi=>none }
def G228 {B:Type}(u:Bool->B)(a0:Int):Option B:=
 bif (a0 == (0:Int))then some (u true)
 else some (u (a0 == (1:Int)))
def aRP (L:Nat)(a0:Int):Option Bool:=G228 (λx=>x) a0
theorem bEk (L:Nat)(a0:Int):fK prog aNR (bJ L) f228 (aY8.enc a0)=(aRP L a0).map aHD:=by
 refine .trans (b:=G228 aHD a0) (by kernel_rfl) ?_;unfold aRP G228
 repeat' first | with_reducible refine dP ?_ ?_ | with_reducible refine dL λ_=>?_ | with_reducible refine dO λ_=>?_ | exact rfl
def aTi (L:Nat)(x:Int):Option Bool:=aRP L x
theorem bBq (m:Y228)(hm:∀ (x:Int) t,m x=some t->∃ L,aTi L x=some t):Sat prog cxT 228 (aYN m):=
 cD bA aW (by rfl) (fn:=f228) rfl aY8 aHD aOI m aNR aV aP (aTi) (λL x=>bEk L x) hm aU6
end Go.Proofs.Tryz
set_option maxHeartbeats 0
set_option maxRecDepth 100000
namespace Go.Proofs.Tryz
open Go.IntKind (wrap)
open Go Go.VM Go.RowKit
def aN2 (fH:Y190):Env cxT:={ Kc:=cS [(190,aE5 fH)],Kw:=cR [],lv:=λi=>[],xv:=λi=>none }
def G189 {B:Type}(u:(Int×Int×Int×Int×Int×Int×Int×Int×Int×Bool)->B)(fH:Y190)(a0:(List E9))(a1:Int):Option B:=
 bif (decide (a1 < (1:Int)))then some (u ((0:Int),(0:Int),(0:Int),(0:Int),(0:Int),(0:Int),(0:Int),(0:Int),(0:Int),false))
 else dB (fH a0) (0:Int) λ(q1:Int)=>bif (decide (a1 > q1))then some (u ((0:Int),(0:Int),(0:Int),(0:Int),(0:Int),(0:Int),(0:Int),(0:Int),(0:Int),false))
  else bif ((decide ((0:Int)<=(wrap .i64 (a1-(1:Int)))))&&(decide ((wrap .i64 (a1-(1:Int))) < (Nat.cast (List.length a0):Int))))then dY (List.getD a0 (Int.toNat (wrap .i64 (a1-(1:Int)))) ((0:Int),((0:Int),((0:Int),((0:Int),((0:Int),((0:Int),((0:Int),((0:Int),(0:Int)))))))))) λs2_0=>some (u (s2_0.1,s2_0.2.1,s2_0.2.2.1,s2_0.2.2.2.1,s2_0.2.2.2.2.1,s2_0.2.2.2.2.2.1,s2_0.2.2.2.2.2.2.1,s2_0.2.2.2.2.2.2.2.1,s2_0.2.2.2.2.2.2.2.2,true))
  else none
def aKn (fH:Y190)(L:Nat)(a0:(List E9))(a1:Int):Option (Int×Int×Int×Int×Int×Int×Int×Int×Int×Bool):=G189 (λx=>x) fH a0 a1
theorem bEv (fH:Y190)(L:Nat)(a0:(List E9))(a1:Int):fK prog (aN2 fH) (bJ L) f189 (aZj.enc (a0,a1))=(aKn fH L a0 a1).map aHO:=by
 refine .trans (b:=G189 aHO fH a0 a1) (by kernel_rfl) ?_;unfold aKn G189
 repeat' first | with_reducible refine dP ?_ ?_ | with_reducible refine dL λ_=>?_ | with_reducible refine dO λ_=>?_ | exact rfl
def aPP (fH:Y190)(L:Nat)(x:((List E9)×Int)):Option (Int×Int×Int×Int×Int×Int×Int×Int×Int×Bool):=aKn fH L x.1 x.2
theorem bBB (fH:Y190)(h190:Sat prog cxT 190 (aE5 fH))(m:Y189)(hm:∀ (x:((List E9)×Int)) t,m x=some t->∃ L,aPP fH L x=some t):Sat prog cxT 189 (aMB m):=
 cD bA aW (by rfl) (fn:=f189) rfl aZj aHO aOT m (aN2 fH) (aL h190 aV) aP (aPP fH) (λL x=>bEv fH L x.1 x.2) hm aVh
def aN1:Env cxT:={ Kc:=cS [],Kw:=cR [],lv:=λi=>[],xv:=λi=>none }
def G190 {B:Type}(u:Int->B)(a0:(List E9)):Option B:=
 some (u (Nat.cast (List.length a0):Int))
def aRY (L:Nat)(a0:(List E9)):Option Int:=G190 (λx=>x) a0
theorem bEu (L:Nat)(a0:(List E9)):fK prog aN1 (bJ L) f190 (aZi.enc a0)=(aRY L a0).map aHN:=by
 refine .trans (b:=G190 aHN a0) (by kernel_rfl) ?_;unfold aRY G190
 repeat' first | with_reducible refine dP ?_ ?_ | with_reducible refine dL λ_=>?_ | with_reducible refine dO λ_=>?_ | exact rfl
def aTr (L:Nat)(x:(List E9)):Option Int:=aRY L x
theorem bBA (m:Y190)(hm:∀ (x:(List E9)) t,m x=some t->∃ L,aTr L x=some t):Sat prog cxT 190 (aE5 m):=
 cD bA aW (by rfl) (fn:=f190) rfl aZi aHN aOS m aN1 aV aP (aTr) (λL x=>bEu L x) hm aVg
def aOr:Env cxT:={ Kc:=cS [],Kw:=cR [],lv:=λi=>[],xv:=λi=>none }
def G124 {B:Type}(u:E9->B)(a0:(List E9)):Option B:=
 bif ((Nat.cast (List.length a0):Int) == (0:Int))then some (u ((0:Int),(0:Int),(0:Int),(0:Int),(0:Int),(0:Int),(0:Int),(0:Int),(0:Int)))
 else bif ((decide ((0:Int)<=(wrap .i64 ((Nat.cast (List.length a0):Int)-(1:Int)))))&&(decide ((wrap .i64 ((Nat.cast (List.length a0):Int)-(1:Int))) < (Nat.cast (List.length a0):Int))))then dY (List.getD a0 (Int.toNat (wrap .i64 ((Nat.cast (List.length a0):Int)-(1:Int)))) ((0:Int),((0:Int),((0:Int),((0:Int),((0:Int),((0:Int),((0:Int),((0:Int),(0:Int)))))))))) λs1_0=>some (u (s1_0.1,s1_0.2.1,s1_0.2.2.1,s1_0.2.2.2.1,s1_0.2.2.2.2.1,s1_0.2.2.2.2.2.1,s1_0.2.2.2.2.2.2.1,s1_0.2.2.2.2.2.2.2.1,s1_0.2.2.2.2.2.2.2.2))
 else none
def aMg (L:Nat)(a0:(List E9)):Option E9:=G124 (λx=>x) a0
theorem bE7 (L:Nat)(a0:(List E9)):fK prog aOr (bJ L) f124 (aZU.enc a0)=(aMg L a0).map aId:=by
 refine .trans (b:=G124 aId a0) (by kernel_rfl) ?_;unfold aMg G124
 repeat' first | with_reducible refine dP ?_ ?_ | with_reducible refine dL λ_=>?_ | with_reducible refine dO λ_=>?_ | exact rfl
def aQc (L:Nat)(x:(List E9)):Option E9:=aMg L x
theorem bCc (m:Y124)(hm:∀ (x:(List E9)) t,m x=some t->∃ L,aQc L x=some t):Sat prog cxT 124 (aID m):=
 cD bA aW (by rfl) (fn:=f124) rfl aZU aId aPu m aOr aV aP (aQc) (λL x=>bE7 L x) hm aVS
def aOn:Env cxT:={ Kc:=cS [],Kw:=cR [],lv:=λi=>[],xv:=λi=>none }
def G138 {B:Type}(u:Bool->B)(a0_0:Int)(a0_1:Int)(a0_2:Int)(a0_3:Int)(a0_4:Int)(a0_5:Int)(a0_6:Int)(a0_7:Bool)(a0_8:(List E9)):Option B:=
 bif (a0_0 == (1:Int))then some (u (a0_6 == (0:Int)))
 else bif (a0_0 == (2:Int))then bif (a0_4 == (0:Int))then bif (a0_5 == (0:Int))then some (u (a0_6 == (0:Int)))
   else some (u false)
  else some (u false)
 else bif (a0_0 == (4:Int))then bif (a0_5 == (0:Int))then some (u (a0_6 == (0:Int)))
  else some (u false)
 else some (u true)
def aR9 (L:Nat)(a0_0:Int)(a0_1:Int)(a0_2:Int)(a0_3:Int)(a0_4:Int)(a0_5:Int)(a0_6:Int)(a0_7:Bool)(a0_8:(List E9)):Option Bool:=G138 (λx=>x) a0_0 a0_1 a0_2 a0_3 a0_4 a0_5 a0_6 a0_7 a0_8
theorem bE0 (L:Nat)(a0_0:Int)(a0_1:Int)(a0_2:Int)(a0_3:Int)(a0_4:Int)(a0_5:Int)(a0_6:Int)(a0_7:Bool)(a0_8:(List E9)):fK prog aOn (bJ L) f138 (aZO.enc (a0_0,a0_1,a0_2,a0_3,a0_4,a0_5,a0_6,a0_7,a0_8))=(aR9 L a0_0 a0_1 a0_2 a0_3 a0_4 a0_5 a0_6 a0_7 a0_8).map aH9:=by
 refine .trans (b:=G138 aH9 a0_0 a0_1 a0_2 a0_3 a0_4 a0_5 a0_6 a0_7 a0_8) (by kernel_rfl) ?_;unfold aR9 G138
 repeat' first | with_reducible refine dP ?_ ?_ | with_reducible refine dL λ_=>?_ | with_reducible refine dO λ_=>?_ | exact rfl
def aTC (L:Nat)(x:M9):Option Bool:=aR9 L x.1 x.2.1 x.2.2.1 x.2.2.2.1 x.2.2.2.2.1 x.2.2.2.2.2.1 x.2.2.2.2.2.2.1 x.2.2.2.2.2.2.2.1 x.2.2.2.2.2.2.2.2
theorem bB6 (m:Y138)(hm:∀ (x:M9) t,m x=some t->∃ L,aTC L x=some t):Sat prog cxT 138 (aMS m):=
 cD bA aW (by rfl) (fn:=f138) rfl aZO aH9 aPo m aOn aV aP (aTC) (λL x=>bE0 L x.1 x.2.1 x.2.2.1 x.2.2.2.1 x.2.2.2.2.1 x.2.2.2.2.2.1 x.2.2.2.2.2.2.1 x.2.2.2.2.2.2.2.1 x.2.2.2.2.2.2.2.2) hm aVM
end Go.Proofs.Tryz
set_option maxHeartbeats 0
set_option maxRecDepth 100000
namespace Go.Proofs.Tryz
open Go.IntKind (wrap)
open Go Go.VM Go.RowKit
def ev3 (pH:Y11)(oB:Y13)(m12:Y12)(m14:Y14)(kG:Y15):Env cxT:={ Kc:=cS [(11,c11 pH),(13,c13 oB),(12,c12 m12),(14,c14 m14),(15,c15 kG)],Kw:=cR [],lv:=λi=>[],xv:=λi=>none }
def G3 {B:Type}(u:Bool->B)(pH:Y11)(oB:Y13)(m12:Y12)(m14:Y14)(kG:Y15)(a0_0:(List N10))(a0_1:(List M9))(a0_2:(List W2))(a0_3:(List S10)):Option B:=
 dB (pH (((a0_0,(a0_1,(a0_2,a0_3))).1,((a0_0,(a0_1,(a0_2,a0_3))).2.1,((a0_0,(a0_1,(a0_2,a0_3))).2.2.1,(a0_0,(a0_1,(a0_2,a0_3))).2.2.2))),(1048576:Int))) (0:Int) λ(q1:Int)=>bif (decide (q1 < (0:Int)))then some (u true)
  else dB (oB ((a0_0,(a0_1,(a0_2,a0_3))).1,((a0_0,(a0_1,(a0_2,a0_3))).2.1,((a0_0,(a0_1,(a0_2,a0_3))).2.2.1,(a0_0,(a0_1,(a0_2,a0_3))).2.2.2)))) ([],[],[],[]) λ(q2:C4)=>dB (m12 (q2.1,(q2.2.1,(q2.2.2.1,q2.2.2.2)))) (0:Int) λ(q3:Int)=>dB (oB ((a0_0,(a0_1,(a0_2,a0_3))).1,((a0_0,(a0_1,(a0_2,a0_3))).2.1,((a0_0,(a0_1,(a0_2,a0_3))).2.2.1,(a0_0,(a0_1,(a0_2,a0_3))).2.2.2)))) ([],[],[],[]) λ(q4:C4)=>dB (m14 (q2.1,(q2.2.1,(q2.2.2.1,q2.2.2.2)))) (0:Int) λ(q5:Int)=>bif (q5 != q3)then some (u false)
      else dB (oB ((a0_0,(a0_1,(a0_2,a0_3))).1,((a0_0,(a0_1,(a0_2,a0_3))).2.1,((a0_0,(a0_1,(a0_2,a0_3))).2.2.1,(a0_0,(a0_1,(a0_2,a0_3))).2.2.2)))) ([],[],[],[]) λ(q6:C4)=>dB (kG ((q2.1,(q2.2.1,(q2.2.2.1,q2.2.2.2))),(q2.1,(q2.2.1,(q2.2.2.1,q2.2.2.2))))) false λ(q7:Bool)=>bif (!q7)then some (u false)
        else some (u true)
def g3 (pH:Y11)(oB:Y13)(m12:Y12)(m14:Y14)(kG:Y15)(L:Nat)(a0_0:(List N10))(a0_1:(List M9))(a0_2:(List W2))(a0_3:(List S10)):Option Bool:=G3 (λx=>x) pH oB m12 m14 kG a0_0 a0_1 a0_2 a0_3
theorem e3 (pH:Y11)(oB:Y13)(m12:Y12)(m14:Y14)(kG:Y15)(L:Nat)(a0_0:(List N10))(a0_1:(List M9))(a0_2:(List W2))(a0_3:(List S10)):aKT prog (ev3 pH oB m12 m14 kG) (bJ L) f3 (a3.enc (a0_0,a0_1,a0_2,a0_3))=(g3 pH oB m12 m14 kG L a0_0 a0_1 a0_2 a0_3).map n3:=by
 refine .trans (b:=G3 n3 pH oB m12 m14 kG a0_0 a0_1 a0_2 a0_3) (by kernel_rfl) ?_;unfold g3 G3
 repeat' first | with_reducible refine dP ?_ ?_ | with_reducible refine dL λ_=>?_ | with_reducible refine dO λ_=>?_ | exact rfl
def w3 (pH:Y11)(oB:Y13)(m12:Y12)(m14:Y14)(kG:Y15)(L:Nat)(x:C4):Option Bool:=g3 pH oB m12 m14 kG L x.1 x.2.1 x.2.2.1 x.2.2.2
theorem s3 (pH:Y11)(oB:Y13)(m12:Y12)(m14:Y14)(kG:Y15)(h11:Sat prog cxT 11 (c11 pH))(h13:Sat prog cxT 13 (c13 oB))(h12:Sat prog cxT 12 (c12 m12))(h14:Sat prog cxT 14 (c14 m14))(h15:Sat prog cxT 15 (c15 kG))(m:Y3)(hm:∀ (x:C4) t,m x=some t->∃ L,w3 pH oB m12 m14 kG L x=some t):Sat prog cxT 3 (c3 m):=
 aNb bA aW (by rfl) (fn:=f3) rfl a3 n3 dd3 m (ev3 pH oB m12 m14 kG) (aL h11 (aL h13 (aL h12 (aL h14 (aL h15 aV))))) aP (w3 pH oB m12 m14 kG) (λL x=>e3 pH oB m12 m14 kG L x.1 x.2.1 x.2.2.1 x.2.2.2) hm hs3
end Go.Proofs.Tryz
