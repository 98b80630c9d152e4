/- A part of the proof of FnExactCopyMail: LiFc, LiFd, LiFk. -/
import Derived.Test.YtalbnpcbmakijaaGreatLiBase
set_option linter.unusedSimpArgs false
set_option linter.unusedVariables false
set_option maxHeartbeats 0
set_option maxRecDepth 100000
namespace Go.Proofs.Tryz
open Go.IntKind (wrap)
open Go Go.VM Go.RowKit
def aNZ:Env cxT:={ Kc:=cS [],Kw:=cR [],lv:=λi=>[],xv:=λi=>none }
def G193 {B:Type}(u:Bool->B)(a0_0:Int)(a0_1:Int)(a0_2:Int)(a0_3:Int)(a0_4:Int)(a0_5:Int)(a1_0:Int)(a1_1:Int)(a1_2:Int)(a1_3:Int)(a1_4:Int)(a1_5:Int):Option B:=
 bif (a0_0 != a1_0)then some (u false)
 else bif (a0_1 != a1_1)then some (u false)
 else bif (a0_2 != a1_2)then some (u false)
 else bif (a0_3 != a1_3)then some (u false)
 else bif (a0_4 != a1_4)then some (u false)
 else bif (a0_5 != a1_5)then some (u false)
 else some (u true)
def aKm (L:Nat)(a0_0:Int)(a0_1:Int)(a0_2:Int)(a0_3:Int)(a0_4:Int)(a0_5:Int)(a1_0:Int)(a1_1:Int)(a1_2:Int)(a1_3:Int)(a1_4:Int)(a1_5:Int):Option Bool:=G193 (λx=>x) a0_0 a0_1 a0_2 a0_3 a0_4 a0_5 a1_0 a1_1 a1_2 a1_3 a1_4 a1_5
theorem bEs (L:Nat)(a0_0:Int)(a0_1:Int)(a0_2:Int)(a0_3:Int)(a0_4:Int)(a0_5:Int)(a1_0:Int)(a1_1:Int)(a1_2:Int)(a1_3:Int)(a1_4:Int)(a1_5:Int):fK prog aNZ (bJ L) f193 (aZg.enc ((a0_0,a0_1,a0_2,a0_3,a0_4,a0_5),(a1_0,a1_1,a1_2,a1_3,a1_4,a1_5)))=(aKm L a0_0 a0_1 a0_2 a0_3 a0_4 a0_5 a1_0 a1_1 a1_2 a1_3 a1_4 a1_5).map aHL:=by
 refine .trans (b:=G193 aHL a0_0 a0_1 a0_2 a0_3 a0_4 a0_5 a1_0 a1_1 a1_2 a1_3 a1_4 a1_5) (by kernel_rfl) ?_;unfold aKm G193
 repeat' first | with_reducible refine dP ?_ ?_ | with_reducible refine dL λ_=>?_ | with_reducible refine dO λ_=>?_ | exact rfl
def aPO (L:Nat)(x:((Int×Int×Int×Int×Int×Int)×(Int×Int×Int×Int×Int×Int))):Option Bool:=aKm L x.1.1 x.1.2.1 x.1.2.2.1 x.1.2.2.2.1 x.1.2.2.2.2.1 x.1.2.2.2.2.2 x.2.1 x.2.2.1 x.2.2.2.1 x.2.2.2.2.1 x.2.2.2.2.2.1 x.2.2.2.2.2.2
theorem bBy (m:Y193)(hm:∀ (x:((Int×Int×Int×Int×Int×Int)×(Int×Int×Int×Int×Int×Int))) t,m x=some t->∃ L,aPO L x=some t):Sat prog cxT 193 (aMA m):=
 cD bA aW (by rfl) (fn:=f193) rfl aZg aHL aOQ m aNZ aV aP (aPO) (λL x=>bEs L x.1.1 x.1.2.1 x.1.2.2.1 x.1.2.2.2.1 x.1.2.2.2.2.1 x.1.2.2.2.2.2 x.2.1 x.2.2.1 x.2.2.2.1 x.2.2.2.2.1 x.2.2.2.2.2.1 x.2.2.2.2.2.2) hm aVe
def aN9 (m193:Y193):Env cxT:={ Kc:=cS [(193,aMA m193)],Kw:=cR [],lv:=λi=>[],xv:=λi=>none }
def G161 {B:Type}(u:Bool->B)(m193:Y193)(a0_0:Int)(a0_1:Int)(a0_2:Int)(a0_3:Int)(a0_4:Int)(a0_5:Int)(a0_6:Int)(a0_7:Int)(a0_8:Int)(a1_0:Int)(a1_1:Int)(a1_2:Int)(a1_3:Int)(a1_4:Int)(a1_5:Int)(a1_6:Int)(a1_7:Int)(a1_8:Int):Option B:=
 bif (a0_0 != a1_0)then some (u false)
 else bif (a0_1 != a1_1)then some (u false)
 else bif (a0_2 != a1_2)then some (u false)
 else dB (m193 ((a0_3,(a0_4,(a0_5,(a0_6,(a0_7,a0_8))))),(a1_3,(a1_4,(a1_5,(a1_6,(a1_7,a1_8))))))) false λ(q1:Bool)=>bif (!q1)then some (u false)
  else some (u true)
def aKs (m193:Y193)(L:Nat)(a0_0:Int)(a0_1:Int)(a0_2:Int)(a0_3:Int)(a0_4:Int)(a0_5:Int)(a0_6:Int)(a0_7:Int)(a0_8:Int)(a1_0:Int)(a1_1:Int)(a1_2:Int)(a1_3:Int)(a1_4:Int)(a1_5:Int)(a1_6:Int)(a1_7:Int)(a1_8:Int):Option Bool:=G161 (λx=>x) m193 a0_0 a0_1 a0_2 a0_3 a0_4 a0_5 a0_6 a0_7 a0_8 a1_0 a1_1 a1_2 a1_3 a1_4 a1_5 a1_6 a1_7 a1_8
theorem bEF (m193:Y193)(L:Nat)(a0_0:Int)(a0_1:Int)(a0_2:Int)(a0_3:Int)(a0_4:Int)(a0_5:Int)(a0_6:Int)(a0_7:Int)(a0_8:Int)(a1_0:Int)(a1_1:Int)(a1_2:Int)(a1_3:Int)(a1_4:Int)(a1_5:Int)(a1_6:Int)(a1_7:Int)(a1_8:Int):fK prog (aN9 m193) (bJ L) f161 (aZt.enc ((a0_0,a0_1,a0_2,a0_3,a0_4,a0_5,a0_6,a0_7,a0_8),(a1_0,a1_1,a1_2,a1_3,a1_4,a1_5,a1_6,a1_7,a1_8)))=(aKs m193 L a0_0 a0_1 a0_2 a0_3 a0_4 a0_5 a0_6 a0_7 a0_8 a1_0 a1_1 a1_2 a1_3 a1_4 a1_5 a1_6 a1_7 a1_8).map aHV:=by
 refine .trans (b:=G161 aHV m193 a0_0 a0_1 a0_2 a0_3 a0_4 a0_5 a0_6 a0_7 a0_8 a1_0 a1_1 a1_2 a1_3 a1_4 a1_5 a1_6 a1_7 a1_8) (by kernel_rfl) ?_;unfold aKs G161
 repeat' first | with_reducible refine dP ?_ ?_ | with_reducible refine dL λ_=>?_ | with_reducible refine dO λ_=>?_ | exact rfl
def aPV (m193:Y193)(L:Nat)(x:(E9×E9)):Option Bool:=aKs m193 L x.1.1 x.1.2.1 x.1.2.2.1 x.1.2.2.2.1 x.1.2.2.2.2.1 x.1.2.2.2.2.2.1 x.1.2.2.2.2.2.2.1 x.1.2.2.2.2.2.2.2.1 x.1.2.2.2.2.2.2.2.2 x.2.1 x.2.2.1 x.2.2.2.1 x.2.2.2.2.1 x.2.2.2.2.2.1 x.2.2.2.2.2.2.1 x.2.2.2.2.2.2.2.1 x.2.2.2.2.2.2.2.2.1 x.2.2.2.2.2.2.2.2.2
theorem bBL (m193:Y193)(h193:Sat prog cxT 193 (aMA m193))(m:Y161)(hm:∀ (x:(E9×E9)) t,m x=some t->∃ L,aPV m193 L x=some t):Sat prog cxT 161 (aIv m):=
 cD bA aW (by rfl) (fn:=f161) rfl aZt aHV aO3 m (aN9 m193) (aL h193 aV) aP (aPV m193) (λL x=>bEF m193 L x.1.1 x.1.2.1 x.1.2.2.1 x.1.2.2.2.1 x.1.2.2.2.2.1 x.1.2.2.2.2.2.1 x.1.2.2.2.2.2.2.1 x.1.2.2.2.2.2.2.2.1 x.1.2.2.2.2.2.2.2.2 x.2.1 x.2.2.1 x.2.2.2.1 x.2.2.2.2.1 x.2.2.2.2.2.1 x.2.2.2.2.2.2.1 x.2.2.2.2.2.2.2.1 x.2.2.2.2.2.2.2.2.1 x.2.2.2.2.2.2.2.2.2) hm aVr
def uC (m161:Y161):Env cxT:={ Kc:=cS [(161,aIv m161)],Kw:=cR [],lv:=λi=>if i=0 then[(0,[some 102]),(1,[some 102]),(5,[])]else[],xv:=λi=>if i=0 then some []else none }
def S159_0 (a0:(List E9))(a1:(List E9))(v0_5:Int):St cxT.ty:={ slots:=[(.inl (.inl (ls { own:=0,nm:=0,e:=102,o:=false,xs:=a0 }))),(.inl (.inl (ls { own:=0,nm:=0,e:=102,o:=false,xs:=a1 }))),aK,aK,aK,(.inl (.inl (lv (.int .i64 v0_5))))]++List.replicate 21 aK,D:=[],F:=[],ctr:=1 }
def X159_0 (a0:(List E9))(a1:(List E9)):St cxT.ty:={ slots:=[]++List.replicate 27 aK,D:=[],F:=[],ctr:=1 }
def G159 {B:Type}(u:Bool->B)(hh0:Int->Option B)(m161:Y161)(a0:(List E9))(a1:(List E9)):Option B:=
 bif ((Nat.cast (List.length a0):Int) != (Nat.cast (List.length a1):Int))then some (u false)
 else hh0 (0:Int)
def B159_0 {B:Type}(u:Bool->B)(gg:Int->Option B)(kk:Option B)(m161:Y161)(a0:(List E9))(a1:(List E9))(v0_5:Int):Option B:=
 bif (decide (v0_5 < (Nat.cast (List.length a0):Int)))then dY (List.getD a0 v0_5.toNat ((0:Int),((0:Int),((0:Int),((0:Int),((0:Int),((0:Int),((0:Int),((0:Int),(0:Int)))))))))) λs1_0=>dY (List.getD a1 v0_5.toNat ((0:Int),((0:Int),((0:Int),((0:Int),((0:Int),((0:Int),((0:Int),((0:Int),(0:Int)))))))))) λs1_1=>bif ((decide ((0:Int)<=v0_5))&&(decide (v0_5 < (Nat.cast (List.length a0):Int))))then bif ((decide ((0:Int)<=v0_5))&&(decide (v0_5 < (Nat.cast (List.length a1):Int))))then dB (m161 ((s1_0.1,(s1_0.2.1,(s1_0.2.2.1,(s1_0.2.2.2.1,(s1_0.2.2.2.2.1,(s1_0.2.2.2.2.2.1,(s1_0.2.2.2.2.2.2.1,(s1_0.2.2.2.2.2.2.2.1,s1_0.2.2.2.2.2.2.2.2)))))))),(s1_1.1,(s1_1.2.1,(s1_1.2.2.1,(s1_1.2.2.2.1,(s1_1.2.2.2.2.1,(s1_1.2.2.2.2.2.1,(s1_1.2.2.2.2.2.2.1,(s1_1.2.2.2.2.2.2.2.1,s1_1.2.2.2.2.2.2.2.2)))))))))) false λ(q4:Bool)=>bif (!q4)then some (u false)
     else gg (wrap .i64 (v0_5+(1:Int)))
   else none
  else none
 else kk
def A159_0 {B:Type}(u:Bool->B)(m161:Y161)(a0:(List E9))(a1:(List E9)):Option B:=
 some (u true)
def vG (m161:Y161)(L:Nat)(a0:(List E9))(a1:(List E9)):Nat->Int->(Option Bool)->Option Bool
 | 0,_,_=>none
 | n+1,v0_5,k=>B159_0 (λx=>x) (λv0_5=>vG m161 L a0 a1 n v0_5 k) k m161 a0 a1 v0_5
theorem aJ6 (m161:Y161)(L:Nat)(a0:(List E9))(a1:(List E9))(k:St cxT.ty->Option (V cxT.ty))(xk:Nat->St cxT.ty->Option (V cxT.ty))(k':Option Bool)(hk:k (X159_0 a0 a1)=(k').map aAU):∀ (n:Nat) (v0_5:Int),bE prog (uC m161) L f159 0 [1,1,0,1,0,0] (bW (aX prog f159) k xk) n (S159_0 a0 a1 v0_5)=(vG m161 L a0 a1 n v0_5 k').map aAU
 | 0,_=>rfl
 | n+1,v0_5=>by
  rw[bP];have ih:=aJ6 m161 L a0 a1 k xk k' hk n;refine .trans (b:=B159_0 aAU (λv0_5=>(bE prog (uC m161) L f159 0 [1,1,0,1,0,0] (bW (aX prog f159) k xk) n) (S159_0 a0 a1 v0_5)) (k (X159_0 a0 a1)) m161 a0 a1 v0_5) (by kernel_rfl) ?_;unfold vG B159_0
  repeat' first | with_reducible refine dP ?_ ?_ | with_reducible refine dL λ_=>?_ | with_reducible refine dO λ_=>?_ | with_reducible exact ih _ | with_reducible exact hk | exact rfl
def aKu (m161:Y161)(L:Nat)(a0:(List E9))(a1:(List E9)):Option Bool:=G159 (λx=>x) (λv0_5=>vG m161 L a0 a1 L v0_5 (A159_0 (λx=>x) m161 a0 a1)) m161 a0 a1
theorem bEH (m161:Y161)(L:Nat)(a0:(List E9))(a1:(List E9)):fK prog (uC m161) (bJ L) f159 (aZv.enc (a0,a1))=(aKu m161 L a0 a1).map aAU:=by
 have hin0:∀ (v0_5:Int),bE prog (uC m161) L f159 0 [1,1,0,1,0,0] (bW (aX prog f159) (bV prog (uC m161) L f159 [1,1,0,1] (aX prog f159)).n (bV prog (uC m161) L f159 [1,1,0,1] (aX prog f159)).x) L (S159_0 a0 a1 v0_5)=((λv0_5=>vG m161 L a0 a1 L v0_5 (A159_0 (λx=>x) m161 a0 a1)) v0_5).map aAU:=λv0_5=>aJ6 m161 L a0 a1 _ _ _ (by refine .trans (b:=A159_0 aAU m161 a0 a1) (by kernel_rfl) ?_;unfold A159_0;repeat' first | with_reducible refine dP ?_ ?_ | with_reducible refine dL λ_=>?_ | with_reducible refine dO λ_=>?_ | exact rfl) L v0_5
 refine .trans (b:=G159 aAU (λv0_5=>bE prog (uC m161) L f159 0 [1,1,0,1,0,0] (bW (aX prog f159) (bV prog (uC m161) L f159 [1,1,0,1] (aX prog f159)).n (bV prog (uC m161) L f159 [1,1,0,1] (aX prog f159)).x) L (S159_0 a0 a1 v0_5)) m161 a0 a1) (by kernel_rfl) ?_;unfold aKu G159
 repeat' first | with_reducible refine dP ?_ ?_ | with_reducible refine dL λ_=>?_ | with_reducible refine dO λ_=>?_ | with_reducible exact hin0 _ | exact rfl
def aPX (m161:Y161)(L:Nat)(x:((List E9)×(List E9))):Option Bool:=aKu m161 L x.1 x.2
theorem bBN (m161:Y161)(h161:Sat prog cxT 161 (aIv m161))(m:Y159)(hm:∀ (x:((List E9)×(List E9))) t,m x=some t->∃ L,aPX m161 L x=some t):Sat prog cxT 159 (aIw m):=
 cD bA aW (by rfl) (fn:=f159) rfl aZv aAU aO5 m (uC m161) (aL h161 aV) aP (aPX m161) (λL x=>bEH m161 L x.1 x.2) hm aVt
def uB:Env cxT:={ Kc:=cS [],Kw:=cR [],lv:=λi=>if i=0 then[(0,[some 2]),(1,[some 2]),(5,[])]else[],xv:=λi=>if i=0 then some []else none }
def S160_0 (a0:(List Int))(a1:(List Int))(v0_5:Int):St cxT.ty:={ slots:=[(.inl (.inl (ls { own:=0,nm:=0,e:=2,o:=false,xs:=a0 }))),(.inl (.inl (ls { own:=0,nm:=0,e:=2,o:=false,xs:=a1 }))),aK,aK,aK,(.inl (.inl (lv (.int .i64 v0_5))))]++List.replicate 20 aK,D:=[],F:=[],ctr:=1 }
def X160_0 (a0:(List Int))(a1:(List Int)):St cxT.ty:={ slots:=[]++List.replicate 26 aK,D:=[],F:=[],ctr:=1 }
def G160 {B:Type}(u:Bool->B)(hh0:Int->Option B)(a0:(List Int))(a1:(List Int)):Option B:=
 bif ((Nat.cast (List.length a0):Int) != (Nat.cast (List.length a1):Int))then some (u false)
 else hh0 (0:Int)
def B160_0 {B:Type}(u:Bool->B)(gg:Int->Option B)(kk:Option B)(a0:(List Int))(a1:(List Int))(v0_5:Int):Option B:=
 bif (decide (v0_5 < (Nat.cast (List.length a0):Int)))then bif ((decide ((0:Int)<=v0_5))&&(decide (v0_5 < (Nat.cast (List.length a0):Int))))then bif ((decide ((0:Int)<=v0_5))&&(decide (v0_5 < (Nat.cast (List.length a1):Int))))then bif ((List.getD a0 v0_5.toNat (0:Int)) != (List.getD a1 v0_5.toNat (0:Int)))then some (u false)
    else gg (wrap .i64 (v0_5+(1:Int)))
   else none
  else none
 else kk
def A160_0 {B:Type}(u:Bool->B)(a0:(List Int))(a1:(List Int)):Option B:=
 some (u true)
def vF (L:Nat)(a0:(List Int))(a1:(List Int)):Nat->Int->(Option Bool)->Option Bool
 | 0,_,_=>none
 | n+1,v0_5,k=>B160_0 (λx=>x) (λv0_5=>vF L a0 a1 n v0_5 k) k a0 a1 v0_5
theorem aJ5 (L:Nat)(a0:(List Int))(a1:(List Int))(k:St cxT.ty->Option (V cxT.ty))(xk:Nat->St cxT.ty->Option (V cxT.ty))(k':Option Bool)(hk:k (X160_0 a0 a1)=(k').map aAT):∀ (n:Nat) (v0_5:Int),bE prog uB L f160 0 [1,1,0,1,0,0] (bW (aX prog f160) k xk) n (S160_0 a0 a1 v0_5)=(vF L a0 a1 n v0_5 k').map aAT
 | 0,_=>rfl
 | n+1,v0_5=>by
  rw[bP];have ih:=aJ5 L a0 a1 k xk k' hk n;refine .trans (b:=B160_0 aAT (λv0_5=>(bE prog uB L f160 0 [1,1,0,1,0,0] (bW (aX prog f160) k xk) n) (S160_0 a0 a1 v0_5)) (k (X160_0 a0 a1)) a0 a1 v0_5) (by kernel_rfl) ?_;unfold vF B160_0
  repeat' first | with_reducible refine dP ?_ ?_ | with_reducible refine dL λ_=>?_ | with_reducible refine dO λ_=>?_ | with_reducible exact ih _ | with_reducible exact hk | exact rfl
def aKt (L:Nat)(a0:(List Int))(a1:(List Int)):Option Bool:=G160 (λx=>x) (λv0_5=>vF L a0 a1 L v0_5 (A160_0 (λx=>x) a0 a1)) a0 a1
theorem bEG (L:Nat)(a0:(List Int))(a1:(List Int)):fK prog uB (bJ L) f160 (aZu.enc (a0,a1))=(aKt L a0 a1).map aAT:=by
 have hin0:∀ (v0_5:Int),bE prog uB L f160 0 [1,1,0,1,0,0] (bW (aX prog f160) (bV prog uB L f160 [1,1,0,1] (aX prog f160)).n (bV prog uB L f160 [1,1,0,1] (aX prog f160)).x) L (S160_0 a0 a1 v0_5)=((λv0_5=>vF L a0 a1 L v0_5 (A160_0 (λx=>x) a0 a1)) v0_5).map aAT:=λv0_5=>aJ5 L a0 a1 _ _ _ (by refine .trans (b:=A160_0 aAT a0 a1) (by kernel_rfl) ?_;unfold A160_0;repeat' first | with_reducible refine dP ?_ ?_ | with_reducible refine dL λ_=>?_ | with_reducible refine dO λ_=>?_ | exact rfl) L v0_5
 refine .trans (b:=G160 aAT (λv0_5=>bE prog uB L f160 0 [1,1,0,1,0,0] (bW (aX prog f160) (bV prog uB L f160 [1,1,0,1] (aX prog f160)).n (bV prog uB L f160 [1,1,0,1] (aX prog f160)).x) L (S160_0 a0 a1 v0_5)) a0 a1) (by kernel_rfl) ?_;unfold aKt G160
 repeat' first | with_reducible refine dP ?_ ?_ | with_reducible refine dL λ_=>?_ | with_reducible refine dO λ_=>?_ | with_reducible exact hin0 _ | exact rfl
def aPW (L:Nat)(x:((List Int)×(List Int))):Option Bool:=aKt L x.1 x.2
theorem bBM (m:Y160)(hm:∀ (x:((List Int)×(List Int))) t,m x=some t->∃ L,aPW L x=some t):Sat prog cxT 160 (aME m):=
 cD bA aW (by rfl) (fn:=f160) rfl aZu aAT aO4 m uB aV aP (aPW) (λL x=>bEG L x.1 x.2) hm aVs
def aWH (gZ:Y159)(lB:Y160):Env cxT:={ Kc:=cS [(159,aIw gZ),(160,aME lB)],Kw:=cR [],lv:=λi=>[],xv:=λi=>none }
def G98 {B:Type}(u:Bool->B)(gZ:Y159)(lB:Y160)(a0_0:Int)(a0_1:Int)(a0_2:Int)(a0_3:Int)(a0_4:(List E9))(a0_5:Int)(a0_6:Int)(a0_7:(List Int))(a0_8:(List Int))(a0_9:(List Int))(a1_0:Int)(a1_1:Int)(a1_2:Int)(a1_3:Int)(a1_4:(List E9))(a1_5:Int)(a1_6:Int)(a1_7:(List Int))(a1_8:(List Int))(a1_9:(List Int)):Option B:=
 bif (a0_0 != a1_0)then some (u false)
 else bif (a0_1 != a1_1)then some (u false)
 else bif (a0_2 != a1_2)then some (u false)
 else bif (a0_3 != a1_3)then some (u false)
 else dB (gZ (a0_4,a1_4)) false λ(q1:Bool)=>bif (!q1)then some (u false)
  else bif (a0_5 != a1_5)then some (u false)
  else bif (a0_6 != a1_6)then some (u false)
  else dB (lB (a0_7,a1_7)) false λ(q2:Bool)=>bif (!q2)then some (u false)
   else dB (lB (a0_8,a1_8)) false λ(q3:Bool)=>bif (!q3)then some (u false)
    else dB (lB (a0_9,a1_9)) false λ(q4:Bool)=>bif (!q4)then some (u false)
     else some (u true)
def g98 (gZ:Y159)(lB:Y160)(L:Nat)(a0_0:Int)(a0_1:Int)(a0_2:Int)(a0_3:Int)(a0_4:(List E9))(a0_5:Int)(a0_6:Int)(a0_7:(List Int))(a0_8:(List Int))(a0_9:(List Int))(a1_0:Int)(a1_1:Int)(a1_2:Int)(a1_3:Int)(a1_4:(List E9))(a1_5:Int)(a1_6:Int)(a1_7:(List Int))(a1_8:(List Int))(a1_9:(List Int)):Option Bool:=G98 (λx=>x) gZ lB a0_0 a0_1 a0_2 a0_3 a0_4 a0_5 a0_6 a0_7 a0_8 a0_9 a1_0 a1_1 a1_2 a1_3 a1_4 a1_5 a1_6 a1_7 a1_8 a1_9
theorem e98 (gZ:Y159)(lB:Y160)(L:Nat)(a0_0:Int)(a0_1:Int)(a0_2:Int)(a0_3:Int)(a0_4:(List E9))(a0_5:Int)(a0_6:Int)(a0_7:(List Int))(a0_8:(List Int))(a0_9:(List Int))(a1_0:Int)(a1_1:Int)(a1_2:Int)(a1_3:Int)(a1_4:(List E9))(a1_5:Int)(a1_6:Int)(a1_7:(List Int))(a1_8:(List Int))(a1_9:(List Int)):fK prog (aWH gZ lB) (bJ L) f98 (a98.enc ((a0_0,a0_1,a0_2,a0_3,a0_4,a0_5,a0_6,a0_7,a0_8,a0_9),(a1_0,a1_1,a1_2,a1_3,a1_4,a1_5,a1_6,a1_7,a1_8,a1_9)))=(g98 gZ lB L a0_0 a0_1 a0_2 a0_3 a0_4 a0_5 a0_6 a0_7 a0_8 a0_9 a1_0 a1_1 a1_2 a1_3 a1_4 a1_5 a1_6 a1_7 a1_8 a1_9).map n98:=by
 refine .trans (b:=G98 n98 gZ lB a0_0 a0_1 a0_2 a0_3 a0_4 a0_5 a0_6 a0_7 a0_8 a0_9 a1_0 a1_1 a1_2 a1_3 a1_4 a1_5 a1_6 a1_7 a1_8 a1_9) (by kernel_rfl) ?_;unfold g98 G98
 repeat' first | with_reducible refine dP ?_ ?_ | with_reducible refine dL λ_=>?_ | with_reducible refine dO λ_=>?_ | exact rfl
def w98 (gZ:Y159)(lB:Y160)(L:Nat)(x:(N10×N10)):Option Bool:=g98 gZ lB L x.1.1 x.1.2.1 x.1.2.2.1 x.1.2.2.2.1 x.1.2.2.2.2.1 x.1.2.2.2.2.2.1 x.1.2.2.2.2.2.2.1 x.1.2.2.2.2.2.2.2.1 x.1.2.2.2.2.2.2.2.2.1 x.1.2.2.2.2.2.2.2.2.2 x.2.1 x.2.2.1 x.2.2.2.1 x.2.2.2.2.1 x.2.2.2.2.2.1 x.2.2.2.2.2.2.1 x.2.2.2.2.2.2.2.1 x.2.2.2.2.2.2.2.2.1 x.2.2.2.2.2.2.2.2.2.1 x.2.2.2.2.2.2.2.2.2.2
theorem s98 (gZ:Y159)(lB:Y160)(h159:Sat prog cxT 159 (aIw gZ))(h160:Sat prog cxT 160 (aME lB))(m:Y98)(hm:∀ (x:(N10×N10)) t,m x=some t->∃ L,w98 gZ lB L x=some t):Sat prog cxT 98 (c98 m):=
 cD bA aW (by rfl) (fn:=f98) rfl a98 n98 aXu m (aWH gZ lB) (aL h159 (aL h160 aV)) aP (w98 gZ lB) (λL x=>e98 gZ lB L x.1.1 x.1.2.1 x.1.2.2.1 x.1.2.2.2.1 x.1.2.2.2.2.1 x.1.2.2.2.2.2.1 x.1.2.2.2.2.2.2.1 x.1.2.2.2.2.2.2.2.1 x.1.2.2.2.2.2.2.2.2.1 x.1.2.2.2.2.2.2.2.2.2 x.2.1 x.2.2.1 x.2.2.2.1 x.2.2.2.2.1 x.2.2.2.2.2.1 x.2.2.2.2.2.2.1 x.2.2.2.2.2.2.2.1 x.2.2.2.2.2.2.2.2.1 x.2.2.2.2.2.2.2.2.2.1 x.2.2.2.2.2.2.2.2.2.2) hm bCK
def aWG (gZ:Y159):Env cxT:={ Kc:=cS [(159,aIw gZ)],Kw:=cR [],lv:=λi=>[],xv:=λi=>none }
def G99 {B:Type}(u:Bool->B)(gZ:Y159)(a0_0:Int)(a0_1:Int)(a0_2:Int)(a0_3:Int)(a0_4:Int)(a0_5:Int)(a0_6:Int)(a0_7:Bool)(a0_8:(List E9))(a1_0:Int)(a1_1:Int)(a1_2:Int)(a1_3:Int)(a1_4:Int)(a1_5:Int)(a1_6:Int)(a1_7:Bool)(a1_8:(List E9)):Option B:=
 bif (a0_0 != a1_0)then some (u false)
 else bif (a0_1 != a1_1)then some (u false)
 else bif (a0_2 != a1_2)then some (u false)
 else bif (a0_3 != a1_3)then some (u false)
 else bif (a0_4 != a1_4)then some (u false)
 else bif (a0_5 != a1_5)then some (u false)
 else bif (a0_6 != a1_6)then some (u false)
 else bif (!(a0_7 == a1_7))then some (u false)
 else dB (gZ (a0_8,a1_8)) false λ(q1:Bool)=>bif (!q1)then some (u false)
  else some (u true)
def g99 (gZ:Y159)(L:Nat)(a0_0:Int)(a0_1:Int)(a0_2:Int)(a0_3:Int)(a0_4:Int)(a0_5:Int)(a0_6:Int)(a0_7:Bool)(a0_8:(List E9))(a1_0:Int)(a1_1:Int)(a1_2:Int)(a1_3:Int)(a1_4:Int)(a1_5:Int)(a1_6:Int)(a1_7:Bool)(a1_8:(List E9)):Option Bool:=G99 (λx=>x) gZ a0_0 a0_1 a0_2 a0_3 a0_4 a0_5 a0_6 a0_7 a0_8 a1_0 a1_1 a1_2 a1_3 a1_4 a1_5 a1_6 a1_7 a1_8
theorem e99 (gZ:Y159)(L:Nat)(a0_0:Int)(a0_1:Int)(a0_2:Int)(a0_3:Int)(a0_4:Int)(a0_5:Int)(a0_6:Int)(a0_7:Bool)(a0_8:(List E9))(a1_0:Int)(a1_1:Int)(a1_2:Int)(a1_3:Int)(a1_4:Int)(a1_5:Int)(a1_6:Int)(a1_7:Bool)(a1_8:(List E9)):fK prog (aWG gZ) (bJ L) f99 (a99.enc ((a0_0,a0_1,a0_2,a0_3,a0_4,a0_5,a0_6,a0_7,a0_8),(a1_0,a1_1,a1_2,a1_3,a1_4,a1_5,a1_6,a1_7,a1_8)))=(g99 gZ L a0_0 a0_1 a0_2 a0_3 a0_4 a0_5 a0_6 a0_7 a0_8 a1_0 a1_1 a1_2 a1_3 a1_4 a1_5 a1_6 a1_7 a1_8).map n99:=by
 refine .trans (b:=G99 n99 gZ a0_0 a0_1 a0_2 a0_3 a0_4 a0_5 a0_6 a0_7 a0_8 a1_0 a1_1 a1_2 a1_3 a1_4 a1_5 a1_6 a1_7 a1_8) (by kernel_rfl) ?_;unfold g99 G99
 repeat' first | with_reducible refine dP ?_ ?_ | with_reducible refine dL λ_=>?_ | with_reducible refine dO λ_=>?_ | exact rfl
def w99 (gZ:Y159)(L:Nat)(x:(M9×M9)):Option Bool:=g99 gZ L x.1.1 x.1.2.1 x.1.2.2.1 x.1.2.2.2.1 x.1.2.2.2.2.1 x.1.2.2.2.2.2.1 x.1.2.2.2.2.2.2.1 x.1.2.2.2.2.2.2.2.1 x.1.2.2.2.2.2.2.2.2 x.2.1 x.2.2.1 x.2.2.2.1 x.2.2.2.2.1 x.2.2.2.2.2.1 x.2.2.2.2.2.2.1 x.2.2.2.2.2.2.2.1 x.2.2.2.2.2.2.2.2.1 x.2.2.2.2.2.2.2.2.2
theorem s99 (gZ:Y159)(h159:Sat prog cxT 159 (aIw gZ))(m:Y99)(hm:∀ (x:(M9×M9)) t,m x=some t->∃ L,w99 gZ L x=some t):Sat prog cxT 99 (c99 m):=
 cD bA aW (by rfl) (fn:=f99) rfl a99 n99 aXt m (aWG gZ) (aL h159 aV) aP (w99 gZ) (λL x=>e99 gZ L x.1.1 x.1.2.1 x.1.2.2.1 x.1.2.2.2.1 x.1.2.2.2.2.1 x.1.2.2.2.2.2.1 x.1.2.2.2.2.2.2.1 x.1.2.2.2.2.2.2.2.1 x.1.2.2.2.2.2.2.2.2 x.2.1 x.2.2.1 x.2.2.2.1 x.2.2.2.2.1 x.2.2.2.2.2.1 x.2.2.2.2.2.2.1 x.2.2.2.2.2.2.2.1 x.2.2.2.2.2.2.2.2.1 x.2.2.2.2.2.2.2.2.2) hm bCJ
def aOw:Env cxT:={ Kc:=cS [],Kw:=cR [],lv:=λi=>[],xv:=λi=>none }
def G100 {B:Type}(u:Bool->B)(a0_0:Int)(a0_1:Int)(a1_0:Int)(a1_1:Int):Option B:=
 bif (a0_0 != a1_0)then some (u false)
 else bif (a0_1 != a1_1)then some (u false)
 else some (u true)
def aSg (L:Nat)(a0_0:Int)(a0_1:Int)(a1_0:Int)(a1_1:Int):Option Bool:=G100 (λx=>x) a0_0 a0_1 a1_0 a1_1
theorem bFi (L:Nat)(a0_0:Int)(a0_1:Int)(a1_0:Int)(a1_1:Int):fK prog aOw (bJ L) f100 (aZ5.enc ((a0_0,a0_1),(a1_0,a1_1)))=(aSg L a0_0 a0_1 a1_0 a1_1).map aIh:=by
 refine .trans (b:=G100 aIh a0_0 a0_1 a1_0 a1_1) (by kernel_rfl) ?_;unfold aSg G100
 repeat' first | with_reducible refine dP ?_ ?_ | with_reducible refine dL λ_=>?_ | with_reducible refine dO λ_=>?_ | exact rfl
def aTL (L:Nat)(x:((Int×Int)×(Int×Int))):Option Bool:=aSg L x.1.1 x.1.2 x.2.1 x.2.2
theorem bCn (m:Y100)(hm:∀ (x:((Int×Int)×(Int×Int))) t,m x=some t->∃ L,aTL L x=some t):Sat prog cxT 100 (aM1 m):=
 cD bA aW (by rfl) (fn:=f100) rfl aZ5 aIh aPG m aOw aV aP (aTL) (λL x=>bFi L x.1.1 x.1.2 x.2.1 x.2.2) hm aV3
def aOv (m161:Y161):Env cxT:={ Kc:=cS [(161,aIv m161)],Kw:=cR [],lv:=λi=>[],xv:=λi=>none }
def G101 {B:Type}(u:Bool->B)(m161:Y161)(a0_0:Int)(a0_1:Int)(a0_2:Int)(a0_3:Int)(a0_4:Int)(a0_5:Int)(a0_6:Int)(a0_7:Int)(a0_8:Int)(a0_9:Int)(a1_0:Int)(a1_1:Int)(a1_2:Int)(a1_3:Int)(a1_4:Int)(a1_5:Int)(a1_6:Int)(a1_7:Int)(a1_8:Int)(a1_9:Int):Option B:=
 bif (a0_0 != a1_0)then some (u false)
 else dB (m161 ((a0_1,(a0_2,(a0_3,(a0_4,(a0_5,(a0_6,(a0_7,(a0_8,a0_9)))))))),(a1_1,(a1_2,(a1_3,(a1_4,(a1_5,(a1_6,(a1_7,(a1_8,a1_9)))))))))) false λ(q1:Bool)=>bif (!q1)then some (u false)
  else some (u true)
def aSf (m161:Y161)(L:Nat)(a0_0:Int)(a0_1:Int)(a0_2:Int)(a0_3:Int)(a0_4:Int)(a0_5:Int)(a0_6:Int)(a0_7:Int)(a0_8:Int)(a0_9:Int)(a1_0:Int)(a1_1:Int)(a1_2:Int)(a1_3:Int)(a1_4:Int)(a1_5:Int)(a1_6:Int)(a1_7:Int)(a1_8:Int)(a1_9:Int):Option Bool:=G101 (λx=>x) m161 a0_0 a0_1 a0_2 a0_3 a0_4 a0_5 a0_6 a0_7 a0_8 a0_9 a1_0 a1_1 a1_2 a1_3 a1_4 a1_5 a1_6 a1_7 a1_8 a1_9
theorem bFh (m161:Y161)(L:Nat)(a0_0:Int)(a0_1:Int)(a0_2:Int)(a0_3:Int)(a0_4:Int)(a0_5:Int)(a0_6:Int)(a0_7:Int)(a0_8:Int)(a0_9:Int)(a1_0:Int)(a1_1:Int)(a1_2:Int)(a1_3:Int)(a1_4:Int)(a1_5:Int)(a1_6:Int)(a1_7:Int)(a1_8:Int)(a1_9:Int):fK prog (aOv m161) (bJ L) f101 (aZ4.enc ((a0_0,a0_1,a0_2,a0_3,a0_4,a0_5,a0_6,a0_7,a0_8,a0_9),(a1_0,a1_1,a1_2,a1_3,a1_4,a1_5,a1_6,a1_7,a1_8,a1_9)))=(aSf m161 L a0_0 a0_1 a0_2 a0_3 a0_4 a0_5 a0_6 a0_7 a0_8 a0_9 a1_0 a1_1 a1_2 a1_3 a1_4 a1_5 a1_6 a1_7 a1_8 a1_9).map aIg:=by
 refine .trans (b:=G101 aIg m161 a0_0 a0_1 a0_2 a0_3 a0_4 a0_5 a0_6 a0_7 a0_8 a0_9 a1_0 a1_1 a1_2 a1_3 a1_4 a1_5 a1_6 a1_7 a1_8 a1_9) (by kernel_rfl) ?_;unfold aSf G101
 repeat' first | with_reducible refine dP ?_ ?_ | with_reducible refine dL λ_=>?_ | with_reducible refine dO λ_=>?_ | exact rfl
def aTK (m161:Y161)(L:Nat)(x:(S10×S10)):Option Bool:=aSf m161 L x.1.1 x.1.2.1 x.1.2.2.1 x.1.2.2.2.1 x.1.2.2.2.2.1 x.1.2.2.2.2.2.1 x.1.2.2.2.2.2.2.1 x.1.2.2.2.2.2.2.2.1 x.1.2.2.2.2.2.2.2.2.1 x.1.2.2.2.2.2.2.2.2.2 x.2.1 x.2.2.1 x.2.2.2.1 x.2.2.2.2.1 x.2.2.2.2.2.1 x.2.2.2.2.2.2.1 x.2.2.2.2.2.2.2.1 x.2.2.2.2.2.2.2.2.1 x.2.2.2.2.2.2.2.2.2.1 x.2.2.2.2.2.2.2.2.2.2
theorem bCm (m161:Y161)(h161:Sat prog cxT 161 (aIv m161))(m:Y101)(hm:∀ (x:(S10×S10)) t,m x=some t->∃ L,aTK m161 L x=some t):Sat prog cxT 101 (aM0 m):=
 cD bA aW (by rfl) (fn:=f101) rfl aZ4 aIg aPF m (aOv m161) (aL h161 aV) aP (aTK m161) (λL x=>bFh m161 L x.1.1 x.1.2.1 x.1.2.2.1 x.1.2.2.2.1 x.1.2.2.2.2.1 x.1.2.2.2.2.2.1 x.1.2.2.2.2.2.2.1 x.1.2.2.2.2.2.2.2.1 x.1.2.2.2.2.2.2.2.2.1 x.1.2.2.2.2.2.2.2.2.2 x.2.1 x.2.2.1 x.2.2.2.1 x.2.2.2.2.1 x.2.2.2.2.2.1 x.2.2.2.2.2.2.1 x.2.2.2.2.2.2.2.1 x.2.2.2.2.2.2.2.2.1 x.2.2.2.2.2.2.2.2.2.1 x.2.2.2.2.2.2.2.2.2.2) hm aV2
def aCt (nR:Y98):Env cxT:={ Kc:=cS [(98,c98 nR)],Kw:=cR [],lv:=λi=>if i=0 then[(0,[some 96]),(1,[some 96]),(5,[])]else[],xv:=λi=>if i=0 then some []else none }
def S50_0 (a0:(List N10))(a1:(List N10))(v0_5:Int):St cxT.ty:={ slots:=[(.inl (.inl (ls { own:=0,nm:=0,e:=96,o:=false,xs:=a0 }))),(.inl (.inl (ls { own:=0,nm:=0,e:=96,o:=false,xs:=a1 }))),aK,aK,aK,(.inl (.inl (lv (.int .i64 v0_5))))]++List.replicate 21 aK,D:=[],F:=[],ctr:=1 }
def X50_0 (a0:(List N10))(a1:(List N10)):St cxT.ty:={ slots:=[]++List.replicate 27 aK,D:=[],F:=[],ctr:=1 }
def G50 {B:Type}(u:Bool->B)(hh0:Int->Option B)(nR:Y98)(a0:(List N10))(a1:(List N10)):Option B:=
 bif ((Nat.cast (List.length a0):Int) != (Nat.cast (List.length a1):Int))then some (u false)
 else hh0 (0:Int)
def B50_0 {B:Type}(u:Bool->B)(gg:Int->Option B)(kk:Option B)(nR:Y98)(a0:(List N10))(a1:(List N10))(v0_5:Int):Option B:=
 bif (decide (v0_5 < (Nat.cast (List.length a0):Int)))then dY (List.getD a0 v0_5.toNat ((0:Int),((0:Int),((0:Int),((0:Int),(([]:List E9),((0:Int),((0:Int),(([]:List (Int)),(([]:List (Int)),([]:List (Int)))))))))))) λs1_0=>dY (List.getD a1 v0_5.toNat ((0:Int),((0:Int),((0:Int),((0:Int),(([]:List E9),((0:Int),((0:Int),(([]:List (Int)),(([]:List (Int)),([]:List (Int)))))))))))) λs1_1=>bif ((decide ((0:Int)<=v0_5))&&(decide (v0_5 < (Nat.cast (List.length a0):Int))))then bif ((decide ((0:Int)<=v0_5))&&(decide (v0_5 < (Nat.cast (List.length a1):Int))))then dB (nR ((s1_0.1,(s1_0.2.1,(s1_0.2.2.1,(s1_0.2.2.2.1,(s1_0.2.2.2.2.1,(s1_0.2.2.2.2.2.1,(s1_0.2.2.2.2.2.2.1,(s1_0.2.2.2.2.2.2.2.1,(s1_0.2.2.2.2.2.2.2.2.1,s1_0.2.2.2.2.2.2.2.2.2))))))))),(s1_1.1,(s1_1.2.1,(s1_1.2.2.1,(s1_1.2.2.2.1,(s1_1.2.2.2.2.1,(s1_1.2.2.2.2.2.1,(s1_1.2.2.2.2.2.2.1,(s1_1.2.2.2.2.2.2.2.1,(s1_1.2.2.2.2.2.2.2.2.1,s1_1.2.2.2.2.2.2.2.2.2))))))))))) false λ(q4:Bool)=>bif (!q4)then some (u false)
     else gg (wrap .i64 (v0_5+(1:Int)))
   else none
  else none
 else kk
def A50_0 {B:Type}(u:Bool->B)(nR:Y98)(a0:(List N10))(a1:(List N10)):Option B:=
 some (u true)
def aBe (nR:Y98)(L:Nat)(a0:(List N10))(a1:(List N10)):Nat->Int->(Option Bool)->Option Bool
 | 0,_,_=>none
 | n+1,v0_5,k=>B50_0 (λx=>x) (λv0_5=>aBe nR L a0 a1 n v0_5 k) k nR a0 a1 v0_5
theorem aNB (nR:Y98)(L:Nat)(a0:(List N10))(a1:(List N10))(k:St cxT.ty->Option (V cxT.ty))(xk:Nat->St cxT.ty->Option (V cxT.ty))(k':Option Bool)(hk:k (X50_0 a0 a1)=(k').map n50):∀ (n:Nat) (v0_5:Int),bE prog (aCt nR) L f50 0 [1,1,0,1,0,0] (bW (aX prog f50) k xk) n (S50_0 a0 a1 v0_5)=(aBe nR L a0 a1 n v0_5 k').map n50
 | 0,_=>rfl
 | n+1,v0_5=>by
  rw[bP];have ih:=aNB nR L a0 a1 k xk k' hk n;refine .trans (b:=B50_0 n50 (λv0_5=>(bE prog (aCt nR) L f50 0 [1,1,0,1,0,0] (bW (aX prog f50) k xk) n) (S50_0 a0 a1 v0_5)) (k (X50_0 a0 a1)) nR a0 a1 v0_5) (by kernel_rfl) ?_;unfold aBe B50_0
  repeat' first | with_reducible refine dP ?_ ?_ | with_reducible refine dL λ_=>?_ | with_reducible refine dO λ_=>?_ | with_reducible exact ih _ | with_reducible exact hk | exact rfl
def g50 (nR:Y98)(L:Nat)(a0:(List N10))(a1:(List N10)):Option Bool:=G50 (λx=>x) (λv0_5=>aBe nR L a0 a1 L v0_5 (A50_0 (λx=>x) nR a0 a1)) nR a0 a1
theorem e50 (nR:Y98)(L:Nat)(a0:(List N10))(a1:(List N10)):fK prog (aCt nR) (bJ L) f50 (a50.enc (a0,a1))=(g50 nR L a0 a1).map n50:=by
 have hin0:∀ (v0_5:Int),bE prog (aCt nR) L f50 0 [1,1,0,1,0,0] (bW (aX prog f50) (bV prog (aCt nR) L f50 [1,1,0,1] (aX prog f50)).n (bV prog (aCt nR) L f50 [1,1,0,1] (aX prog f50)).x) L (S50_0 a0 a1 v0_5)=((λv0_5=>aBe nR L a0 a1 L v0_5 (A50_0 (λx=>x) nR a0 a1)) v0_5).map n50:=λv0_5=>aNB nR L a0 a1 _ _ _ (by refine .trans (b:=A50_0 n50 nR a0 a1) (by kernel_rfl) ?_;unfold A50_0;repeat' first | with_reducible refine dP ?_ ?_ | with_reducible refine dL λ_=>?_ | with_reducible refine dO λ_=>?_ | exact rfl) L v0_5
 refine .trans (b:=G50 n50 (λv0_5=>bE prog (aCt nR) L f50 0 [1,1,0,1,0,0] (bW (aX prog f50) (bV prog (aCt nR) L f50 [1,1,0,1] (aX prog f50)).n (bV prog (aCt nR) L f50 [1,1,0,1] (aX prog f50)).x) L (S50_0 a0 a1 v0_5)) nR a0 a1) (by kernel_rfl) ?_;unfold g50 G50
 repeat' first | with_reducible refine dP ?_ ?_ | with_reducible refine dL λ_=>?_ | with_reducible refine dO λ_=>?_ | with_reducible exact hin0 _ | exact rfl
def w50 (nR:Y98)(L:Nat)(x:((List N10)×(List N10))):Option Bool:=g50 nR L x.1 x.2
theorem s50 (nR:Y98)(h98:Sat prog cxT 98 (c98 nR))(m:Y50)(hm:∀ (x:((List N10)×(List N10))) t,m x=some t->∃ L,w50 nR L x=some t):Sat prog cxT 50 (c50 m):=
 cD bA aW (by rfl) (fn:=f50) rfl a50 n50 aXZ m (aCt nR) (aL h98 aV) aP (w50 nR) (λL x=>e50 nR L x.1 x.2) hm bDe
def aCs (nQ:Y99):Env cxT:={ Kc:=cS [(99,c99 nQ)],Kw:=cR [],lv:=λi=>if i=0 then[(0,[some 78]),(1,[some 78]),(5,[])]else[],xv:=λi=>if i=0 then some []else none }
def S51_0 (a0:(List M9))(a1:(List M9))(v0_5:Int):St cxT.ty:={ slots:=[(.inl (.inl (ls { own:=0,nm:=0,e:=78,o:=false,xs:=a0 }))),(.inl (.inl (ls { own:=0,nm:=0,e:=78,o:=false,xs:=a1 }))),aK,aK,aK,(.inl (.inl (lv (.int .i64 v0_5))))]++List.replicate 21 aK,D:=[],F:=[],ctr:=1 }
def X51_0 (a0:(List M9))(a1:(List M9)):St cxT.ty:={ slots:=[]++List.replicate 27 aK,D:=[],F:=[],ctr:=1 }
def G51 {B:Type}(u:Bool->B)(hh0:Int->Option B)(nQ:Y99)(a0:(List M9))(a1:(List M9)):Option B:=
 bif ((Nat.cast (List.length a0):Int) != (Nat.cast (List.length a1):Int))then some (u false)
 else hh0 (0:Int)
def B51_0 {B:Type}(u:Bool->B)(gg:Int->Option B)(kk:Option B)(nQ:Y99)(a0:(List M9))(a1:(List M9))(v0_5:Int):Option B:=
 bif (decide (v0_5 < (Nat.cast (List.length a0):Int)))then dY (List.getD a0 v0_5.toNat ((0:Int),((0:Int),((0:Int),((0:Int),((0:Int),((0:Int),((0:Int),(false,[]))))))))) λs1_0=>dY (List.getD a1 v0_5.toNat ((0:Int),((0:Int),((0:Int),((0:Int),((0:Int),((0:Int),((0:Int),(false,[]))))))))) λs1_1=>bif ((decide ((0:Int)<=v0_5))&&(decide (v0_5 < (Nat.cast (List.length a0):Int))))then bif ((decide ((0:Int)<=v0_5))&&(decide (v0_5 < (Nat.cast (List.length a1):Int))))then dB (nQ ((s1_0.1,(s1_0.2.1,(s1_0.2.2.1,(s1_0.2.2.2.1,(s1_0.2.2.2.2.1,(s1_0.2.2.2.2.2.1,(s1_0.2.2.2.2.2.2.1,(s1_0.2.2.2.2.2.2.2.1,s1_0.2.2.2.2.2.2.2.2)))))))),(s1_1.1,(s1_1.2.1,(s1_1.2.2.1,(s1_1.2.2.2.1,(s1_1.2.2.2.2.1,(s1_1.2.2.2.2.2.1,(s1_1.2.2.2.2.2.2.1,(s1_1.2.2.2.2.2.2.2.1,s1_1.2.2.2.2.2.2.2.2)))))))))) false λ(q4:Bool)=>bif (!q4)then some (u false)
     else gg (wrap .i64 (v0_5+(1:Int)))
   else none
  else none
 else kk
def A51_0 {B:Type}(u:Bool->B)(nQ:Y99)(a0:(List M9))(a1:(List M9)):Option B:=
 some (u true)
def aBd (nQ:Y99)(L:Nat)(a0:(List M9))(a1:(List M9)):Nat->Int->(Option Bool)->Option Bool
 | 0,_,_=>none
 | n+1,v0_5,k=>B51_0 (λx=>x) (λv0_5=>aBd nQ L a0 a1 n v0_5 k) k nQ a0 a1 v0_5
theorem aNA (nQ:Y99)(L:Nat)(a0:(List M9))(a1:(List M9))(k:St cxT.ty->Option (V cxT.ty))(xk:Nat->St cxT.ty->Option (V cxT.ty))(k':Option Bool)(hk:k (X51_0 a0 a1)=(k').map n51):∀ (n:Nat) (v0_5:Int),bE prog (aCs nQ) L f51 0 [1,1,0,1,0,0] (bW (aX prog f51) k xk) n (S51_0 a0 a1 v0_5)=(aBd nQ L a0 a1 n v0_5 k').map n51
 | 0,_=>rfl
 | n+1,v0_5=>by
  rw[bP];have ih:=aNA nQ L a0 a1 k xk k' hk n;refine .trans (b:=B51_0 n51 (λv0_5=>(bE prog (aCs nQ) L f51 0 [1,1,0,1,0,0] (bW (aX prog f51) k xk) n) (S51_0 a0 a1 v0_5)) (k (X51_0 a0 a1)) nQ a0 a1 v0_5) (by kernel_rfl) ?_;unfold aBd B51_0
  repeat' first | with_reducible refine dP ?_ ?_ | with_reducible refine dL λ_=>?_ | with_reducible refine dO λ_=>?_ | with_reducible exact ih _ | with_reducible exact hk | exact rfl
def g51 (nQ:Y99)(L:Nat)(a0:(List M9))(a1:(List M9)):Option Bool:=G51 (λx=>x) (λv0_5=>aBd nQ L a0 a1 L v0_5 (A51_0 (λx=>x) nQ a0 a1)) nQ a0 a1
theorem e51 (nQ:Y99)(L:Nat)(a0:(List M9))(a1:(List M9)):fK prog (aCs nQ) (bJ L) f51 (a51.enc (a0,a1))=(g51 nQ L a0 a1).map n51:=by
 have hin0:∀ (v0_5:Int),bE prog (aCs nQ) L f51 0 [1,1,0,1,0,0] (bW (aX prog f51) (bV prog (aCs nQ) L f51 [1,1,0,1] (aX prog f51)).n (bV prog (aCs nQ) L f51 [1,1,0,1] (aX prog f51)).x) L (S51_0 a0 a1 v0_5)=((λv0_5=>aBd nQ L a0 a1 L v0_5 (A51_0 (λx=>x) nQ a0 a1)) v0_5).map n51:=λv0_5=>aNA nQ L a0 a1 _ _ _ (by refine .trans (b:=A51_0 n51 nQ a0 a1) (by kernel_rfl) ?_;unfold A51_0;repeat' first | with_reducible refine dP ?_ ?_ | with_reducible refine dL λ_=>?_ | with_reducible refine dO λ_=>?_ | exact rfl) L v0_5
 refine .trans (b:=G51 n51 (λv0_5=>bE prog (aCs nQ) L f51 0 [1,1,0,1,0,0] (bW (aX prog f51) (bV prog (aCs nQ) L f51 [1,1,0,1] (aX prog f51)).n (bV prog (aCs nQ) L f51 [1,1,0,1] (aX prog f51)).x) L (S51_0 a0 a1 v0_5)) nQ a0 a1) (by kernel_rfl) ?_;unfold g51 G51
 repeat' first | with_reducible refine dP ?_ ?_ | with_reducible refine dL λ_=>?_ | with_reducible refine dO λ_=>?_ | with_reducible exact hin0 _ | exact rfl
def w51 (nQ:Y99)(L:Nat)(x:((List M9)×(List M9))):Option Bool:=g51 nQ L x.1 x.2
theorem s51 (nQ:Y99)(h99:Sat prog cxT 99 (c99 nQ))(m:Y51)(hm:∀ (x:((List M9)×(List M9))) t,m x=some t->∃ L,w51 nQ L x=some t):Sat prog cxT 51 (c51 m):=
 cD bA aW (by rfl) (fn:=f51) rfl a51 n51 aXY m (aCs nQ) (aL h99 aV) aP (w51 nQ) (λL x=>e51 nQ L x.1 x.2) hm bDd
def aCr (m100:Y100):Env cxT:={ Kc:=cS [(100,aM1 m100)],Kw:=cR [],lv:=λi=>if i=0 then[(0,[some 66]),(1,[some 66]),(5,[])]else[],xv:=λi=>if i=0 then some []else none }
def S52_0 (a0:(List W2))(a1:(List W2))(v0_5:Int):St cxT.ty:={ slots:=[(.inl (.inl (ls { own:=0,nm:=0,e:=66,o:=false,xs:=a0 }))),(.inl (.inl (ls { own:=0,nm:=0,e:=66,o:=false,xs:=a1 }))),aK,aK,aK,(.inl (.inl (lv (.int .i64 v0_5))))]++List.replicate 21 aK,D:=[],F:=[],ctr:=1 }
def X52_0 (a0:(List W2))(a1:(List W2)):St cxT.ty:={ slots:=[]++List.replicate 27 aK,D:=[],F:=[],ctr:=1 }
def G52 {B:Type}(u:Bool->B)(hh0:Int->Option B)(m100:Y100)(a0:(List W2))(a1:(List W2)):Option B:=
 bif ((Nat.cast (List.length a0):Int) != (Nat.cast (List.length a1):Int))then some (u false)
 else hh0 (0:Int)
def B52_0 {B:Type}(u:Bool->B)(gg:Int->Option B)(kk:Option B)(m100:Y100)(a0:(List W2))(a1:(List W2))(v0_5:Int):Option B:=
 bif (decide (v0_5 < (Nat.cast (List.length a0):Int)))then dY (List.getD a0 v0_5.toNat ((0:Int),(0:Int))) λs1_0=>dY (List.getD a1 v0_5.toNat ((0:Int),(0:Int))) λs1_1=>bif ((decide ((0:Int)<=v0_5))&&(decide (v0_5 < (Nat.cast (List.length a0):Int))))then bif ((decide ((0:Int)<=v0_5))&&(decide (v0_5 < (Nat.cast (List.length a1):Int))))then dB (m100 ((s1_0.1,s1_0.2),(s1_1.1,s1_1.2))) false λ(q4:Bool)=>bif (!q4)then some (u false)
     else gg (wrap .i64 (v0_5+(1:Int)))
   else none
  else none
 else kk
def A52_0 {B:Type}(u:Bool->B)(m100:Y100)(a0:(List W2))(a1:(List W2)):Option B:=
 some (u true)
def aBc (m100:Y100)(L:Nat)(a0:(List W2))(a1:(List W2)):Nat->Int->(Option Bool)->Option Bool
 | 0,_,_=>none
 | n+1,v0_5,k=>B52_0 (λx=>x) (λv0_5=>aBc m100 L a0 a1 n v0_5 k) k m100 a0 a1 v0_5
theorem aNz (m100:Y100)(L:Nat)(a0:(List W2))(a1:(List W2))(k:St cxT.ty->Option (V cxT.ty))(xk:Nat->St cxT.ty->Option (V cxT.ty))(k':Option Bool)(hk:k (X52_0 a0 a1)=(k').map n52):∀ (n:Nat) (v0_5:Int),bE prog (aCr m100) L f52 0 [1,1,0,1,0,0] (bW (aX prog f52) k xk) n (S52_0 a0 a1 v0_5)=(aBc m100 L a0 a1 n v0_5 k').map n52
 | 0,_=>rfl
 | n+1,v0_5=>by
  rw[bP];have ih:=aNz m100 L a0 a1 k xk k' hk n;refine .trans (b:=B52_0 n52 (λv0_5=>(bE prog (aCr m100) L f52 0 [1,1,0,1,0,0] (bW (aX prog f52) k xk) n) (S52_0 a0 a1 v0_5)) (k (X52_0 a0 a1)) m100 a0 a1 v0_5) (by kernel_rfl) ?_;unfold aBc B52_0
  repeat' first | with_reducible refine dP ?_ ?_ | with_reducible refine dL λ_=>?_ | with_reducible refine dO λ_=>?_ | with_reducible exact ih _ | with_reducible exact hk | exact rfl
def g52 (m100:Y100)(L:Nat)(a0:(List W2))(a1:(List W2)):Option Bool:=G52 (λx=>x) (λv0_5=>aBc m100 L a0 a1 L v0_5 (A52_0 (λx=>x) m100 a0 a1)) m100 a0 a1
theorem e52 (m100:Y100)(L:Nat)(a0:(List W2))(a1:(List W2)):fK prog (aCr m100) (bJ L) f52 (a52.enc (a0,a1))=(g52 m100 L a0 a1).map n52:=by
 have hin0:∀ (v0_5:Int),bE prog (aCr m100) L f52 0 [1,1,0,1,0,0] (bW (aX prog f52) (bV prog (aCr m100) L f52 [1,1,0,1] (aX prog f52)).n (bV prog (aCr m100) L f52 [1,1,0,1] (aX prog f52)).x) L (S52_0 a0 a1 v0_5)=((λv0_5=>aBc m100 L a0 a1 L v0_5 (A52_0 (λx=>x) m100 a0 a1)) v0_5).map n52:=λv0_5=>aNz m100 L a0 a1 _ _ _ (by refine .trans (b:=A52_0 n52 m100 a0 a1) (by kernel_rfl) ?_;unfold A52_0;repeat' first | with_reducible refine dP ?_ ?_ | with_reducible refine dL λ_=>?_ | with_reducible refine dO λ_=>?_ | exact rfl) L v0_5
 refine .trans (b:=G52 n52 (λv0_5=>bE prog (aCr m100) L f52 0 [1,1,0,1,0,0] (bW (aX prog f52) (bV prog (aCr m100) L f52 [1,1,0,1] (aX prog f52)).n (bV prog (aCr m100) L f52 [1,1,0,1] (aX prog f52)).x) L (S52_0 a0 a1 v0_5)) m100 a0 a1) (by kernel_rfl) ?_;unfold g52 G52
 repeat' first | with_reducible refine dP ?_ ?_ | with_reducible refine dL λ_=>?_ | with_reducible refine dO λ_=>?_ | with_reducible exact hin0 _ | exact rfl
def w52 (m100:Y100)(L:Nat)(x:((List W2)×(List W2))):Option Bool:=g52 m100 L x.1 x.2
theorem s52 (m100:Y100)(h100:Sat prog cxT 100 (aM1 m100))(m:Y52)(hm:∀ (x:((List W2)×(List W2))) t,m x=some t->∃ L,w52 m100 L x=some t):Sat prog cxT 52 (c52 m):=
 cD bA aW (by rfl) (fn:=f52) rfl a52 n52 aXX m (aCr m100) (aL h100 aV) aP (w52 m100) (λL x=>e52 m100 L x.1 x.2) hm bDc
def aCq (m101:Y101):Env cxT:={ Kc:=cS [(101,aM0 m101)],Kw:=cR [],lv:=λi=>if i=0 then[(0,[some 118]),(1,[some 118]),(5,[])]else[],xv:=λi=>if i=0 then some []else none }
def S53_0 (a0:(List S10))(a1:(List S10))(v0_5:Int):St cxT.ty:={ slots:=[(.inl (.inl (ls { own:=0,nm:=0,e:=118,o:=false,xs:=a0 }))),(.inl (.inl (ls { own:=0,nm:=0,e:=118,o:=false,xs:=a1 }))),aK,aK,aK,(.inl (.inl (lv (.int .i64 v0_5))))]++List.replicate 21 aK,D:=[],F:=[],ctr:=1 }
def X53_0 (a0:(List S10))(a1:(List S10)):St cxT.ty:={ slots:=[]++List.replicate 27 aK,D:=[],F:=[],ctr:=1 }
def G53 {B:Type}(u:Bool->B)(hh0:Int->Option B)(m101:Y101)(a0:(List S10))(a1:(List S10)):Option B:=
 bif ((Nat.cast (List.length a0):Int) != (Nat.cast (List.length a1):Int))then some (u false)
 else hh0 (0:Int)
def B53_0 {B:Type}(u:Bool->B)(gg:Int->Option B)(kk:Option B)(m101:Y101)(a0:(List S10))(a1:(List S10))(v0_5:Int):Option B:=
 bif (decide (v0_5 < (Nat.cast (List.length a0):Int)))then dY (List.getD a0 v0_5.toNat ((0:Int),((0:Int),((0:Int),((0:Int),((0:Int),((0:Int),((0:Int),((0:Int),((0:Int),(0:Int))))))))))) λs1_0=>dY (List.getD a1 v0_5.toNat ((0:Int),((0:Int),((0:Int),((0:Int),((0:Int),((0:Int),((0:Int),((0:Int),((0:Int),(0:Int))))))))))) λs1_1=>bif ((decide ((0:Int)<=v0_5))&&(decide (v0_5 < (Nat.cast (List.length a0):Int))))then bif ((decide ((0:Int)<=v0_5))&&(decide (v0_5 < (Nat.cast (List.length a1):Int))))then dB (m101 ((s1_0.1,(s1_0.2.1,(s1_0.2.2.1,(s1_0.2.2.2.1,(s1_0.2.2.2.2.1,(s1_0.2.2.2.2.2.1,(s1_0.2.2.2.2.2.2.1,(s1_0.2.2.2.2.2.2.2.1,(s1_0.2.2.2.2.2.2.2.2.1,s1_0.2.2.2.2.2.2.2.2.2))))))))),(s1_1.1,(s1_1.2.1,(s1_1.2.2.1,(s1_1.2.2.2.1,(s1_1.2.2.2.2.1,(s1_1.2.2.2.2.2.1,(s1_1.2.2.2.2.2.2.1,(s1_1.2.2.2.2.2.2.2.1,(s1_1.2.2.2.2.2.2.2.2.1,s1_1.2.2.2.2.2.2.2.2.2))))))))))) false λ(q4:Bool)=>bif (!q4)then some (u false)
     else gg (wrap .i64 (v0_5+(1:Int)))
   else none
  else none
 else kk
def A53_0 {B:Type}(u:Bool->B)(m101:Y101)(a0:(List S10))(a1:(List S10)):Option B:=
 some (u true)
def aBb (m101:Y101)(L:Nat)(a0:(List S10))(a1:(List S10)):Nat->Int->(Option Bool)->Option Bool
 | 0,_,_=>none
 | n+1,v0_5,k=>B53_0 (λx=>x) (λv0_5=>aBb m101 L a0 a1 n v0_5 k) k m101 a0 a1 v0_5
theorem aNy (m101:Y101)(L:Nat)(a0:(List S10))(a1:(List S10))(k:St cxT.ty->Option (V cxT.ty))(xk:Nat->St cxT.ty->Option (V cxT.ty))(k':Option Bool)(hk:k (X53_0 a0 a1)=(k').map n53):∀ (n:Nat) (v0_5:Int),bE prog (aCq m101) L f53 0 [1,1,0,1,0,0] (bW (aX prog f53) k xk) n (S53_0 a0 a1 v0_5)=(aBb m101 L a0 a1 n v0_5 k').map n53
 | 0,_=>rfl
 | n+1,v0_5=>by
  rw[bP];have ih:=aNy m101 L a0 a1 k xk k' hk n;refine .trans (b:=B53_0 n53 (λv0_5=>(bE prog (aCq m101) L f53 0 [1,1,0,1,0,0] (bW (aX prog f53) k xk) n) (S53_0 a0 a1 v0_5)) (k (X53_0 a0 a1)) m101 a0 a1 v0_5) (by kernel_rfl) ?_;unfold aBb B53_0
  repeat' first | with_reducible refine dP ?_ ?_ | with_reducible refine dL λ_=>?_ | with_reducible refine dO λ_=>?_ | with_reducible exact ih _ | with_reducible exact hk | exact rfl
def g53 (m101:Y101)(L:Nat)(a0:(List S10))(a1:(List S10)):Option Bool:=G53 (λx=>x) (λv0_5=>aBb m101 L a0 a1 L v0_5 (A53_0 (λx=>x) m101 a0 a1)) m101 a0 a1
theorem e53 (m101:Y101)(L:Nat)(a0:(List S10))(a1:(List S10)):fK prog (aCq m101) (bJ L) f53 (a53.enc (a0,a1))=(g53 m101 L a0 a1).map n53:=by
 have hin0:∀ (v0_5:Int),bE prog (aCq m101) L f53 0 [1,1,0,1,0,0] (bW (aX prog f53) (bV prog (aCq m101) L f53 [1,1,0,1] (aX prog f53)).n (bV prog (aCq m101) L f53 [1,1,0,1] (aX prog f53)).x) L (S53_0 a0 a1 v0_5)=((λv0_5=>aBb m101 L a0 a1 L v0_5 (A53_0 (λx=>x) m101 a0 a1)) v0_5).map n53:=λv0_5=>aNy m101 L a0 a1 _ _ _ (by refine .trans (b:=A53_0 n53 m101 a0 a1) (by kernel_rfl) ?_;unfold A53_0;repeat' first | with_reducible refine dP ?_ ?_ | with_reducible refine dL λ_=>?_ | with_reducible refine dO λ_=>?_ | exact rfl) L v0_5
 refine .trans (b:=G53 n53 (λv0_5=>bE prog (aCq m101) L f53 0 [1,1,0,1,0,0] (bW (aX prog f53) (bV prog (aCq m101) L f53 [1,1,0,1] (aX prog f53)).n (bV prog (aCq m101) L f53 [1,1,0,1] (aX prog f53)).x) L (S53_0 a0 a1 v0_5)) m101 a0 a1) (by kernel_rfl) ?_;unfold g53 G53
 repeat' first | with_reducible refine dP ?_ ?_ | with_reducible refine dL λ_=>?_ | with_reducible refine dO λ_=>?_ | with_reducible exact hin0 _ | exact rfl
def w53 (m101:Y101)(L:Nat)(x:((List S10)×(List S10))):Option Bool:=g53 m101 L x.1 x.2
theorem s53 (m101:Y101)(h101:Sat prog cxT 101 (aM0 m101))(m:Y53)(hm:∀ (x:((List S10)×(List S10))) t,m x=some t->∃ L,w53 m101 L x=some t):Sat prog cxT 53 (c53 m):=
 cD bA aW (by rfl) (fn:=f53) rfl a53 n53 aXW m (aCq m101) (aL h101 aV) aP (w53 m101) (λL x=>e53 m101 L x.1 x.2) hm bDb
def aXd (m50:Y50)(m51:Y51)(m52:Y52)(m53:Y53):Env cxT:={ Kc:=cS [(50,c50 m50),(51,c51 m51),(52,c52 m52),(53,c53 m53)],Kw:=cR [],lv:=λi=>[],xv:=λi=>none }
def G15 {B:Type}(u:Bool->B)(m50:Y50)(m51:Y51)(m52:Y52)(m53:Y53)(a0_0:(List N10))(a0_1:(List M9))(a0_2:(List W2))(a0_3:(List S10))(a1_0:(List N10))(a1_1:(List M9))(a1_2:(List W2))(a1_3:(List S10)):Option B:=
 dB (m50 (a0_0,a1_0)) false λ(q1:Bool)=>bif (!q1)then some (u false)
  else dB (m51 (a0_1,a1_1)) false λ(q2:Bool)=>bif (!q2)then some (u false)
   else dB (m52 (a0_2,a1_2)) false λ(q3:Bool)=>bif (!q3)then some (u false)
    else dB (m53 (a0_3,a1_3)) false λ(q4:Bool)=>bif (!q4)then some (u false)
     else some (u true)
def g15 (m50:Y50)(m51:Y51)(m52:Y52)(m53:Y53)(L:Nat)(a0_0:(List N10))(a0_1:(List M9))(a0_2:(List W2))(a0_3:(List S10))(a1_0:(List N10))(a1_1:(List M9))(a1_2:(List W2))(a1_3:(List S10)):Option Bool:=G15 (λx=>x) m50 m51 m52 m53 a0_0 a0_1 a0_2 a0_3 a1_0 a1_1 a1_2 a1_3
theorem e15 (m50:Y50)(m51:Y51)(m52:Y52)(m53:Y53)(L:Nat)(a0_0:(List N10))(a0_1:(List M9))(a0_2:(List W2))(a0_3:(List S10))(a1_0:(List N10))(a1_1:(List M9))(a1_2:(List W2))(a1_3:(List S10)):fK prog (aXd m50 m51 m52 m53) (bJ L) f15 (a15.enc ((a0_0,a0_1,a0_2,a0_3),(a1_0,a1_1,a1_2,a1_3)))=(g15 m50 m51 m52 m53 L a0_0 a0_1 a0_2 a0_3 a1_0 a1_1 a1_2 a1_3).map n15:=by
 refine .trans (b:=G15 n15 m50 m51 m52 m53 a0_0 a0_1 a0_2 a0_3 a1_0 a1_1 a1_2 a1_3) (by kernel_rfl) ?_;unfold g15 G15
 repeat' first | with_reducible refine dP ?_ ?_ | with_reducible refine dL λ_=>?_ | with_reducible refine dO λ_=>?_ | exact rfl
def w15 (m50:Y50)(m51:Y51)(m52:Y52)(m53:Y53)(L:Nat)(x:(C4×C4)):Option Bool:=g15 m50 m51 m52 m53 L x.1.1 x.1.2.1 x.1.2.2.1 x.1.2.2.2 x.2.1 x.2.2.1 x.2.2.2.1 x.2.2.2.2
theorem s15 (m50:Y50)(m51:Y51)(m52:Y52)(m53:Y53)(h50:Sat prog cxT 50 (c50 m50))(h51:Sat prog cxT 51 (c51 m51))(h52:Sat prog cxT 52 (c52 m52))(h53:Sat prog cxT 53 (c53 m53))(m:Y15)(hm:∀ (x:(C4×C4)) t,m x=some t->∃ L,w15 m50 m51 m52 m53 L x=some t):Sat prog cxT 15 (c15 m):=
 cD bA aW (by rfl) (fn:=f15) rfl a15 n15 aYn m (aXd m50 m51 m52 m53) (aL h50 (aL h51 (aL h52 (aL h53 aV)))) aP (w15 m50 m51 m52 m53) (λL x=>e15 m50 m51 m52 m53 L x.1.1 x.1.2.1 x.1.2.2.1 x.1.2.2.2 x.2.1 x.2.2.1 x.2.2.2.1 x.2.2.2.2) hm bDB
end Go.Proofs.Tryz
set_option maxHeartbeats 0
set_option maxRecDepth 100000
namespace Go.Proofs.Tryz
open Go.IntKind (wrap)
open Go Go.VM Go.RowKit
def uP:Env cxT:={ Kc:=cS [],Kw:=cR [],lv:=λi=>if i=0 then[(0,[some 102]),(1,[]),(5,[])]else[],xv:=λi=>if i=0 then some [(0,[some 102]),(1,[])]else none }
def S109_0 (a0:(List E9))(a1:Int)(v0_0:(List E9))(v0_1:Int)(v0_5:Int):St cxT.ty:={ slots:=[(.inl (.inl (ls { own:=1,nm:=0,e:=102,o:=true,xs:=v0_0 }))),(.inl (.inl (lv (.int .i64 v0_1)))),aK,aK,aK,(.inl (.inl (lv (.int .i64 v0_5))))]++List.replicate 76 aK,D:=[],F:=[],ctr:=1,lo:=1 }
def X109_0 (a0:(List E9))(a1:Int)(w0_0:(List E9))(w0_1:Int):St cxT.ty:={ slots:=[(.inl (.inl (ls { own:=1,nm:=0,e:=102,o:=true,xs:=w0_0 }))),(.inl (.inl (lv (.int .i64 w0_1))))]++List.replicate 80 aK,D:=[],F:=[],ctr:=1,lo:=1 }
def G109 {B:Type}(u:(Int×(List E9))->B)(hh0:(List E9)->Int->Int->Option B)(a0:(List E9))(a1:Int):Option B:=
 hh0 a0 a1 (0:Int)
def B109_0 {B:Type}(u:(Int×(List E9))->B)(gg:(List E9)->Int->Int->Option B)(kk:(List E9)->Int->Option B)(a0:(List E9))(a1:Int)(v0_0:(List E9))(v0_1:Int)(v0_5:Int):Option B:=
 bif (decide (v0_5 < (Nat.cast (List.length v0_0):Int)))then dY (List.modify v0_0 v0_5.toNat (λy=>(v0_1,(y.2.1,(y.2.2.1,(y.2.2.2.1,(y.2.2.2.2.1,(y.2.2.2.2.2.1,(y.2.2.2.2.2.2.1,(y.2.2.2.2.2.2.2.1,y.2.2.2.2.2.2.2.2)))))))))) λs1_0=>dY (List.modify s1_0 v0_5.toNat (λy=>(y.1,((wrap .i64 (v0_1+(1:Int))),(y.2.2.1,(y.2.2.2.1,(y.2.2.2.2.1,(y.2.2.2.2.2.1,(y.2.2.2.2.2.2.1,(y.2.2.2.2.2.2.2.1,y.2.2.2.2.2.2.2.2)))))))))) λs1_1=>dY (List.modify s1_1 v0_5.toNat (λy=>(y.1,(y.2.1,((wrap .i64 ((wrap .i64 (v0_1+(1:Int)))+(1:Int))),(y.2.2.2.1,(y.2.2.2.2.1,(y.2.2.2.2.2.1,(y.2.2.2.2.2.2.1,(y.2.2.2.2.2.2.2.1,y.2.2.2.2.2.2.2.2)))))))))) λs1_2=>dY (List.modify s1_2 v0_5.toNat (λy=>(y.1,(y.2.1,(y.2.2.1,((wrap .i64 ((wrap .i64 ((wrap .i64 (v0_1+(1:Int)))+(1:Int)))+(1:Int))),(y.2.2.2.2.1,(y.2.2.2.2.2.1,(y.2.2.2.2.2.2.1,(y.2.2.2.2.2.2.2.1,y.2.2.2.2.2.2.2.2)))))))))) λs1_3=>dY (List.modify s1_3 v0_5.toNat (λy=>(y.1,(y.2.1,(y.2.2.1,(y.2.2.2.1,((wrap .i64 ((wrap .i64 ((wrap .i64 ((wrap .i64 (v0_1+(1:Int)))+(1:Int)))+(1:Int)))+(1:Int))),(y.2.2.2.2.2.1,(y.2.2.2.2.2.2.1,(y.2.2.2.2.2.2.2.1,y.2.2.2.2.2.2.2.2)))))))))) λs1_4=>dY (List.modify s1_4 v0_5.toNat (λy=>(y.1,(y.2.1,(y.2.2.1,(y.2.2.2.1,(y.2.2.2.2.1,((wrap .i64 ((wrap .i64 ((wrap .i64 ((wrap .i64 ((wrap .i64 (v0_1+(1:Int)))+(1:Int)))+(1:Int)))+(1:Int)))+(1:Int))),(y.2.2.2.2.2.2.1,(y.2.2.2.2.2.2.2.1,y.2.2.2.2.2.2.2.2)))))))))) λs1_5=>dY (List.modify s1_5 v0_5.toNat (λy=>(y.1,(y.2.1,(y.2.2.1,(y.2.2.2.1,(y.2.2.2.2.1,(y.2.2.2.2.2.1,((wrap .i64 ((wrap .i64 ((wrap .i64 ((wrap .i64 ((wrap .i64 ((wrap .i64 (v0_1+(1:Int)))+(1:Int)))+(1:Int)))+(1:Int)))+(1:Int)))+(1:Int))),(y.2.2.2.2.2.2.2.1,y.2.2.2.2.2.2.2.2)))))))))) λs1_6=>bif ((decide ((0:Int)<=v0_5))&&(decide (v0_5 < (Nat.cast (List.length v0_0):Int))))then bif ((decide ((0:Int)<=v0_5))&&(decide (v0_5 < (Nat.cast (List.length s1_0):Int))))then bif ((decide ((0:Int)<=v0_5))&&(decide (v0_5 < (Nat.cast (List.length s1_1):Int))))then bif ((decide ((0:Int)<=v0_5))&&(decide (v0_5 < (Nat.cast (List.length s1_2):Int))))then bif ((decide ((0:Int)<=v0_5))&&(decide (v0_5 < (Nat.cast (List.length s1_3):Int))))then bif ((decide ((0:Int)<=v0_5))&&(decide (v0_5 < (Nat.cast (List.length s1_4):Int))))then bif ((decide ((0:Int)<=v0_5))&&(decide (v0_5 < (Nat.cast (List.length s1_5):Int))))then bif ((decide ((0:Int)<=v0_5))&&(decide (v0_5 < (Nat.cast (List.length s1_6):Int))))then bif ((decide ((0:Int)<=v0_5))&&(decide (v0_5 < (Nat.cast (List.length (List.modify s1_6 v0_5.toNat (λy=>(y.1,(y.2.1,(y.2.2.1,(y.2.2.2.1,(y.2.2.2.2.1,(y.2.2.2.2.2.1,(y.2.2.2.2.2.2.1,((wrap .i64 ((wrap .i64 ((wrap .i64 ((wrap .i64 ((wrap .i64 ((wrap .i64 ((wrap .i64 (v0_1+(1:Int)))+(1:Int)))+(1:Int)))+(1:Int)))+(1:Int)))+(1:Int)))+(1:Int))),y.2.2.2.2.2.2.2.2))))))))))):Int))))then gg (List.modify (List.modify s1_6 v0_5.toNat (λy=>(y.1,(y.2.1,(y.2.2.1,(y.2.2.2.1,(y.2.2.2.2.1,(y.2.2.2.2.2.1,(y.2.2.2.2.2.2.1,((wrap .i64 ((wrap .i64 ((wrap .i64 ((wrap .i64 ((wrap .i64 ((wrap .i64 ((wrap .i64 (v0_1+(1:Int)))+(1:Int)))+(1:Int)))+(1:Int)))+(1:Int)))+(1:Int)))+(1:Int))),y.2.2.2.2.2.2.2.2)))))))))) v0_5.toNat (λy=>(y.1,(y.2.1,(y.2.2.1,(y.2.2.2.1,(y.2.2.2.2.1,(y.2.2.2.2.2.1,(y.2.2.2.2.2.2.1,(y.2.2.2.2.2.2.2.1,(wrap .i64 ((wrap .i64 ((wrap .i64 ((wrap .i64 ((wrap .i64 ((wrap .i64 ((wrap .i64 ((wrap .i64 (v0_1+(1:Int)))+(1:Int)))+(1:Int)))+(1:Int)))+(1:Int)))+(1:Int)))+(1:Int)))+(1:Int))))))))))))) (wrap .i64 ((wrap .i64 ((wrap .i64 ((wrap .i64 ((wrap .i64 ((wrap .i64 ((wrap .i64 ((wrap .i64 ((wrap .i64 (v0_1+(1:Int)))+(1:Int)))+(1:Int)))+(1:Int)))+(1:Int)))+(1:Int)))+(1:Int)))+(1:Int)))+(1:Int))) (wrap .i64 (v0_5+(1:Int)))
          else none
         else none
        else none
       else none
      else none
     else none
    else none
   else none
  else none
 else kk v0_0 v0_1
def A109_0 {B:Type}(u:(Int×(List E9))->B)(a0:(List E9))(a1:Int)(w0_0:(List E9))(w0_1:Int):Option B:=
 some (u (w0_1,w0_0))
def oI (L:Nat)(a0:(List E9))(a1:Int):Nat->(List E9)->Int->Int->((List E9)->Int->Option (Int×(List E9)))->Option (Int×(List E9))
 | 0,_,_,_,_=>none
 | n+1,v0_0,v0_1,v0_5,k=>B109_0 (λx=>x) (λv0_0 v0_1 v0_5=>oI L a0 a1 n v0_0 v0_1 v0_5 k) k a0 a1 v0_0 v0_1 v0_5
theorem aKj (L:Nat)(a0:(List E9))(a1:Int)(k:St cxT.ty->Option (List (A cxT.ty)))(xk:Nat->St cxT.ty->Option (List (A cxT.ty)))(k':(List E9)->Int->Option (Int×(List E9)))(hk:∀ (w0_0:(List E9)) (w0_1:Int),k (X109_0 a0 a1 w0_0 w0_1)=(k' w0_0 w0_1).map aCb):∀ (n:Nat) (v0_0:(List E9)) (v0_1:Int) (v0_5:Int),bE prog uP L f109 0 [1,0,1,0,0] (bW (gJ prog f109 1) k xk) n (S109_0 a0 a1 v0_0 v0_1 v0_5)=(oI L a0 a1 n v0_0 v0_1 v0_5 k').map aCb
 | 0,_,_,_=>rfl
 | n+1,v0_0,v0_1,v0_5=>by
  rw[bP];have ih:=aKj L a0 a1 k xk k' hk n;refine .trans (b:=B109_0 aCb (λv0_0 v0_1 v0_5=>(bE prog uP L f109 0 [1,0,1,0,0] (bW (gJ prog f109 1) k xk) n) (S109_0 a0 a1 v0_0 v0_1 v0_5)) (λw0_0 w0_1=>k (X109_0 a0 a1 w0_0 w0_1)) a0 a1 v0_0 v0_1 v0_5) (by kernel_rfl) ?_;unfold oI B109_0
  repeat' first | with_reducible refine dP ?_ ?_ | with_reducible refine dL λ_=>?_ | with_reducible refine dO λ_=>?_ | with_reducible exact ih _ _ _ | with_reducible exact hk _ _ | exact rfl
def aKJ (L:Nat)(a0:(List E9))(a1:Int):Option (Int×(List E9)):=G109 (λx=>x) (λv0_0 v0_1 v0_5=>oI L a0 a1 L v0_0 v0_1 v0_5 (λw0_0 w0_1=>A109_0 (λx=>x) a0 a1 w0_0 w0_1)) a0 a1
theorem bFg (L:Nat)(a0:(List E9))(a1:Int):aBG prog uP (bJ L) f109 1 (aZ3.enc (a0,a1))=(aKJ L a0 a1).map aCb:=by
 have hin0:∀ (v0_0:(List E9)) (v0_1:Int) (v0_5:Int),bE prog uP L f109 0 [1,0,1,0,0] (bW (gJ prog f109 1) (bV prog uP L f109 [1,0,1] (gJ prog f109 1)).n (bV prog uP L f109 [1,0,1] (gJ prog f109 1)).x) L (S109_0 a0 a1 v0_0 v0_1 v0_5)=((λv0_0 v0_1 v0_5=>oI L a0 a1 L v0_0 v0_1 v0_5 (λw0_0 w0_1=>A109_0 (λx=>x) a0 a1 w0_0 w0_1)) v0_0 v0_1 v0_5).map aCb:=λv0_0 v0_1 v0_5=>aKj L a0 a1 _ _ _ (λw0_0 w0_1=>by refine .trans (b:=A109_0 aCb a0 a1 w0_0 w0_1) (by kernel_rfl) ?_;unfold A109_0;repeat' first | with_reducible refine dP ?_ ?_ | with_reducible refine dL λ_=>?_ | with_reducible refine dO λ_=>?_ | exact rfl) L v0_0 v0_1 v0_5
 refine .trans (b:=G109 aCb (λv0_0 v0_1 v0_5=>bE prog uP L f109 0 [1,0,1,0,0] (bW (gJ prog f109 1) (bV prog uP L f109 [1,0,1] (gJ prog f109 1)).n (bV prog uP L f109 [1,0,1] (gJ prog f109 1)).x) L (S109_0 a0 a1 v0_0 v0_1 v0_5)) a0 a1) (by kernel_rfl) ?_;unfold aKJ G109
 repeat' first | with_reducible refine dP ?_ ?_ | with_reducible refine dL λ_=>?_ | with_reducible refine dO λ_=>?_ | with_reducible exact hin0 _ _ _ | exact rfl
def aQh (L:Nat)(x:((List E9)×Int)):Option (Int×(List E9)):=aKJ L x.1 x.2
theorem bCl (m:Y109)(hm:∀ (x:((List E9)×Int)) t,m x=some t->∃ L,aQh L x=some t):SatW prog cxT 109 (xG m).nres (xG m).n (xG m).F:=
 yP bA aW (by rfl) (fn:=f109) rfl rfl aZ3 aCb aPE m uP aV aP (aQh) (λL x=>bFg L x.1 x.2) hm aV1
def uO:Env cxT:={ Kc:=cS [],Kw:=cR [],lv:=λi=>if i=0 then[(0,[some 2]),(1,[]),(5,[])]else[],xv:=λi=>if i=0 then some [(0,[some 2]),(1,[])]else none }
def S110_0 (a0:(List Int))(a1:Int)(v0_0:(List Int))(v0_1:Int)(v0_5:Int):St cxT.ty:={ slots:=[(.inl (.inl (ls { own:=1,nm:=0,e:=2,o:=true,xs:=v0_0 }))),(.inl (.inl (lv (.int .i64 v0_1)))),aK,aK,aK,(.inl (.inl (lv (.int .i64 v0_5))))]++List.replicate 13 aK,D:=[],F:=[],ctr:=1,lo:=1 }
def X110_0 (a0:(List Int))(a1:Int)(w0_0:(List Int))(w0_1:Int):St cxT.ty:={ slots:=[(.inl (.inl (ls { own:=1,nm:=0,e:=2,o:=true,xs:=w0_0 }))),(.inl (.inl (lv (.int .i64 w0_1))))]++List.replicate 17 aK,D:=[],F:=[],ctr:=1,lo:=1 }
def G110 {B:Type}(u:(Int×(List Int))->B)(hh0:(List Int)->Int->Int->Option B)(a0:(List Int))(a1:Int):Option B:=
 hh0 a0 a1 (0:Int)
def B110_0 {B:Type}(u:(Int×(List Int))->B)(gg:(List Int)->Int->Int->Option B)(kk:(List Int)->Int->Option B)(a0:(List Int))(a1:Int)(v0_0:(List Int))(v0_1:Int)(v0_5:Int):Option B:=
 bif (decide (v0_5 < (Nat.cast (List.length v0_0):Int)))then bif ((decide ((0:Int)<=v0_5))&&(decide (v0_5 < (Nat.cast (List.length v0_0):Int))))then gg (List.set v0_0 v0_5.toNat v0_1) (wrap .i64 (v0_1+(1:Int))) (wrap .i64 (v0_5+(1:Int)))
  else none
 else kk v0_0 v0_1
def A110_0 {B:Type}(u:(Int×(List Int))->B)(a0:(List Int))(a1:Int)(w0_0:(List Int))(w0_1:Int):Option B:=
 some (u (w0_1,w0_0))
def oH (L:Nat)(a0:(List Int))(a1:Int):Nat->(List Int)->Int->Int->((List Int)->Int->Option (Int×(List Int)))->Option (Int×(List Int))
 | 0,_,_,_,_=>none
 | n+1,v0_0,v0_1,v0_5,k=>B110_0 (λx=>x) (λv0_0 v0_1 v0_5=>oH L a0 a1 n v0_0 v0_1 v0_5 k) k a0 a1 v0_0 v0_1 v0_5
theorem aKi (L:Nat)(a0:(List Int))(a1:Int)(k:St cxT.ty->Option (List (A cxT.ty)))(xk:Nat->St cxT.ty->Option (List (A cxT.ty)))(k':(List Int)->Int->Option (Int×(List Int)))(hk:∀ (w0_0:(List Int)) (w0_1:Int),k (X110_0 a0 a1 w0_0 w0_1)=(k' w0_0 w0_1).map aCa):∀ (n:Nat) (v0_0:(List Int)) (v0_1:Int) (v0_5:Int),bE prog uO L f110 0 [1,0,1,0,0] (bW (gJ prog f110 1) k xk) n (S110_0 a0 a1 v0_0 v0_1 v0_5)=(oH L a0 a1 n v0_0 v0_1 v0_5 k').map aCa
 | 0,_,_,_=>rfl
 | n+1,v0_0,v0_1,v0_5=>by
  rw[bP];have ih:=aKi L a0 a1 k xk k' hk n;refine .trans (b:=B110_0 aCa (λv0_0 v0_1 v0_5=>(bE prog uO L f110 0 [1,0,1,0,0] (bW (gJ prog f110 1) k xk) n) (S110_0 a0 a1 v0_0 v0_1 v0_5)) (λw0_0 w0_1=>k (X110_0 a0 a1 w0_0 w0_1)) a0 a1 v0_0 v0_1 v0_5) (by kernel_rfl) ?_;unfold oH B110_0
  repeat' first | with_reducible refine dP ?_ ?_ | with_reducible refine dL λ_=>?_ | with_reducible refine dO λ_=>?_ | with_reducible exact ih _ _ _ | with_reducible exact hk _ _ | exact rfl
def aKI (L:Nat)(a0:(List Int))(a1:Int):Option (Int×(List Int)):=G110 (λx=>x) (λv0_0 v0_1 v0_5=>oH L a0 a1 L v0_0 v0_1 v0_5 (λw0_0 w0_1=>A110_0 (λx=>x) a0 a1 w0_0 w0_1)) a0 a1
theorem bFf (L:Nat)(a0:(List Int))(a1:Int):aBG prog uO (bJ L) f110 1 (aZ2.enc (a0,a1))=(aKI L a0 a1).map aCa:=by
 have hin0:∀ (v0_0:(List Int)) (v0_1:Int) (v0_5:Int),bE prog uO L f110 0 [1,0,1,0,0] (bW (gJ prog f110 1) (bV prog uO L f110 [1,0,1] (gJ prog f110 1)).n (bV prog uO L f110 [1,0,1] (gJ prog f110 1)).x) L (S110_0 a0 a1 v0_0 v0_1 v0_5)=((λv0_0 v0_1 v0_5=>oH L a0 a1 L v0_0 v0_1 v0_5 (λw0_0 w0_1=>A110_0 (λx=>x) a0 a1 w0_0 w0_1)) v0_0 v0_1 v0_5).map aCa:=λv0_0 v0_1 v0_5=>aKi L a0 a1 _ _ _ (λw0_0 w0_1=>by refine .trans (b:=A110_0 aCa a0 a1 w0_0 w0_1) (by kernel_rfl) ?_;unfold A110_0;repeat' first | with_reducible refine dP ?_ ?_ | with_reducible refine dL λ_=>?_ | with_reducible refine dO λ_=>?_ | exact rfl) L v0_0 v0_1 v0_5
 refine .trans (b:=G110 aCa (λv0_0 v0_1 v0_5=>bE prog uO L f110 0 [1,0,1,0,0] (bW (gJ prog f110 1) (bV prog uO L f110 [1,0,1] (gJ prog f110 1)).n (bV prog uO L f110 [1,0,1] (gJ prog f110 1)).x) L (S110_0 a0 a1 v0_0 v0_1 v0_5)) a0 a1) (by kernel_rfl) ?_;unfold aKI G110
 repeat' first | with_reducible refine dP ?_ ?_ | with_reducible refine dL λ_=>?_ | with_reducible refine dO λ_=>?_ | with_reducible exact hin0 _ _ _ | exact rfl
def aQg (L:Nat)(x:((List Int)×Int)):Option (Int×(List Int)):=aKI L x.1 x.2
theorem bCk (m:Y110)(hm:∀ (x:((List Int)×Int)) t,m x=some t->∃ L,aQg L x=some t):SatW prog cxT 110 (aCG m).nres (aCG m).n (aCG m).F:=
 yP bA aW (by rfl) (fn:=f110) rfl rfl aZ2 aCa aPD m uO aV aP (aQg) (λL x=>bFf L x.1 x.2) hm aV0
def aCp (dK:Y109)(fU:Y110):Env cxT:={ Kc:=cS [],Kw:=cR [(109,{ xG dK with p:=5 }),(110,{ aCG fU with p:=5 })],lv:=λi=>if i=0 then[(0,[some 96]),(1,[]),(5,[])]else[],xv:=λi=>if i=0 then some [(0,[some 96]),(1,[])]else none }
def S61_0 (a0:(List N10))(a1:Int)(v0_0:(List N10))(v0_1:Int)(v0_5:Int):St cxT.ty:={ slots:=[(.inl (.inl (ls { own:=1,nm:=0,e:=96,o:=true,xs:=v0_0 }))),(.inl (.inl (lv (.int .i64 v0_1)))),aK,aK,aK,(.inl (.inl (lv (.int .i64 v0_5))))]++List.replicate 77 aK,D:=[],F:=[],ctr:=1,lo:=1 }
def X61_0 (a0:(List N10))(a1:Int)(w0_0:(List N10))(w0_1:Int):St cxT.ty:={ slots:=[(.inl (.inl (ls { own:=1,nm:=0,e:=96,o:=true,xs:=w0_0 }))),(.inl (.inl (lv (.int .i64 w0_1))))]++List.replicate 81 aK,D:=[],F:=[],ctr:=1,lo:=1 }
def G61 {B:Type}(u:(Int×(List N10))->B)(hh0:(List N10)->Int->Int->Option B)(dK:Y109)(fU:Y110)(a0:(List N10))(a1:Int):Option B:=
 hh0 a0 a1 (0:Int)
def B61_0 {B:Type}(u:(Int×(List N10))->B)(gg:(List N10)->Int->Int->Option B)(kk:(List N10)->Int->Option B)(dK:Y109)(fU:Y110)(a0:(List N10))(a1:Int)(v0_0:(List N10))(v0_1:Int)(v0_5:Int):Option B:=
 bif (decide (v0_5 < (Nat.cast (List.length v0_0):Int)))then dY (List.modify v0_0 v0_5.toNat (λy=>(v0_1,(y.2.1,(y.2.2.1,(y.2.2.2.1,(y.2.2.2.2.1,(y.2.2.2.2.2.1,(y.2.2.2.2.2.2.1,(y.2.2.2.2.2.2.2.1,(y.2.2.2.2.2.2.2.2.1,y.2.2.2.2.2.2.2.2.2))))))))))) λs1_0=>dY (List.modify s1_0 v0_5.toNat (λy=>(y.1,((wrap .i64 (v0_1+(1:Int))),(y.2.2.1,(y.2.2.2.1,(y.2.2.2.2.1,(y.2.2.2.2.2.1,(y.2.2.2.2.2.2.1,(y.2.2.2.2.2.2.2.1,(y.2.2.2.2.2.2.2.2.1,y.2.2.2.2.2.2.2.2.2))))))))))) λs1_1=>dY (List.modify s1_1 v0_5.toNat (λy=>(y.1,(y.2.1,((wrap .i64 ((wrap .i64 (v0_1+(1:Int)))+(1:Int))),(y.2.2.2.1,(y.2.2.2.2.1,(y.2.2.2.2.2.1,(y.2.2.2.2.2.2.1,(y.2.2.2.2.2.2.2.1,(y.2.2.2.2.2.2.2.2.1,y.2.2.2.2.2.2.2.2.2))))))))))) λs1_2=>dY (List.modify s1_2 v0_5.toNat (λy=>(y.1,(y.2.1,(y.2.2.1,((wrap .i64 ((wrap .i64 ((wrap .i64 (v0_1+(1:Int)))+(1:Int)))+(1:Int))),(y.2.2.2.2.1,(y.2.2.2.2.2.1,(y.2.2.2.2.2.2.1,(y.2.2.2.2.2.2.2.1,(y.2.2.2.2.2.2.2.2.1,y.2.2.2.2.2.2.2.2.2))))))))))) λs1_3=>dY (List.getD s1_3 v0_5.toNat ((0:Int),((0:Int),((0:Int),((0:Int),(([]:List E9),((0:Int),((0:Int),(([]:List (Int)),(([]:List (Int)),([]:List (Int)))))))))))) λs1_4=>bif ((decide ((0:Int)<=v0_5))&&(decide (v0_5 < (Nat.cast (List.length v0_0):Int))))then bif ((decide ((0:Int)<=v0_5))&&(decide (v0_5 < (Nat.cast (List.length s1_0):Int))))then bif ((decide ((0:Int)<=v0_5))&&(decide (v0_5 < (Nat.cast (List.length s1_1):Int))))then bif ((decide ((0:Int)<=v0_5))&&(decide (v0_5 < (Nat.cast (List.length s1_2):Int))))then bif ((decide ((0:Int)<=v0_5))&&(decide (v0_5 < (Nat.cast (List.length s1_3):Int))))then dB (dK (s1_4.2.2.2.2.1,(wrap .i64 ((wrap .i64 ((wrap .i64 ((wrap .i64 (v0_1+(1:Int)))+(1:Int)))+(1:Int)))+(1:Int))))) ((0:Int),[]) λ(q7:(Int×(List E9)))=>bif ((decide ((0:Int)<=v0_5))&&(decide (v0_5 < (Nat.cast (List.length (List.modify s1_3 v0_5.toNat (λy=>(y.1,(y.2.1,(y.2.2.1,(y.2.2.2.1,(q7.2,(y.2.2.2.2.2.1,(y.2.2.2.2.2.2.1,(y.2.2.2.2.2.2.2.1,(y.2.2.2.2.2.2.2.2.1,y.2.2.2.2.2.2.2.2.2)))))))))))):Int))))then dY (List.modify s1_3 v0_5.toNat (λy=>(y.1,(y.2.1,(y.2.2.1,(y.2.2.2.1,(q7.2,(y.2.2.2.2.2.1,(y.2.2.2.2.2.2.1,(y.2.2.2.2.2.2.2.1,(y.2.2.2.2.2.2.2.2.1,y.2.2.2.2.2.2.2.2.2))))))))))) λs8_0=>dY (List.modify s8_0 v0_5.toNat (λy=>(y.1,(y.2.1,(y.2.2.1,(y.2.2.2.1,(y.2.2.2.2.1,(q7.1,(y.2.2.2.2.2.2.1,(y.2.2.2.2.2.2.2.1,(y.2.2.2.2.2.2.2.2.1,y.2.2.2.2.2.2.2.2.2))))))))))) λs8_1=>dY (List.modify s8_1 v0_5.toNat (λy=>(y.1,(y.2.1,(y.2.2.1,(y.2.2.2.1,(y.2.2.2.2.1,(y.2.2.2.2.2.1,((wrap .i64 (q7.1+(1:Int))),(y.2.2.2.2.2.2.2.1,(y.2.2.2.2.2.2.2.2.1,y.2.2.2.2.2.2.2.2.2))))))))))) λs8_2=>dY (List.getD s8_2 v0_5.toNat ((0:Int),((0:Int),((0:Int),((0:Int),(([]:List E9),((0:Int),((0:Int),(([]:List (Int)),(([]:List (Int)),([]:List (Int)))))))))))) λs8_3=>bif ((decide ((0:Int)<=v0_5))&&(decide (v0_5 < (Nat.cast (List.length s8_1):Int))))then bif ((decide ((0:Int)<=v0_5))&&(decide (v0_5 < (Nat.cast (List.length s8_2):Int))))then dB (fU (s8_3.2.2.2.2.2.2.2.1,(wrap .i64 ((wrap .i64 (q7.1+(1:Int)))+(1:Int))))) ((0:Int),[]) λ(q11:(Int×(List Int)))=>bif ((decide ((0:Int)<=v0_5))&&(decide (v0_5 < (Nat.cast (List.length (List.modify s8_2 v0_5.toNat (λy=>(y.1,(y.2.1,(y.2.2.1,(y.2.2.2.1,(y.2.2.2.2.1,(y.2.2.2.2.2.1,(y.2.2.2.2.2.2.1,(q11.2,(y.2.2.2.2.2.2.2.2.1,y.2.2.2.2.2.2.2.2.2)))))))))))):Int))))then dY (List.modify s8_2 v0_5.toNat (λy=>(y.1,(y.2.1,(y.2.2.1,(y.2.2.2.1,(y.2.2.2.2.1,(y.2.2.2.2.2.1,(y.2.2.2.2.2.2.1,(q11.2,(y.2.2.2.2.2.2.2.2.1,y.2.2.2.2.2.2.2.2.2))))))))))) λs12_0=>dY (List.getD s12_0 v0_5.toNat ((0:Int),((0:Int),((0:Int),((0:Int),(([]:List E9),((0:Int),((0:Int),(([]:List (Int)),(([]:List (Int)),([]:List (Int)))))))))))) λs12_1=>dB (fU (s12_1.2.2.2.2.2.2.2.2.1,q11.1)) ((0:Int),[]) λ(q13:(Int×(List Int)))=>bif ((decide ((0:Int)<=v0_5))&&(decide (v0_5 < (Nat.cast (List.length (List.modify s12_0 v0_5.toNat (λy=>(y.1,(y.2.1,(y.2.2.1,(y.2.2.2.1,(y.2.2.2.2.1,(y.2.2.2.2.2.1,(y.2.2.2.2.2.2.1,(y.2.2.2.2.2.2.2.1,(q13.2,y.2.2.2.2.2.2.2.2.2)))))))))))):Int))))then dY (List.modify s12_0 v0_5.toNat (λy=>(y.1,(y.2.1,(y.2.2.1,(y.2.2.2.1,(y.2.2.2.2.1,(y.2.2.2.2.2.1,(y.2.2.2.2.2.2.1,(y.2.2.2.2.2.2.2.1,(q13.2,y.2.2.2.2.2.2.2.2.2))))))))))) λs14_0=>dY (List.getD s14_0 v0_5.toNat ((0:Int),((0:Int),((0:Int),((0:Int),(([]:List E9),((0:Int),((0:Int),(([]:List (Int)),(([]:List (Int)),([]:List (Int)))))))))))) λs14_1=>dB (fU (s14_1.2.2.2.2.2.2.2.2.2,q13.1)) ((0:Int),[]) λ(q15:(Int×(List Int)))=>gg (List.modify s14_0 v0_5.toNat (λy=>(y.1,(y.2.1,(y.2.2.1,(y.2.2.2.1,(y.2.2.2.2.1,(y.2.2.2.2.2.1,(y.2.2.2.2.2.2.1,(y.2.2.2.2.2.2.2.1,(y.2.2.2.2.2.2.2.2.1,q15.2))))))))))) q15.1 (wrap .i64 (v0_5+(1:Int)))
              else none
            else none
          else none
         else none
        else none
      else none
     else none
    else none
   else none
  else none
 else kk v0_0 v0_1
def A61_0 {B:Type}(u:(Int×(List N10))->B)(dK:Y109)(fU:Y110)(a0:(List N10))(a1:Int)(w0_0:(List N10))(w0_1:Int):Option B:=
 some (u (w0_1,w0_0))
def rZ (dK:Y109)(fU:Y110)(L:Nat)(a0:(List N10))(a1:Int):Nat->(List N10)->Int->Int->((List N10)->Int->Option (Int×(List N10)))->Option (Int×(List N10))
 | 0,_,_,_,_=>none
 | n+1,v0_0,v0_1,v0_5,k=>B61_0 (λx=>x) (λv0_0 v0_1 v0_5=>rZ dK fU L a0 a1 n v0_0 v0_1 v0_5 k) k dK fU a0 a1 v0_0 v0_1 v0_5
theorem aNx (dK:Y109)(fU:Y110)(L:Nat)(a0:(List N10))(a1:Int)(k:St cxT.ty->Option (List (A cxT.ty)))(xk:Nat->St cxT.ty->Option (List (A cxT.ty)))(k':(List N10)->Int->Option (Int×(List N10)))(hk:∀ (w0_0:(List N10)) (w0_1:Int),k (X61_0 a0 a1 w0_0 w0_1)=(k' w0_0 w0_1).map n61):∀ (n:Nat) (v0_0:(List N10)) (v0_1:Int) (v0_5:Int),bE prog (aCp dK fU) L f61 0 [1,0,1,0,0] (bW (gJ prog f61 1) k xk) n (S61_0 a0 a1 v0_0 v0_1 v0_5)=(rZ dK fU L a0 a1 n v0_0 v0_1 v0_5 k').map n61
 | 0,_,_,_=>rfl
 | n+1,v0_0,v0_1,v0_5=>by
  rw[bP];have ih:=aNx dK fU L a0 a1 k xk k' hk n;refine .trans (b:=B61_0 n61 (λv0_0 v0_1 v0_5=>(bE prog (aCp dK fU) L f61 0 [1,0,1,0,0] (bW (gJ prog f61 1) k xk) n) (S61_0 a0 a1 v0_0 v0_1 v0_5)) (λw0_0 w0_1=>k (X61_0 a0 a1 w0_0 w0_1)) dK fU a0 a1 v0_0 v0_1 v0_5) (by kernel_rfl) ?_;unfold rZ B61_0
  repeat' first | with_reducible refine dP ?_ ?_ | with_reducible refine dL λ_=>?_ | with_reducible refine dO λ_=>?_ | with_reducible exact ih _ _ _ | with_reducible exact hk _ _ | exact rfl
def g61 (dK:Y109)(fU:Y110)(L:Nat)(a0:(List N10))(a1:Int):Option (Int×(List N10)):=G61 (λx=>x) (λv0_0 v0_1 v0_5=>rZ dK fU L a0 a1 L v0_0 v0_1 v0_5 (λw0_0 w0_1=>A61_0 (λx=>x) dK fU a0 a1 w0_0 w0_1)) dK fU a0 a1
theorem e61 (dK:Y109)(fU:Y110)(L:Nat)(a0:(List N10))(a1:Int):aBG prog (aCp dK fU) (bJ L) f61 1 (a61.enc (a0,a1))=(g61 dK fU L a0 a1).map n61:=by
 have hin0:∀ (v0_0:(List N10)) (v0_1:Int) (v0_5:Int),bE prog (aCp dK fU) L f61 0 [1,0,1,0,0] (bW (gJ prog f61 1) (bV prog (aCp dK fU) L f61 [1,0,1] (gJ prog f61 1)).n (bV prog (aCp dK fU) L f61 [1,0,1] (gJ prog f61 1)).x) L (S61_0 a0 a1 v0_0 v0_1 v0_5)=((λv0_0 v0_1 v0_5=>rZ dK fU L a0 a1 L v0_0 v0_1 v0_5 (λw0_0 w0_1=>A61_0 (λx=>x) dK fU a0 a1 w0_0 w0_1)) v0_0 v0_1 v0_5).map n61:=λv0_0 v0_1 v0_5=>aNx dK fU L a0 a1 _ _ _ (λw0_0 w0_1=>by refine .trans (b:=A61_0 n61 dK fU a0 a1 w0_0 w0_1) (by kernel_rfl) ?_;unfold A61_0;repeat' first | with_reducible refine dP ?_ ?_ | with_reducible refine dL λ_=>?_ | with_reducible refine dO λ_=>?_ | exact rfl) L v0_0 v0_1 v0_5
 refine .trans (b:=G61 n61 (λv0_0 v0_1 v0_5=>bE prog (aCp dK fU) L f61 0 [1,0,1,0,0] (bW (gJ prog f61 1) (bV prog (aCp dK fU) L f61 [1,0,1] (gJ prog f61 1)).n (bV prog (aCp dK fU) L f61 [1,0,1] (gJ prog f61 1)).x) L (S61_0 a0 a1 v0_0 v0_1 v0_5)) dK fU a0 a1) (by kernel_rfl) ?_;unfold g61 G61
 repeat' first | with_reducible refine dP ?_ ?_ | with_reducible refine dL λ_=>?_ | with_reducible refine dO λ_=>?_ | with_reducible exact hin0 _ _ _ | exact rfl
def w61 (dK:Y109)(fU:Y110)(L:Nat)(x:((List N10)×Int)):Option (Int×(List N10)):=g61 dK fU L x.1 x.2
theorem s61 (dK:Y109)(fU:Y110)(h109:SatW prog cxT 109 (xG dK).nres (xG dK).n (xG dK).F)(h110:SatW prog cxT 110 (aCG fU).nres (aCG fU).n (aCG fU).F)(m:Y61)(hm:∀ (x:((List N10)×Int)) t,m x=some t->∃ L,w61 dK fU L x=some t):SatW prog cxT 61 (c61 m).nres (c61 m).n (c61 m).F:=
 yP bA aW (by rfl) (fn:=f61) rfl rfl a61 n61 aXS m (aCp dK fU) aV (iO h109 (iO h110 aP)) (w61 dK fU) (λL x=>e61 dK fU L x.1 x.2) hm bC7
def aCo (dK:Y109):Env cxT:={ Kc:=cS [],Kw:=cR [(109,{ xG dK with p:=5 })],lv:=λi=>if i=0 then[(0,[some 78]),(1,[]),(5,[])]else[],xv:=λi=>if i=0 then some [(0,[some 78]),(1,[])]else none }
def S62_0 (a0:(List M9))(a1:Int)(v0_0:(List M9))(v0_1:Int)(v0_5:Int):St cxT.ty:={ slots:=[(.inl (.inl (ls { own:=1,nm:=0,e:=78,o:=true,xs:=v0_0 }))),(.inl (.inl (lv (.int .i64 v0_1)))),aK,aK,aK,(.inl (.inl (lv (.int .i64 v0_5))))]++List.replicate 72 aK,D:=[],F:=[],ctr:=1,lo:=1 }
def X62_0 (a0:(List M9))(a1:Int)(w0_0:(List M9))(w0_1:Int):St cxT.ty:={ slots:=[(.inl (.inl (ls { own:=1,nm:=0,e:=78,o:=true,xs:=w0_0 }))),(.inl (.inl (lv (.int .i64 w0_1))))]++List.replicate 76 aK,D:=[],F:=[],ctr:=1,lo:=1 }
def G62 {B:Type}(u:(Int×(List M9))->B)(hh0:(List M9)->Int->Int->Option B)(dK:Y109)(a0:(List M9))(a1:Int):Option B:=
 hh0 a0 a1 (0:Int)
def B62_0 {B:Type}(u:(Int×(List M9))->B)(gg:(List M9)->Int->Int->Option B)(kk:(List M9)->Int->Option B)(dK:Y109)(a0:(List M9))(a1:Int)(v0_0:(List M9))(v0_1:Int)(v0_5:Int):Option B:=
 bif (decide (v0_5 < (Nat.cast (List.length v0_0):Int)))then dY (List.modify v0_0 v0_5.toNat (λy=>(v0_1,(y.2.1,(y.2.2.1,(y.2.2.2.1,(y.2.2.2.2.1,(y.2.2.2.2.2.1,(y.2.2.2.2.2.2.1,(y.2.2.2.2.2.2.2.1,y.2.2.2.2.2.2.2.2)))))))))) λs1_0=>dY (List.modify s1_0 v0_5.toNat (λy=>(y.1,((wrap .i64 (v0_1+(1:Int))),(y.2.2.1,(y.2.2.2.1,(y.2.2.2.2.1,(y.2.2.2.2.2.1,(y.2.2.2.2.2.2.1,(y.2.2.2.2.2.2.2.1,y.2.2.2.2.2.2.2.2)))))))))) λs1_1=>dY (List.modify s1_1 v0_5.toNat (λy=>(y.1,(y.2.1,((wrap .i64 ((wrap .i64 (v0_1+(1:Int)))+(1:Int))),(y.2.2.2.1,(y.2.2.2.2.1,(y.2.2.2.2.2.1,(y.2.2.2.2.2.2.1,(y.2.2.2.2.2.2.2.1,y.2.2.2.2.2.2.2.2)))))))))) λs1_2=>dY (List.modify s1_2 v0_5.toNat (λy=>(y.1,(y.2.1,(y.2.2.1,((wrap .i64 ((wrap .i64 ((wrap .i64 (v0_1+(1:Int)))+(1:Int)))+(1:Int))),(y.2.2.2.2.1,(y.2.2.2.2.2.1,(y.2.2.2.2.2.2.1,(y.2.2.2.2.2.2.2.1,y.2.2.2.2.2.2.2.2)))))))))) λs1_3=>dY (List.modify s1_3 v0_5.toNat (λy=>(y.1,(y.2.1,(y.2.2.1,(y.2.2.2.1,((wrap .i64 ((wrap .i64 ((wrap .i64 ((wrap .i64 (v0_1+(1:Int)))+(1:Int)))+(1:Int)))+(1:Int))),(y.2.2.2.2.2.1,(y.2.2.2.2.2.2.1,(y.2.2.2.2.2.2.2.1,y.2.2.2.2.2.2.2.2)))))))))) λs1_4=>dY (List.modify s1_4 v0_5.toNat (λy=>(y.1,(y.2.1,(y.2.2.1,(y.2.2.2.1,(y.2.2.2.2.1,((wrap .i64 ((wrap .i64 ((wrap .i64 ((wrap .i64 ((wrap .i64 (v0_1+(1:Int)))+(1:Int)))+(1:Int)))+(1:Int)))+(1:Int))),(y.2.2.2.2.2.2.1,(y.2.2.2.2.2.2.2.1,y.2.2.2.2.2.2.2.2)))))))))) λs1_5=>dY (List.modify s1_5 v0_5.toNat (λy=>(y.1,(y.2.1,(y.2.2.1,(y.2.2.2.1,(y.2.2.2.2.1,(y.2.2.2.2.2.1,((wrap .i64 ((wrap .i64 ((wrap .i64 ((wrap .i64 ((wrap .i64 ((wrap .i64 (v0_1+(1:Int)))+(1:Int)))+(1:Int)))+(1:Int)))+(1:Int)))+(1:Int))),(y.2.2.2.2.2.2.2.1,y.2.2.2.2.2.2.2.2)))))))))) λs1_6=>dY (List.modify s1_6 v0_5.toNat (λy=>(y.1,(y.2.1,(y.2.2.1,(y.2.2.2.1,(y.2.2.2.2.1,(y.2.2.2.2.2.1,(y.2.2.2.2.2.2.1,(((Int.tmod (wrap .i64 ((wrap .i64 ((wrap .i64 ((wrap .i64 ((wrap .i64 ((wrap .i64 ((wrap .i64 (v0_1+(1:Int)))+(1:Int)))+(1:Int)))+(1:Int)))+(1:Int)))+(1:Int)))+(1:Int))) (3:Int)) == (0:Int)),y.2.2.2.2.2.2.2.2)))))))))) λs1_7=>dY (List.getD s1_7 v0_5.toNat ((0:Int),((0:Int),((0:Int),((0:Int),((0:Int),((0:Int),((0:Int),(false,[]))))))))) λs1_8=>bif ((decide ((0:Int)<=v0_5))&&(decide (v0_5 < (Nat.cast (List.length v0_0):Int))))then bif ((decide ((0:Int)<=v0_5))&&(decide (v0_5 < (Nat.cast (List.length s1_0):Int))))then bif ((decide ((0:Int)<=v0_5))&&(decide (v0_5 < (Nat.cast (List.length s1_1):Int))))then bif ((decide ((0:Int)<=v0_5))&&(decide (v0_5 < (Nat.cast (List.length s1_2):Int))))then bif ((decide ((0:Int)<=v0_5))&&(decide (v0_5 < (Nat.cast (List.length s1_3):Int))))then bif ((decide ((0:Int)<=v0_5))&&(decide (v0_5 < (Nat.cast (List.length s1_4):Int))))then bif ((decide ((0:Int)<=v0_5))&&(decide (v0_5 < (Nat.cast (List.length s1_5):Int))))then bif ((decide ((0:Int)<=v0_5))&&(decide (v0_5 < (Nat.cast (List.length s1_6):Int))))then bif ((decide ((0:Int)<=v0_5))&&(decide (v0_5 < (Nat.cast (List.length s1_7):Int))))then dB (dK (s1_8.2.2.2.2.2.2.2.2,(wrap .i64 ((wrap .i64 ((wrap .i64 ((wrap .i64 ((wrap .i64 ((wrap .i64 ((wrap .i64 ((wrap .i64 (v0_1+(1:Int)))+(1:Int)))+(1:Int)))+(1:Int)))+(1:Int)))+(1:Int)))+(1:Int)))+(1:Int))))) ((0:Int),[]) λ(q11:(Int×(List E9)))=>gg (List.modify s1_7 v0_5.toNat (λy=>(y.1,(y.2.1,(y.2.2.1,(y.2.2.2.1,(y.2.2.2.2.1,(y.2.2.2.2.2.1,(y.2.2.2.2.2.2.1,(y.2.2.2.2.2.2.2.1,q11.2)))))))))) q11.1 (wrap .i64 (v0_5+(1:Int)))
          else none
         else none
        else none
       else none
      else none
     else none
    else none
   else none
  else none
 else kk v0_0 v0_1
def A62_0 {B:Type}(u:(Int×(List M9))->B)(dK:Y109)(a0:(List M9))(a1:Int)(w0_0:(List M9))(w0_1:Int):Option B:=
 some (u (w0_1,w0_0))
def rY (dK:Y109)(L:Nat)(a0:(List M9))(a1:Int):Nat->(List M9)->Int->Int->((List M9)->Int->Option (Int×(List M9)))->Option (Int×(List M9))
 | 0,_,_,_,_=>none
 | n+1,v0_0,v0_1,v0_5,k=>B62_0 (λx=>x) (λv0_0 v0_1 v0_5=>rY dK L a0 a1 n v0_0 v0_1 v0_5 k) k dK a0 a1 v0_0 v0_1 v0_5
theorem aNw (dK:Y109)(L:Nat)(a0:(List M9))(a1:Int)(k:St cxT.ty->Option (List (A cxT.ty)))(xk:Nat->St cxT.ty->Option (List (A cxT.ty)))(k':(List M9)->Int->Option (Int×(List M9)))(hk:∀ (w0_0:(List M9)) (w0_1:Int),k (X62_0 a0 a1 w0_0 w0_1)=(k' w0_0 w0_1).map n62):∀ (n:Nat) (v0_0:(List M9)) (v0_1:Int) (v0_5:Int),bE prog (aCo dK) L f62 0 [1,0,1,0,0] (bW (gJ prog f62 1) k xk) n (S62_0 a0 a1 v0_0 v0_1 v0_5)=(rY dK L a0 a1 n v0_0 v0_1 v0_5 k').map n62
 | 0,_,_,_=>rfl
 | n+1,v0_0,v0_1,v0_5=>by
  rw[bP];have ih:=aNw dK L a0 a1 k xk k' hk n;refine .trans (b:=B62_0 n62 (λv0_0 v0_1 v0_5=>(bE prog (aCo dK) L f62 0 [1,0,1,0,0] (bW (gJ prog f62 1) k xk) n) (S62_0 a0 a1 v0_0 v0_1 v0_5)) (λw0_0 w0_1=>k (X62_0 a0 a1 w0_0 w0_1)) dK a0 a1 v0_0 v0_1 v0_5) (by kernel_rfl) ?_;unfold rY B62_0
  repeat' first | with_reducible refine dP ?_ ?_ | with_reducible refine dL λ_=>?_ | with_reducible refine dO λ_=>?_ | with_reducible exact ih _ _ _ | with_reducible exact hk _ _ | exact rfl
def g62 (dK:Y109)(L:Nat)(a0:(List M9))(a1:Int):Option (Int×(List M9)):=G62 (λx=>x) (λv0_0 v0_1 v0_5=>rY dK L a0 a1 L v0_0 v0_1 v0_5 (λw0_0 w0_1=>A62_0 (λx=>x) dK a0 a1 w0_0 w0_1)) dK a0 a1
theorem e62 (dK:Y109)(L:Nat)(a0:(List M9))(a1:Int):aBG prog (aCo dK) (bJ L) f62 1 (a62.enc (a0,a1))=(g62 dK L a0 a1).map n62:=by
 have hin0:∀ (v0_0:(List M9)) (v0_1:Int) (v0_5:Int),bE prog (aCo dK) L f62 0 [1,0,1,0,0] (bW (gJ prog f62 1) (bV prog (aCo dK) L f62 [1,0,1] (gJ prog f62 1)).n (bV prog (aCo dK) L f62 [1,0,1] (gJ prog f62 1)).x) L (S62_0 a0 a1 v0_0 v0_1 v0_5)=((λv0_0 v0_1 v0_5=>rY dK L a0 a1 L v0_0 v0_1 v0_5 (λw0_0 w0_1=>A62_0 (λx=>x) dK a0 a1 w0_0 w0_1)) v0_0 v0_1 v0_5).map n62:=λv0_0 v0_1 v0_5=>aNw dK L a0 a1 _ _ _ (λw0_0 w0_1=>by refine .trans (b:=A62_0 n62 dK a0 a1 w0_0 w0_1) (by kernel_rfl) ?_;unfold A62_0;repeat' first | with_reducible refine dP ?_ ?_ | with_reducible refine dL λ_=>?_ | with_reducible refine dO λ_=>?_ | exact rfl) L v0_0 v0_1 v0_5
 refine .trans (b:=G62 n62 (λv0_0 v0_1 v0_5=>bE prog (aCo dK) L f62 0 [1,0,1,0,0] (bW (gJ prog f62 1) (bV prog (aCo dK) L f62 [1,0,1] (gJ prog f62 1)).n (bV prog (aCo dK) L f62 [1,0,1] (gJ prog f62 1)).x) L (S62_0 a0 a1 v0_0 v0_1 v0_5)) dK a0 a1) (by kernel_rfl) ?_;unfold g62 G62
 repeat' first | with_reducible refine dP ?_ ?_ | with_reducible refine dL λ_=>?_ | with_reducible refine dO λ_=>?_ | with_reducible exact hin0 _ _ _ | exact rfl
def w62 (dK:Y109)(L:Nat)(x:((List M9)×Int)):Option (Int×(List M9)):=g62 dK L x.1 x.2
theorem s62 (dK:Y109)(h109:SatW prog cxT 109 (xG dK).nres (xG dK).n (xG dK).F)(m:Y62)(hm:∀ (x:((List M9)×Int)) t,m x=some t->∃ L,w62 dK L x=some t):SatW prog cxT 62 (c62 m).nres (c62 m).n (c62 m).F:=
 yP bA aW (by rfl) (fn:=f62) rfl rfl a62 n62 aXR m (aCo dK) aV (iO h109 aP) (w62 dK) (λL x=>e62 dK L x.1 x.2) hm bC6
def aCn:Env cxT:={ Kc:=cS [],Kw:=cR [],lv:=λi=>if i=0 then[(0,[some 66]),(1,[]),(5,[])]else[],xv:=λi=>if i=0 then some [(0,[some 66]),(1,[])]else none }
def S63_0 (a0:(List W2))(a1:Int)(v0_0:(List W2))(v0_1:Int)(v0_5:Int):St cxT.ty:={ slots:=[(.inl (.inl (ls { own:=1,nm:=0,e:=66,o:=true,xs:=v0_0 }))),(.inl (.inl (lv (.int .i64 v0_1)))),aK,aK,aK,(.inl (.inl (lv (.int .i64 v0_5))))]++List.replicate 21 aK,D:=[],F:=[],ctr:=1,lo:=1 }
def X63_0 (a0:(List W2))(a1:Int)(w0_0:(List W2))(w0_1:Int):St cxT.ty:={ slots:=[(.inl (.inl (ls { own:=1,nm:=0,e:=66,o:=true,xs:=w0_0 }))),(.inl (.inl (lv (.int .i64 w0_1))))]++List.replicate 25 aK,D:=[],F:=[],ctr:=1,lo:=1 }
def G63 {B:Type}(u:(Int×(List W2))->B)(hh0:(List W2)->Int->Int->Option B)(a0:(List W2))(a1:Int):Option B:=
 hh0 a0 a1 (0:Int)
def B63_0 {B:Type}(u:(Int×(List W2))->B)(gg:(List W2)->Int->Int->Option B)(kk:(List W2)->Int->Option B)(a0:(List W2))(a1:Int)(v0_0:(List W2))(v0_1:Int)(v0_5:Int):Option B:=
 bif (decide (v0_5 < (Nat.cast (List.length v0_0):Int)))then dY (List.getD v0_0 v0_5.toNat ((0:Int),(0:Int))) λs1_0=>dY (List.set v0_0 v0_5.toNat (v0_1,s1_0.2)) λs1_1=>bif ((decide ((0:Int)<=v0_5))&&(decide (v0_5 < (Nat.cast (List.length v0_0):Int))))then bif ((decide ((0:Int)<=v0_5))&&(decide (v0_5 < (Nat.cast (List.length s1_1):Int))))then gg (List.set s1_1 v0_5.toNat ((List.getD s1_1 v0_5.toNat ((0:Int),(0:Int))).1,(wrap .i64 (v0_1+(1:Int))))) (wrap .i64 ((wrap .i64 (v0_1+(1:Int)))+(1:Int))) (wrap .i64 (v0_5+(1:Int)))
   else none
  else none
 else kk v0_0 v0_1
def A63_0 {B:Type}(u:(Int×(List W2))->B)(a0:(List W2))(a1:Int)(w0_0:(List W2))(w0_1:Int):Option B:=
 some (u (w0_1,w0_0))
def rX (L:Nat)(a0:(List W2))(a1:Int):Nat->(List W2)->Int->Int->((List W2)->Int->Option (Int×(List W2)))->Option (Int×(List W2))
 | 0,_,_,_,_=>none
 | n+1,v0_0,v0_1,v0_5,k=>B63_0 (λx=>x) (λv0_0 v0_1 v0_5=>rX L a0 a1 n v0_0 v0_1 v0_5 k) k a0 a1 v0_0 v0_1 v0_5
theorem aNv (L:Nat)(a0:(List W2))(a1:Int)(k:St cxT.ty->Option (List (A cxT.ty)))(xk:Nat->St cxT.ty->Option (List (A cxT.ty)))(k':(List W2)->Int->Option (Int×(List W2)))(hk:∀ (w0_0:(List W2)) (w0_1:Int),k (X63_0 a0 a1 w0_0 w0_1)=(k' w0_0 w0_1).map n63):∀ (n:Nat) (v0_0:(List W2)) (v0_1:Int) (v0_5:Int),bE prog aCn L f63 0 [1,0,1,0,0] (bW (gJ prog f63 1) k xk) n (S63_0 a0 a1 v0_0 v0_1 v0_5)=(rX L a0 a1 n v0_0 v0_1 v0_5 k').map n63
 | 0,_,_,_=>rfl
 | n+1,v0_0,v0_1,v0_5=>by
  rw[bP];have ih:=aNv L a0 a1 k xk k' hk n;refine .trans (b:=B63_0 n63 (λv0_0 v0_1 v0_5=>(bE prog aCn L f63 0 [1,0,1,0,0] (bW (gJ prog f63 1) k xk) n) (S63_0 a0 a1 v0_0 v0_1 v0_5)) (λw0_0 w0_1=>k (X63_0 a0 a1 w0_0 w0_1)) a0 a1 v0_0 v0_1 v0_5) (by kernel_rfl) ?_;unfold rX B63_0
  repeat' first | with_reducible refine dP ?_ ?_ | with_reducible refine dL λ_=>?_ | with_reducible refine dO λ_=>?_ | with_reducible exact ih _ _ _ | with_reducible exact hk _ _ | exact rfl
def g63 (L:Nat)(a0:(List W2))(a1:Int):Option (Int×(List W2)):=G63 (λx=>x) (λv0_0 v0_1 v0_5=>rX L a0 a1 L v0_0 v0_1 v0_5 (λw0_0 w0_1=>A63_0 (λx=>x) a0 a1 w0_0 w0_1)) a0 a1
theorem e63 (L:Nat)(a0:(List W2))(a1:Int):aBG prog aCn (bJ L) f63 1 (a63.enc (a0,a1))=(g63 L a0 a1).map n63:=by
 have hin0:∀ (v0_0:(List W2)) (v0_1:Int) (v0_5:Int),bE prog aCn L f63 0 [1,0,1,0,0] (bW (gJ prog f63 1) (bV prog aCn L f63 [1,0,1] (gJ prog f63 1)).n (bV prog aCn L f63 [1,0,1] (gJ prog f63 1)).x) L (S63_0 a0 a1 v0_0 v0_1 v0_5)=((λv0_0 v0_1 v0_5=>rX L a0 a1 L v0_0 v0_1 v0_5 (λw0_0 w0_1=>A63_0 (λx=>x) a0 a1 w0_0 w0_1)) v0_0 v0_1 v0_5).map n63:=λv0_0 v0_1 v0_5=>aNv L a0 a1 _ _ _ (λw0_0 w0_1=>by refine .trans (b:=A63_0 n63 a0 a1 w0_0 w0_1) (by kernel_rfl) ?_;unfold A63_0;repeat' first | with_reducible refine dP ?_ ?_ | with_reducible refine dL λ_=>?_ | with_reducible refine dO λ_=>?_ | exact rfl) L v0_0 v0_1 v0_5
 refine .trans (b:=G63 n63 (λv0_0 v0_1 v0_5=>bE prog aCn L f63 0 [1,0,1,0,0] (bW (gJ prog f63 1) (bV prog aCn L f63 [1,0,1] (gJ prog f63 1)).n (bV prog aCn L f63 [1,0,1] (gJ prog f63 1)).x) L (S63_0 a0 a1 v0_0 v0_1 v0_5)) a0 a1) (by kernel_rfl) ?_;unfold g63 G63
 repeat' first | with_reducible refine dP ?_ ?_ | with_reducible refine dL λ_=>?_ | with_reducible refine dO λ_=>?_ | with_reducible exact hin0 _ _ _ | exact rfl
def w63 (L:Nat)(x:((List W2)×Int)):Option (Int×(List W2)):=g63 L x.1 x.2
theorem s63 (m:Y63)(hm:∀ (x:((List W2)×Int)) t,m x=some t->∃ L,w63 L x=some t):SatW prog cxT 63 (c63 m).nres (c63 m).n (c63 m).F:=
 yP bA aW (by rfl) (fn:=f63) rfl rfl a63 n63 aXQ m aCn aV aP (w63) (λL x=>e63 L x.1 x.2) hm bC5
def aCm:Env cxT:={ Kc:=cS [],Kw:=cR [],lv:=λi=>if i=0 then[(0,[some 118]),(1,[]),(5,[])]else[],xv:=λi=>if i=0 then some [(0,[some 118]),(1,[])]else none }
def S64_0 (a0:(List S10))(a1:Int)(v0_0:(List S10))(v0_1:Int)(v0_5:Int):St cxT.ty:={ slots:=[(.inl (.inl (ls { own:=1,nm:=0,e:=118,o:=true,xs:=v0_0 }))),(.inl (.inl (lv (.int .i64 v0_1)))),aK,aK,aK,(.inl (.inl (lv (.int .i64 v0_5))))]++List.replicate 92 aK,D:=[],F:=[],ctr:=1,lo:=1 }
def X64_0 (a0:(List S10))(a1:Int)(w0_0:(List S10))(w0_1:Int):St cxT.ty:={ slots:=[(.inl (.inl (ls { own:=1,nm:=0,e:=118,o:=true,xs:=w0_0 }))),(.inl (.inl (lv (.int .i64 w0_1))))]++List.replicate 96 aK,D:=[],F:=[],ctr:=1,lo:=1 }
def G64 {B:Type}(u:(Int×(List S10))->B)(hh0:(List S10)->Int->Int->Option B)(a0:(List S10))(a1:Int):Option B:=
 hh0 a0 a1 (0:Int)
def B64_0 {B:Type}(u:(Int×(List S10))->B)(gg:(List S10)->Int->Int->Option B)(kk:(List S10)->Int->Option B)(a0:(List S10))(a1:Int)(v0_0:(List S10))(v0_1:Int)(v0_5:Int):Option B:=
 bif (decide (v0_5 < (Nat.cast (List.length v0_0):Int)))then dY (List.modify v0_0 v0_5.toNat (λy=>(v0_1,(y.2.1,(y.2.2.1,(y.2.2.2.1,(y.2.2.2.2.1,(y.2.2.2.2.2.1,(y.2.2.2.2.2.2.1,(y.2.2.2.2.2.2.2.1,(y.2.2.2.2.2.2.2.2.1,y.2.2.2.2.2.2.2.2.2))))))))))) λs1_0=>dY (List.modify s1_0 v0_5.toNat (λy=>(y.1,((wrap .i64 (v0_1+(1:Int))),(y.2.2.1,(y.2.2.2.1,(y.2.2.2.2.1,(y.2.2.2.2.2.1,(y.2.2.2.2.2.2.1,(y.2.2.2.2.2.2.2.1,(y.2.2.2.2.2.2.2.2.1,y.2.2.2.2.2.2.2.2.2))))))))))) λs1_1=>dY (List.modify s1_1 v0_5.toNat (λy=>(y.1,(y.2.1,((wrap .i64 ((wrap .i64 (v0_1+(1:Int)))+(1:Int))),(y.2.2.2.1,(y.2.2.2.2.1,(y.2.2.2.2.2.1,(y.2.2.2.2.2.2.1,(y.2.2.2.2.2.2.2.1,(y.2.2.2.2.2.2.2.2.1,y.2.2.2.2.2.2.2.2.2))))))))))) λs1_2=>dY (List.modify s1_2 v0_5.toNat (λy=>(y.1,(y.2.1,(y.2.2.1,((wrap .i64 ((wrap .i64 ((wrap .i64 (v0_1+(1:Int)))+(1:Int)))+(1:Int))),(y.2.2.2.2.1,(y.2.2.2.2.2.1,(y.2.2.2.2.2.2.1,(y.2.2.2.2.2.2.2.1,(y.2.2.2.2.2.2.2.2.1,y.2.2.2.2.2.2.2.2.2))))))))))) λs1_3=>dY (List.modify s1_3 v0_5.toNat (λy=>(y.1,(y.2.1,(y.2.2.1,(y.2.2.2.1,((wrap .i64 ((wrap .i64 ((wrap .i64 ((wrap .i64 (v0_1+(1:Int)))+(1:Int)))+(1:Int)))+(1:Int))),(y.2.2.2.2.2.1,(y.2.2.2.2.2.2.1,(y.2.2.2.2.2.2.2.1,(y.2.2.2.2.2.2.2.2.1,y.2.2.2.2.2.2.2.2.2))))))))))) λs1_4=>dY (List.modify s1_4 v0_5.toNat (λy=>(y.1,(y.2.1,(y.2.2.1,(y.2.2.2.1,(y.2.2.2.2.1,((wrap .i64 ((wrap .i64 ((wrap .i64 ((wrap .i64 ((wrap .i64 (v0_1+(1:Int)))+(1:Int)))+(1:Int)))+(1:Int)))+(1:Int))),(y.2.2.2.2.2.2.1,(y.2.2.2.2.2.2.2.1,(y.2.2.2.2.2.2.2.2.1,y.2.2.2.2.2.2.2.2.2))))))))))) λs1_5=>dY (List.modify s1_5 v0_5.toNat (λy=>(y.1,(y.2.1,(y.2.2.1,(y.2.2.2.1,(y.2.2.2.2.1,(y.2.2.2.2.2.1,((wrap .i64 ((wrap .i64 ((wrap .i64 ((wrap .i64 ((wrap .i64 ((wrap .i64 (v0_1+(1:Int)))+(1:Int)))+(1:Int)))+(1:Int)))+(1:Int)))+(1:Int))),(y.2.2.2.2.2.2.2.1,(y.2.2.2.2.2.2.2.2.1,y.2.2.2.2.2.2.2.2.2))))))))))) λs1_6=>dY (List.modify s1_6 v0_5.toNat (λy=>(y.1,(y.2.1,(y.2.2.1,(y.2.2.2.1,(y.2.2.2.2.1,(y.2.2.2.2.2.1,(y.2.2.2.2.2.2.1,((wrap .i64 ((wrap .i64 ((wrap .i64 ((wrap .i64 ((wrap .i64 ((wrap .i64 ((wrap .i64 (v0_1+(1:Int)))+(1:Int)))+(1:Int)))+(1:Int)))+(1:Int)))+(1:Int)))+(1:Int))),(y.2.2.2.2.2.2.2.2.1,y.2.2.2.2.2.2.2.2.2))))))))))) λs1_7=>bif ((decide ((0:Int)<=v0_5))&&(decide (v0_5 < (Nat.cast (List.length v0_0):Int))))then bif ((decide ((0:Int)<=v0_5))&&(decide (v0_5 < (Nat.cast (List.length s1_0):Int))))then bif ((decide ((0:Int)<=v0_5))&&(decide (v0_5 < (Nat.cast (List.length s1_1):Int))))then bif ((decide ((0:Int)<=v0_5))&&(decide (v0_5 < (Nat.cast (List.length s1_2):Int))))then bif ((decide ((0:Int)<=v0_5))&&(decide (v0_5 < (Nat.cast (List.length s1_3):Int))))then bif ((decide ((0:Int)<=v0_5))&&(decide (v0_5 < (Nat.cast (List.length s1_4):Int))))then bif ((decide ((0:Int)<=v0_5))&&(decide (v0_5 < (Nat.cast (List.length s1_5):Int))))then bif ((decide ((0:Int)<=v0_5))&&(decide (v0_5 < (Nat.cast (List.length s1_6):Int))))then bif ((decide ((0:Int)<=v0_5))&&(decide (v0_5 < (Nat.cast (List.length s1_7):Int))))then bif ((decide ((0:Int)<=v0_5))&&(decide (v0_5 < (Nat.cast (List.length (List.modify s1_7 v0_5.toNat (λy=>(y.1,(y.2.1,(y.2.2.1,(y.2.2.2.1,(y.2.2.2.2.1,(y.2.2.2.2.2.1,(y.2.2.2.2.2.2.1,(y.2.2.2.2.2.2.2.1,((wrap .i64 ((wrap .i64 ((wrap .i64 ((wrap .i64 ((wrap .i64 ((wrap .i64 ((wrap .i64 ((wrap .i64 (v0_1+(1:Int)))+(1:Int)))+(1:Int)))+(1:Int)))+(1:Int)))+(1:Int)))+(1:Int)))+(1:Int))),y.2.2.2.2.2.2.2.2.2)))))))))))):Int))))then gg (List.modify (List.modify s1_7 v0_5.toNat (λy=>(y.1,(y.2.1,(y.2.2.1,(y.2.2.2.1,(y.2.2.2.2.1,(y.2.2.2.2.2.1,(y.2.2.2.2.2.2.1,(y.2.2.2.2.2.2.2.1,((wrap .i64 ((wrap .i64 ((wrap .i64 ((wrap .i64 ((wrap .i64 ((wrap .i64 ((wrap .i64 ((wrap .i64 (v0_1+(1:Int)))+(1:Int)))+(1:Int)))+(1:Int)))+(1:Int)))+(1:Int)))+(1:Int)))+(1:Int))),y.2.2.2.2.2.2.2.2.2))))))))))) v0_5.toNat (λy=>(y.1,(y.2.1,(y.2.2.1,(y.2.2.2.1,(y.2.2.2.2.1,(y.2.2.2.2.2.1,(y.2.2.2.2.2.2.1,(y.2.2.2.2.2.2.2.1,(y.2.2.2.2.2.2.2.2.1,(wrap .i64 ((wrap .i64 ((wrap .i64 ((wrap .i64 ((wrap .i64 ((wrap .i64 ((wrap .i64 ((wrap .i64 ((wrap .i64 (v0_1+(1:Int)))+(1:Int)))+(1:Int)))+(1:Int)))+(1:Int)))+(1:Int)))+(1:Int)))+(1:Int)))+(1:Int)))))))))))))) (wrap .i64 ((wrap .i64 ((wrap .i64 ((wrap .i64 ((wrap .i64 ((wrap .i64 ((wrap .i64 ((wrap .i64 ((wrap .i64 ((wrap .i64 (v0_1+(1:Int)))+(1:Int)))+(1:Int)))+(1:Int)))+(1:Int)))+(1:Int)))+(1:Int)))+(1:Int)))+(1:Int)))+(1:Int))) (wrap .i64 (v0_5+(1:Int)))
           else none
          else none
         else none
        else none
       else none
      else none
     else none
    else none
   else none
  else none
 else kk v0_0 v0_1
def A64_0 {B:Type}(u:(Int×(List S10))->B)(a0:(List S10))(a1:Int)(w0_0:(List S10))(w0_1:Int):Option B:=
 some (u (w0_1,w0_0))
def rW (L:Nat)(a0:(List S10))(a1:Int):Nat->(List S10)->Int->Int->((List S10)->Int->Option (Int×(List S10)))->Option (Int×(List S10))
 | 0,_,_,_,_=>none
 | n+1,v0_0,v0_1,v0_5,k=>B64_0 (λx=>x) (λv0_0 v0_1 v0_5=>rW L a0 a1 n v0_0 v0_1 v0_5 k) k a0 a1 v0_0 v0_1 v0_5
theorem aNu (L:Nat)(a0:(List S10))(a1:Int)(k:St cxT.ty->Option (List (A cxT.ty)))(xk:Nat->St cxT.ty->Option (List (A cxT.ty)))(k':(List S10)->Int->Option (Int×(List S10)))(hk:∀ (w0_0:(List S10)) (w0_1:Int),k (X64_0 a0 a1 w0_0 w0_1)=(k' w0_0 w0_1).map n64):∀ (n:Nat) (v0_0:(List S10)) (v0_1:Int) (v0_5:Int),bE prog aCm L f64 0 [1,0,1,0,0] (bW (gJ prog f64 1) k xk) n (S64_0 a0 a1 v0_0 v0_1 v0_5)=(rW L a0 a1 n v0_0 v0_1 v0_5 k').map n64
 | 0,_,_,_=>rfl
 | n+1,v0_0,v0_1,v0_5=>by
  rw[bP];have ih:=aNu L a0 a1 k xk k' hk n;refine .trans (b:=B64_0 n64 (λv0_0 v0_1 v0_5=>(bE prog aCm L f64 0 [1,0,1,0,0] (bW (gJ prog f64 1) k xk) n) (S64_0 a0 a1 v0_0 v0_1 v0_5)) (λw0_0 w0_1=>k (X64_0 a0 a1 w0_0 w0_1)) a0 a1 v0_0 v0_1 v0_5) (by kernel_rfl) ?_;unfold rW B64_0
  repeat' first | with_reducible refine dP ?_ ?_ | with_reducible refine dL λ_=>?_ | with_reducible refine dO λ_=>?_ | with_reducible exact ih _ _ _ | with_reducible exact hk _ _ | exact rfl
def g64 (L:Nat)(a0:(List S10))(a1:Int):Option (Int×(List S10)):=G64 (λx=>x) (λv0_0 v0_1 v0_5=>rW L a0 a1 L v0_0 v0_1 v0_5 (λw0_0 w0_1=>A64_0 (λx=>x) a0 a1 w0_0 w0_1)) a0 a1
theorem e64 (L:Nat)(a0:(List S10))(a1:Int):aBG prog aCm (bJ L) f64 1 (a64.enc (a0,a1))=(g64 L a0 a1).map n64:=by
 have hin0:∀ (v0_0:(List S10)) (v0_1:Int) (v0_5:Int),bE prog aCm L f64 0 [1,0,1,0,0] (bW (gJ prog f64 1) (bV prog aCm L f64 [1,0,1] (gJ prog f64 1)).n (bV prog aCm L f64 [1,0,1] (gJ prog f64 1)).x) L (S64_0 a0 a1 v0_0 v0_1 v0_5)=((λv0_0 v0_1 v0_5=>rW L a0 a1 L v0_0 v0_1 v0_5 (λw0_0 w0_1=>A64_0 (λx=>x) a0 a1 w0_0 w0_1)) v0_0 v0_1 v0_5).map n64:=λv0_0 v0_1 v0_5=>aNu L a0 a1 _ _ _ (λw0_0 w0_1=>by refine .trans (b:=A64_0 n64 a0 a1 w0_0 w0_1) (by kernel_rfl) ?_;unfold A64_0;repeat' first | with_reducible refine dP ?_ ?_ | with_reducible refine dL λ_=>?_ | with_reducible refine dO λ_=>?_ | exact rfl) L v0_0 v0_1 v0_5
 refine .trans (b:=G64 n64 (λv0_0 v0_1 v0_5=>bE prog aCm L f64 0 [1,0,1,0,0] (bW (gJ prog f64 1) (bV prog aCm L f64 [1,0,1] (gJ prog f64 1)).n (bV prog aCm L f64 [1,0,1] (gJ prog f64 1)).x) L (S64_0 a0 a1 v0_0 v0_1 v0_5)) a0 a1) (by kernel_rfl) ?_;unfold g64 G64
 repeat' first | with_reducible refine dP ?_ ?_ | with_reducible refine dL λ_=>?_ | with_reducible refine dO λ_=>?_ | with_reducible exact hin0 _ _ _ | exact rfl
def w64 (L:Nat)(x:((List S10)×Int)):Option (Int×(List S10)):=g64 L x.1 x.2
theorem s64 (m:Y64)(hm:∀ (x:((List S10)×Int)) t,m x=some t->∃ L,w64 L x=some t):SatW prog cxT 64 (c64 m).nres (c64 m).n (c64 m).F:=
 yP bA aW (by rfl) (fn:=f64) rfl rfl a64 n64 aXP m aCm aV aP (w64) (λL x=>e64 L x.1 x.2) hm bC4
def aXb (xP:Y61)(xO:Y62)(xN:Y63)(xM:Y64):Env cxT:={ Kc:=cS [],Kw:=cR [(61,c61 xP),(62,c62 xO),(63,c63 xN),(64,c64 xM)],lv:=λi=>[],xv:=λi=>none }
def G19 {B:Type}(u:R5->B)(xP:Y61)(xO:Y62)(xN:Y63)(xM:Y64)(a0_0:(List N10))(a0_1:(List M9))(a0_2:(List W2))(a0_3:(List S10))(a1:Int):Option B:=
 dB (xP (a0_0,a1)) ((0:Int),[]) λ(q1:(Int×(List N10)))=>dB (xO (a0_1,q1.1)) ((0:Int),[]) λ(q2:(Int×(List M9)))=>dB (xN (a0_2,q2.1)) ((0:Int),[]) λ(q3:(Int×(List W2)))=>dB (xM (a0_3,q3.1)) ((0:Int),[]) λ(q4:(Int×(List S10)))=>some (u (q4.1,q1.2,q2.2,q3.2,q4.2))
def g19 (xP:Y61)(xO:Y62)(xN:Y63)(xM:Y64)(L:Nat)(a0_0:(List N10))(a0_1:(List M9))(a0_2:(List W2))(a0_3:(List S10))(a1:Int):Option R5:=G19 (λx=>x) xP xO xN xM a0_0 a0_1 a0_2 a0_3 a1
theorem e19 (xP:Y61)(xO:Y62)(xN:Y63)(xM:Y64)(L:Nat)(a0_0:(List N10))(a0_1:(List M9))(a0_2:(List W2))(a0_3:(List S10))(a1:Int):aBG prog (aXb xP xO xN xM) (bJ L) f19 1 (a19.enc ((a0_0,a0_1,a0_2,a0_3),a1))=(g19 xP xO xN xM L a0_0 a0_1 a0_2 a0_3 a1).map n19:=by
 refine .trans (b:=G19 n19 xP xO xN xM a0_0 a0_1 a0_2 a0_3 a1) (by kernel_rfl) ?_;unfold g19 G19
 repeat' first | with_reducible refine dP ?_ ?_ | with_reducible refine dL λ_=>?_ | with_reducible refine dO λ_=>?_ | exact rfl
def w19 (xP:Y61)(xO:Y62)(xN:Y63)(xM:Y64)(L:Nat)(x:(C4×Int)):Option R5:=g19 xP xO xN xM L x.1.1 x.1.2.1 x.1.2.2.1 x.1.2.2.2 x.2
theorem s19 (xP:Y61)(xO:Y62)(xN:Y63)(xM:Y64)(h61:SatW prog cxT 61 (c61 xP).nres (c61 xP).n (c61 xP).F)(h62:SatW prog cxT 62 (c62 xO).nres (c62 xO).n (c62 xO).F)(h63:SatW prog cxT 63 (c63 xN).nres (c63 xN).n (c63 xN).F)(h64:SatW prog cxT 64 (c64 xM).nres (c64 xM).n (c64 xM).F)(m:Y19)(hm:∀ (x:(C4×Int)) t,m x=some t->∃ L,w19 xP xO xN xM L x=some t):SatW prog cxT 19 (c19 m).nres (c19 m).n (c19 m).F:=
 yP bA aW (by rfl) (fn:=f19) rfl rfl a19 n19 aYk m (aXb xP xO xN xM) aV (iO h61 (iO h62 (iO h63 (iO h64 aP)))) (w19 xP xO xN xM) (λL x=>e19 xP xO xN xM L x.1.1 x.1.2.1 x.1.2.2.1 x.1.2.2.2 x.2) hm bDz
end Go.Proofs.Tryz
set_option maxHeartbeats 0
set_option maxRecDepth 100000
namespace Go.Proofs.Tryz
open Go.IntKind (wrap)
open Go Go.VM Go.RowKit
def uA:Env cxT:={ Kc:=cS [],Kw:=cR [],lv:=λi=>if i=0 then[(0,[some 102]),(1,[]),(5,[])]else[],xv:=λi=>if i=0 then some [(1,[])]else none }
def S172_0 (a0:(List E9))(a1:Int)(v0_1:Int)(v0_5:Int):St cxT.ty:={ slots:=[(.inl (.inl (ls { own:=0,nm:=0,e:=102,o:=false,xs:=a0 }))),(.inl (.inl (lv (.int .i64 v0_1)))),aK,aK,aK,(.inl (.inl (lv (.int .i64 v0_5))))]++List.replicate 94 aK,D:=[],F:=[],ctr:=1 }
def X172_0 (a0:(List E9))(a1:Int)(w0_1:Int):St cxT.ty:={ slots:=[aK,(.inl (.inl (lv (.int .i64 w0_1))))]++List.replicate 98 aK,D:=[],F:=[],ctr:=1 }
def G172 {B:Type}(u:Int->B)(hh0:Int->Int->Option B)(a0:(List E9))(a1:Int):Option B:=
 hh0 a1 (0:Int)
def B172_0 {B:Type}(u:Int->B)(gg:Int->Int->Option B)(kk:Int->Option B)(a0:(List E9))(a1:Int)(v0_1:Int)(v0_5:Int):Option B:=
 bif (decide (v0_5 < (Nat.cast (List.length a0):Int)))then dY (List.getD a0 v0_5.toNat ((0:Int),((0:Int),((0:Int),((0:Int),((0:Int),((0:Int),((0:Int),((0:Int),(0:Int)))))))))) λs1_0=>bif ((decide ((0:Int)<=v0_5))&&(decide (v0_5 < (Nat.cast (List.length a0):Int))))then bif (s1_0.1 != v0_1)then some (u (-(1:Int)))
   else bif ((decide ((0:Int)<=v0_5))&&(decide (v0_5 < (Nat.cast (List.length a0):Int))))then bif (s1_0.2.1 != (wrap .i64 (v0_1+(1:Int))))then some (u (-(1:Int)))
    else bif ((decide ((0:Int)<=v0_5))&&(decide (v0_5 < (Nat.cast (List.length a0):Int))))then bif (s1_0.2.2.1 != (wrap .i64 ((wrap .i64 (v0_1+(1:Int)))+(1:Int))))then some (u (-(1:Int)))
     else bif ((decide ((0:Int)<=v0_5))&&(decide (v0_5 < (Nat.cast (List.length a0):Int))))then bif (s1_0.2.2.2.1 != (wrap .i64 ((wrap .i64 ((wrap .i64 (v0_1+(1:Int)))+(1:Int)))+(1:Int))))then some (u (-(1:Int)))
      else bif ((decide ((0:Int)<=v0_5))&&(decide (v0_5 < (Nat.cast (List.length a0):Int))))then bif (s1_0.2.2.2.2.1 != (wrap .i64 ((wrap .i64 ((wrap .i64 ((wrap .i64 (v0_1+(1:Int)))+(1:Int)))+(1:Int)))+(1:Int))))then some (u (-(1:Int)))
       else bif ((decide ((0:Int)<=v0_5))&&(decide (v0_5 < (Nat.cast (List.length a0):Int))))then bif (s1_0.2.2.2.2.2.1 != (wrap .i64 ((wrap .i64 ((wrap .i64 ((wrap .i64 ((wrap .i64 (v0_1+(1:Int)))+(1:Int)))+(1:Int)))+(1:Int)))+(1:Int))))then some (u (-(1:Int)))
        else bif ((decide ((0:Int)<=v0_5))&&(decide (v0_5 < (Nat.cast (List.length a0):Int))))then bif (s1_0.2.2.2.2.2.2.1 != (wrap .i64 ((wrap .i64 ((wrap .i64 ((wrap .i64 ((wrap .i64 ((wrap .i64 (v0_1+(1:Int)))+(1:Int)))+(1:Int)))+(1:Int)))+(1:Int)))+(1:Int))))then some (u (-(1:Int)))
         else bif ((decide ((0:Int)<=v0_5))&&(decide (v0_5 < (Nat.cast (List.length a0):Int))))then bif (s1_0.2.2.2.2.2.2.2.1 != (wrap .i64 ((wrap .i64 ((wrap .i64 ((wrap .i64 ((wrap .i64 ((wrap .i64 ((wrap .i64 (v0_1+(1:Int)))+(1:Int)))+(1:Int)))+(1:Int)))+(1:Int)))+(1:Int)))+(1:Int))))then some (u (-(1:Int)))
          else bif ((decide ((0:Int)<=v0_5))&&(decide (v0_5 < (Nat.cast (List.length a0):Int))))then bif (s1_0.2.2.2.2.2.2.2.2 != (wrap .i64 ((wrap .i64 ((wrap .i64 ((wrap .i64 ((wrap .i64 ((wrap .i64 ((wrap .i64 ((wrap .i64 (v0_1+(1:Int)))+(1:Int)))+(1:Int)))+(1:Int)))+(1:Int)))+(1:Int)))+(1:Int)))+(1:Int))))then some (u (-(1:Int)))
           else gg (wrap .i64 ((wrap .i64 ((wrap .i64 ((wrap .i64 ((wrap .i64 ((wrap .i64 ((wrap .i64 ((wrap .i64 ((wrap .i64 (v0_1+(1:Int)))+(1:Int)))+(1:Int)))+(1:Int)))+(1:Int)))+(1:Int)))+(1:Int)))+(1:Int)))+(1:Int))) (wrap .i64 (v0_5+(1:Int)))
          else none
         else none
        else none
       else none
      else none
     else none
    else none
   else none
  else none
 else kk v0_1
def A172_0 {B:Type}(u:Int->B)(a0:(List E9))(a1:Int)(w0_1:Int):Option B:=
 some (u w0_1)
def oE (L:Nat)(a0:(List E9))(a1:Int):Nat->Int->Int->(Int->Option Int)->Option Int
 | 0,_,_,_=>none
 | n+1,v0_1,v0_5,k=>B172_0 (λx=>x) (λv0_1 v0_5=>oE L a0 a1 n v0_1 v0_5 k) k a0 a1 v0_1 v0_5
theorem aJ4 (L:Nat)(a0:(List E9))(a1:Int)(k:St cxT.ty->Option (V cxT.ty))(xk:Nat->St cxT.ty->Option (V cxT.ty))(k':Int->Option Int)(hk:∀ (w0_1:Int),k (X172_0 a0 a1 w0_1)=(k' w0_1).map aAS):∀ (n:Nat) (v0_1:Int) (v0_5:Int),bE prog uA L f172 0 [1,0,1,0,0] (bW (aX prog f172) k xk) n (S172_0 a0 a1 v0_1 v0_5)=(oE L a0 a1 n v0_1 v0_5 k').map aAS
 | 0,_,_=>rfl
 | n+1,v0_1,v0_5=>by
  rw[bP];have ih:=aJ4 L a0 a1 k xk k' hk n;refine .trans (b:=B172_0 aAS (λv0_1 v0_5=>(bE prog uA L f172 0 [1,0,1,0,0] (bW (aX prog f172) k xk) n) (S172_0 a0 a1 v0_1 v0_5)) (λw0_1=>k (X172_0 a0 a1 w0_1)) a0 a1 v0_1 v0_5) (by kernel_rfl) ?_;unfold oE B172_0
  repeat' first | with_reducible refine dP ?_ ?_ | with_reducible refine dL λ_=>?_ | with_reducible refine dO λ_=>?_ | with_reducible exact ih _ _ | with_reducible exact hk _ | exact rfl
def aKr (L:Nat)(a0:(List E9))(a1:Int):Option Int:=G172 (λx=>x) (λv0_1 v0_5=>oE L a0 a1 L v0_1 v0_5 (λw0_1=>A172_0 (λx=>x) a0 a1 w0_1)) a0 a1
theorem bEE (L:Nat)(a0:(List E9))(a1:Int):fK prog uA (bJ L) f172 (aZs.enc (a0,a1))=(aKr L a0 a1).map aAS:=by
 have hin0:∀ (v0_1:Int) (v0_5:Int),bE prog uA L f172 0 [1,0,1,0,0] (bW (aX prog f172) (bV prog uA L f172 [1,0,1] (aX prog f172)).n (bV prog uA L f172 [1,0,1] (aX prog f172)).x) L (S172_0 a0 a1 v0_1 v0_5)=((λv0_1 v0_5=>oE L a0 a1 L v0_1 v0_5 (λw0_1=>A172_0 (λx=>x) a0 a1 w0_1)) v0_1 v0_5).map aAS:=λv0_1 v0_5=>aJ4 L a0 a1 _ _ _ (λw0_1=>by refine .trans (b:=A172_0 aAS a0 a1 w0_1) (by kernel_rfl) ?_;unfold A172_0;repeat' first | with_reducible refine dP ?_ ?_ | with_reducible refine dL λ_=>?_ | with_reducible refine dO λ_=>?_ | exact rfl) L v0_1 v0_5
 refine .trans (b:=G172 aAS (λv0_1 v0_5=>bE prog uA L f172 0 [1,0,1,0,0] (bW (aX prog f172) (bV prog uA L f172 [1,0,1] (aX prog f172)).n (bV prog uA L f172 [1,0,1] (aX prog f172)).x) L (S172_0 a0 a1 v0_1 v0_5)) a0 a1) (by kernel_rfl) ?_;unfold aKr G172
 repeat' first | with_reducible refine dP ?_ ?_ | with_reducible refine dL λ_=>?_ | with_reducible refine dO λ_=>?_ | with_reducible exact hin0 _ _ | exact rfl
def aPU (L:Nat)(x:((List E9)×Int)):Option Int:=aKr L x.1 x.2
theorem bBK (m:Y172)(hm:∀ (x:((List E9)×Int)) t,m x=some t->∃ L,aPU L x=some t):Sat prog cxT 172 (aIu m):=
 cD bA aW (by rfl) (fn:=f172) rfl aZs aAS aO2 m uA aV aP (aPU) (λL x=>bEE L x.1 x.2) hm aVq
def tZ:Env cxT:={ Kc:=cS [],Kw:=cR [],lv:=λi=>if i=0 then[(0,[some 2]),(1,[]),(5,[])]else[],xv:=λi=>if i=0 then some [(1,[])]else none }
def S173_0 (a0:(List Int))(a1:Int)(v0_1:Int)(v0_5:Int):St cxT.ty:={ slots:=[(.inl (.inl (ls { own:=0,nm:=0,e:=2,o:=false,xs:=a0 }))),(.inl (.inl (lv (.int .i64 v0_1)))),aK,aK,aK,(.inl (.inl (lv (.int .i64 v0_5))))]++List.replicate 15 aK,D:=[],F:=[],ctr:=1 }
def X173_0 (a0:(List Int))(a1:Int)(w0_1:Int):St cxT.ty:={ slots:=[aK,(.inl (.inl (lv (.int .i64 w0_1))))]++List.replicate 19 aK,D:=[],F:=[],ctr:=1 }
def G173 {B:Type}(u:Int->B)(hh0:Int->Int->Option B)(a0:(List Int))(a1:Int):Option B:=
 hh0 a1 (0:Int)
def B173_0 {B:Type}(u:Int->B)(gg:Int->Int->Option B)(kk:Int->Option B)(a0:(List Int))(a1:Int)(v0_1:Int)(v0_5:Int):Option B:=
 bif (decide (v0_5 < (Nat.cast (List.length a0):Int)))then bif ((decide ((0:Int)<=v0_5))&&(decide (v0_5 < (Nat.cast (List.length a0):Int))))then bif ((List.getD a0 v0_5.toNat (0:Int)) != v0_1)then some (u (-(1:Int)))
   else gg (wrap .i64 (v0_1+(1:Int))) (wrap .i64 (v0_5+(1:Int)))
  else none
 else kk v0_1
def A173_0 {B:Type}(u:Int->B)(a0:(List Int))(a1:Int)(w0_1:Int):Option B:=
 some (u w0_1)
def oD (L:Nat)(a0:(List Int))(a1:Int):Nat->Int->Int->(Int->Option Int)->Option Int
 | 0,_,_,_=>none
 | n+1,v0_1,v0_5,k=>B173_0 (λx=>x) (λv0_1 v0_5=>oD L a0 a1 n v0_1 v0_5 k) k a0 a1 v0_1 v0_5
theorem aJ3 (L:Nat)(a0:(List Int))(a1:Int)(k:St cxT.ty->Option (V cxT.ty))(xk:Nat->St cxT.ty->Option (V cxT.ty))(k':Int->Option Int)(hk:∀ (w0_1:Int),k (X173_0 a0 a1 w0_1)=(k' w0_1).map aAR):∀ (n:Nat) (v0_1:Int) (v0_5:Int),bE prog tZ L f173 0 [1,0,1,0,0] (bW (aX prog f173) k xk) n (S173_0 a0 a1 v0_1 v0_5)=(oD L a0 a1 n v0_1 v0_5 k').map aAR
 | 0,_,_=>rfl
 | n+1,v0_1,v0_5=>by
  rw[bP];have ih:=aJ3 L a0 a1 k xk k' hk n;refine .trans (b:=B173_0 aAR (λv0_1 v0_5=>(bE prog tZ L f173 0 [1,0,1,0,0] (bW (aX prog f173) k xk) n) (S173_0 a0 a1 v0_1 v0_5)) (λw0_1=>k (X173_0 a0 a1 w0_1)) a0 a1 v0_1 v0_5) (by kernel_rfl) ?_;unfold oD B173_0
  repeat' first | with_reducible refine dP ?_ ?_ | with_reducible refine dL λ_=>?_ | with_reducible refine dO λ_=>?_ | with_reducible exact ih _ _ | with_reducible exact hk _ | exact rfl
def aKq (L:Nat)(a0:(List Int))(a1:Int):Option Int:=G173 (λx=>x) (λv0_1 v0_5=>oD L a0 a1 L v0_1 v0_5 (λw0_1=>A173_0 (λx=>x) a0 a1 w0_1)) a0 a1
theorem bED (L:Nat)(a0:(List Int))(a1:Int):fK prog tZ (bJ L) f173 (aZr.enc (a0,a1))=(aKq L a0 a1).map aAR:=by
 have hin0:∀ (v0_1:Int) (v0_5:Int),bE prog tZ L f173 0 [1,0,1,0,0] (bW (aX prog f173) (bV prog tZ L f173 [1,0,1] (aX prog f173)).n (bV prog tZ L f173 [1,0,1] (aX prog f173)).x) L (S173_0 a0 a1 v0_1 v0_5)=((λv0_1 v0_5=>oD L a0 a1 L v0_1 v0_5 (λw0_1=>A173_0 (λx=>x) a0 a1 w0_1)) v0_1 v0_5).map aAR:=λv0_1 v0_5=>aJ3 L a0 a1 _ _ _ (λw0_1=>by refine .trans (b:=A173_0 aAR a0 a1 w0_1) (by kernel_rfl) ?_;unfold A173_0;repeat' first | with_reducible refine dP ?_ ?_ | with_reducible refine dL λ_=>?_ | with_reducible refine dO λ_=>?_ | exact rfl) L v0_1 v0_5
 refine .trans (b:=G173 aAR (λv0_1 v0_5=>bE prog tZ L f173 0 [1,0,1,0,0] (bW (aX prog f173) (bV prog tZ L f173 [1,0,1] (aX prog f173)).n (bV prog tZ L f173 [1,0,1] (aX prog f173)).x) L (S173_0 a0 a1 v0_1 v0_5)) a0 a1) (by kernel_rfl) ?_;unfold aKq G173
 repeat' first | with_reducible refine dP ?_ ?_ | with_reducible refine dL λ_=>?_ | with_reducible refine dO λ_=>?_ | with_reducible exact hin0 _ _ | exact rfl
def aPT (L:Nat)(x:((List Int)×Int)):Option Int:=aKq L x.1 x.2
theorem bBJ (m:Y173)(hm:∀ (x:((List Int)×Int)) t,m x=some t->∃ L,aPT L x=some t):Sat prog cxT 173 (aMD m):=
 cD bA aW (by rfl) (fn:=f173) rfl aZr aAR aO1 m tZ aV aP (aPT) (λL x=>bED L x.1 x.2) hm aVp
def uN (dR:Y172)(gE:Y173):Env cxT:={ Kc:=cS [(172,aIu dR),(173,aMD gE)],Kw:=cR [],lv:=λi=>if i=0 then[(0,[some 96]),(1,[]),(5,[])]else[],xv:=λi=>if i=0 then some [(1,[])]else none }
def S111_0 (a0:(List N10))(a1:Int)(v0_1:Int)(v0_5:Int):St cxT.ty:={ slots:=[(.inl (.inl (ls { own:=0,nm:=0,e:=96,o:=false,xs:=a0 }))),(.inl (.inl (lv (.int .i64 v0_1)))),aK,aK,aK,(.inl (.inl (lv (.int .i64 v0_5))))]++List.replicate 97 aK,D:=[],F:=[],ctr:=1 }
def X111_0 (a0:(List N10))(a1:Int)(w0_1:Int):St cxT.ty:={ slots:=[aK,(.inl (.inl (lv (.int .i64 w0_1))))]++List.replicate 101 aK,D:=[],F:=[],ctr:=1 }
def G111 {B:Type}(u:Int->B)(hh0:Int->Int->Option B)(dR:Y172)(gE:Y173)(a0:(List N10))(a1:Int):Option B:=
 hh0 a1 (0:Int)
def B111_0 {B:Type}(u:Int->B)(gg:Int->Int->Option B)(kk:Int->Option B)(dR:Y172)(gE:Y173)(a0:(List N10))(a1:Int)(v0_1:Int)(v0_5:Int):Option B:=
 bif (decide (v0_5 < (Nat.cast (List.length a0):Int)))then dY (List.getD a0 v0_5.toNat ((0:Int),((0:Int),((0:Int),((0:Int),(([]:List E9),((0:Int),((0:Int),(([]:List (Int)),(([]:List (Int)),([]:List (Int)))))))))))) λs1_0=>bif ((decide ((0:Int)<=v0_5))&&(decide (v0_5 < (Nat.cast (List.length a0):Int))))then bif (s1_0.1 != v0_1)then some (u (-(1:Int)))
   else bif ((decide ((0:Int)<=v0_5))&&(decide (v0_5 < (Nat.cast (List.length a0):Int))))then bif (s1_0.2.1 != (wrap .i64 (v0_1+(1:Int))))then some (u (-(1:Int)))
    else bif ((decide ((0:Int)<=v0_5))&&(decide (v0_5 < (Nat.cast (List.length a0):Int))))then bif (s1_0.2.2.1 != (wrap .i64 ((wrap .i64 (v0_1+(1:Int)))+(1:Int))))then some (u (-(1:Int)))
     else bif ((decide ((0:Int)<=v0_5))&&(decide (v0_5 < (Nat.cast (List.length a0):Int))))then bif (s1_0.2.2.2.1 != (wrap .i64 ((wrap .i64 ((wrap .i64 (v0_1+(1:Int)))+(1:Int)))+(1:Int))))then some (u (-(1:Int)))
      else bif ((decide ((0:Int)<=v0_5))&&(decide (v0_5 < (Nat.cast (List.length a0):Int))))then dB (dR (s1_0.2.2.2.2.1,(wrap .i64 ((wrap .i64 ((wrap .i64 ((wrap .i64 (v0_1+(1:Int)))+(1:Int)))+(1:Int)))+(1:Int))))) (0:Int) λ(q7:Int)=>bif (decide (q7 < (0:Int)))then some (u (-(1:Int)))
        else bif ((decide ((0:Int)<=v0_5))&&(decide (v0_5 < (Nat.cast (List.length a0):Int))))then bif (s1_0.2.2.2.2.2.1 != q7)then some (u (-(1:Int)))
         else bif ((decide ((0:Int)<=v0_5))&&(decide (v0_5 < (Nat.cast (List.length a0):Int))))then bif (s1_0.2.2.2.2.2.2.1 != (wrap .i64 (q7+(1:Int))))then some (u (-(1:Int)))
          else bif ((decide ((0:Int)<=v0_5))&&(decide (v0_5 < (Nat.cast (List.length a0):Int))))then dB (gE (s1_0.2.2.2.2.2.2.2.1,(wrap .i64 ((wrap .i64 (q7+(1:Int)))+(1:Int))))) (0:Int) λ(q11:Int)=>bif (decide (q11 < (0:Int)))then some (u (-(1:Int)))
            else bif ((decide ((0:Int)<=v0_5))&&(decide (v0_5 < (Nat.cast (List.length a0):Int))))then dB (gE (s1_0.2.2.2.2.2.2.2.2.1,q11)) (0:Int) λ(q13:Int)=>bif (decide (q13 < (0:Int)))then some (u (-(1:Int)))
              else bif ((decide ((0:Int)<=v0_5))&&(decide (v0_5 < (Nat.cast (List.length a0):Int))))then dB (gE (s1_0.2.2.2.2.2.2.2.2.2,q13)) (0:Int) λ(q15:Int)=>bif (decide (q15 < (0:Int)))then some (u (-(1:Int)))
                else gg q15 (wrap .i64 (v0_5+(1:Int)))
              else none
            else none
          else none
         else none
        else none
      else none
     else none
    else none
   else none
  else none
 else kk v0_1
def A111_0 {B:Type}(u:Int->B)(dR:Y172)(gE:Y173)(a0:(List N10))(a1:Int)(w0_1:Int):Option B:=
 some (u w0_1)
def oG (dR:Y172)(gE:Y173)(L:Nat)(a0:(List N10))(a1:Int):Nat->Int->Int->(Int->Option Int)->Option Int
 | 0,_,_,_=>none
 | n+1,v0_1,v0_5,k=>B111_0 (λx=>x) (λv0_1 v0_5=>oG dR gE L a0 a1 n v0_1 v0_5 k) k dR gE a0 a1 v0_1 v0_5
theorem aKh (dR:Y172)(gE:Y173)(L:Nat)(a0:(List N10))(a1:Int)(k:St cxT.ty->Option (V cxT.ty))(xk:Nat->St cxT.ty->Option (V cxT.ty))(k':Int->Option Int)(hk:∀ (w0_1:Int),k (X111_0 a0 a1 w0_1)=(k' w0_1).map aA5):∀ (n:Nat) (v0_1:Int) (v0_5:Int),bE prog (uN dR gE) L f111 0 [1,0,1,0,0] (bW (aX prog f111) k xk) n (S111_0 a0 a1 v0_1 v0_5)=(oG dR gE L a0 a1 n v0_1 v0_5 k').map aA5
 | 0,_,_=>rfl
 | n+1,v0_1,v0_5=>by
  rw[bP];have ih:=aKh dR gE L a0 a1 k xk k' hk n;refine .trans (b:=B111_0 aA5 (λv0_1 v0_5=>(bE prog (uN dR gE) L f111 0 [1,0,1,0,0] (bW (aX prog f111) k xk) n) (S111_0 a0 a1 v0_1 v0_5)) (λw0_1=>k (X111_0 a0 a1 w0_1)) dR gE a0 a1 v0_1 v0_5) (by kernel_rfl) ?_;unfold oG B111_0
  repeat' first | with_reducible refine dP ?_ ?_ | with_reducible refine dL λ_=>?_ | with_reducible refine dO λ_=>?_ | with_reducible exact ih _ _ | with_reducible exact hk _ | exact rfl
def aKH (dR:Y172)(gE:Y173)(L:Nat)(a0:(List N10))(a1:Int):Option Int:=G111 (λx=>x) (λv0_1 v0_5=>oG dR gE L a0 a1 L v0_1 v0_5 (λw0_1=>A111_0 (λx=>x) dR gE a0 a1 w0_1)) dR gE a0 a1
theorem bFe (dR:Y172)(gE:Y173)(L:Nat)(a0:(List N10))(a1:Int):fK prog (uN dR gE) (bJ L) f111 (aZ1.enc (a0,a1))=(aKH dR gE L a0 a1).map aA5:=by
 have hin0:∀ (v0_1:Int) (v0_5:Int),bE prog (uN dR gE) L f111 0 [1,0,1,0,0] (bW (aX prog f111) (bV prog (uN dR gE) L f111 [1,0,1] (aX prog f111)).n (bV prog (uN dR gE) L f111 [1,0,1] (aX prog f111)).x) L (S111_0 a0 a1 v0_1 v0_5)=((λv0_1 v0_5=>oG dR gE L a0 a1 L v0_1 v0_5 (λw0_1=>A111_0 (λx=>x) dR gE a0 a1 w0_1)) v0_1 v0_5).map aA5:=λv0_1 v0_5=>aKh dR gE L a0 a1 _ _ _ (λw0_1=>by refine .trans (b:=A111_0 aA5 dR gE a0 a1 w0_1) (by kernel_rfl) ?_;unfold A111_0;repeat' first | with_reducible refine dP ?_ ?_ | with_reducible refine dL λ_=>?_ | with_reducible refine dO λ_=>?_ | exact rfl) L v0_1 v0_5
 refine .trans (b:=G111 aA5 (λv0_1 v0_5=>bE prog (uN dR gE) L f111 0 [1,0,1,0,0] (bW (aX prog f111) (bV prog (uN dR gE) L f111 [1,0,1] (aX prog f111)).n (bV prog (uN dR gE) L f111 [1,0,1] (aX prog f111)).x) L (S111_0 a0 a1 v0_1 v0_5)) dR gE a0 a1) (by kernel_rfl) ?_;unfold aKH G111
 repeat' first | with_reducible refine dP ?_ ?_ | with_reducible refine dL λ_=>?_ | with_reducible refine dO λ_=>?_ | with_reducible exact hin0 _ _ | exact rfl
def aTJ (dR:Y172)(gE:Y173)(L:Nat)(x:((List N10)×Int)):Option Int:=aKH dR gE L x.1 x.2
theorem bCj (dR:Y172)(gE:Y173)(h172:Sat prog cxT 172 (aIu dR))(h173:Sat prog cxT 173 (aMD gE))(m:Y111)(hm:∀ (x:((List N10)×Int)) t,m x=some t->∃ L,aTJ dR gE L x=some t):Sat prog cxT 111 (aMZ m):=
 cD bA aW (by rfl) (fn:=f111) rfl aZ1 aA5 aPC m (uN dR gE) (aL h172 (aL h173 aV)) aP (aTJ dR gE) (λL x=>bFe dR gE L x.1 x.2) hm aVZ
def uM (dR:Y172):Env cxT:={ Kc:=cS [(172,aIu dR)],Kw:=cR [],lv:=λi=>if i=0 then[(0,[some 78]),(1,[]),(5,[])]else[],xv:=λi=>if i=0 then some [(1,[])]else none }
def S112_0 (a0:(List M9))(a1:Int)(v0_1:Int)(v0_5:Int):St cxT.ty:={ slots:=[(.inl (.inl (ls { own:=0,nm:=0,e:=78,o:=false,xs:=a0 }))),(.inl (.inl (lv (.int .i64 v0_1)))),aK,aK,aK,(.inl (.inl (lv (.int .i64 v0_5))))]++List.replicate 90 aK,D:=[],F:=[],ctr:=1 }
def X112_0 (a0:(List M9))(a1:Int)(w0_1:Int):St cxT.ty:={ slots:=[aK,(.inl (.inl (lv (.int .i64 w0_1))))]++List.replicate 94 aK,D:=[],F:=[],ctr:=1 }
def G112 {B:Type}(u:Int->B)(hh0:Int->Int->Option B)(dR:Y172)(a0:(List M9))(a1:Int):Option B:=
 hh0 a1 (0:Int)
def B112_0 {B:Type}(u:Int->B)(gg:Int->Int->Option B)(kk:Int->Option B)(dR:Y172)(a0:(List M9))(a1:Int)(v0_1:Int)(v0_5:Int):Option B:=
 bif (decide (v0_5 < (Nat.cast (List.length a0):Int)))then dY (List.getD a0 v0_5.toNat ((0:Int),((0:Int),((0:Int),((0:Int),((0:Int),((0:Int),((0:Int),(false,[]))))))))) λs1_0=>bif ((decide ((0:Int)<=v0_5))&&(decide (v0_5 < (Nat.cast (List.length a0):Int))))then bif (s1_0.1 != v0_1)then some (u (-(1:Int)))
   else bif ((decide ((0:Int)<=v0_5))&&(decide (v0_5 < (Nat.cast (List.length a0):Int))))then bif (s1_0.2.1 != (wrap .i64 (v0_1+(1:Int))))then some (u (-(1:Int)))
    else bif ((decide ((0:Int)<=v0_5))&&(decide (v0_5 < (Nat.cast (List.length a0):Int))))then bif (s1_0.2.2.1 != (wrap .i64 ((wrap .i64 (v0_1+(1:Int)))+(1:Int))))then some (u (-(1:Int)))
     else bif ((decide ((0:Int)<=v0_5))&&(decide (v0_5 < (Nat.cast (List.length a0):Int))))then bif (s1_0.2.2.2.1 != (wrap .i64 ((wrap .i64 ((wrap .i64 (v0_1+(1:Int)))+(1:Int)))+(1:Int))))then some (u (-(1:Int)))
      else bif ((decide ((0:Int)<=v0_5))&&(decide (v0_5 < (Nat.cast (List.length a0):Int))))then bif (s1_0.2.2.2.2.1 != (wrap .i64 ((wrap .i64 ((wrap .i64 ((wrap .i64 (v0_1+(1:Int)))+(1:Int)))+(1:Int)))+(1:Int))))then some (u (-(1:Int)))
       else bif ((decide ((0:Int)<=v0_5))&&(decide (v0_5 < (Nat.cast (List.length a0):Int))))then bif (s1_0.2.2.2.2.2.1 != (wrap .i64 ((wrap .i64 ((wrap .i64 ((wrap .i64 ((wrap .i64 (v0_1+(1:Int)))+(1:Int)))+(1:Int)))+(1:Int)))+(1:Int))))then some (u (-(1:Int)))
        else bif ((decide ((0:Int)<=v0_5))&&(decide (v0_5 < (Nat.cast (List.length a0):Int))))then bif (s1_0.2.2.2.2.2.2.1 != (wrap .i64 ((wrap .i64 ((wrap .i64 ((wrap .i64 ((wrap .i64 ((wrap .i64 (v0_1+(1:Int)))+(1:Int)))+(1:Int)))+(1:Int)))+(1:Int)))+(1:Int))))then some (u (-(1:Int)))
         else bif ((decide ((0:Int)<=v0_5))&&(decide (v0_5 < (Nat.cast (List.length a0):Int))))then bif (!(s1_0.2.2.2.2.2.2.2.1 == ((Int.tmod (wrap .i64 ((wrap .i64 ((wrap .i64 ((wrap .i64 ((wrap .i64 ((wrap .i64 ((wrap .i64 (v0_1+(1:Int)))+(1:Int)))+(1:Int)))+(1:Int)))+(1:Int)))+(1:Int)))+(1:Int))) (3:Int)) == (0:Int))))then some (u (-(1:Int)))
          else bif ((decide ((0:Int)<=v0_5))&&(decide (v0_5 < (Nat.cast (List.length a0):Int))))then dB (dR (s1_0.2.2.2.2.2.2.2.2,(wrap .i64 ((wrap .i64 ((wrap .i64 ((wrap .i64 ((wrap .i64 ((wrap .i64 ((wrap .i64 ((wrap .i64 (v0_1+(1:Int)))+(1:Int)))+(1:Int)))+(1:Int)))+(1:Int)))+(1:Int)))+(1:Int)))+(1:Int))))) (0:Int) λ(q11:Int)=>bif (decide (q11 < (0:Int)))then some (u (-(1:Int)))
            else gg q11 (wrap .i64 (v0_5+(1:Int)))
          else none
         else none
        else none
       else none
      else none
     else none
    else none
   else none
  else none
 else kk v0_1
def A112_0 {B:Type}(u:Int->B)(dR:Y172)(a0:(List M9))(a1:Int)(w0_1:Int):Option B:=
 some (u w0_1)
def oF (dR:Y172)(L:Nat)(a0:(List M9))(a1:Int):Nat->Int->Int->(Int->Option Int)->Option Int
 | 0,_,_,_=>none
 | n+1,v0_1,v0_5,k=>B112_0 (λx=>x) (λv0_1 v0_5=>oF dR L a0 a1 n v0_1 v0_5 k) k dR a0 a1 v0_1 v0_5
theorem aKg (dR:Y172)(L:Nat)(a0:(List M9))(a1:Int)(k:St cxT.ty->Option (V cxT.ty))(xk:Nat->St cxT.ty->Option (V cxT.ty))(k':Int->Option Int)(hk:∀ (w0_1:Int),k (X112_0 a0 a1 w0_1)=(k' w0_1).map aA4):∀ (n:Nat) (v0_1:Int) (v0_5:Int),bE prog (uM dR) L f112 0 [1,0,1,0,0] (bW (aX prog f112) k xk) n (S112_0 a0 a1 v0_1 v0_5)=(oF dR L a0 a1 n v0_1 v0_5 k').map aA4
 | 0,_,_=>rfl
 | n+1,v0_1,v0_5=>by
  rw[bP];have ih:=aKg dR L a0 a1 k xk k' hk n;refine .trans (b:=B112_0 aA4 (λv0_1 v0_5=>(bE prog (uM dR) L f112 0 [1,0,1,0,0] (bW (aX prog f112) k xk) n) (S112_0 a0 a1 v0_1 v0_5)) (λw0_1=>k (X112_0 a0 a1 w0_1)) dR a0 a1 v0_1 v0_5) (by kernel_rfl) ?_;unfold oF B112_0
  repeat' first | with_reducible refine dP ?_ ?_ | with_reducible refine dL λ_=>?_ | with_reducible refine dO λ_=>?_ | with_reducible exact ih _ _ | with_reducible exact hk _ | exact rfl
def aKG (dR:Y172)(L:Nat)(a0:(List M9))(a1:Int):Option Int:=G112 (λx=>x) (λv0_1 v0_5=>oF dR L a0 a1 L v0_1 v0_5 (λw0_1=>A112_0 (λx=>x) dR a0 a1 w0_1)) dR a0 a1
theorem bFd (dR:Y172)(L:Nat)(a0:(List M9))(a1:Int):fK prog (uM dR) (bJ L) f112 (aZ0.enc (a0,a1))=(aKG dR L a0 a1).map aA4:=by
 have hin0:∀ (v0_1:Int) (v0_5:Int),bE prog (uM dR) L f112 0 [1,0,1,0,0] (bW (aX prog f112) (bV prog (uM dR) L f112 [1,0,1] (aX prog f112)).n (bV prog (uM dR) L f112 [1,0,1] (aX prog f112)).x) L (S112_0 a0 a1 v0_1 v0_5)=((λv0_1 v0_5=>oF dR L a0 a1 L v0_1 v0_5 (λw0_1=>A112_0 (λx=>x) dR a0 a1 w0_1)) v0_1 v0_5).map aA4:=λv0_1 v0_5=>aKg dR L a0 a1 _ _ _ (λw0_1=>by refine .trans (b:=A112_0 aA4 dR a0 a1 w0_1) (by kernel_rfl) ?_;unfold A112_0;repeat' first | with_reducible refine dP ?_ ?_ | with_reducible refine dL λ_=>?_ | with_reducible refine dO λ_=>?_ | exact rfl) L v0_1 v0_5
 refine .trans (b:=G112 aA4 (λv0_1 v0_5=>bE prog (uM dR) L f112 0 [1,0,1,0,0] (bW (aX prog f112) (bV prog (uM dR) L f112 [1,0,1] (aX prog f112)).n (bV prog (uM dR) L f112 [1,0,1] (aX prog f112)).x) L (S112_0 a0 a1 v0_1 v0_5)) dR a0 a1) (by kernel_rfl) ?_;unfold aKG G112
 repeat' first | with_reducible refine dP ?_ ?_ | with_reducible refine dL λ_=>?_ | with_reducible refine dO λ_=>?_ | with_reducible exact hin0 _ _ | exact rfl
def aTI (dR:Y172)(L:Nat)(x:((List M9)×Int)):Option Int:=aKG dR L x.1 x.2
theorem bCi (dR:Y172)(h172:Sat prog cxT 172 (aIu dR))(m:Y112)(hm:∀ (x:((List M9)×Int)) t,m x=some t->∃ L,aTI dR L x=some t):Sat prog cxT 112 (aMY m):=
 cD bA aW (by rfl) (fn:=f112) rfl aZ0 aA4 aPB m (uM dR) (aL h172 aV) aP (aTI dR) (λL x=>bFd dR L x.1 x.2) hm aVY
def uL:Env cxT:={ Kc:=cS [],Kw:=cR [],lv:=λi=>if i=0 then[(0,[some 66]),(1,[]),(5,[])]else[],xv:=λi=>if i=0 then some [(1,[])]else none }
def S113_0 (a0:(List W2))(a1:Int)(v0_1:Int)(v0_5:Int):St cxT.ty:={ slots:=[(.inl (.inl (ls { own:=0,nm:=0,e:=66,o:=false,xs:=a0 }))),(.inl (.inl (lv (.int .i64 v0_1)))),aK,aK,aK,(.inl (.inl (lv (.int .i64 v0_5))))]++List.replicate 25 aK,D:=[],F:=[],ctr:=1 }
def X113_0 (a0:(List W2))(a1:Int)(w0_1:Int):St cxT.ty:={ slots:=[aK,(.inl (.inl (lv (.int .i64 w0_1))))]++List.replicate 29 aK,D:=[],F:=[],ctr:=1 }
def G113 {B:Type}(u:Int->B)(hh0:Int->Int->Option B)(a0:(List W2))(a1:Int):Option B:=
 hh0 a1 (0:Int)
def B113_0 {B:Type}(u:Int->B)(gg:Int->Int->Option B)(kk:Int->Option B)(a0:(List W2))(a1:Int)(v0_1:Int)(v0_5:Int):Option B:=
 bif (decide (v0_5 < (Nat.cast (List.length a0):Int)))then bif ((decide ((0:Int)<=v0_5))&&(decide (v0_5 < (Nat.cast (List.length a0):Int))))then bif ((List.getD a0 v0_5.toNat ((0:Int),(0:Int))).1 != v0_1)then some (u (-(1:Int)))
   else bif ((decide ((0:Int)<=v0_5))&&(decide (v0_5 < (Nat.cast (List.length a0):Int))))then bif ((List.getD a0 v0_5.toNat ((0:Int),(0:Int))).2 != (wrap .i64 (v0_1+(1:Int))))then some (u (-(1:Int)))
    else gg (wrap .i64 ((wrap .i64 (v0_1+(1:Int)))+(1:Int))) (wrap .i64 (v0_5+(1:Int)))
   else none
  else none
 else kk v0_1
def A113_0 {B:Type}(u:Int->B)(a0:(List W2))(a1:Int)(w0_1:Int):Option B:=
 some (u w0_1)
def pK (L:Nat)(a0:(List W2))(a1:Int):Nat->Int->Int->(Int->Option Int)->Option Int
 | 0,_,_,_=>none
 | n+1,v0_1,v0_5,k=>B113_0 (λx=>x) (λv0_1 v0_5=>pK L a0 a1 n v0_1 v0_5 k) k a0 a1 v0_1 v0_5
theorem aKf (L:Nat)(a0:(List W2))(a1:Int)(k:St cxT.ty->Option (V cxT.ty))(xk:Nat->St cxT.ty->Option (V cxT.ty))(k':Int->Option Int)(hk:∀ (w0_1:Int),k (X113_0 a0 a1 w0_1)=(k' w0_1).map aA3):∀ (n:Nat) (v0_1:Int) (v0_5:Int),bE prog uL L f113 0 [1,0,1,0,0] (bW (aX prog f113) k xk) n (S113_0 a0 a1 v0_1 v0_5)=(pK L a0 a1 n v0_1 v0_5 k').map aA3
 | 0,_,_=>rfl
 | n+1,v0_1,v0_5=>by
  rw[bP];have ih:=aKf L a0 a1 k xk k' hk n;refine .trans (b:=B113_0 aA3 (λv0_1 v0_5=>(bE prog uL L f113 0 [1,0,1,0,0] (bW (aX prog f113) k xk) n) (S113_0 a0 a1 v0_1 v0_5)) (λw0_1=>k (X113_0 a0 a1 w0_1)) a0 a1 v0_1 v0_5) (by kernel_rfl) ?_;unfold pK B113_0
  repeat' first | with_reducible refine dP ?_ ?_ | with_reducible refine dL λ_=>?_ | with_reducible refine dO λ_=>?_ | with_reducible exact ih _ _ | with_reducible exact hk _ | exact rfl
def aSe (L:Nat)(a0:(List W2))(a1:Int):Option Int:=G113 (λx=>x) (λv0_1 v0_5=>pK L a0 a1 L v0_1 v0_5 (λw0_1=>A113_0 (λx=>x) a0 a1 w0_1)) a0 a1
theorem bFc (L:Nat)(a0:(List W2))(a1:Int):fK prog uL (bJ L) f113 (aZZ.enc (a0,a1))=(aSe L a0 a1).map aA3:=by
 have hin0:∀ (v0_1:Int) (v0_5:Int),bE prog uL L f113 0 [1,0,1,0,0] (bW (aX prog f113) (bV prog uL L f113 [1,0,1] (aX prog f113)).n (bV prog uL L f113 [1,0,1] (aX prog f113)).x) L (S113_0 a0 a1 v0_1 v0_5)=((λv0_1 v0_5=>pK L a0 a1 L v0_1 v0_5 (λw0_1=>A113_0 (λx=>x) a0 a1 w0_1)) v0_1 v0_5).map aA3:=λv0_1 v0_5=>aKf L a0 a1 _ _ _ (λw0_1=>by refine .trans (b:=A113_0 aA3 a0 a1 w0_1) (by kernel_rfl) ?_;unfold A113_0;repeat' first | with_reducible refine dP ?_ ?_ | with_reducible refine dL λ_=>?_ | with_reducible refine dO λ_=>?_ | exact rfl) L v0_1 v0_5
 refine .trans (b:=G113 aA3 (λv0_1 v0_5=>bE prog uL L f113 0 [1,0,1,0,0] (bW (aX prog f113) (bV prog uL L f113 [1,0,1] (aX prog f113)).n (bV prog uL L f113 [1,0,1] (aX prog f113)).x) L (S113_0 a0 a1 v0_1 v0_5)) a0 a1) (by kernel_rfl) ?_;unfold aSe G113
 repeat' first | with_reducible refine dP ?_ ?_ | with_reducible refine dL λ_=>?_ | with_reducible refine dO λ_=>?_ | with_reducible exact hin0 _ _ | exact rfl
def aTH (L:Nat)(x:((List W2)×Int)):Option Int:=aSe L x.1 x.2
theorem bCh (m:Y113)(hm:∀ (x:((List W2)×Int)) t,m x=some t->∃ L,aTH L x=some t):Sat prog cxT 113 (aMX m):=
 cD bA aW (by rfl) (fn:=f113) rfl aZZ aA3 aPA m uL aV aP (aTH) (λL x=>bFc L x.1 x.2) hm aVX
def uK:Env cxT:={ Kc:=cS [],Kw:=cR [],lv:=λi=>if i=0 then[(0,[some 118]),(1,[]),(5,[])]else[],xv:=λi=>if i=0 then some [(1,[])]else none }
def S114_0 (a0:(List S10))(a1:Int)(v0_1:Int)(v0_5:Int):St cxT.ty:={ slots:=[(.inl (.inl (ls { own:=0,nm:=0,e:=118,o:=false,xs:=a0 }))),(.inl (.inl (lv (.int .i64 v0_1)))),aK,aK,aK,(.inl (.inl (lv (.int .i64 v0_5))))]++List.replicate 112 aK,D:=[],F:=[],ctr:=1 }
def X114_0 (a0:(List S10))(a1:Int)(w0_1:Int):St cxT.ty:={ slots:=[aK,(.inl (.inl (lv (.int .i64 w0_1))))]++List.replicate 116 aK,D:=[],F:=[],ctr:=1 }
def G114 {B:Type}(u:Int->B)(hh0:Int->Int->Option B)(a0:(List S10))(a1:Int):Option B:=
 hh0 a1 (0:Int)
def B114_0 {B:Type}(u:Int->B)(gg:Int->Int->Option B)(kk:Int->Option B)(a0:(List S10))(a1:Int)(v0_1:Int)(v0_5:Int):Option B:=
 bif (decide (v0_5 < (Nat.cast (List.length a0):Int)))then dY (List.getD a0 v0_5.toNat ((0:Int),((0:Int),((0:Int),((0:Int),((0:Int),((0:Int),((0:Int),((0:Int),((0:Int),(0:Int))))))))))) λs1_0=>bif ((decide ((0:Int)<=v0_5))&&(decide (v0_5 < (Nat.cast (List.length a0):Int))))then bif (s1_0.1 != v0_1)then some (u (-(1:Int)))
   else bif ((decide ((0:Int)<=v0_5))&&(decide (v0_5 < (Nat.cast (List.length a0):Int))))then bif (s1_0.2.1 != (wrap .i64 (v0_1+(1:Int))))then some (u (-(1:Int)))
    else bif ((decide ((0:Int)<=v0_5))&&(decide (v0_5 < (Nat.cast (List.length a0):Int))))then bif (s1_0.2.2.1 != (wrap .i64 ((wrap .i64 (v0_1+(1:Int)))+(1:Int))))then some (u (-(1:Int)))
     else bif ((decide ((0:Int)<=v0_5))&&(decide (v0_5 < (Nat.cast (List.length a0):Int))))then bif (s1_0.2.2.2.1 != (wrap .i64 ((wrap .i64 ((wrap .i64 (v0_1+(1:Int)))+(1:Int)))+(1:Int))))then some (u (-(1:Int)))
      else bif ((decide ((0:Int)<=v0_5))&&(decide (v0_5 < (Nat.cast (List.length a0):Int))))then bif (s1_0.2.2.2.2.1 != (wrap .i64 ((wrap .i64 ((wrap .i64 ((wrap .i64 (v0_1+(1:Int)))+(1:Int)))+(1:Int)))+(1:Int))))then some (u (-(1:Int)))
       else bif ((decide ((0:Int)<=v0_5))&&(decide (v0_5 < (Nat.cast (List.length a0):Int))))then bif (s1_0.2.2.2.2.2.1 != (wrap .i64 ((wrap .i64 ((wrap .i64 ((wrap .i64 ((wrap .i64 (v0_1+(1:Int)))+(1:Int)))+(1:Int)))+(1:Int)))+(1:Int))))then some (u (-(1:Int)))
        else bif ((decide ((0:Int)<=v0_5))&&(decide (v0_5 < (Nat.cast (List.length a0):Int))))then bif (s1_0.2.2.2.2.2.2.1 != (wrap .i64 ((wrap .i64 ((wrap .i64 ((wrap .i64 ((wrap .i64 ((wrap .i64 (v0_1+(1:Int)))+(1:Int)))+(1:Int)))+(1:Int)))+(1:Int)))+(1:Int))))then some (u (-(1:Int)))
         else bif ((decide ((0:Int)<=v0_5))&&(decide (v0_5 < (Nat.cast (List.length a0):Int))))then bif (s1_0.2.2.2.2.2.2.2.1 != (wrap .i64 ((wrap .i64 ((wrap .i64 ((wrap .i64 ((wrap .i64 ((wrap .i64 ((wrap .i64 (v0_1+(1:Int)))+(1:Int)))+(1:Int)))+(1:Int)))+(1:Int)))+(1:Int)))+(1:Int))))then some (u (-(1:Int)))
          else bif ((decide ((0:Int)<=v0_5))&&(decide (v0_5 < (Nat.cast (List.length a0):Int))))then bif (s1_0.2.2.2.2.2.2.2.2.1 != (wrap .i64 ((wrap .i64 ((wrap .i64 ((wrap .i64 ((wrap .i64 ((wrap .i64 ((wrap .i64 ((wrap .i64 (v0_1+(1:Int)))+(1:Int)))+(1:Int)))+(1:Int)))+(1:Int)))+(1:Int)))+(1:Int)))+(1:Int))))then some (u (-(1:Int)))
           else bif ((decide ((0:Int)<=v0_5))&&(decide (v0_5 < (Nat.cast (List.length a0):Int))))then bif (s1_0.2.2.2.2.2.2.2.2.2 != (wrap .i64 ((wrap .i64 ((wrap .i64 ((wrap .i64 ((wrap .i64 ((wrap .i64 ((wrap .i64 ((wrap .i64 ((wrap .i64 (v0_1+(1:Int)))+(1:Int)))+(1:Int)))+(1:Int)))+(1:Int)))+(1:Int)))+(1:Int)))+(1:Int)))+(1:Int))))then some (u (-(1:Int)))
            else gg (wrap .i64 ((wrap .i64 ((wrap .i64 ((wrap .i64 ((wrap .i64 ((wrap .i64 ((wrap .i64 ((wrap .i64 ((wrap .i64 ((wrap .i64 (v0_1+(1:Int)))+(1:Int)))+(1:Int)))+(1:Int)))+(1:Int)))+(1:Int)))+(1:Int)))+(1:Int)))+(1:Int)))+(1:Int))) (wrap .i64 (v0_5+(1:Int)))
           else none
          else none
         else none
        else none
       else none
      else none
     else none
    else none
   else none
  else none
 else kk v0_1
def A114_0 {B:Type}(u:Int->B)(a0:(List S10))(a1:Int)(w0_1:Int):Option B:=
 some (u w0_1)
def pJ (L:Nat)(a0:(List S10))(a1:Int):Nat->Int->Int->(Int->Option Int)->Option Int
 | 0,_,_,_=>none
 | n+1,v0_1,v0_5,k=>B114_0 (λx=>x) (λv0_1 v0_5=>pJ L a0 a1 n v0_1 v0_5 k) k a0 a1 v0_1 v0_5
theorem aKe (L:Nat)(a0:(List S10))(a1:Int)(k:St cxT.ty->Option (V cxT.ty))(xk:Nat->St cxT.ty->Option (V cxT.ty))(k':Int->Option Int)(hk:∀ (w0_1:Int),k (X114_0 a0 a1 w0_1)=(k' w0_1).map aA2):∀ (n:Nat) (v0_1:Int) (v0_5:Int),bE prog uK L f114 0 [1,0,1,0,0] (bW (aX prog f114) k xk) n (S114_0 a0 a1 v0_1 v0_5)=(pJ L a0 a1 n v0_1 v0_5 k').map aA2
 | 0,_,_=>rfl
 | n+1,v0_1,v0_5=>by
  rw[bP];have ih:=aKe L a0 a1 k xk k' hk n;refine .trans (b:=B114_0 aA2 (λv0_1 v0_5=>(bE prog uK L f114 0 [1,0,1,0,0] (bW (aX prog f114) k xk) n) (S114_0 a0 a1 v0_1 v0_5)) (λw0_1=>k (X114_0 a0 a1 w0_1)) a0 a1 v0_1 v0_5) (by kernel_rfl) ?_;unfold pJ B114_0
  repeat' first | with_reducible refine dP ?_ ?_ | with_reducible refine dL λ_=>?_ | with_reducible refine dO λ_=>?_ | with_reducible exact ih _ _ | with_reducible exact hk _ | exact rfl
def aSd (L:Nat)(a0:(List S10))(a1:Int):Option Int:=G114 (λx=>x) (λv0_1 v0_5=>pJ L a0 a1 L v0_1 v0_5 (λw0_1=>A114_0 (λx=>x) a0 a1 w0_1)) a0 a1
theorem bFb (L:Nat)(a0:(List S10))(a1:Int):fK prog uK (bJ L) f114 (aZY.enc (a0,a1))=(aSd L a0 a1).map aA2:=by
 have hin0:∀ (v0_1:Int) (v0_5:Int),bE prog uK L f114 0 [1,0,1,0,0] (bW (aX prog f114) (bV prog uK L f114 [1,0,1] (aX prog f114)).n (bV prog uK L f114 [1,0,1] (aX prog f114)).x) L (S114_0 a0 a1 v0_1 v0_5)=((λv0_1 v0_5=>pJ L a0 a1 L v0_1 v0_5 (λw0_1=>A114_0 (λx=>x) a0 a1 w0_1)) v0_1 v0_5).map aA2:=λv0_1 v0_5=>aKe L a0 a1 _ _ _ (λw0_1=>by refine .trans (b:=A114_0 aA2 a0 a1 w0_1) (by kernel_rfl) ?_;unfold A114_0;repeat' first | with_reducible refine dP ?_ ?_ | with_reducible refine dL λ_=>?_ | with_reducible refine dO λ_=>?_ | exact rfl) L v0_1 v0_5
 refine .trans (b:=G114 aA2 (λv0_1 v0_5=>bE prog uK L f114 0 [1,0,1,0,0] (bW (aX prog f114) (bV prog uK L f114 [1,0,1] (aX prog f114)).n (bV prog uK L f114 [1,0,1] (aX prog f114)).x) L (S114_0 a0 a1 v0_1 v0_5)) a0 a1) (by kernel_rfl) ?_;unfold aSd G114
 repeat' first | with_reducible refine dP ?_ ?_ | with_reducible refine dL λ_=>?_ | with_reducible refine dO λ_=>?_ | with_reducible exact hin0 _ _ | exact rfl
def aTG (L:Nat)(x:((List S10)×Int)):Option Int:=aSd L x.1 x.2
theorem bCg (m:Y114)(hm:∀ (x:((List S10)×Int)) t,m x=some t->∃ L,aTG L x=some t):Sat prog cxT 114 (aMW m):=
 cD bA aW (by rfl) (fn:=f114) rfl aZY aA2 aPz m uK aV aP (aTG) (λL x=>bFb L x.1 x.2) hm aVW
def aWX (mZ:Y111)(mY:Y112)(mX:Y113)(mW:Y114):Env cxT:={ Kc:=cS [(111,aMZ mZ),(112,aMY mY),(113,aMX mX),(114,aMW mW)],Kw:=cR [],lv:=λi=>[],xv:=λi=>none }
def G65 {B:Type}(u:Int->B)(mZ:Y111)(mY:Y112)(mX:Y113)(mW:Y114)(a0_0:(List N10))(a0_1:(List M9))(a0_2:(List W2))(a0_3:(List S10))(a1:Int):Option B:=
 dB (mZ (a0_0,a1)) (0:Int) λ(q1:Int)=>bif (decide (q1 < (0:Int)))then some (u (-(1:Int)))
  else dB (mY (a0_1,q1)) (0:Int) λ(q2:Int)=>bif (decide (q2 < (0:Int)))then some (u (-(1:Int)))
   else dB (mX (a0_2,q2)) (0:Int) λ(q3:Int)=>bif (decide (q3 < (0:Int)))then some (u (-(1:Int)))
    else dB (mW (a0_3,q3)) (0:Int) λ(q4:Int)=>bif (decide (q4 < (0:Int)))then some (u (-(1:Int)))
     else some (u q4)
def g65 (mZ:Y111)(mY:Y112)(mX:Y113)(mW:Y114)(L:Nat)(a0_0:(List N10))(a0_1:(List M9))(a0_2:(List W2))(a0_3:(List S10))(a1:Int):Option Int:=G65 (λx=>x) mZ mY mX mW a0_0 a0_1 a0_2 a0_3 a1
theorem e65 (mZ:Y111)(mY:Y112)(mX:Y113)(mW:Y114)(L:Nat)(a0_0:(List N10))(a0_1:(List M9))(a0_2:(List W2))(a0_3:(List S10))(a1:Int):fK prog (aWX mZ mY mX mW) (bJ L) f65 (a65.enc ((a0_0,a0_1,a0_2,a0_3),a1))=(g65 mZ mY mX mW L a0_0 a0_1 a0_2 a0_3 a1).map n65:=by
 refine .trans (b:=G65 n65 mZ mY mX mW a0_0 a0_1 a0_2 a0_3 a1) (by kernel_rfl) ?_;unfold g65 G65
 repeat' first | with_reducible refine dP ?_ ?_ | with_reducible refine dL λ_=>?_ | with_reducible refine dO λ_=>?_ | exact rfl
def w65 (mZ:Y111)(mY:Y112)(mX:Y113)(mW:Y114)(L:Nat)(x:(C4×Int)):Option Int:=g65 mZ mY mX mW L x.1.1 x.1.2.1 x.1.2.2.1 x.1.2.2.2 x.2
theorem s65 (mZ:Y111)(mY:Y112)(mX:Y113)(mW:Y114)(h111:Sat prog cxT 111 (aMZ mZ))(h112:Sat prog cxT 112 (aMY mY))(h113:Sat prog cxT 113 (aMX mX))(h114:Sat prog cxT 114 (aMW mW))(m:Y65)(hm:∀ (x:(C4×Int)) t,m x=some t->∃ L,w65 mZ mY mX mW L x=some t):Sat prog cxT 65 (c65 m):=
 cD bA aW (by rfl) (fn:=f65) rfl a65 n65 aXO m (aWX mZ mY mX mW) (aL h111 (aL h112 (aL h113 (aL h114 aV)))) aP (w65 mZ mY mX mW) (λL x=>e65 mZ mY mX mW L x.1.1 x.1.2.1 x.1.2.2.1 x.1.2.2.2 x.2) hm bC3
def aXc (kG:Y15):Env cxT:={ Kc:=cS [(15,c15 kG)],Kw:=cR [],lv:=λi=>[],xv:=λi=>none }
def G18 {B:Type}(u:Bool->B)(kG:Y15)(a0_0:Int)(a0_1:(List N10))(a0_2:(List M9))(a0_3:(List W2))(a0_4:(List S10))(a1_0:Int)(a1_1:(List N10))(a1_2:(List M9))(a1_3:(List W2))(a1_4:(List S10)):Option B:=
 bif (a0_0 != a1_0)then some (u false)
 else dB (kG ((a0_1,(a0_2,(a0_3,a0_4))),(a1_1,(a1_2,(a1_3,a1_4))))) false λ(q1:Bool)=>bif (!q1)then some (u false)
  else some (u true)
def g18 (kG:Y15)(L:Nat)(a0_0:Int)(a0_1:(List N10))(a0_2:(List M9))(a0_3:(List W2))(a0_4:(List S10))(a1_0:Int)(a1_1:(List N10))(a1_2:(List M9))(a1_3:(List W2))(a1_4:(List S10)):Option Bool:=G18 (λx=>x) kG a0_0 a0_1 a0_2 a0_3 a0_4 a1_0 a1_1 a1_2 a1_3 a1_4
theorem e18 (kG:Y15)(L:Nat)(a0_0:Int)(a0_1:(List N10))(a0_2:(List M9))(a0_3:(List W2))(a0_4:(List S10))(a1_0:Int)(a1_1:(List N10))(a1_2:(List M9))(a1_3:(List W2))(a1_4:(List S10)):fK prog (aXc kG) (bJ L) f18 (a18.enc ((a0_0,a0_1,a0_2,a0_3,a0_4),(a1_0,a1_1,a1_2,a1_3,a1_4)))=(g18 kG L a0_0 a0_1 a0_2 a0_3 a0_4 a1_0 a1_1 a1_2 a1_3 a1_4).map n18:=by
 refine .trans (b:=G18 n18 kG a0_0 a0_1 a0_2 a0_3 a0_4 a1_0 a1_1 a1_2 a1_3 a1_4) (by kernel_rfl) ?_;unfold g18 G18
 repeat' first | with_reducible refine dP ?_ ?_ | with_reducible refine dL λ_=>?_ | with_reducible refine dO λ_=>?_ | exact rfl
def w18 (kG:Y15)(L:Nat)(x:(R5×R5)):Option Bool:=g18 kG L x.1.1 x.1.2.1 x.1.2.2.1 x.1.2.2.2.1 x.1.2.2.2.2 x.2.1 x.2.2.1 x.2.2.2.1 x.2.2.2.2.1 x.2.2.2.2.2
theorem s18 (kG:Y15)(h15:Sat prog cxT 15 (c15 kG))(m:Y18)(hm:∀ (x:(R5×R5)) t,m x=some t->∃ L,w18 kG L x=some t):Sat prog cxT 18 (c18 m):=
 cD bA aW (by rfl) (fn:=f18) rfl a18 n18 aYl m (aXc kG) (aL h15 aV) aP (w18 kG) (λL x=>e18 kG L x.1.1 x.1.2.1 x.1.2.2.1 x.1.2.2.2.1 x.1.2.2.2.2 x.2.1 x.2.2.1 x.2.2.2.1 x.2.2.2.2.1 x.2.2.2.2.2) hm bDA
def aXa (mH:Y19):Env cxT:={ Kc:=cS [],Kw:=cR [(19,c19 mH)],lv:=λi=>[],xv:=λi=>none }
def G20 {B:Type}(u:(Int×Int×(List N10)×(List M9)×(List W2)×(List S10))->B)(mH:Y19)(a0_0:Int)(a0_1:(List N10))(a0_2:(List M9))(a0_3:(List W2))(a0_4:(List S10))(a1:Int):Option B:=
 dB (mH ((a0_1,(a0_2,(a0_3,a0_4))),a1)) ((0:Int),[],[],[],[]) λ(q1:R5)=>some (u (q1.1,a0_0,q1.2.1,q1.2.2.1,q1.2.2.2.1,q1.2.2.2.2))
def g20 (mH:Y19)(L:Nat)(a0_0:Int)(a0_1:(List N10))(a0_2:(List M9))(a0_3:(List W2))(a0_4:(List S10))(a1:Int):Option (Int×Int×(List N10)×(List M9)×(List W2)×(List S10)):=G20 (λx=>x) mH a0_0 a0_1 a0_2 a0_3 a0_4 a1
theorem e20 (mH:Y19)(L:Nat)(a0_0:Int)(a0_1:(List N10))(a0_2:(List M9))(a0_3:(List W2))(a0_4:(List S10))(a1:Int):aBG prog (aXa mH) (bJ L) f20 1 (a20.enc ((a0_0,a0_1,a0_2,a0_3,a0_4),a1))=(g20 mH L a0_0 a0_1 a0_2 a0_3 a0_4 a1).map n20:=by
 refine .trans (b:=G20 n20 mH a0_0 a0_1 a0_2 a0_3 a0_4 a1) (by kernel_rfl) ?_;unfold g20 G20
 repeat' first | with_reducible refine dP ?_ ?_ | with_reducible refine dL λ_=>?_ | with_reducible refine dO λ_=>?_ | exact rfl
def w20 (mH:Y19)(L:Nat)(x:(R5×Int)):Option (Int×Int×(List N10)×(List M9)×(List W2)×(List S10)):=g20 mH L x.1.1 x.1.2.1 x.1.2.2.1 x.1.2.2.2.1 x.1.2.2.2.2 x.2
theorem s20 (mH:Y19)(h19:SatW prog cxT 19 (c19 mH).nres (c19 mH).n (c19 mH).F)(m:Y20)(hm:∀ (x:(R5×Int)) t,m x=some t->∃ L,w20 mH L x=some t):SatW prog cxT 20 (c20 m).nres (c20 m).n (c20 m).F:=
 yP bA aW (by rfl) (fn:=f20) rfl rfl a20 n20 aYj m (aXa mH) aV (iO h19 aP) (w20 mH) (λL x=>e20 mH L x.1.1 x.1.2.1 x.1.2.2.1 x.1.2.2.2.1 x.1.2.2.2.2 x.2) hm bDy
def aW9 (m65:Y65):Env cxT:={ Kc:=cS [(65,c65 m65)],Kw:=cR [],lv:=λi=>[],xv:=λi=>none }
def G21 {B:Type}(u:Int->B)(m65:Y65)(a0_0:Int)(a0_1:(List N10))(a0_2:(List M9))(a0_3:(List W2))(a0_4:(List S10))(a1:Int):Option B:=
 dB (m65 ((a0_1,(a0_2,(a0_3,a0_4))),a1)) (0:Int) λ(q1:Int)=>bif (decide (q1 < (0:Int)))then some (u (-(1:Int)))
  else some (u q1)
def g21 (m65:Y65)(L:Nat)(a0_0:Int)(a0_1:(List N10))(a0_2:(List M9))(a0_3:(List W2))(a0_4:(List S10))(a1:Int):Option Int:=G21 (λx=>x) m65 a0_0 a0_1 a0_2 a0_3 a0_4 a1
theorem e21 (m65:Y65)(L:Nat)(a0_0:Int)(a0_1:(List N10))(a0_2:(List M9))(a0_3:(List W2))(a0_4:(List S10))(a1:Int):fK prog (aW9 m65) (bJ L) f21 (a21.enc ((a0_0,a0_1,a0_2,a0_3,a0_4),a1))=(g21 m65 L a0_0 a0_1 a0_2 a0_3 a0_4 a1).map n21:=by
 refine .trans (b:=G21 n21 m65 a0_0 a0_1 a0_2 a0_3 a0_4 a1) (by kernel_rfl) ?_;unfold g21 G21
 repeat' first | with_reducible refine dP ?_ ?_ | with_reducible refine dL λ_=>?_ | with_reducible refine dO λ_=>?_ | exact rfl
def w21 (m65:Y65)(L:Nat)(x:(R5×Int)):Option Int:=g21 m65 L x.1.1 x.1.2.1 x.1.2.2.1 x.1.2.2.2.1 x.1.2.2.2.2 x.2
theorem s21 (m65:Y65)(h65:Sat prog cxT 65 (c65 m65))(m:Y21)(hm:∀ (x:(R5×Int)) t,m x=some t->∃ L,w21 m65 L x=some t):Sat prog cxT 21 (c21 m):=
 cD bA aW (by rfl) (fn:=f21) rfl a21 n21 aYi m (aW9 m65) (aL h65 aV) aP (w21 m65) (λL x=>e21 m65 L x.1.1 x.1.2.1 x.1.2.2.1 x.1.2.2.2.1 x.1.2.2.2.2 x.2) hm bDx
end Go.Proofs.Tryz
