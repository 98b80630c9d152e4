/- A part of the proof of FnExactClusterFault: LiFc, LiFd, LiFk. -/
import Derived.Test.YtalbnpcbmakijaaGreatLiBase
set_option linter.unusedSimpArgs false
set_option linter.unusedVariables false
set_option maxHeartbeats 0
set_option maxRecDepth 100000
namespace Go.Proofs.Tryz
open Go.IntKind (wrap)
open Go Go.VM Go.RowKit
def aJX:Env cxT:={ Kc:=dD [],Kw:=dF [],lv:=λi=>[],xv:=λi=>none }
def G193 {B:Type}(u:Bool->B)(a0_0:Int)(a0_1:Int)(a0_2:Int)(a0_3:Int)(a0_4:Int)(a0_5:Int)(a1_0:Int)(a1_1:Int)(a1_2:Int)(a1_3:Int)(a1_4:Int)(a1_5:Int):Option B:=
 bif (a0_0 != a1_0)then some (u false)
 else bif (a0_1 != a1_1)then some (u false)
 else bif (a0_2 != a1_2)then some (u false)
 else bif (a0_3 != a1_3)then some (u false)
 else bif (a0_4 != a1_4)then some (u false)
 else bif (a0_5 != a1_5)then some (u false)
 else some (u true)
def aHb (L:Nat)(a0_0:Int)(a0_1:Int)(a0_2:Int)(a0_3:Int)(a0_4:Int)(a0_5:Int)(a1_0:Int)(a1_1:Int)(a1_2:Int)(a1_3:Int)(a1_4:Int)(a1_5:Int):Option Bool:=G193 (λx=>x) a0_0 a0_1 a0_2 a0_3 a0_4 a0_5 a1_0 a1_1 a1_2 a1_3 a1_4 a1_5
theorem aW6 (L:Nat)(a0_0:Int)(a0_1:Int)(a0_2:Int)(a0_3:Int)(a0_4:Int)(a0_5:Int)(a1_0:Int)(a1_1:Int)(a1_2:Int)(a1_3:Int)(a1_4:Int)(a1_5:Int):fP prog aJX (bO L) f193 (aS3.enc ((a0_0,a0_1,a0_2,a0_3,a0_4,a0_5),(a1_0,a1_1,a1_2,a1_3,a1_4,a1_5)))=(aHb L a0_0 a0_1 a0_2 a0_3 a0_4 a0_5 a1_0 a1_1 a1_2 a1_3 a1_4 a1_5).map aE3:=by
 refine .trans (b:=G193 aE3 a0_0 a0_1 a0_2 a0_3 a0_4 a0_5 a1_0 a1_1 a1_2 a1_3 a1_4 a1_5) (by kernel_rfl) ?_;unfold aHb G193
 repeat' first | with_reducible refine eC ?_ ?_ | with_reducible refine eA λ_=>?_ | with_reducible refine eB λ_=>?_ | exact rfl
def aLv (L:Nat)(x:((Int×Int×Int×Int×Int×Int)×(Int×Int×Int×Int×Int×Int))):Option Bool:=aHb L x.1.1 x.1.2.1 x.1.2.2.1 x.1.2.2.2.1 x.1.2.2.2.2.1 x.1.2.2.2.2.2 x.2.1 x.2.2.1 x.2.2.2.1 x.2.2.2.2.1 x.2.2.2.2.2.1 x.2.2.2.2.2.2
theorem aUU (m:Y193)(hm:∀ (x:((Int×Int×Int×Int×Int×Int)×(Int×Int×Int×Int×Int×Int))) t,m x=some t->∃ L,aLv L x=some t):Sat prog cxT 193 (aIN m):=
 cF bD aZ (by rfl) (fn:=f193) rfl aS3 aE3 aKL m aJX aY aR (aLv) (λL x=>aW6 L x.1.1 x.1.2.1 x.1.2.2.1 x.1.2.2.2.1 x.1.2.2.2.2.1 x.1.2.2.2.2.2 x.2.1 x.2.2.1 x.2.2.2.1 x.2.2.2.2.1 x.2.2.2.2.2.1 x.2.2.2.2.2.2) hm aPR
def aJ7 (m193:Y193):Env cxT:={ Kc:=dD [(193,aIN m193)],Kw:=dF [],lv:=λi=>[],xv:=λi=>none }
def G161 {B:Type}(u:Bool->B)(m193:Y193)(a0_0:Int)(a0_1:Int)(a0_2:Int)(a0_3:Int)(a0_4:Int)(a0_5:Int)(a0_6:Int)(a0_7:Int)(a0_8:Int)(a1_0:Int)(a1_1:Int)(a1_2:Int)(a1_3:Int)(a1_4:Int)(a1_5:Int)(a1_6:Int)(a1_7:Int)(a1_8:Int):Option B:=
 bif (a0_0 != a1_0)then some (u false)
 else bif (a0_1 != a1_1)then some (u false)
 else bif (a0_2 != a1_2)then some (u false)
 else dL (m193 ((a0_3,(a0_4,(a0_5,(a0_6,(a0_7,a0_8))))),(a1_3,(a1_4,(a1_5,(a1_6,(a1_7,a1_8))))))) false λ(q1:Bool)=>bif (!q1)then some (u false)
  else some (u true)
def aHf (m193:Y193)(L:Nat)(a0_0:Int)(a0_1:Int)(a0_2:Int)(a0_3:Int)(a0_4:Int)(a0_5:Int)(a0_6:Int)(a0_7:Int)(a0_8:Int)(a1_0:Int)(a1_1:Int)(a1_2:Int)(a1_3:Int)(a1_4:Int)(a1_5:Int)(a1_6:Int)(a1_7:Int)(a1_8:Int):Option Bool:=G161 (λx=>x) m193 a0_0 a0_1 a0_2 a0_3 a0_4 a0_5 a0_6 a0_7 a0_8 a1_0 a1_1 a1_2 a1_3 a1_4 a1_5 a1_6 a1_7 a1_8
theorem aXh (m193:Y193)(L:Nat)(a0_0:Int)(a0_1:Int)(a0_2:Int)(a0_3:Int)(a0_4:Int)(a0_5:Int)(a0_6:Int)(a0_7:Int)(a0_8:Int)(a1_0:Int)(a1_1:Int)(a1_2:Int)(a1_3:Int)(a1_4:Int)(a1_5:Int)(a1_6:Int)(a1_7:Int)(a1_8:Int):fP prog (aJ7 m193) (bO L) f161 (aTe.enc ((a0_0,a0_1,a0_2,a0_3,a0_4,a0_5,a0_6,a0_7,a0_8),(a1_0,a1_1,a1_2,a1_3,a1_4,a1_5,a1_6,a1_7,a1_8)))=(aHf m193 L a0_0 a0_1 a0_2 a0_3 a0_4 a0_5 a0_6 a0_7 a0_8 a1_0 a1_1 a1_2 a1_3 a1_4 a1_5 a1_6 a1_7 a1_8).map aFd:=by
 refine .trans (b:=G161 aFd m193 a0_0 a0_1 a0_2 a0_3 a0_4 a0_5 a0_6 a0_7 a0_8 a1_0 a1_1 a1_2 a1_3 a1_4 a1_5 a1_6 a1_7 a1_8) (by kernel_rfl) ?_;unfold aHf G161
 repeat' first | with_reducible refine eC ?_ ?_ | with_reducible refine eA λ_=>?_ | with_reducible refine eB λ_=>?_ | exact rfl
def aLA (m193:Y193)(L:Nat)(x:(E9×E9)):Option Bool:=aHf m193 L x.1.1 x.1.2.1 x.1.2.2.1 x.1.2.2.2.1 x.1.2.2.2.2.1 x.1.2.2.2.2.2.1 x.1.2.2.2.2.2.2.1 x.1.2.2.2.2.2.2.2.1 x.1.2.2.2.2.2.2.2.2 x.2.1 x.2.2.1 x.2.2.2.1 x.2.2.2.2.1 x.2.2.2.2.2.1 x.2.2.2.2.2.2.1 x.2.2.2.2.2.2.2.1 x.2.2.2.2.2.2.2.2.1 x.2.2.2.2.2.2.2.2.2
theorem aU5 (m193:Y193)(h193:Sat prog cxT 193 (aIN m193))(m:Y161)(hm:∀ (x:(E9×E9)) t,m x=some t->∃ L,aLA m193 L x=some t):Sat prog cxT 161 (aFJ m):=
 cF bD aZ (by rfl) (fn:=f161) rfl aTe aFd aKW m (aJ7 m193) (aN h193 aY) aR (aLA m193) (λL x=>aXh m193 L x.1.1 x.1.2.1 x.1.2.2.1 x.1.2.2.2.1 x.1.2.2.2.2.1 x.1.2.2.2.2.2.1 x.1.2.2.2.2.2.2.1 x.1.2.2.2.2.2.2.2.1 x.1.2.2.2.2.2.2.2.2 x.2.1 x.2.2.1 x.2.2.2.1 x.2.2.2.2.1 x.2.2.2.2.2.1 x.2.2.2.2.2.2.1 x.2.2.2.2.2.2.2.1 x.2.2.2.2.2.2.2.2.1 x.2.2.2.2.2.2.2.2.2) hm aP2
def rK (m161:Y161):Env cxT:={ Kc:=dD [(161,aFJ m161)],Kw:=dF [],lv:=λi=>if i=0 then[(0,[some 102]),(1,[some 102]),(5,[])]else[],xv:=λi=>if i=0 then some []else none }
def S159_0 (a0:(List E9))(a1:(List E9))(v0_5:Int):St cxT.ty:={ slots:=[(.inl (.inl (ls { own:=0,nm:=0,e:=102,o:=false,xs:=a0 }))),(.inl (.inl (ls { own:=0,nm:=0,e:=102,o:=false,xs:=a1 }))),aK,aK,aK,(.inl (.inl (lv (.int .i64 v0_5))))]++List.replicate 21 aK,D:=[],F:=[],ctr:=1 }
def X159_0 (a0:(List E9))(a1:(List E9)):St cxT.ty:={ slots:=[]++List.replicate 27 aK,D:=[],F:=[],ctr:=1 }
def G159 {B:Type}(u:Bool->B)(hh0:Int->Option B)(m161:Y161)(a0:(List E9))(a1:(List E9)):Option B:=
 bif ((Nat.cast (List.length a0):Int) != (Nat.cast (List.length a1):Int))then some (u false)
 else hh0 (0:Int)
def B159_0 {B:Type}(u:Bool->B)(gg:Int->Option B)(kk:Option B)(m161:Y161)(a0:(List E9))(a1:(List E9))(v0_5:Int):Option B:=
 bif (decide (v0_5 < (Nat.cast (List.length a0):Int)))then fB (List.getD a0 v0_5.toNat ((0:Int),((0:Int),((0:Int),((0:Int),((0:Int),((0:Int),((0:Int),((0:Int),(0:Int)))))))))) λs1_0=>fB (List.getD a1 v0_5.toNat ((0:Int),((0:Int),((0:Int),((0:Int),((0:Int),((0:Int),((0:Int),((0:Int),(0:Int)))))))))) λs1_1=>bif ((decide ((0:Int)<=v0_5))&&(decide (v0_5 < (Nat.cast (List.length a0):Int))))then bif ((decide ((0:Int)<=v0_5))&&(decide (v0_5 < (Nat.cast (List.length a1):Int))))then dL (m161 ((s1_0.1,(s1_0.2.1,(s1_0.2.2.1,(s1_0.2.2.2.1,(s1_0.2.2.2.2.1,(s1_0.2.2.2.2.2.1,(s1_0.2.2.2.2.2.2.1,(s1_0.2.2.2.2.2.2.2.1,s1_0.2.2.2.2.2.2.2.2)))))))),(s1_1.1,(s1_1.2.1,(s1_1.2.2.1,(s1_1.2.2.2.1,(s1_1.2.2.2.2.1,(s1_1.2.2.2.2.2.1,(s1_1.2.2.2.2.2.2.1,(s1_1.2.2.2.2.2.2.2.1,s1_1.2.2.2.2.2.2.2.2)))))))))) false λ(q4:Bool)=>bif (!q4)then some (u false)
     else gg (wrap .i64 (v0_5+(1:Int)))
   else none
  else none
 else kk
def A159_0 {B:Type}(u:Bool->B)(m161:Y161)(a0:(List E9))(a1:(List E9)):Option B:=
 some (u true)
def sF (m161:Y161)(L:Nat)(a0:(List E9))(a1:(List E9)):Nat->Int->(Option Bool)->Option Bool
 | 0,_,_=>none
 | n+1,v0_5,k=>B159_0 (λx=>x) (λv0_5=>sF m161 L a0 a1 n v0_5 k) k m161 a0 a1 v0_5
theorem aG1 (m161:Y161)(L:Nat)(a0:(List E9))(a1:(List E9))(k:St cxT.ty->Option (V cxT.ty))(xk:Nat->St cxT.ty->Option (V cxT.ty))(k':Option Bool)(hk:k (X159_0 a0 a1)=(k').map xI):∀ (n:Nat) (v0_5:Int),bL prog (rK m161) L f159 0 [1,1,0,1,0,0] (cQ (aX prog f159) k xk) n (S159_0 a0 a1 v0_5)=(sF m161 L a0 a1 n v0_5 k').map xI
 | 0,_=>rfl
 | n+1,v0_5=>by
  rw[cG];have ih:=aG1 m161 L a0 a1 k xk k' hk n;refine .trans (b:=B159_0 xI (λv0_5=>(bL prog (rK m161) L f159 0 [1,1,0,1,0,0] (cQ (aX prog f159) k xk) n) (S159_0 a0 a1 v0_5)) (k (X159_0 a0 a1)) m161 a0 a1 v0_5) (by kernel_rfl) ?_;unfold sF B159_0
  repeat' first | with_reducible refine eC ?_ ?_ | with_reducible refine eA λ_=>?_ | with_reducible refine eB λ_=>?_ | with_reducible exact ih _ | with_reducible exact hk | exact rfl
def aHh (m161:Y161)(L:Nat)(a0:(List E9))(a1:(List E9)):Option Bool:=G159 (λx=>x) (λv0_5=>sF m161 L a0 a1 L v0_5 (A159_0 (λx=>x) m161 a0 a1)) m161 a0 a1
theorem aXj (m161:Y161)(L:Nat)(a0:(List E9))(a1:(List E9)):fP prog (rK m161) (bO L) f159 (aTg.enc (a0,a1))=(aHh m161 L a0 a1).map xI:=by
 have hin0:∀ (v0_5:Int),bL prog (rK m161) L f159 0 [1,1,0,1,0,0] (cQ (aX prog f159) (cO prog (rK m161) L f159 [1,1,0,1] (aX prog f159)).n (cO prog (rK m161) L f159 [1,1,0,1] (aX prog f159)).x) L (S159_0 a0 a1 v0_5)=((λv0_5=>sF m161 L a0 a1 L v0_5 (A159_0 (λx=>x) m161 a0 a1)) v0_5).map xI:=λv0_5=>aG1 m161 L a0 a1 _ _ _ (by refine .trans (b:=A159_0 xI m161 a0 a1) (by kernel_rfl) ?_;unfold A159_0;repeat' first | with_reducible refine eC ?_ ?_ | with_reducible refine eA λ_=>?_ | with_reducible refine eB λ_=>?_ | exact rfl) L v0_5
 refine .trans (b:=G159 xI (λv0_5=>bL prog (rK m161) L f159 0 [1,1,0,1,0,0] (cQ (aX prog f159) (cO prog (rK m161) L f159 [1,1,0,1] (aX prog f159)).n (cO prog (rK m161) L f159 [1,1,0,1] (aX prog f159)).x) L (S159_0 a0 a1 v0_5)) m161 a0 a1) (by kernel_rfl) ?_;unfold aHh G159
 repeat' first | with_reducible refine eC ?_ ?_ | with_reducible refine eA λ_=>?_ | with_reducible refine eB λ_=>?_ | with_reducible exact hin0 _ | exact rfl
def aLC (m161:Y161)(L:Nat)(x:((List E9)×(List E9))):Option Bool:=aHh m161 L x.1 x.2
theorem aU7 (m161:Y161)(h161:Sat prog cxT 161 (aFJ m161))(m:Y159)(hm:∀ (x:((List E9)×(List E9))) t,m x=some t->∃ L,aLC m161 L x=some t):Sat prog cxT 159 (aFK m):=
 cF bD aZ (by rfl) (fn:=f159) rfl aTg xI aKY m (rK m161) (aN h161 aY) aR (aLC m161) (λL x=>aXj m161 L x.1 x.2) hm aP4
def rJ:Env cxT:={ Kc:=dD [],Kw:=dF [],lv:=λi=>if i=0 then[(0,[some 2]),(1,[some 2]),(5,[])]else[],xv:=λi=>if i=0 then some []else none }
def S160_0 (a0:(List Int))(a1:(List Int))(v0_5:Int):St cxT.ty:={ slots:=[(.inl (.inl (ls { own:=0,nm:=0,e:=2,o:=false,xs:=a0 }))),(.inl (.inl (ls { own:=0,nm:=0,e:=2,o:=false,xs:=a1 }))),aK,aK,aK,(.inl (.inl (lv (.int .i64 v0_5))))]++List.replicate 20 aK,D:=[],F:=[],ctr:=1 }
def X160_0 (a0:(List Int))(a1:(List Int)):St cxT.ty:={ slots:=[]++List.replicate 26 aK,D:=[],F:=[],ctr:=1 }
def G160 {B:Type}(u:Bool->B)(hh0:Int->Option B)(a0:(List Int))(a1:(List Int)):Option B:=
 bif ((Nat.cast (List.length a0):Int) != (Nat.cast (List.length a1):Int))then some (u false)
 else hh0 (0:Int)
def B160_0 {B:Type}(u:Bool->B)(gg:Int->Option B)(kk:Option B)(a0:(List Int))(a1:(List Int))(v0_5:Int):Option B:=
 bif (decide (v0_5 < (Nat.cast (List.length a0):Int)))then bif ((decide ((0:Int)<=v0_5))&&(decide (v0_5 < (Nat.cast (List.length a0):Int))))then bif ((decide ((0:Int)<=v0_5))&&(decide (v0_5 < (Nat.cast (List.length a1):Int))))then bif ((List.getD a0 v0_5.toNat (0:Int)) != (List.getD a1 v0_5.toNat (0:Int)))then some (u false)
    else gg (wrap .i64 (v0_5+(1:Int)))
   else none
  else none
 else kk
def A160_0 {B:Type}(u:Bool->B)(a0:(List Int))(a1:(List Int)):Option B:=
 some (u true)
def sE (L:Nat)(a0:(List Int))(a1:(List Int)):Nat->Int->(Option Bool)->Option Bool
 | 0,_,_=>none
 | n+1,v0_5,k=>B160_0 (λx=>x) (λv0_5=>sE L a0 a1 n v0_5 k) k a0 a1 v0_5
theorem aG0 (L:Nat)(a0:(List Int))(a1:(List Int))(k:St cxT.ty->Option (V cxT.ty))(xk:Nat->St cxT.ty->Option (V cxT.ty))(k':Option Bool)(hk:k (X160_0 a0 a1)=(k').map xH):∀ (n:Nat) (v0_5:Int),bL prog rJ L f160 0 [1,1,0,1,0,0] (cQ (aX prog f160) k xk) n (S160_0 a0 a1 v0_5)=(sE L a0 a1 n v0_5 k').map xH
 | 0,_=>rfl
 | n+1,v0_5=>by
  rw[cG];have ih:=aG0 L a0 a1 k xk k' hk n;refine .trans (b:=B160_0 xH (λv0_5=>(bL prog rJ L f160 0 [1,1,0,1,0,0] (cQ (aX prog f160) k xk) n) (S160_0 a0 a1 v0_5)) (k (X160_0 a0 a1)) a0 a1 v0_5) (by kernel_rfl) ?_;unfold sE B160_0
  repeat' first | with_reducible refine eC ?_ ?_ | with_reducible refine eA λ_=>?_ | with_reducible refine eB λ_=>?_ | with_reducible exact ih _ | with_reducible exact hk | exact rfl
def aHg (L:Nat)(a0:(List Int))(a1:(List Int)):Option Bool:=G160 (λx=>x) (λv0_5=>sE L a0 a1 L v0_5 (A160_0 (λx=>x) a0 a1)) a0 a1
theorem aXi (L:Nat)(a0:(List Int))(a1:(List Int)):fP prog rJ (bO L) f160 (aTf.enc (a0,a1))=(aHg L a0 a1).map xH:=by
 have hin0:∀ (v0_5:Int),bL prog rJ L f160 0 [1,1,0,1,0,0] (cQ (aX prog f160) (cO prog rJ L f160 [1,1,0,1] (aX prog f160)).n (cO prog rJ L f160 [1,1,0,1] (aX prog f160)).x) L (S160_0 a0 a1 v0_5)=((λv0_5=>sE L a0 a1 L v0_5 (A160_0 (λx=>x) a0 a1)) v0_5).map xH:=λv0_5=>aG0 L a0 a1 _ _ _ (by refine .trans (b:=A160_0 xH a0 a1) (by kernel_rfl) ?_;unfold A160_0;repeat' first | with_reducible refine eC ?_ ?_ | with_reducible refine eA λ_=>?_ | with_reducible refine eB λ_=>?_ | exact rfl) L v0_5
 refine .trans (b:=G160 xH (λv0_5=>bL prog rJ L f160 0 [1,1,0,1,0,0] (cQ (aX prog f160) (cO prog rJ L f160 [1,1,0,1] (aX prog f160)).n (cO prog rJ L f160 [1,1,0,1] (aX prog f160)).x) L (S160_0 a0 a1 v0_5)) a0 a1) (by kernel_rfl) ?_;unfold aHg G160
 repeat' first | with_reducible refine eC ?_ ?_ | with_reducible refine eA λ_=>?_ | with_reducible refine eB λ_=>?_ | with_reducible exact hin0 _ | exact rfl
def aLB (L:Nat)(x:((List Int)×(List Int))):Option Bool:=aHg L x.1 x.2
theorem aU6 (m:Y160)(hm:∀ (x:((List Int)×(List Int))) t,m x=some t->∃ L,aLB L x=some t):Sat prog cxT 160 (aIQ m):=
 cF bD aZ (by rfl) (fn:=f160) rfl aTf xH aKX m rJ aY aR (aLB) (λL x=>aXi L x.1 x.2) hm aP3
def aQW (gE:Y159)(jR:Y160):Env cxT:={ Kc:=dD [(159,aFK gE),(160,aIQ jR)],Kw:=dF [],lv:=λi=>[],xv:=λi=>none }
def G98 {B:Type}(u:Bool->B)(gE:Y159)(jR:Y160)(a0_0:Int)(a0_1:Int)(a0_2:Int)(a0_3:Int)(a0_4:(List E9))(a0_5:Int)(a0_6:Int)(a0_7:(List Int))(a0_8:(List Int))(a0_9:(List Int))(a1_0:Int)(a1_1:Int)(a1_2:Int)(a1_3:Int)(a1_4:(List E9))(a1_5:Int)(a1_6:Int)(a1_7:(List Int))(a1_8:(List Int))(a1_9:(List Int)):Option B:=
 bif (a0_0 != a1_0)then some (u false)
 else bif (a0_1 != a1_1)then some (u false)
 else bif (a0_2 != a1_2)then some (u false)
 else bif (a0_3 != a1_3)then some (u false)
 else dL (gE (a0_4,a1_4)) false λ(q1:Bool)=>bif (!q1)then some (u false)
  else bif (a0_5 != a1_5)then some (u false)
  else bif (a0_6 != a1_6)then some (u false)
  else dL (jR (a0_7,a1_7)) false λ(q2:Bool)=>bif (!q2)then some (u false)
   else dL (jR (a0_8,a1_8)) false λ(q3:Bool)=>bif (!q3)then some (u false)
    else dL (jR (a0_9,a1_9)) false λ(q4:Bool)=>bif (!q4)then some (u false)
     else some (u true)
def g98 (gE:Y159)(jR:Y160)(L:Nat)(a0_0:Int)(a0_1:Int)(a0_2:Int)(a0_3:Int)(a0_4:(List E9))(a0_5:Int)(a0_6:Int)(a0_7:(List Int))(a0_8:(List Int))(a0_9:(List Int))(a1_0:Int)(a1_1:Int)(a1_2:Int)(a1_3:Int)(a1_4:(List E9))(a1_5:Int)(a1_6:Int)(a1_7:(List Int))(a1_8:(List Int))(a1_9:(List Int)):Option Bool:=G98 (λx=>x) gE jR a0_0 a0_1 a0_2 a0_3 a0_4 a0_5 a0_6 a0_7 a0_8 a0_9 a1_0 a1_1 a1_2 a1_3 a1_4 a1_5 a1_6 a1_7 a1_8 a1_9
theorem e98 (gE:Y159)(jR:Y160)(L:Nat)(a0_0:Int)(a0_1:Int)(a0_2:Int)(a0_3:Int)(a0_4:(List E9))(a0_5:Int)(a0_6:Int)(a0_7:(List Int))(a0_8:(List Int))(a0_9:(List Int))(a1_0:Int)(a1_1:Int)(a1_2:Int)(a1_3:Int)(a1_4:(List E9))(a1_5:Int)(a1_6:Int)(a1_7:(List Int))(a1_8:(List Int))(a1_9:(List Int)):fP prog (aQW gE jR) (bO L) f98 (a98.enc ((a0_0,a0_1,a0_2,a0_3,a0_4,a0_5,a0_6,a0_7,a0_8,a0_9),(a1_0,a1_1,a1_2,a1_3,a1_4,a1_5,a1_6,a1_7,a1_8,a1_9)))=(g98 gE jR L a0_0 a0_1 a0_2 a0_3 a0_4 a0_5 a0_6 a0_7 a0_8 a0_9 a1_0 a1_1 a1_2 a1_3 a1_4 a1_5 a1_6 a1_7 a1_8 a1_9).map n98:=by
 refine .trans (b:=G98 n98 gE jR a0_0 a0_1 a0_2 a0_3 a0_4 a0_5 a0_6 a0_7 a0_8 a0_9 a1_0 a1_1 a1_2 a1_3 a1_4 a1_5 a1_6 a1_7 a1_8 a1_9) (by kernel_rfl) ?_;unfold g98 G98
 repeat' first | with_reducible refine eC ?_ ?_ | with_reducible refine eA λ_=>?_ | with_reducible refine eB λ_=>?_ | exact rfl
def w98 (gE:Y159)(jR:Y160)(L:Nat)(x:(N10×N10)):Option Bool:=g98 gE jR L x.1.1 x.1.2.1 x.1.2.2.1 x.1.2.2.2.1 x.1.2.2.2.2.1 x.1.2.2.2.2.2.1 x.1.2.2.2.2.2.2.1 x.1.2.2.2.2.2.2.2.1 x.1.2.2.2.2.2.2.2.2.1 x.1.2.2.2.2.2.2.2.2.2 x.2.1 x.2.2.1 x.2.2.2.1 x.2.2.2.2.1 x.2.2.2.2.2.1 x.2.2.2.2.2.2.1 x.2.2.2.2.2.2.2.1 x.2.2.2.2.2.2.2.2.1 x.2.2.2.2.2.2.2.2.2.1 x.2.2.2.2.2.2.2.2.2.2
theorem s98 (gE:Y159)(jR:Y160)(h159:Sat prog cxT 159 (aFK gE))(h160:Sat prog cxT 160 (aIQ jR))(m:Y98)(hm:∀ (x:(N10×N10)) t,m x=some t->∃ L,w98 gE jR L x=some t):Sat prog cxT 98 (c98 m):=
 cF bD aZ (by rfl) (fn:=f98) rfl a98 n98 aRz m (aQW gE jR) (aN h159 (aN h160 aY)) aR (w98 gE jR) (λL x=>e98 gE jR L x.1.1 x.1.2.1 x.1.2.2.1 x.1.2.2.2.1 x.1.2.2.2.2.1 x.1.2.2.2.2.2.1 x.1.2.2.2.2.2.2.1 x.1.2.2.2.2.2.2.2.1 x.1.2.2.2.2.2.2.2.2.1 x.1.2.2.2.2.2.2.2.2.2 x.2.1 x.2.2.1 x.2.2.2.1 x.2.2.2.2.1 x.2.2.2.2.2.1 x.2.2.2.2.2.2.1 x.2.2.2.2.2.2.2.1 x.2.2.2.2.2.2.2.2.1 x.2.2.2.2.2.2.2.2.2.1 x.2.2.2.2.2.2.2.2.2.2) hm aVU
def aQV (gE:Y159):Env cxT:={ Kc:=dD [(159,aFK gE)],Kw:=dF [],lv:=λi=>[],xv:=λi=>none }
def G99 {B:Type}(u:Bool->B)(gE:Y159)(a0_0:Int)(a0_1:Int)(a0_2:Int)(a0_3:Int)(a0_4:Int)(a0_5:Int)(a0_6:Int)(a0_7:Bool)(a0_8:(List E9))(a1_0:Int)(a1_1:Int)(a1_2:Int)(a1_3:Int)(a1_4:Int)(a1_5:Int)(a1_6:Int)(a1_7:Bool)(a1_8:(List E9)):Option B:=
 bif (a0_0 != a1_0)then some (u false)
 else bif (a0_1 != a1_1)then some (u false)
 else bif (a0_2 != a1_2)then some (u false)
 else bif (a0_3 != a1_3)then some (u false)
 else bif (a0_4 != a1_4)then some (u false)
 else bif (a0_5 != a1_5)then some (u false)
 else bif (a0_6 != a1_6)then some (u false)
 else bif (!(a0_7 == a1_7))then some (u false)
 else dL (gE (a0_8,a1_8)) false λ(q1:Bool)=>bif (!q1)then some (u false)
  else some (u true)
def g99 (gE:Y159)(L:Nat)(a0_0:Int)(a0_1:Int)(a0_2:Int)(a0_3:Int)(a0_4:Int)(a0_5:Int)(a0_6:Int)(a0_7:Bool)(a0_8:(List E9))(a1_0:Int)(a1_1:Int)(a1_2:Int)(a1_3:Int)(a1_4:Int)(a1_5:Int)(a1_6:Int)(a1_7:Bool)(a1_8:(List E9)):Option Bool:=G99 (λx=>x) gE a0_0 a0_1 a0_2 a0_3 a0_4 a0_5 a0_6 a0_7 a0_8 a1_0 a1_1 a1_2 a1_3 a1_4 a1_5 a1_6 a1_7 a1_8
theorem e99 (gE:Y159)(L:Nat)(a0_0:Int)(a0_1:Int)(a0_2:Int)(a0_3:Int)(a0_4:Int)(a0_5:Int)(a0_6:Int)(a0_7:Bool)(a0_8:(List E9))(a1_0:Int)(a1_1:Int)(a1_2:Int)(a1_3:Int)(a1_4:Int)(a1_5:Int)(a1_6:Int)(a1_7:Bool)(a1_8:(List E9)):fP prog (aQV gE) (bO L) f99 (a99.enc ((a0_0,a0_1,a0_2,a0_3,a0_4,a0_5,a0_6,a0_7,a0_8),(a1_0,a1_1,a1_2,a1_3,a1_4,a1_5,a1_6,a1_7,a1_8)))=(g99 gE L a0_0 a0_1 a0_2 a0_3 a0_4 a0_5 a0_6 a0_7 a0_8 a1_0 a1_1 a1_2 a1_3 a1_4 a1_5 a1_6 a1_7 a1_8).map n99:=by
 refine .trans (b:=G99 n99 gE a0_0 a0_1 a0_2 a0_3 a0_4 a0_5 a0_6 a0_7 a0_8 a1_0 a1_1 a1_2 a1_3 a1_4 a1_5 a1_6 a1_7 a1_8) (by kernel_rfl) ?_;unfold g99 G99
 repeat' first | with_reducible refine eC ?_ ?_ | with_reducible refine eA λ_=>?_ | with_reducible refine eB λ_=>?_ | exact rfl
def w99 (gE:Y159)(L:Nat)(x:(M9×M9)):Option Bool:=g99 gE L x.1.1 x.1.2.1 x.1.2.2.1 x.1.2.2.2.1 x.1.2.2.2.2.1 x.1.2.2.2.2.2.1 x.1.2.2.2.2.2.2.1 x.1.2.2.2.2.2.2.2.1 x.1.2.2.2.2.2.2.2.2 x.2.1 x.2.2.1 x.2.2.2.1 x.2.2.2.2.1 x.2.2.2.2.2.1 x.2.2.2.2.2.2.1 x.2.2.2.2.2.2.2.1 x.2.2.2.2.2.2.2.2.1 x.2.2.2.2.2.2.2.2.2
theorem s99 (gE:Y159)(h159:Sat prog cxT 159 (aFK gE))(m:Y99)(hm:∀ (x:(M9×M9)) t,m x=some t->∃ L,w99 gE L x=some t):Sat prog cxT 99 (c99 m):=
 cF bD aZ (by rfl) (fn:=f99) rfl a99 n99 aRy m (aQV gE) (aN h159 aY) aR (w99 gE) (λL x=>e99 gE L x.1.1 x.1.2.1 x.1.2.2.1 x.1.2.2.2.1 x.1.2.2.2.2.1 x.1.2.2.2.2.2.1 x.1.2.2.2.2.2.2.1 x.1.2.2.2.2.2.2.2.1 x.1.2.2.2.2.2.2.2.2 x.2.1 x.2.2.1 x.2.2.2.1 x.2.2.2.2.1 x.2.2.2.2.2.1 x.2.2.2.2.2.2.1 x.2.2.2.2.2.2.2.1 x.2.2.2.2.2.2.2.2.1 x.2.2.2.2.2.2.2.2.2) hm aVT
def aKr:Env cxT:={ Kc:=dD [],Kw:=dF [],lv:=λi=>[],xv:=λi=>none }
def G100 {B:Type}(u:Bool->B)(a0_0:Int)(a0_1:Int)(a1_0:Int)(a1_1:Int):Option B:=
 bif (a0_0 != a1_0)then some (u false)
 else bif (a0_1 != a1_1)then some (u false)
 else some (u true)
def aNx (L:Nat)(a0_0:Int)(a0_1:Int)(a1_0:Int)(a1_1:Int):Option Bool:=G100 (λx=>x) a0_0 a0_1 a1_0 a1_1
theorem aXL (L:Nat)(a0_0:Int)(a0_1:Int)(a1_0:Int)(a1_1:Int):fP prog aKr (bO L) f100 (aTH.enc ((a0_0,a0_1),(a1_0,a1_1)))=(aNx L a0_0 a0_1 a1_0 a1_1).map aFx:=by
 refine .trans (b:=G100 aFx a0_0 a0_1 a1_0 a1_1) (by kernel_rfl) ?_;unfold aNx G100
 repeat' first | with_reducible refine eC ?_ ?_ | with_reducible refine eA λ_=>?_ | with_reducible refine eB λ_=>?_ | exact rfl
def aOJ (L:Nat)(x:((Int×Int)×(Int×Int))):Option Bool:=aNx L x.1.1 x.1.2 x.2.1 x.2.2
theorem aVy (m:Y100)(hm:∀ (x:((Int×Int)×(Int×Int))) t,m x=some t->∃ L,aOJ L x=some t):Sat prog cxT 100 (aI8 m):=
 cF bD aZ (by rfl) (fn:=f100) rfl aTH aFx aLp m aKr aY aR (aOJ) (λL x=>aXL L x.1.1 x.1.2 x.2.1 x.2.2) hm aQv
def aKq (m161:Y161):Env cxT:={ Kc:=dD [(161,aFJ m161)],Kw:=dF [],lv:=λi=>[],xv:=λi=>none }
def G101 {B:Type}(u:Bool->B)(m161:Y161)(a0_0:Int)(a0_1:Int)(a0_2:Int)(a0_3:Int)(a0_4:Int)(a0_5:Int)(a0_6:Int)(a0_7:Int)(a0_8:Int)(a0_9:Int)(a1_0:Int)(a1_1:Int)(a1_2:Int)(a1_3:Int)(a1_4:Int)(a1_5:Int)(a1_6:Int)(a1_7:Int)(a1_8:Int)(a1_9:Int):Option B:=
 bif (a0_0 != a1_0)then some (u false)
 else dL (m161 ((a0_1,(a0_2,(a0_3,(a0_4,(a0_5,(a0_6,(a0_7,(a0_8,a0_9)))))))),(a1_1,(a1_2,(a1_3,(a1_4,(a1_5,(a1_6,(a1_7,(a1_8,a1_9)))))))))) false λ(q1:Bool)=>bif (!q1)then some (u false)
  else some (u true)
def aNw (m161:Y161)(L:Nat)(a0_0:Int)(a0_1:Int)(a0_2:Int)(a0_3:Int)(a0_4:Int)(a0_5:Int)(a0_6:Int)(a0_7:Int)(a0_8:Int)(a0_9:Int)(a1_0:Int)(a1_1:Int)(a1_2:Int)(a1_3:Int)(a1_4:Int)(a1_5:Int)(a1_6:Int)(a1_7:Int)(a1_8:Int)(a1_9:Int):Option Bool:=G101 (λx=>x) m161 a0_0 a0_1 a0_2 a0_3 a0_4 a0_5 a0_6 a0_7 a0_8 a0_9 a1_0 a1_1 a1_2 a1_3 a1_4 a1_5 a1_6 a1_7 a1_8 a1_9
theorem aXK (m161:Y161)(L:Nat)(a0_0:Int)(a0_1:Int)(a0_2:Int)(a0_3:Int)(a0_4:Int)(a0_5:Int)(a0_6:Int)(a0_7:Int)(a0_8:Int)(a0_9:Int)(a1_0:Int)(a1_1:Int)(a1_2:Int)(a1_3:Int)(a1_4:Int)(a1_5:Int)(a1_6:Int)(a1_7:Int)(a1_8:Int)(a1_9:Int):fP prog (aKq m161) (bO L) f101 (aTG.enc ((a0_0,a0_1,a0_2,a0_3,a0_4,a0_5,a0_6,a0_7,a0_8,a0_9),(a1_0,a1_1,a1_2,a1_3,a1_4,a1_5,a1_6,a1_7,a1_8,a1_9)))=(aNw m161 L a0_0 a0_1 a0_2 a0_3 a0_4 a0_5 a0_6 a0_7 a0_8 a0_9 a1_0 a1_1 a1_2 a1_3 a1_4 a1_5 a1_6 a1_7 a1_8 a1_9).map aFw:=by
 refine .trans (b:=G101 aFw m161 a0_0 a0_1 a0_2 a0_3 a0_4 a0_5 a0_6 a0_7 a0_8 a0_9 a1_0 a1_1 a1_2 a1_3 a1_4 a1_5 a1_6 a1_7 a1_8 a1_9) (by kernel_rfl) ?_;unfold aNw G101
 repeat' first | with_reducible refine eC ?_ ?_ | with_reducible refine eA λ_=>?_ | with_reducible refine eB λ_=>?_ | exact rfl
def aOI (m161:Y161)(L:Nat)(x:(S10×S10)):Option Bool:=aNw m161 L x.1.1 x.1.2.1 x.1.2.2.1 x.1.2.2.2.1 x.1.2.2.2.2.1 x.1.2.2.2.2.2.1 x.1.2.2.2.2.2.2.1 x.1.2.2.2.2.2.2.2.1 x.1.2.2.2.2.2.2.2.2.1 x.1.2.2.2.2.2.2.2.2.2 x.2.1 x.2.2.1 x.2.2.2.1 x.2.2.2.2.1 x.2.2.2.2.2.1 x.2.2.2.2.2.2.1 x.2.2.2.2.2.2.2.1 x.2.2.2.2.2.2.2.2.1 x.2.2.2.2.2.2.2.2.2.1 x.2.2.2.2.2.2.2.2.2.2
theorem aVx (m161:Y161)(h161:Sat prog cxT 161 (aFJ m161))(m:Y101)(hm:∀ (x:(S10×S10)) t,m x=some t->∃ L,aOI m161 L x=some t):Sat prog cxT 101 (aI7 m):=
 cF bD aZ (by rfl) (fn:=f101) rfl aTG aFw aLo m (aKq m161) (aN h161 aY) aR (aOI m161) (λL x=>aXK m161 L x.1.1 x.1.2.1 x.1.2.2.1 x.1.2.2.2.1 x.1.2.2.2.2.1 x.1.2.2.2.2.2.1 x.1.2.2.2.2.2.2.1 x.1.2.2.2.2.2.2.2.1 x.1.2.2.2.2.2.2.2.2.1 x.1.2.2.2.2.2.2.2.2.2 x.2.1 x.2.2.1 x.2.2.2.1 x.2.2.2.2.1 x.2.2.2.2.2.1 x.2.2.2.2.2.2.1 x.2.2.2.2.2.2.2.1 x.2.2.2.2.2.2.2.2.1 x.2.2.2.2.2.2.2.2.2.1 x.2.2.2.2.2.2.2.2.2.2) hm aQu
def aAe (lU:Y98):Env cxT:={ Kc:=dD [(98,c98 lU)],Kw:=dF [],lv:=λi=>if i=0 then[(0,[some 96]),(1,[some 96]),(5,[])]else[],xv:=λi=>if i=0 then some []else none }
def S50_0 (a0:(List N10))(a1:(List N10))(v0_5:Int):St cxT.ty:={ slots:=[(.inl (.inl (ls { own:=0,nm:=0,e:=96,o:=false,xs:=a0 }))),(.inl (.inl (ls { own:=0,nm:=0,e:=96,o:=false,xs:=a1 }))),aK,aK,aK,(.inl (.inl (lv (.int .i64 v0_5))))]++List.replicate 21 aK,D:=[],F:=[],ctr:=1 }
def X50_0 (a0:(List N10))(a1:(List N10)):St cxT.ty:={ slots:=[]++List.replicate 27 aK,D:=[],F:=[],ctr:=1 }
def G50 {B:Type}(u:Bool->B)(hh0:Int->Option B)(lU:Y98)(a0:(List N10))(a1:(List N10)):Option B:=
 bif ((Nat.cast (List.length a0):Int) != (Nat.cast (List.length a1):Int))then some (u false)
 else hh0 (0:Int)
def B50_0 {B:Type}(u:Bool->B)(gg:Int->Option B)(kk:Option B)(lU:Y98)(a0:(List N10))(a1:(List N10))(v0_5:Int):Option B:=
 bif (decide (v0_5 < (Nat.cast (List.length a0):Int)))then fB (List.getD a0 v0_5.toNat ((0:Int),((0:Int),((0:Int),((0:Int),(([]:List E9),((0:Int),((0:Int),(([]:List (Int)),(([]:List (Int)),([]:List (Int)))))))))))) λs1_0=>fB (List.getD a1 v0_5.toNat ((0:Int),((0:Int),((0:Int),((0:Int),(([]:List E9),((0:Int),((0:Int),(([]:List (Int)),(([]:List (Int)),([]:List (Int)))))))))))) λs1_1=>bif ((decide ((0:Int)<=v0_5))&&(decide (v0_5 < (Nat.cast (List.length a0):Int))))then bif ((decide ((0:Int)<=v0_5))&&(decide (v0_5 < (Nat.cast (List.length a1):Int))))then dL (lU ((s1_0.1,(s1_0.2.1,(s1_0.2.2.1,(s1_0.2.2.2.1,(s1_0.2.2.2.2.1,(s1_0.2.2.2.2.2.1,(s1_0.2.2.2.2.2.2.1,(s1_0.2.2.2.2.2.2.2.1,(s1_0.2.2.2.2.2.2.2.2.1,s1_0.2.2.2.2.2.2.2.2.2))))))))),(s1_1.1,(s1_1.2.1,(s1_1.2.2.1,(s1_1.2.2.2.1,(s1_1.2.2.2.2.1,(s1_1.2.2.2.2.2.1,(s1_1.2.2.2.2.2.2.1,(s1_1.2.2.2.2.2.2.2.1,(s1_1.2.2.2.2.2.2.2.2.1,s1_1.2.2.2.2.2.2.2.2.2))))))))))) false λ(q4:Bool)=>bif (!q4)then some (u false)
     else gg (wrap .i64 (v0_5+(1:Int)))
   else none
  else none
 else kk
def A50_0 {B:Type}(u:Bool->B)(lU:Y98)(a0:(List N10))(a1:(List N10)):Option B:=
 some (u true)
def xW (lU:Y98)(L:Nat)(a0:(List N10))(a1:(List N10)):Nat->Int->(Option Bool)->Option Bool
 | 0,_,_=>none
 | n+1,v0_5,k=>B50_0 (λx=>x) (λv0_5=>xW lU L a0 a1 n v0_5 k) k lU a0 a1 v0_5
theorem aJz (lU:Y98)(L:Nat)(a0:(List N10))(a1:(List N10))(k:St cxT.ty->Option (V cxT.ty))(xk:Nat->St cxT.ty->Option (V cxT.ty))(k':Option Bool)(hk:k (X50_0 a0 a1)=(k').map n50):∀ (n:Nat) (v0_5:Int),bL prog (aAe lU) L f50 0 [1,1,0,1,0,0] (cQ (aX prog f50) k xk) n (S50_0 a0 a1 v0_5)=(xW lU L a0 a1 n v0_5 k').map n50
 | 0,_=>rfl
 | n+1,v0_5=>by
  rw[cG];have ih:=aJz lU L a0 a1 k xk k' hk n;refine .trans (b:=B50_0 n50 (λv0_5=>(bL prog (aAe lU) L f50 0 [1,1,0,1,0,0] (cQ (aX prog f50) k xk) n) (S50_0 a0 a1 v0_5)) (k (X50_0 a0 a1)) lU a0 a1 v0_5) (by kernel_rfl) ?_;unfold xW B50_0
  repeat' first | with_reducible refine eC ?_ ?_ | with_reducible refine eA λ_=>?_ | with_reducible refine eB λ_=>?_ | with_reducible exact ih _ | with_reducible exact hk | exact rfl
def g50 (lU:Y98)(L:Nat)(a0:(List N10))(a1:(List N10)):Option Bool:=G50 (λx=>x) (λv0_5=>xW lU L a0 a1 L v0_5 (A50_0 (λx=>x) lU a0 a1)) lU a0 a1
theorem e50 (lU:Y98)(L:Nat)(a0:(List N10))(a1:(List N10)):fP prog (aAe lU) (bO L) f50 (a50.enc (a0,a1))=(g50 lU L a0 a1).map n50:=by
 have hin0:∀ (v0_5:Int),bL prog (aAe lU) L f50 0 [1,1,0,1,0,0] (cQ (aX prog f50) (cO prog (aAe lU) L f50 [1,1,0,1] (aX prog f50)).n (cO prog (aAe lU) L f50 [1,1,0,1] (aX prog f50)).x) L (S50_0 a0 a1 v0_5)=((λv0_5=>xW lU L a0 a1 L v0_5 (A50_0 (λx=>x) lU a0 a1)) v0_5).map n50:=λv0_5=>aJz lU L a0 a1 _ _ _ (by refine .trans (b:=A50_0 n50 lU a0 a1) (by kernel_rfl) ?_;unfold A50_0;repeat' first | with_reducible refine eC ?_ ?_ | with_reducible refine eA λ_=>?_ | with_reducible refine eB λ_=>?_ | exact rfl) L v0_5
 refine .trans (b:=G50 n50 (λv0_5=>bL prog (aAe lU) L f50 0 [1,1,0,1,0,0] (cQ (aX prog f50) (cO prog (aAe lU) L f50 [1,1,0,1] (aX prog f50)).n (cO prog (aAe lU) L f50 [1,1,0,1] (aX prog f50)).x) L (S50_0 a0 a1 v0_5)) lU a0 a1) (by kernel_rfl) ?_;unfold g50 G50
 repeat' first | with_reducible refine eC ?_ ?_ | with_reducible refine eA λ_=>?_ | with_reducible refine eB λ_=>?_ | with_reducible exact hin0 _ | exact rfl
def w50 (lU:Y98)(L:Nat)(x:((List N10)×(List N10))):Option Bool:=g50 lU L x.1 x.2
theorem s50 (lU:Y98)(h98:Sat prog cxT 98 (c98 lU))(m:Y50)(hm:∀ (x:((List N10)×(List N10))) t,m x=some t->∃ L,w50 lU L x=some t):Sat prog cxT 50 (c50 m):=
 cF bD aZ (by rfl) (fn:=f50) rfl a50 n50 aRS m (aAe lU) (aN h98 aY) aR (w50 lU) (λL x=>e50 lU L x.1 x.2) hm aWd
def aAd (lT:Y99):Env cxT:={ Kc:=dD [(99,c99 lT)],Kw:=dF [],lv:=λi=>if i=0 then[(0,[some 78]),(1,[some 78]),(5,[])]else[],xv:=λi=>if i=0 then some []else none }
def S51_0 (a0:(List M9))(a1:(List M9))(v0_5:Int):St cxT.ty:={ slots:=[(.inl (.inl (ls { own:=0,nm:=0,e:=78,o:=false,xs:=a0 }))),(.inl (.inl (ls { own:=0,nm:=0,e:=78,o:=false,xs:=a1 }))),aK,aK,aK,(.inl (.inl (lv (.int .i64 v0_5))))]++List.replicate 21 aK,D:=[],F:=[],ctr:=1 }
def X51_0 (a0:(List M9))(a1:(List M9)):St cxT.ty:={ slots:=[]++List.replicate 27 aK,D:=[],F:=[],ctr:=1 }
def G51 {B:Type}(u:Bool->B)(hh0:Int->Option B)(lT:Y99)(a0:(List M9))(a1:(List M9)):Option B:=
 bif ((Nat.cast (List.length a0):Int) != (Nat.cast (List.length a1):Int))then some (u false)
 else hh0 (0:Int)
def B51_0 {B:Type}(u:Bool->B)(gg:Int->Option B)(kk:Option B)(lT:Y99)(a0:(List M9))(a1:(List M9))(v0_5:Int):Option B:=
 bif (decide (v0_5 < (Nat.cast (List.length a0):Int)))then fB (List.getD a0 v0_5.toNat ((0:Int),((0:Int),((0:Int),((0:Int),((0:Int),((0:Int),((0:Int),(false,[]))))))))) λs1_0=>fB (List.getD a1 v0_5.toNat ((0:Int),((0:Int),((0:Int),((0:Int),((0:Int),((0:Int),((0:Int),(false,[]))))))))) λs1_1=>bif ((decide ((0:Int)<=v0_5))&&(decide (v0_5 < (Nat.cast (List.length a0):Int))))then bif ((decide ((0:Int)<=v0_5))&&(decide (v0_5 < (Nat.cast (List.length a1):Int))))then dL (lT ((s1_0.1,(s1_0.2.1,(s1_0.2.2.1,(s1_0.2.2.2.1,(s1_0.2.2.2.2.1,(s1_0.2.2.2.2.2.1,(s1_0.2.2.2.2.2.2.1,(s1_0.2.2.2.2.2.2.2.1,s1_0.2.2.2.2.2.2.2.2)))))))),(s1_1.1,(s1_1.2.1,(s1_1.2.2.1,(s1_1.2.2.2.1,(s1_1.2.2.2.2.1,(s1_1.2.2.2.2.2.1,(s1_1.2.2.2.2.2.2.1,(s1_1.2.2.2.2.2.2.2.1,s1_1.2.2.2.2.2.2.2.2)))))))))) false λ(q4:Bool)=>bif (!q4)then some (u false)
     else gg (wrap .i64 (v0_5+(1:Int)))
   else none
  else none
 else kk
def A51_0 {B:Type}(u:Bool->B)(lT:Y99)(a0:(List M9))(a1:(List M9)):Option B:=
 some (u true)
def xV (lT:Y99)(L:Nat)(a0:(List M9))(a1:(List M9)):Nat->Int->(Option Bool)->Option Bool
 | 0,_,_=>none
 | n+1,v0_5,k=>B51_0 (λx=>x) (λv0_5=>xV lT L a0 a1 n v0_5 k) k lT a0 a1 v0_5
theorem aJy (lT:Y99)(L:Nat)(a0:(List M9))(a1:(List M9))(k:St cxT.ty->Option (V cxT.ty))(xk:Nat->St cxT.ty->Option (V cxT.ty))(k':Option Bool)(hk:k (X51_0 a0 a1)=(k').map n51):∀ (n:Nat) (v0_5:Int),bL prog (aAd lT) L f51 0 [1,1,0,1,0,0] (cQ (aX prog f51) k xk) n (S51_0 a0 a1 v0_5)=(xV lT L a0 a1 n v0_5 k').map n51
 | 0,_=>rfl
 | n+1,v0_5=>by
  rw[cG];have ih:=aJy lT L a0 a1 k xk k' hk n;refine .trans (b:=B51_0 n51 (λv0_5=>(bL prog (aAd lT) L f51 0 [1,1,0,1,0,0] (cQ (aX prog f51) k xk) n) (S51_0 a0 a1 v0_5)) (k (X51_0 a0 a1)) lT a0 a1 v0_5) (by kernel_rfl) ?_;unfold xV B51_0
  repeat' first | with_reducible refine eC ?_ ?_ | with_reducible refine eA λ_=>?_ | with_reducible refine eB λ_=>?_ | with_reducible exact ih _ | with_reducible exact hk | exact rfl
def g51 (lT:Y99)(L:Nat)(a0:(List M9))(a1:(List M9)):Option Bool:=G51 (λx=>x) (λv0_5=>xV lT L a0 a1 L v0_5 (A51_0 (λx=>x) lT a0 a1)) lT a0 a1
theorem e51 (lT:Y99)(L:Nat)(a0:(List M9))(a1:(List M9)):fP prog (aAd lT) (bO L) f51 (a51.enc (a0,a1))=(g51 lT L a0 a1).map n51:=by
 have hin0:∀ (v0_5:Int),bL prog (aAd lT) L f51 0 [1,1,0,1,0,0] (cQ (aX prog f51) (cO prog (aAd lT) L f51 [1,1,0,1] (aX prog f51)).n (cO prog (aAd lT) L f51 [1,1,0,1] (aX prog f51)).x) L (S51_0 a0 a1 v0_5)=((λv0_5=>xV lT L a0 a1 L v0_5 (A51_0 (λx=>x) lT a0 a1)) v0_5).map n51:=λv0_5=>aJy lT L a0 a1 _ _ _ (by refine .trans (b:=A51_0 n51 lT a0 a1) (by kernel_rfl) ?_;unfold A51_0;repeat' first | with_reducible refine eC ?_ ?_ | with_reducible refine eA λ_=>?_ | with_reducible refine eB λ_=>?_ | exact rfl) L v0_5
 refine .trans (b:=G51 n51 (λv0_5=>bL prog (aAd lT) L f51 0 [1,1,0,1,0,0] (cQ (aX prog f51) (cO prog (aAd lT) L f51 [1,1,0,1] (aX prog f51)).n (cO prog (aAd lT) L f51 [1,1,0,1] (aX prog f51)).x) L (S51_0 a0 a1 v0_5)) lT a0 a1) (by kernel_rfl) ?_;unfold g51 G51
 repeat' first | with_reducible refine eC ?_ ?_ | with_reducible refine eA λ_=>?_ | with_reducible refine eB λ_=>?_ | with_reducible exact hin0 _ | exact rfl
def w51 (lT:Y99)(L:Nat)(x:((List M9)×(List M9))):Option Bool:=g51 lT L x.1 x.2
theorem s51 (lT:Y99)(h99:Sat prog cxT 99 (c99 lT))(m:Y51)(hm:∀ (x:((List M9)×(List M9))) t,m x=some t->∃ L,w51 lT L x=some t):Sat prog cxT 51 (c51 m):=
 cF bD aZ (by rfl) (fn:=f51) rfl a51 n51 aRR m (aAd lT) (aN h99 aY) aR (w51 lT) (λL x=>e51 lT L x.1 x.2) hm aWc
def aAc (m100:Y100):Env cxT:={ Kc:=dD [(100,aI8 m100)],Kw:=dF [],lv:=λi=>if i=0 then[(0,[some 66]),(1,[some 66]),(5,[])]else[],xv:=λi=>if i=0 then some []else none }
def S52_0 (a0:(List W2))(a1:(List W2))(v0_5:Int):St cxT.ty:={ slots:=[(.inl (.inl (ls { own:=0,nm:=0,e:=66,o:=false,xs:=a0 }))),(.inl (.inl (ls { own:=0,nm:=0,e:=66,o:=false,xs:=a1 }))),aK,aK,aK,(.inl (.inl (lv (.int .i64 v0_5))))]++List.replicate 21 aK,D:=[],F:=[],ctr:=1 }
def X52_0 (a0:(List W2))(a1:(List W2)):St cxT.ty:={ slots:=[]++List.replicate 27 aK,D:=[],F:=[],ctr:=1 }
def G52 {B:Type}(u:Bool->B)(hh0:Int->Option B)(m100:Y100)(a0:(List W2))(a1:(List W2)):Option B:=
 bif ((Nat.cast (List.length a0):Int) != (Nat.cast (List.length a1):Int))then some (u false)
 else hh0 (0:Int)
def B52_0 {B:Type}(u:Bool->B)(gg:Int->Option B)(kk:Option B)(m100:Y100)(a0:(List W2))(a1:(List W2))(v0_5:Int):Option B:=
 bif (decide (v0_5 < (Nat.cast (List.length a0):Int)))then fB (List.getD a0 v0_5.toNat ((0:Int),(0:Int))) λs1_0=>fB (List.getD a1 v0_5.toNat ((0:Int),(0:Int))) λs1_1=>bif ((decide ((0:Int)<=v0_5))&&(decide (v0_5 < (Nat.cast (List.length a0):Int))))then bif ((decide ((0:Int)<=v0_5))&&(decide (v0_5 < (Nat.cast (List.length a1):Int))))then dL (m100 ((s1_0.1,s1_0.2),(s1_1.1,s1_1.2))) false λ(q4:Bool)=>bif (!q4)then some (u false)
     else gg (wrap .i64 (v0_5+(1:Int)))
   else none
  else none
 else kk
def A52_0 {B:Type}(u:Bool->B)(m100:Y100)(a0:(List W2))(a1:(List W2)):Option B:=
 some (u true)
def xU (m100:Y100)(L:Nat)(a0:(List W2))(a1:(List W2)):Nat->Int->(Option Bool)->Option Bool
 | 0,_,_=>none
 | n+1,v0_5,k=>B52_0 (λx=>x) (λv0_5=>xU m100 L a0 a1 n v0_5 k) k m100 a0 a1 v0_5
theorem aJx (m100:Y100)(L:Nat)(a0:(List W2))(a1:(List W2))(k:St cxT.ty->Option (V cxT.ty))(xk:Nat->St cxT.ty->Option (V cxT.ty))(k':Option Bool)(hk:k (X52_0 a0 a1)=(k').map n52):∀ (n:Nat) (v0_5:Int),bL prog (aAc m100) L f52 0 [1,1,0,1,0,0] (cQ (aX prog f52) k xk) n (S52_0 a0 a1 v0_5)=(xU m100 L a0 a1 n v0_5 k').map n52
 | 0,_=>rfl
 | n+1,v0_5=>by
  rw[cG];have ih:=aJx m100 L a0 a1 k xk k' hk n;refine .trans (b:=B52_0 n52 (λv0_5=>(bL prog (aAc m100) L f52 0 [1,1,0,1,0,0] (cQ (aX prog f52) k xk) n) (S52_0 a0 a1 v0_5)) (k (X52_0 a0 a1)) m100 a0 a1 v0_5) (by kernel_rfl) ?_;unfold xU B52_0
  repeat' first | with_reducible refine eC ?_ ?_ | with_reducible refine eA λ_=>?_ | with_reducible refine eB λ_=>?_ | with_reducible exact ih _ | with_reducible exact hk | exact rfl
def g52 (m100:Y100)(L:Nat)(a0:(List W2))(a1:(List W2)):Option Bool:=G52 (λx=>x) (λv0_5=>xU m100 L a0 a1 L v0_5 (A52_0 (λx=>x) m100 a0 a1)) m100 a0 a1
theorem e52 (m100:Y100)(L:Nat)(a0:(List W2))(a1:(List W2)):fP prog (aAc m100) (bO L) f52 (a52.enc (a0,a1))=(g52 m100 L a0 a1).map n52:=by
 have hin0:∀ (v0_5:Int),bL prog (aAc m100) L f52 0 [1,1,0,1,0,0] (cQ (aX prog f52) (cO prog (aAc m100) L f52 [1,1,0,1] (aX prog f52)).n (cO prog (aAc m100) L f52 [1,1,0,1] (aX prog f52)).x) L (S52_0 a0 a1 v0_5)=((λv0_5=>xU m100 L a0 a1 L v0_5 (A52_0 (λx=>x) m100 a0 a1)) v0_5).map n52:=λv0_5=>aJx m100 L a0 a1 _ _ _ (by refine .trans (b:=A52_0 n52 m100 a0 a1) (by kernel_rfl) ?_;unfold A52_0;repeat' first | with_reducible refine eC ?_ ?_ | with_reducible refine eA λ_=>?_ | with_reducible refine eB λ_=>?_ | exact rfl) L v0_5
 refine .trans (b:=G52 n52 (λv0_5=>bL prog (aAc m100) L f52 0 [1,1,0,1,0,0] (cQ (aX prog f52) (cO prog (aAc m100) L f52 [1,1,0,1] (aX prog f52)).n (cO prog (aAc m100) L f52 [1,1,0,1] (aX prog f52)).x) L (S52_0 a0 a1 v0_5)) m100 a0 a1) (by kernel_rfl) ?_;unfold g52 G52
 repeat' first | with_reducible refine eC ?_ ?_ | with_reducible refine eA λ_=>?_ | with_reducible refine eB λ_=>?_ | with_reducible exact hin0 _ | exact rfl
def w52 (m100:Y100)(L:Nat)(x:((List W2)×(List W2))):Option Bool:=g52 m100 L x.1 x.2
theorem s52 (m100:Y100)(h100:Sat prog cxT 100 (aI8 m100))(m:Y52)(hm:∀ (x:((List W2)×(List W2))) t,m x=some t->∃ L,w52 m100 L x=some t):Sat prog cxT 52 (c52 m):=
 cF bD aZ (by rfl) (fn:=f52) rfl a52 n52 aRQ m (aAc m100) (aN h100 aY) aR (w52 m100) (λL x=>e52 m100 L x.1 x.2) hm aWb
def aAb (m101:Y101):Env cxT:={ Kc:=dD [(101,aI7 m101)],Kw:=dF [],lv:=λi=>if i=0 then[(0,[some 118]),(1,[some 118]),(5,[])]else[],xv:=λi=>if i=0 then some []else none }
def S53_0 (a0:(List S10))(a1:(List S10))(v0_5:Int):St cxT.ty:={ slots:=[(.inl (.inl (ls { own:=0,nm:=0,e:=118,o:=false,xs:=a0 }))),(.inl (.inl (ls { own:=0,nm:=0,e:=118,o:=false,xs:=a1 }))),aK,aK,aK,(.inl (.inl (lv (.int .i64 v0_5))))]++List.replicate 21 aK,D:=[],F:=[],ctr:=1 }
def X53_0 (a0:(List S10))(a1:(List S10)):St cxT.ty:={ slots:=[]++List.replicate 27 aK,D:=[],F:=[],ctr:=1 }
def G53 {B:Type}(u:Bool->B)(hh0:Int->Option B)(m101:Y101)(a0:(List S10))(a1:(List S10)):Option B:=
 bif ((Nat.cast (List.length a0):Int) != (Nat.cast (List.length a1):Int))then some (u false)
 else hh0 (0:Int)
def B53_0 {B:Type}(u:Bool->B)(gg:Int->Option B)(kk:Option B)(m101:Y101)(a0:(List S10))(a1:(List S10))(v0_5:Int):Option B:=
 bif (decide (v0_5 < (Nat.cast (List.length a0):Int)))then fB (List.getD a0 v0_5.toNat ((0:Int),((0:Int),((0:Int),((0:Int),((0:Int),((0:Int),((0:Int),((0:Int),((0:Int),(0:Int))))))))))) λs1_0=>fB (List.getD a1 v0_5.toNat ((0:Int),((0:Int),((0:Int),((0:Int),((0:Int),((0:Int),((0:Int),((0:Int),((0:Int),(0:Int))))))))))) λs1_1=>bif ((decide ((0:Int)<=v0_5))&&(decide (v0_5 < (Nat.cast (List.length a0):Int))))then bif ((decide ((0:Int)<=v0_5))&&(decide (v0_5 < (Nat.cast (List.length a1):Int))))then dL (m101 ((s1_0.1,(s1_0.2.1,(s1_0.2.2.1,(s1_0.2.2.2.1,(s1_0.2.2.2.2.1,(s1_0.2.2.2.2.2.1,(s1_0.2.2.2.2.2.2.1,(s1_0.2.2.2.2.2.2.2.1,(s1_0.2.2.2.2.2.2.2.2.1,s1_0.2.2.2.2.2.2.2.2.2))))))))),(s1_1.1,(s1_1.2.1,(s1_1.2.2.1,(s1_1.2.2.2.1,(s1_1.2.2.2.2.1,(s1_1.2.2.2.2.2.1,(s1_1.2.2.2.2.2.2.1,(s1_1.2.2.2.2.2.2.2.1,(s1_1.2.2.2.2.2.2.2.2.1,s1_1.2.2.2.2.2.2.2.2.2))))))))))) false λ(q4:Bool)=>bif (!q4)then some (u false)
     else gg (wrap .i64 (v0_5+(1:Int)))
   else none
  else none
 else kk
def A53_0 {B:Type}(u:Bool->B)(m101:Y101)(a0:(List S10))(a1:(List S10)):Option B:=
 some (u true)
def xT (m101:Y101)(L:Nat)(a0:(List S10))(a1:(List S10)):Nat->Int->(Option Bool)->Option Bool
 | 0,_,_=>none
 | n+1,v0_5,k=>B53_0 (λx=>x) (λv0_5=>xT m101 L a0 a1 n v0_5 k) k m101 a0 a1 v0_5
theorem aJw (m101:Y101)(L:Nat)(a0:(List S10))(a1:(List S10))(k:St cxT.ty->Option (V cxT.ty))(xk:Nat->St cxT.ty->Option (V cxT.ty))(k':Option Bool)(hk:k (X53_0 a0 a1)=(k').map n53):∀ (n:Nat) (v0_5:Int),bL prog (aAb m101) L f53 0 [1,1,0,1,0,0] (cQ (aX prog f53) k xk) n (S53_0 a0 a1 v0_5)=(xT m101 L a0 a1 n v0_5 k').map n53
 | 0,_=>rfl
 | n+1,v0_5=>by
  rw[cG];have ih:=aJw m101 L a0 a1 k xk k' hk n;refine .trans (b:=B53_0 n53 (λv0_5=>(bL prog (aAb m101) L f53 0 [1,1,0,1,0,0] (cQ (aX prog f53) k xk) n) (S53_0 a0 a1 v0_5)) (k (X53_0 a0 a1)) m101 a0 a1 v0_5) (by kernel_rfl) ?_;unfold xT B53_0
  repeat' first | with_reducible refine eC ?_ ?_ | with_reducible refine eA λ_=>?_ | with_reducible refine eB λ_=>?_ | with_reducible exact ih _ | with_reducible exact hk | exact rfl
def g53 (m101:Y101)(L:Nat)(a0:(List S10))(a1:(List S10)):Option Bool:=G53 (λx=>x) (λv0_5=>xT m101 L a0 a1 L v0_5 (A53_0 (λx=>x) m101 a0 a1)) m101 a0 a1
theorem e53 (m101:Y101)(L:Nat)(a0:(List S10))(a1:(List S10)):fP prog (aAb m101) (bO L) f53 (a53.enc (a0,a1))=(g53 m101 L a0 a1).map n53:=by
 have hin0:∀ (v0_5:Int),bL prog (aAb m101) L f53 0 [1,1,0,1,0,0] (cQ (aX prog f53) (cO prog (aAb m101) L f53 [1,1,0,1] (aX prog f53)).n (cO prog (aAb m101) L f53 [1,1,0,1] (aX prog f53)).x) L (S53_0 a0 a1 v0_5)=((λv0_5=>xT m101 L a0 a1 L v0_5 (A53_0 (λx=>x) m101 a0 a1)) v0_5).map n53:=λv0_5=>aJw m101 L a0 a1 _ _ _ (by refine .trans (b:=A53_0 n53 m101 a0 a1) (by kernel_rfl) ?_;unfold A53_0;repeat' first | with_reducible refine eC ?_ ?_ | with_reducible refine eA λ_=>?_ | with_reducible refine eB λ_=>?_ | exact rfl) L v0_5
 refine .trans (b:=G53 n53 (λv0_5=>bL prog (aAb m101) L f53 0 [1,1,0,1,0,0] (cQ (aX prog f53) (cO prog (aAb m101) L f53 [1,1,0,1] (aX prog f53)).n (cO prog (aAb m101) L f53 [1,1,0,1] (aX prog f53)).x) L (S53_0 a0 a1 v0_5)) m101 a0 a1) (by kernel_rfl) ?_;unfold g53 G53
 repeat' first | with_reducible refine eC ?_ ?_ | with_reducible refine eA λ_=>?_ | with_reducible refine eB λ_=>?_ | with_reducible exact hin0 _ | exact rfl
def w53 (m101:Y101)(L:Nat)(x:((List S10)×(List S10))):Option Bool:=g53 m101 L x.1 x.2
theorem s53 (m101:Y101)(h101:Sat prog cxT 101 (aI7 m101))(m:Y53)(hm:∀ (x:((List S10)×(List S10))) t,m x=some t->∃ L,w53 m101 L x=some t):Sat prog cxT 53 (c53 m):=
 cF bD aZ (by rfl) (fn:=f53) rfl a53 n53 aRP m (aAb m101) (aN h101 aY) aR (w53 m101) (λL x=>e53 m101 L x.1 x.2) hm aWa
def aRh (vW:Y50)(vV:Y51)(vU:Y52)(vT:Y53):Env cxT:={ Kc:=dD [(50,c50 vW),(51,c51 vV),(52,c52 vU),(53,c53 vT)],Kw:=dF [],lv:=λi=>[],xv:=λi=>none }
def G15 {B:Type}(u:Bool->B)(vW:Y50)(vV:Y51)(vU:Y52)(vT:Y53)(a0_0:(List N10))(a0_1:(List M9))(a0_2:(List W2))(a0_3:(List S10))(a1_0:(List N10))(a1_1:(List M9))(a1_2:(List W2))(a1_3:(List S10)):Option B:=
 dL (vW (a0_0,a1_0)) false λ(q1:Bool)=>bif (!q1)then some (u false)
  else dL (vV (a0_1,a1_1)) false λ(q2:Bool)=>bif (!q2)then some (u false)
   else dL (vU (a0_2,a1_2)) false λ(q3:Bool)=>bif (!q3)then some (u false)
    else dL (vT (a0_3,a1_3)) false λ(q4:Bool)=>bif (!q4)then some (u false)
     else some (u true)
def g15 (vW:Y50)(vV:Y51)(vU:Y52)(vT:Y53)(L:Nat)(a0_0:(List N10))(a0_1:(List M9))(a0_2:(List W2))(a0_3:(List S10))(a1_0:(List N10))(a1_1:(List M9))(a1_2:(List W2))(a1_3:(List S10)):Option Bool:=G15 (λx=>x) vW vV vU vT a0_0 a0_1 a0_2 a0_3 a1_0 a1_1 a1_2 a1_3
theorem e15 (vW:Y50)(vV:Y51)(vU:Y52)(vT:Y53)(L:Nat)(a0_0:(List N10))(a0_1:(List M9))(a0_2:(List W2))(a0_3:(List S10))(a1_0:(List N10))(a1_1:(List M9))(a1_2:(List W2))(a1_3:(List S10)):fP prog (aRh vW vV vU vT) (bO L) f15 (a15.enc ((a0_0,a0_1,a0_2,a0_3),(a1_0,a1_1,a1_2,a1_3)))=(g15 vW vV vU vT L a0_0 a0_1 a0_2 a0_3 a1_0 a1_1 a1_2 a1_3).map n15:=by
 refine .trans (b:=G15 n15 vW vV vU vT a0_0 a0_1 a0_2 a0_3 a1_0 a1_1 a1_2 a1_3) (by kernel_rfl) ?_;unfold g15 G15
 repeat' first | with_reducible refine eC ?_ ?_ | with_reducible refine eA λ_=>?_ | with_reducible refine eB λ_=>?_ | exact rfl
def w15 (vW:Y50)(vV:Y51)(vU:Y52)(vT:Y53)(L:Nat)(x:(C4×C4)):Option Bool:=g15 vW vV vU vT L x.1.1 x.1.2.1 x.1.2.2.1 x.1.2.2.2 x.2.1 x.2.2.1 x.2.2.2.1 x.2.2.2.2
theorem s15 (vW:Y50)(vV:Y51)(vU:Y52)(vT:Y53)(h50:Sat prog cxT 50 (c50 vW))(h51:Sat prog cxT 51 (c51 vV))(h52:Sat prog cxT 52 (c52 vU))(h53:Sat prog cxT 53 (c53 vT))(m:Y15)(hm:∀ (x:(C4×C4)) t,m x=some t->∃ L,w15 vW vV vU vT L x=some t):Sat prog cxT 15 (c15 m):=
 cF bD aZ (by rfl) (fn:=f15) rfl a15 n15 aSa m (aRh vW vV vU vT) (aN h50 (aN h51 (aN h52 (aN h53 aY)))) aR (w15 vW vV vU vT) (λL x=>e15 vW vV vU vT L x.1.1 x.1.2.1 x.1.2.2.1 x.1.2.2.2 x.2.1 x.2.2.1 x.2.2.2.1 x.2.2.2.2) hm aWu
end Go.Proofs.Tryz
set_option maxHeartbeats 0
set_option maxRecDepth 100000
namespace Go.Proofs.Tryz
open Go.IntKind (wrap)
open Go Go.VM Go.RowKit
end Go.Proofs.Tryz
set_option maxHeartbeats 0
set_option maxRecDepth 100000
namespace Go.Proofs.Tryz
open Go.IntKind (wrap)
open Go Go.VM Go.RowKit
end Go.Proofs.Tryz
