/- A part of the proof of FnExactCopyMail: LiFe, LiFf. -/
import Derived.Test.YtalbnpcbmakijaaGreatLiBase
set_option linter.unusedSimpArgs false
set_option linter.unusedVariables false
set_option maxHeartbeats 0
set_option maxRecDepth 100000
namespace Go.Proofs.Tryz
open Go.IntKind (wrap)
open Go Go.VM Go.RowKit
def aWR:Env cxT:={ Kc:=cS [],Kw:=cR [],lv:=λi=>[],xv:=λi=>none }
def G88 {B:Type}(u:Bool->B)(a0:Int)(a1:Int)(a2:Int):Option B:=
 bif (decide (a0>=a1))then some (u (decide (a0<=a2)))
 else some (u false)
def g88 (L:Nat)(a0:Int)(a1:Int)(a2:Int):Option Bool:=G88 (λx=>x) a0 a1 a2
theorem e88 (L:Nat)(a0:Int)(a1:Int)(a2:Int):fK prog aWR (bJ L) f88 (a88.enc (a0,a1,a2))=(g88 L a0 a1 a2).map n88:=by
 refine .trans (b:=G88 n88 a0 a1 a2) (by kernel_rfl) ?_;unfold g88 G88
 repeat' first | with_reducible refine dP ?_ ?_ | with_reducible refine dL λ_=>?_ | with_reducible refine dO λ_=>?_ | exact rfl
def w88 (L:Nat)(x:(Int×Int×Int)):Option Bool:=g88 L x.1 x.2.1 x.2.2
theorem s88 (m:Y88)(hm:∀ (x:(Int×Int×Int)) t,m x=some t->∃ L,w88 L x=some t):Sat prog cxT 88 (xQ m):=
 cD bA aW (by rfl) (fn:=f88) rfl a88 n88 aXE m aWR aV aP (w88) (λL x=>e88 L x.1 x.2.1 x.2.2) hm bCU
def tY:Env cxT:={ Kc:=cS [],Kw:=cR [],lv:=λi=>if i=0 then[(0,[some 2]),(3,[])]else[],xv:=λi=>if i=0 then some []else none }
def S182_0 (a0:(List Int))(v0_3:Int):St cxT.ty:={ slots:=[(.inl (.inl (ls { own:=0,nm:=0,e:=2,o:=false,xs:=a0 }))),aK,aK,(.inl (.inl (lv (.int .i64 v0_3))))]++List.replicate 16 aK,D:=[],F:=[],ctr:=1 }
def X182_0 (a0:(List Int)):St cxT.ty:={ slots:=[]++List.replicate 20 aK,D:=[],F:=[],ctr:=1 }
def G182 {B:Type}(u:Bool->B)(hh0:Int->Option B)(a0:(List Int)):Option B:=
 hh0 (1:Int)
def B182_0 {B:Type}(u:Bool->B)(gg:Int->Option B)(kk:Option B)(a0:(List Int))(v0_3:Int):Option B:=
 bif (decide (v0_3 < (Nat.cast (List.length a0):Int)))then bif ((decide ((0:Int)<=v0_3))&&(decide (v0_3 < (Nat.cast (List.length a0):Int))))then bif ((decide ((0:Int)<=(wrap .i64 (v0_3-(1:Int)))))&&(decide ((wrap .i64 (v0_3-(1:Int))) < (Nat.cast (List.length a0):Int))))then bif (decide ((List.getD a0 v0_3.toNat (0:Int))<=(List.getD a0 (Int.toNat (wrap .i64 (v0_3-(1:Int)))) (0:Int))))then some (u false)
    else gg (wrap .i64 (v0_3+(1:Int)))
   else none
  else none
 else kk
def A182_0 {B:Type}(u:Bool->B)(a0:(List Int)):Option B:=
 some (u true)
def vE (L:Nat)(a0:(List Int)):Nat->Int->(Option Bool)->Option Bool
 | 0,_,_=>none
 | n+1,v0_3,k=>B182_0 (λx=>x) (λv0_3=>vE L a0 n v0_3 k) k a0 v0_3
theorem aJ2 (L:Nat)(a0:(List Int))(k:St cxT.ty->Option (V cxT.ty))(xk:Nat->St cxT.ty->Option (V cxT.ty))(k':Option Bool)(hk:k (X182_0 a0)=(k').map aAQ):∀ (n:Nat) (v0_3:Int),bE prog tY L f182 0 [1,0,1,0,0] (bW (aX prog f182) k xk) n (S182_0 a0 v0_3)=(vE L a0 n v0_3 k').map aAQ
 | 0,_=>rfl
 | n+1,v0_3=>by
  rw[bP];have ih:=aJ2 L a0 k xk k' hk n;refine .trans (b:=B182_0 aAQ (λv0_3=>(bE prog tY L f182 0 [1,0,1,0,0] (bW (aX prog f182) k xk) n) (S182_0 a0 v0_3)) (k (X182_0 a0)) a0 v0_3) (by kernel_rfl) ?_;unfold vE B182_0
  repeat' first | with_reducible refine dP ?_ ?_ | with_reducible refine dL λ_=>?_ | with_reducible refine dO λ_=>?_ | with_reducible exact ih _ | with_reducible exact hk | exact rfl
def aMc (L:Nat)(a0:(List Int)):Option Bool:=G182 (λx=>x) (λv0_3=>vE L a0 L v0_3 (A182_0 (λx=>x) a0)) a0
theorem bEC (L:Nat)(a0:(List Int)):fK prog tY (bJ L) f182 (aZq.enc a0)=(aMc L a0).map aAQ:=by
 have hin0:∀ (v0_3:Int),bE prog tY L f182 0 [1,0,1,0,0] (bW (aX prog f182) (bV prog tY L f182 [1,0,1] (aX prog f182)).n (bV prog tY L f182 [1,0,1] (aX prog f182)).x) L (S182_0 a0 v0_3)=((λv0_3=>vE L a0 L v0_3 (A182_0 (λx=>x) a0)) v0_3).map aAQ:=λv0_3=>aJ2 L a0 _ _ _ (by refine .trans (b:=A182_0 aAQ a0) (by kernel_rfl) ?_;unfold A182_0;repeat' first | with_reducible refine dP ?_ ?_ | with_reducible refine dL λ_=>?_ | with_reducible refine dO λ_=>?_ | exact rfl) L v0_3
 refine .trans (b:=G182 aAQ (λv0_3=>bE prog tY L f182 0 [1,0,1,0,0] (bW (aX prog f182) (bV prog tY L f182 [1,0,1] (aX prog f182)).n (bV prog tY L f182 [1,0,1] (aX prog f182)).x) L (S182_0 a0 v0_3)) a0) (by kernel_rfl) ?_;unfold aMc G182
 repeat' first | with_reducible refine dP ?_ ?_ | with_reducible refine dL λ_=>?_ | with_reducible refine dO λ_=>?_ | with_reducible exact hin0 _ | exact rfl
def aPS (L:Nat)(x:(List Int)):Option Bool:=aMc L x
theorem bBI (m:Y182)(hm:∀ (x:(List Int)) t,m x=some t->∃ L,aPS L x=some t):Sat prog cxT 182 (aMC m):=
 cD bA aW (by rfl) (fn:=f182) rfl aZq aAQ aO0 m tY aV aP (aPS) (λL x=>bEC L x) hm aVo
def aOo (bM:Y88):Env cxT:={ Kc:=cS [(88,xQ bM)],Kw:=cR [],lv:=λi=>[],xv:=λi=>none }
def G135 {B:Type}(u:Bool->B)(bM:Y88)(a0:N10)(a1:Int):Option B:=
 dB (bM (a1,((0:Int),(wrap .i64 (a0.2.1-(1:Int)))))) false λ(q1:Bool)=>some (u q1)
def aSa (bM:Y88)(L:Nat)(a0:N10)(a1:Int):Option Bool:=G135 (λx=>x) bM a0 a1
theorem bE3 (bM:Y88)(L:Nat)(a0:N10)(a1:Int):fK prog (aOo bM) (bJ L) f135 (aZR.enc (a0,a1))=(aSa bM L a0 a1).map aIa:=by
 refine .trans (b:=G135 aIa bM a0 a1) (by kernel_rfl) ?_;unfold aSa G135
 repeat' first | with_reducible refine dP ?_ ?_ | with_reducible refine dL λ_=>?_ | with_reducible refine dO λ_=>?_ | exact rfl
def aTD (bM:Y88)(L:Nat)(x:(N10×Int)):Option Bool:=aSa bM L x.1 x.2
theorem bB9 (bM:Y88)(h88:Sat prog cxT 88 (xQ bM))(m:Y135)(hm:∀ (x:(N10×Int)) t,m x=some t->∃ L,aTD bM L x=some t):Sat prog cxT 135 (aE6 m):=
 cD bA aW (by rfl) (fn:=f135) rfl aZR aIa aPr m (aOo bM) (aL h88 aV) aP (aTD bM) (λL x=>bE3 bM L x.1 x.2) hm aVP
def uI (gT:Y182)(dC:Y135):Env cxT:={ Kc:=cS [(182,aMC gT),(135,aE6 dC)],Kw:=cR [],lv:=λi=>if i=0 then[(0,[none,none,none,none,some 102,none,none,some 2,some 2,some 2]),(3,[])]else[],xv:=λi=>if i=0 then some [(0,[none,none,none,none,some 102,none,none,some 2,some 2,some 2])]else none }
def S137_0 (a0:N10)(v0_3:Int):St cxT.ty:={ slots:=[(.inr (.inr { kind:=2,nm:=0,cells:=[],s:={ own:=0,nm:=0,e:=96,o:=false,xs:=(List.cons a0 []) },i:=0,off:=0 })),aK,aK,(.inl (.inl (lv (.int .i64 v0_3))))]++List.replicate 66 aK,D:=[],F:=[],ctr:=1 }
def X137_0 (a0:N10):St cxT.ty:={ slots:=[(.inr (.inr { kind:=2,nm:=0,cells:=[],s:={ own:=0,nm:=0,e:=96,o:=false,xs:=(List.cons a0 []) },i:=0,off:=0 }))]++List.replicate 69 aK,D:=[],F:=[],ctr:=1 }
def G137 {B:Type}(u:Bool->B)(hh0:Int->Option B)(gT:Y182)(dC:Y135)(a0:N10):Option B:=
 dB (gT a0.2.2.2.2.2.2.2.1) false λ(q1:Bool)=>bif (!q1)then some (u false)
  else bif (decide ((Nat.cast (List.length a0.2.2.2.2.2.2.2.1):Int) > (0:Int)))then bif (a0.2.2.2.2.2.1 != (1:Int))then some (u false)
   else hh0 (0:Int)
  else hh0 (0:Int)
def B137_0 {B:Type}(u:Bool->B)(gg:Int->Option B)(kk:Option B)(gT:Y182)(dC:Y135)(a0:N10)(v0_3:Int):Option B:=
 bif (decide (v0_3 < (Nat.cast (List.length a0.2.2.2.2.2.2.2.1):Int)))then dY a0 λs1_0=>bif ((decide ((0:Int)<=v0_3))&&(decide (v0_3 < (Nat.cast (List.length s1_0.2.2.2.2.2.2.2.1):Int))))then dB (dC (s1_0,(List.getD s1_0.2.2.2.2.2.2.2.1 v0_3.toNat (0:Int)))) false λ(q3:Bool)=>bif (!q3)then some (u false)
    else gg (wrap .i64 (v0_3+(1:Int)))
  else none
 else kk
def A137_0 {B:Type}(u:Bool->B)(gT:Y182)(dC:Y135)(a0:N10):Option B:=
 bif (a0.2.2.2.2.2.1 == (2:Int))then dY a0 λs1_0=>bif ((Nat.cast (List.length s1_0.2.2.2.2.2.2.2.2.1):Int) == s1_0.2.1)then some (u ((Nat.cast (List.length s1_0.2.2.2.2.2.2.2.2.2):Int) == s1_0.2.1))
  else some (u false)
 else bif ((Nat.cast (List.length a0.2.2.2.2.2.2.2.2.1):Int) == (0:Int))then some (u ((Nat.cast (List.length a0.2.2.2.2.2.2.2.2.2):Int) == (0:Int)))
 else some (u false)
def vL (gT:Y182)(dC:Y135)(L:Nat)(a0:N10):Nat->Int->(Option Bool)->Option Bool
 | 0,_,_=>none
 | n+1,v0_3,k=>B137_0 (λx=>x) (λv0_3=>vL gT dC L a0 n v0_3 k) k gT dC a0 v0_3
theorem aKc (gT:Y182)(dC:Y135)(L:Nat)(a0:N10)(k:St cxT.ty->Option (V cxT.ty))(xk:Nat->St cxT.ty->Option (V cxT.ty))(k':Option Bool)(hk:k (X137_0 a0)=(k').map aA0):∀ (n:Nat) (v0_3:Int),bE prog (uI gT dC) L f137 0 [1,1,0,1,0,0] (bW (aX prog f137) k xk) n (S137_0 a0 v0_3)=(vL gT dC L a0 n v0_3 k').map aA0
 | 0,_=>rfl
 | n+1,v0_3=>by
  rw[bP];have ih:=aKc gT dC L a0 k xk k' hk n;refine .trans (b:=B137_0 aA0 (λv0_3=>(bE prog (uI gT dC) L f137 0 [1,1,0,1,0,0] (bW (aX prog f137) k xk) n) (S137_0 a0 v0_3)) (k (X137_0 a0)) gT dC a0 v0_3) (by kernel_rfl) ?_;unfold vL B137_0
  repeat' first | with_reducible refine dP ?_ ?_ | with_reducible refine dL λ_=>?_ | with_reducible refine dO λ_=>?_ | with_reducible exact ih _ | with_reducible exact hk | exact rfl
def aKE (gT:Y182)(dC:Y135)(L:Nat)(a0:N10):Option Bool:=G137 (λx=>x) (λv0_3=>vL gT dC L a0 L v0_3 (A137_0 (λx=>x) gT dC a0)) gT dC a0
theorem bE1 (gT:Y182)(dC:Y135)(L:Nat)(a0:N10):fK prog (uI gT dC) (bJ L) f137 (aZP.enc a0)=(aKE gT dC L a0).map aA0:=by
 have hin0:∀ (v0_3:Int),bE prog (uI gT dC) L f137 0 [1,1,0,1,0,0] (bW (aX prog f137) (bV prog (uI gT dC) L f137 [1,1,0,1] (aX prog f137)).n (bV prog (uI gT dC) L f137 [1,1,0,1] (aX prog f137)).x) L (S137_0 a0 v0_3)=((λv0_3=>vL gT dC L a0 L v0_3 (A137_0 (λx=>x) gT dC a0)) v0_3).map aA0:=λv0_3=>aKc gT dC L a0 _ _ _ (by refine .trans (b:=A137_0 aA0 gT dC a0) (by kernel_rfl) ?_;unfold A137_0;repeat' first | with_reducible refine dP ?_ ?_ | with_reducible refine dL λ_=>?_ | with_reducible refine dO λ_=>?_ | exact rfl) L v0_3
 refine .trans (b:=G137 aA0 (λv0_3=>bE prog (uI gT dC) L f137 0 [1,1,0,1,0,0] (bW (aX prog f137) (bV prog (uI gT dC) L f137 [1,1,0,1] (aX prog f137)).n (bV prog (uI gT dC) L f137 [1,1,0,1] (aX prog f137)).x) L (S137_0 a0 v0_3)) gT dC a0) (by kernel_rfl) ?_;unfold aKE G137
 repeat' first | with_reducible refine dP ?_ ?_ | with_reducible refine dL λ_=>?_ | with_reducible refine dO λ_=>?_ | with_reducible exact hin0 _ | exact rfl
def aQa (gT:Y182)(dC:Y135)(L:Nat)(x:N10):Option Bool:=aKE gT dC L x
theorem bB7 (gT:Y182)(dC:Y135)(h182:Sat prog cxT 182 (aMC gT))(h135:Sat prog cxT 135 (aE6 dC))(m:Y137)(hm:∀ (x:N10) t,m x=some t->∃ L,aQa gT dC L x=some t):Sat prog cxT 137 (aMT m):=
 cD bA aW (by rfl) (fn:=f137) rfl aZP aA0 aPp m (uI gT dC) (aL h182 (aL h135 aV)) aP (aQa gT dC) (λL x=>bE1 gT dC L x) hm aVN
def aWQ (bM:Y88)(m139:Y139):Env cxT:={ Kc:=cS [(88,xQ bM),(139,aSr m139)],Kw:=cR [],lv:=λi=>[],xv:=λi=>none }
def G89 {B:Type}(u:Int->B)(bM:Y88)(m139:Y139)(a0_0:Int)(a0_1:Int)(a0_2:Int)(a0_3:Int)(a0_4:Int)(a0_5:Int)(a0_6:Int)(a0_7:Int)(a0_8:Int):Option B:=
 dB (bM (a0_0,((1:Int),(100000:Int)))) false λ(q1:Bool)=>bif (!q1)then some (u (3:Int))
  else dB (bM (a0_1,((0:Int),(999:Int)))) false λ(q2:Bool)=>bif (!q2)then some (u (3:Int))
   else dB (bM (a0_2,((0:Int),(1000000:Int)))) false λ(q3:Bool)=>bif (!q3)then some (u (3:Int))
    else bif (!((a0_1 == (0:Int)) == (a0_2 == (0:Int))))then some (u (1:Int))
    else bif (a0_1 != (0:Int))then dB (m139 (a0_3,(a0_4,(a0_5,(a0_6,(a0_7,a0_8)))))) (0:Int) λ(q5:Int)=>some (u q5)
    else bif (!((((((a0_3 == (0:Int))&&(a0_4 == (0:Int)))&&(a0_5 == (0:Int)))&&(a0_6 == (0:Int)))&&(a0_7 == (0:Int)))&&(a0_8 == (0:Int))))then some (u (1:Int))
    else some (u (0:Int))
def g89 (bM:Y88)(m139:Y139)(L:Nat)(a0_0:Int)(a0_1:Int)(a0_2:Int)(a0_3:Int)(a0_4:Int)(a0_5:Int)(a0_6:Int)(a0_7:Int)(a0_8:Int):Option Int:=G89 (λx=>x) bM m139 a0_0 a0_1 a0_2 a0_3 a0_4 a0_5 a0_6 a0_7 a0_8
theorem e89 (bM:Y88)(m139:Y139)(L:Nat)(a0_0:Int)(a0_1:Int)(a0_2:Int)(a0_3:Int)(a0_4:Int)(a0_5:Int)(a0_6:Int)(a0_7:Int)(a0_8:Int):fK prog (aWQ bM m139) (bJ L) f89 (a89.enc (a0_0,a0_1,a0_2,a0_3,a0_4,a0_5,a0_6,a0_7,a0_8))=(g89 bM m139 L a0_0 a0_1 a0_2 a0_3 a0_4 a0_5 a0_6 a0_7 a0_8).map n89:=by
 refine .trans (b:=G89 n89 bM m139 a0_0 a0_1 a0_2 a0_3 a0_4 a0_5 a0_6 a0_7 a0_8) (by kernel_rfl) ?_;unfold g89 G89
 repeat' first | with_reducible refine dP ?_ ?_ | with_reducible refine dL λ_=>?_ | with_reducible refine dO λ_=>?_ | exact rfl
def w89 (bM:Y88)(m139:Y139)(L:Nat)(x:E9):Option Int:=g89 bM m139 L x.1 x.2.1 x.2.2.1 x.2.2.2.1 x.2.2.2.2.1 x.2.2.2.2.2.1 x.2.2.2.2.2.2.1 x.2.2.2.2.2.2.2.1 x.2.2.2.2.2.2.2.2
theorem s89 (bM:Y88)(m139:Y139)(h88:Sat prog cxT 88 (xQ bM))(h139:Sat prog cxT 139 (aSr m139))(m:Y89)(hm:∀ (x:E9) t,m x=some t->∃ L,w89 bM m139 L x=some t):Sat prog cxT 89 (c89 m):=
 cD bA aW (by rfl) (fn:=f89) rfl a89 n89 aXD m (aWQ bM m139) (aL h88 (aL h139 aV)) aP (w89 bM m139) (λL x=>e89 bM m139 L x.1 x.2.1 x.2.2.1 x.2.2.2.1 x.2.2.2.2.1 x.2.2.2.2.2.1 x.2.2.2.2.2.2.1 x.2.2.2.2.2.2.2.1 x.2.2.2.2.2.2.2.2) hm bCT
def uJ (m89:Y89):Env cxT:={ Kc:=cS [(89,c89 m89)],Kw:=cR [],lv:=λi=>if i=0 then[(0,[some 102]),(3,[])]else[],xv:=λi=>if i=0 then some []else none }
def S136_0 (a0:(List E9))(v0_3:Int):St cxT.ty:={ slots:=[(.inl (.inl (ls { own:=0,nm:=0,e:=102,o:=false,xs:=a0 }))),aK,aK,(.inl (.inl (lv (.int .i64 v0_3))))]++List.replicate 34 aK,D:=[],F:=[],ctr:=1 }
def X136_0 (a0:(List E9)):St cxT.ty:={ slots:=[]++List.replicate 38 aK,D:=[],F:=[],ctr:=1 }
def G136 {B:Type}(u:Int->B)(hh0:Int->Option B)(m89:Y89)(a0:(List E9)):Option B:=
 bif (decide ((Nat.cast (List.length a0):Int) > (40:Int)))then some (u (2:Int))
 else hh0 (0:Int)
def B136_0 {B:Type}(u:Int->B)(gg:Int->Option B)(kk:Option B)(m89:Y89)(a0:(List E9))(v0_3:Int):Option B:=
 bif (decide (v0_3 < (Nat.cast (List.length a0):Int)))then dY (List.getD a0 v0_3.toNat ((0:Int),((0:Int),((0:Int),((0:Int),((0:Int),((0:Int),((0:Int),((0:Int),(0:Int)))))))))) λs1_0=>bif ((decide ((0:Int)<=v0_3))&&(decide (v0_3 < (Nat.cast (List.length a0):Int))))then dB (m89 (s1_0.1,(s1_0.2.1,(s1_0.2.2.1,(s1_0.2.2.2.1,(s1_0.2.2.2.2.1,(s1_0.2.2.2.2.2.1,(s1_0.2.2.2.2.2.2.1,(s1_0.2.2.2.2.2.2.2.1,s1_0.2.2.2.2.2.2.2.2))))))))) (0:Int) λ(q3:Int)=>bif (q3 != (0:Int))then some (u q3)
    else bif (decide (v0_3 > (0:Int)))then bif ((decide ((0:Int)<=v0_3))&&(decide (v0_3 < (Nat.cast (List.length a0):Int))))then bif ((decide ((0:Int)<=(wrap .i64 (v0_3-(1:Int)))))&&(decide ((wrap .i64 (v0_3-(1:Int))) < (Nat.cast (List.length a0):Int))))then bif (decide (s1_0.1 < (List.getD a0 (Int.toNat (wrap .i64 (v0_3-(1:Int)))) ((0:Int),((0:Int),((0:Int),((0:Int),((0:Int),((0:Int),((0:Int),((0:Int),(0:Int)))))))))).1))then some (u (1:Int))
       else gg (wrap .i64 (v0_3+(1:Int)))
      else none
     else none
    else gg (wrap .i64 (v0_3+(1:Int)))
  else none
 else kk
def A136_0 {B:Type}(u:Int->B)(m89:Y89)(a0:(List E9)):Option B:=
 some (u (0:Int))
def vM (m89:Y89)(L:Nat)(a0:(List E9)):Nat->Int->(Option Int)->Option Int
 | 0,_,_=>none
 | n+1,v0_3,k=>B136_0 (λx=>x) (λv0_3=>vM m89 L a0 n v0_3 k) k m89 a0 v0_3
theorem aKd (m89:Y89)(L:Nat)(a0:(List E9))(k:St cxT.ty->Option (V cxT.ty))(xk:Nat->St cxT.ty->Option (V cxT.ty))(k':Option Int)(hk:k (X136_0 a0)=(k').map aA1):∀ (n:Nat) (v0_3:Int),bE prog (uJ m89) L f136 0 [1,1,0,1,0,0] (bW (aX prog f136) k xk) n (S136_0 a0 v0_3)=(vM m89 L a0 n v0_3 k').map aA1
 | 0,_=>rfl
 | n+1,v0_3=>by
  rw[bP];have ih:=aKd m89 L a0 k xk k' hk n;refine .trans (b:=B136_0 aA1 (λv0_3=>(bE prog (uJ m89) L f136 0 [1,1,0,1,0,0] (bW (aX prog f136) k xk) n) (S136_0 a0 v0_3)) (k (X136_0 a0)) m89 a0 v0_3) (by kernel_rfl) ?_;unfold vM B136_0
  repeat' first | with_reducible refine dP ?_ ?_ | with_reducible refine dL λ_=>?_ | with_reducible refine dO λ_=>?_ | with_reducible exact ih _ | with_reducible exact hk | exact rfl
def aKF (m89:Y89)(L:Nat)(a0:(List E9)):Option Int:=G136 (λx=>x) (λv0_3=>vM m89 L a0 L v0_3 (A136_0 (λx=>x) m89 a0)) m89 a0
theorem bE2 (m89:Y89)(L:Nat)(a0:(List E9)):fK prog (uJ m89) (bJ L) f136 (aZQ.enc a0)=(aKF m89 L a0).map aA1:=by
 have hin0:∀ (v0_3:Int),bE prog (uJ m89) L f136 0 [1,1,0,1,0,0] (bW (aX prog f136) (bV prog (uJ m89) L f136 [1,1,0,1] (aX prog f136)).n (bV prog (uJ m89) L f136 [1,1,0,1] (aX prog f136)).x) L (S136_0 a0 v0_3)=((λv0_3=>vM m89 L a0 L v0_3 (A136_0 (λx=>x) m89 a0)) v0_3).map aA1:=λv0_3=>aKd m89 L a0 _ _ _ (by refine .trans (b:=A136_0 aA1 m89 a0) (by kernel_rfl) ?_;unfold A136_0;repeat' first | with_reducible refine dP ?_ ?_ | with_reducible refine dL λ_=>?_ | with_reducible refine dO λ_=>?_ | exact rfl) L v0_3
 refine .trans (b:=G136 aA1 (λv0_3=>bE prog (uJ m89) L f136 0 [1,1,0,1,0,0] (bW (aX prog f136) (bV prog (uJ m89) L f136 [1,1,0,1] (aX prog f136)).n (bV prog (uJ m89) L f136 [1,1,0,1] (aX prog f136)).x) L (S136_0 a0 v0_3)) m89 a0) (by kernel_rfl) ?_;unfold aKF G136
 repeat' first | with_reducible refine dP ?_ ?_ | with_reducible refine dL λ_=>?_ | with_reducible refine dO λ_=>?_ | with_reducible exact hin0 _ | exact rfl
def aQb (m89:Y89)(L:Nat)(x:(List E9)):Option Int:=aKF m89 L x
theorem bB8 (m89:Y89)(h89:Sat prog cxT 89 (c89 m89))(m:Y136)(hm:∀ (x:(List E9)) t,m x=some t->∃ L,aQb m89 L x=some t):Sat prog cxT 136 (aIB m):=
 cD bA aW (by rfl) (fn:=f136) rfl aZQ aA1 aPq m (uJ m89) (aL h89 aV) aP (aQb m89) (λL x=>bE2 m89 L x) hm aVO
def aCj (bM:Y88)(dC:Y135)(m136:Y136)(m124:Y124)(gU:Y137):Env cxT:={ Kc:=cS [(88,xQ bM),(135,aE6 dC),(136,aIB m136),(124,aID m124),(137,aMT gU)],Kw:=cR [],lv:=λi=>if i=0 then[(0,[none,none,none,none,some 102,none,none,some 2,some 2,some 2]),(4,[]),(5,[])]else[],xv:=λi=>if i=0 then some [(0,[none,none,none,none,some 102,none,none,some 2,some 2,some 2])]else none }
def S85_0 (a0:N10)(v0_5:Int):St cxT.ty:={ slots:=[(.inr (.inr { kind:=2,nm:=0,cells:=[],s:={ own:=0,nm:=0,e:=96,o:=false,xs:=(List.cons a0 []) },i:=0,off:=0 })),aK,aK,aK,(.inl (.inl (lv (.int .i64 (Nat.cast (List.length a0.2.2.2.2.1):Int))))),(.inl (.inl (lv (.int .i64 v0_5))))]++List.replicate 133 aK,D:=[],F:=[],ctr:=1 }
def X85_0 (a0:N10):St cxT.ty:={ slots:=[(.inr (.inr { kind:=2,nm:=0,cells:=[],s:={ own:=0,nm:=0,e:=96,o:=false,xs:=(List.cons a0 []) },i:=0,off:=0 }))]++List.replicate 138 aK,D:=[],F:=[],ctr:=1 }
def G85 {B:Type}(u:Int->B)(hh0:Int->Option B)(bM:Y88)(dC:Y135)(m136:Y136)(m124:Y124)(gU:Y137)(a0:N10):Option B:=
 dB (bM (a0.2.1,((1:Int),(5:Int)))) false λ(q1:Bool)=>bif (!q1)then some (u (3:Int))
  else dB (dC (a0,a0.1)) false λ(q2:Bool)=>bif (!q2)then some (u (3:Int))
   else dB (bM (a0.2.2.1,((0:Int),(100000:Int)))) false λ(q3:Bool)=>bif (!q3)then some (u (3:Int))
    else dB (bM (a0.2.2.2.1,((-(1:Int)),(wrap .i64 (a0.2.1-(1:Int)))))) false λ(q4:Bool)=>bif (!q4)then some (u (3:Int))
     else dB (bM (a0.2.2.2.2.2.1,((0:Int),(2:Int)))) false λ(q5:Bool)=>bif (!q5)then some (u (3:Int))
      else dB (m136 a0.2.2.2.2.1) (0:Int) λ(q6:Int)=>bif (q6 != (0:Int))then some (u q6)
       else dB (m124 a0.2.2.2.2.1) ((0:Int),(0:Int),(0:Int),(0:Int),(0:Int),(0:Int),(0:Int),(0:Int),(0:Int)) λ(q7:E9)=>bif (decide (q7.1 > a0.2.2.1))then some (u (1:Int))
        else dB (bM (a0.2.2.2.2.2.2.1,((0:Int),(Nat.cast (List.length a0.2.2.2.2.1):Int)))) false λ(q8:Bool)=>bif (!q8)then some (u (3:Int))
         else dB (gU a0) false λ(q9:Bool)=>bif (!q9)then some (u (1:Int))
          else hh0 (0:Int)
def B85_0 {B:Type}(u:Int->B)(gg:Int->Option B)(kk:Option B)(bM:Y88)(dC:Y135)(m136:Y136)(m124:Y124)(gU:Y137)(a0:N10)(v0_5:Int):Option B:=
 bif (decide (v0_5 < (Nat.cast (List.length a0.2.2.2.2.2.2.2.2.1):Int)))then dY a0 λs1_0=>bif ((decide ((0:Int)<=v0_5))&&(decide (v0_5 < (Nat.cast (List.length s1_0.2.2.2.2.2.2.2.2.1):Int))))then dB (bM ((List.getD s1_0.2.2.2.2.2.2.2.2.1 v0_5.toNat (0:Int)),((1:Int),(wrap .i64 ((Nat.cast (List.length s1_0.2.2.2.2.1):Int)+(1:Int)))))) false λ(q3:Bool)=>bif (!q3)then some (u (3:Int))
    else bif ((decide ((0:Int)<=v0_5))&&(decide (v0_5 < (Nat.cast (List.length s1_0.2.2.2.2.2.2.2.2.2):Int))))then dB (bM ((List.getD s1_0.2.2.2.2.2.2.2.2.2 v0_5.toNat (0:Int)),((0:Int),(Nat.cast (List.length s1_0.2.2.2.2.1):Int)))) false λ(q5:Bool)=>bif (!q5)then some (u (3:Int))
      else gg (wrap .i64 (v0_5+(1:Int)))
    else none
  else none
 else kk
def A85_0 {B:Type}(u:Int->B)(bM:Y88)(dC:Y135)(m136:Y136)(m124:Y124)(gU:Y137)(a0:N10):Option B:=
 bif (a0.2.2.2.2.2.1 != (0:Int))then dY a0 λs1_0=>bif (s1_0.2.2.2.1 != s1_0.1)then some (u (1:Int))
  else bif (s1_0.2.2.1 == (0:Int))then some (u (1:Int))
  else some (u (0:Int))
 else some (u (0:Int))
def aBa (bM:Y88)(dC:Y135)(m136:Y136)(m124:Y124)(gU:Y137)(L:Nat)(a0:N10):Nat->Int->(Option Int)->Option Int
 | 0,_,_=>none
 | n+1,v0_5,k=>B85_0 (λx=>x) (λv0_5=>aBa bM dC m136 m124 gU L a0 n v0_5 k) k bM dC m136 m124 gU a0 v0_5
theorem aNr (bM:Y88)(dC:Y135)(m136:Y136)(m124:Y124)(gU:Y137)(L:Nat)(a0:N10)(k:St cxT.ty->Option (V cxT.ty))(xk:Nat->St cxT.ty->Option (V cxT.ty))(k':Option Int)(hk:k (X85_0 a0)=(k').map n85):∀ (n:Nat) (v0_5:Int),bE prog (aCj bM dC m136 m124 gU) L f85 0 [1,1,1,1,1,1,1,0,1,0,0] (bW (aX prog f85) k xk) n (S85_0 a0 v0_5)=(aBa bM dC m136 m124 gU L a0 n v0_5 k').map n85
 | 0,_=>rfl
 | n+1,v0_5=>by
  rw[bP];have ih:=aNr bM dC m136 m124 gU L a0 k xk k' hk n;refine .trans (b:=B85_0 n85 (λv0_5=>(bE prog (aCj bM dC m136 m124 gU) L f85 0 [1,1,1,1,1,1,1,0,1,0,0] (bW (aX prog f85) k xk) n) (S85_0 a0 v0_5)) (k (X85_0 a0)) bM dC m136 m124 gU a0 v0_5) (by kernel_rfl) ?_;unfold aBa B85_0
  repeat' first | with_reducible refine dP ?_ ?_ | with_reducible refine dL λ_=>?_ | with_reducible refine dO λ_=>?_ | with_reducible exact ih _ | with_reducible exact hk | exact rfl
def g85 (bM:Y88)(dC:Y135)(m136:Y136)(m124:Y124)(gU:Y137)(L:Nat)(a0:N10):Option Int:=G85 (λx=>x) (λv0_5=>aBa bM dC m136 m124 gU L a0 L v0_5 (A85_0 (λx=>x) bM dC m136 m124 gU a0)) bM dC m136 m124 gU a0
theorem e85 (bM:Y88)(dC:Y135)(m136:Y136)(m124:Y124)(gU:Y137)(L:Nat)(a0:N10):fK prog (aCj bM dC m136 m124 gU) (bJ L) f85 (a85.enc a0)=(g85 bM dC m136 m124 gU L a0).map n85:=by
 have hin0:∀ (v0_5:Int),bE prog (aCj bM dC m136 m124 gU) L f85 0 [1,1,1,1,1,1,1,0,1,0,0] (bW (aX prog f85) (bV prog (aCj bM dC m136 m124 gU) L f85 [1,1,1,1,1,1,1,0,1] (aX prog f85)).n (bV prog (aCj bM dC m136 m124 gU) L f85 [1,1,1,1,1,1,1,0,1] (aX prog f85)).x) L (S85_0 a0 v0_5)=((λv0_5=>aBa bM dC m136 m124 gU L a0 L v0_5 (A85_0 (λx=>x) bM dC m136 m124 gU a0)) v0_5).map n85:=λv0_5=>aNr bM dC m136 m124 gU L a0 _ _ _ (by refine .trans (b:=A85_0 n85 bM dC m136 m124 gU a0) (by kernel_rfl) ?_;unfold A85_0;repeat' first | with_reducible refine dP ?_ ?_ | with_reducible refine dL λ_=>?_ | with_reducible refine dO λ_=>?_ | exact rfl) L v0_5
 refine .trans (b:=G85 n85 (λv0_5=>bE prog (aCj bM dC m136 m124 gU) L f85 0 [1,1,1,1,1,1,1,0,1,0,0] (bW (aX prog f85) (bV prog (aCj bM dC m136 m124 gU) L f85 [1,1,1,1,1,1,1,0,1] (aX prog f85)).n (bV prog (aCj bM dC m136 m124 gU) L f85 [1,1,1,1,1,1,1,0,1] (aX prog f85)).x) L (S85_0 a0 v0_5)) bM dC m136 m124 gU a0) (by kernel_rfl) ?_;unfold g85 G85
 repeat' first | with_reducible refine dP ?_ ?_ | with_reducible refine dL λ_=>?_ | with_reducible refine dO λ_=>?_ | with_reducible exact hin0 _ | exact rfl
def w85 (bM:Y88)(dC:Y135)(m136:Y136)(m124:Y124)(gU:Y137)(L:Nat)(x:N10):Option Int:=g85 bM dC m136 m124 gU L x
theorem s85 (bM:Y88)(dC:Y135)(m136:Y136)(m124:Y124)(gU:Y137)(h88:Sat prog cxT 88 (xQ bM))(h135:Sat prog cxT 135 (aE6 dC))(h136:Sat prog cxT 136 (aIB m136))(h124:Sat prog cxT 124 (aID m124))(h137:Sat prog cxT 137 (aMT gU))(m:Y85)(hm:∀ (x:N10) t,m x=some t->∃ L,w85 bM dC m136 m124 gU L x=some t):Sat prog cxT 85 (c85 m):=
 cD bA aW (by rfl) (fn:=f85) rfl a85 n85 aXH m (aCj bM dC m136 m124 gU) (aL h88 (aL h135 (aL h136 (aL h124 (aL h137 aV))))) aP (w85 bM dC m136 m124 gU) (λL x=>e85 bM dC m136 m124 gU L x) hm bCX
end Go.Proofs.Tryz
set_option maxHeartbeats 0
set_option maxRecDepth 100000
namespace Go.Proofs.Tryz
open Go.IntKind (wrap)
open Go Go.VM Go.RowKit
def aWT (bM:Y88):Env cxT:={ Kc:=cS [(88,xQ bM)],Kw:=cR [],lv:=λi=>[],xv:=λi=>none }
def G86 {B:Type}(u:Bool->B)(bM:Y88)(a0:C4)(a1:Int):Option B:=
 dB (bM (a1,((0:Int),(wrap .i64 ((Nat.cast (List.length a0.1):Int)-(1:Int)))))) false λ(q1:Bool)=>some (u q1)
def g86 (bM:Y88)(L:Nat)(a0:C4)(a1:Int):Option Bool:=G86 (λx=>x) bM a0 a1
theorem e86 (bM:Y88)(L:Nat)(a0:C4)(a1:Int):fK prog (aWT bM) (bJ L) f86 (a86.enc (a0,a1))=(g86 bM L a0 a1).map n86:=by
 refine .trans (b:=G86 n86 bM a0 a1) (by kernel_rfl) ?_;unfold g86 G86
 repeat' first | with_reducible refine dP ?_ ?_ | with_reducible refine dL λ_=>?_ | with_reducible refine dO λ_=>?_ | exact rfl
def w86 (bM:Y88)(L:Nat)(x:(C4×Int)):Option Bool:=g86 bM L x.1 x.2
theorem s86 (bM:Y88)(h88:Sat prog cxT 88 (xQ bM))(m:Y86)(hm:∀ (x:(C4×Int)) t,m x=some t->∃ L,w86 bM L x=some t):Sat prog cxT 86 (c86 m):=
 cD bA aW (by rfl) (fn:=f86) rfl a86 n86 aXG m (aWT bM) (aL h88 aV) aP (w86 bM) (λL x=>e86 bM L x.1 x.2) hm bCW
def aWS (bM:Y88)(dC:Y135)(m136:Y136)(m124:Y124)(jV:Y138):Env cxT:={ Kc:=cS [(88,xQ bM),(135,aE6 dC),(136,aIB m136),(124,aID m124),(138,aMS jV)],Kw:=cR [],lv:=λi=>[],xv:=λi=>none }
def G87 {B:Type}(u:Int->B)(bM:Y88)(dC:Y135)(m136:Y136)(m124:Y124)(jV:Y138)(a0:N10)(a1_0:Int)(a1_1:Int)(a1_2:Int)(a1_3:Int)(a1_4:Int)(a1_5:Int)(a1_6:Int)(a1_7:Bool)(a1_8:(List E9)):Option B:=
 dB (bM (a1_0,((1:Int),(4:Int)))) false λ(q1:Bool)=>bif (!q1)then some (u (5:Int))
  else dB (dC (a0,a1_1)) false λ(q2:Bool)=>bif (!q2)then some (u (3:Int))
   else bif (a1_1 == a0.1)then some (u (3:Int))
   else bif (a1_2 != a0.1)then some (u (3:Int))
   else dB (bM (a1_3,((1:Int),(100000:Int)))) false λ(q3:Bool)=>bif (!q3)then some (u (3:Int))
    else dB (bM (a1_4,((0:Int),(40:Int)))) false λ(q4:Bool)=>bif (!q4)then some (u (3:Int))
     else dB (bM (a1_5,((0:Int),a1_3))) false λ(q5:Bool)=>bif (!q5)then some (u (3:Int))
      else dB (bM (a1_6,((0:Int),(40:Int)))) false λ(q6:Bool)=>bif (!q6)then some (u (3:Int))
       else dB (m136 a1_8) (0:Int) λ(q7:Int)=>bif (q7 != (0:Int))then some (u q7)
        else bif (decide ((Nat.cast (List.length a1_8):Int) > (0:Int)))then bif (a1_0 != (3:Int))then some (u (1:Int))
         else dB (m124 a1_8) ((0:Int),(0:Int),(0:Int),(0:Int),(0:Int),(0:Int),(0:Int),(0:Int),(0:Int)) λ(q9:E9)=>bif (decide (q9.1 > a1_3))then some (u (1:Int))
          else bif ((decide ((0:Int)<=(0:Int)))&&(decide ((0:Int) < (Nat.cast (List.length a1_8):Int))))then bif (decide ((List.getD a1_8 (0:Nat) ((0:Int),((0:Int),((0:Int),((0:Int),((0:Int),((0:Int),((0:Int),((0:Int),(0:Int)))))))))).1 < a1_5))then some (u (1:Int))
           else bif a1_7 then bif (a1_0 != (2:Int))then bif (a1_0 != (4:Int))then some (u (1:Int))
             else dB (jV (a1_0,(a1_1,(a1_2,(a1_3,(a1_4,(a1_5,(a1_6,(a1_7,a1_8))))))))) false λ(q13:Bool)=>bif (!q13)then some (u (1:Int))
              else bif (a1_4 == (0:Int))then bif (a1_5 != (0:Int))then some (u (1:Int))
               else some (u (0:Int))
              else some (u (0:Int))
            else dB (jV (a1_0,(a1_1,(a1_2,(a1_3,(a1_4,(a1_5,(a1_6,(a1_7,a1_8))))))))) false λ(q12:Bool)=>bif (!q12)then some (u (1:Int))
             else bif (a1_4 == (0:Int))then bif (a1_5 != (0:Int))then some (u (1:Int))
              else some (u (0:Int))
             else some (u (0:Int))
           else dB (jV (a1_0,(a1_1,(a1_2,(a1_3,(a1_4,(a1_5,(a1_6,(a1_7,a1_8))))))))) false λ(q11:Bool)=>bif (!q11)then some (u (1:Int))
            else bif (a1_4 == (0:Int))then bif (a1_5 != (0:Int))then some (u (1:Int))
             else some (u (0:Int))
            else some (u (0:Int))
          else none
        else bif a1_7 then bif (a1_0 != (2:Int))then bif (a1_0 != (4:Int))then some (u (1:Int))
          else dB (jV (a1_0,(a1_1,(a1_2,(a1_3,(a1_4,(a1_5,(a1_6,(a1_7,a1_8))))))))) false λ(q10:Bool)=>bif (!q10)then some (u (1:Int))
           else bif (a1_4 == (0:Int))then bif (a1_5 != (0:Int))then some (u (1:Int))
            else some (u (0:Int))
           else some (u (0:Int))
         else dB (jV (a1_0,(a1_1,(a1_2,(a1_3,(a1_4,(a1_5,(a1_6,(a1_7,a1_8))))))))) false λ(q9:Bool)=>bif (!q9)then some (u (1:Int))
          else bif (a1_4 == (0:Int))then bif (a1_5 != (0:Int))then some (u (1:Int))
           else some (u (0:Int))
          else some (u (0:Int))
        else dB (jV (a1_0,(a1_1,(a1_2,(a1_3,(a1_4,(a1_5,(a1_6,(a1_7,a1_8))))))))) false λ(q8:Bool)=>bif (!q8)then some (u (1:Int))
         else bif (a1_4 == (0:Int))then bif (a1_5 != (0:Int))then some (u (1:Int))
          else some (u (0:Int))
         else some (u (0:Int))
def g87 (bM:Y88)(dC:Y135)(m136:Y136)(m124:Y124)(jV:Y138)(L:Nat)(a0:N10)(a1_0:Int)(a1_1:Int)(a1_2:Int)(a1_3:Int)(a1_4:Int)(a1_5:Int)(a1_6:Int)(a1_7:Bool)(a1_8:(List E9)):Option Int:=G87 (λx=>x) bM dC m136 m124 jV a0 a1_0 a1_1 a1_2 a1_3 a1_4 a1_5 a1_6 a1_7 a1_8
theorem e87 (bM:Y88)(dC:Y135)(m136:Y136)(m124:Y124)(jV:Y138)(L:Nat)(a0:N10)(a1_0:Int)(a1_1:Int)(a1_2:Int)(a1_3:Int)(a1_4:Int)(a1_5:Int)(a1_6:Int)(a1_7:Bool)(a1_8:(List E9)):fK prog (aWS bM dC m136 m124 jV) (bJ L) f87 (a87.enc (a0,(a1_0,a1_1,a1_2,a1_3,a1_4,a1_5,a1_6,a1_7,a1_8)))=(g87 bM dC m136 m124 jV L a0 a1_0 a1_1 a1_2 a1_3 a1_4 a1_5 a1_6 a1_7 a1_8).map n87:=by
 refine .trans (b:=G87 n87 bM dC m136 m124 jV a0 a1_0 a1_1 a1_2 a1_3 a1_4 a1_5 a1_6 a1_7 a1_8) (by kernel_rfl) ?_;unfold g87 G87
 repeat' first | with_reducible refine dP ?_ ?_ | with_reducible refine dL λ_=>?_ | with_reducible refine dO λ_=>?_ | exact rfl
def w87 (bM:Y88)(dC:Y135)(m136:Y136)(m124:Y124)(jV:Y138)(L:Nat)(x:(N10×M9)):Option Int:=g87 bM dC m136 m124 jV L x.1 x.2.1 x.2.2.1 x.2.2.2.1 x.2.2.2.2.1 x.2.2.2.2.2.1 x.2.2.2.2.2.2.1 x.2.2.2.2.2.2.2.1 x.2.2.2.2.2.2.2.2.1 x.2.2.2.2.2.2.2.2.2
theorem s87 (bM:Y88)(dC:Y135)(m136:Y136)(m124:Y124)(jV:Y138)(h88:Sat prog cxT 88 (xQ bM))(h135:Sat prog cxT 135 (aE6 dC))(h136:Sat prog cxT 136 (aIB m136))(h124:Sat prog cxT 124 (aID m124))(h138:Sat prog cxT 138 (aMS jV))(m:Y87)(hm:∀ (x:(N10×M9)) t,m x=some t->∃ L,w87 bM dC m136 m124 jV L x=some t):Sat prog cxT 87 (c87 m):=
 cD bA aW (by rfl) (fn:=f87) rfl a87 n87 aXF m (aWS bM dC m136 m124 jV) (aL h88 (aL h135 (aL h136 (aL h124 (aL h138 aV))))) aP (w87 bM dC m136 m124 jV) (λL x=>e87 bM dC m136 m124 jV L x.1 x.2.1 x.2.2.1 x.2.2.2.1 x.2.2.2.2.1 x.2.2.2.2.2.1 x.2.2.2.2.2.2.1 x.2.2.2.2.2.2.2.1 x.2.2.2.2.2.2.2.2.1 x.2.2.2.2.2.2.2.2.2) hm bCV
def jR (eJ:Y85)(eR:Y86)(eV:Y87)(bM:Y88)(m89:Y89):Env cxT:={ Kc:=cS [(85,c85 eJ),(86,c86 eR),(87,c87 eV),(88,xQ bM),(89,c89 m89)],Kw:=cR [],lv:=λi=>if i=0 then[(0,[some 96,some 78,some 66,some 118]),(3,[])]else if i=2 then[(0,[some 96,some 78,some 66,some 118]),(5,[])]else if i=4 then[(0,[some 96,some 78,some 66,some 118]),(7,[])]else if i=6 then[(0,[some 96,some 78,some 66,some 118]),(8,[])]else[],xv:=λi=>if i=0 then some [(0,[some 96,some 78,some 66,some 118])]else if i=2 then some [(0,[some 96,some 78,some 66,some 118])]else if i=4 then some [(0,[some 96,some 78,some 66,some 118])]else if i=6 then some []else none }
def S39_0 (a0:C4)(v0_3:Int):St cxT.ty:={ slots:=[(.inr (.inr { kind:=2,nm:=0,cells:=[],s:={ own:=0,nm:=0,e:=35,o:=false,xs:=(List.cons a0 []) },i:=0,off:=0 })),aK,aK,(.inl (.inl (lv (.int .i64 v0_3))))]++List.replicate 194 aK,D:=[],F:=[],ctr:=1 }
def X39_0 (a0:C4):St cxT.ty:={ slots:=[(.inr (.inr { kind:=2,nm:=0,cells:=[],s:={ own:=0,nm:=0,e:=35,o:=false,xs:=(List.cons a0 []) },i:=0,off:=0 }))]++List.replicate 197 aK,D:=[],F:=[],ctr:=1 }
def S39_2 (a0:C4)(v2_5:Int):St cxT.ty:={ slots:=[(.inr (.inr { kind:=2,nm:=0,cells:=[],s:={ own:=0,nm:=0,e:=35,o:=false,xs:=(List.cons a0 []) },i:=0,off:=0 })),aK,aK,aK,aK,(.inl (.inl (lv (.int .i64 v2_5))))]++List.replicate 192 aK,D:=[],F:=[],ctr:=1 }
def X39_2 (a0:C4):St cxT.ty:={ slots:=[(.inr (.inr { kind:=2,nm:=0,cells:=[],s:={ own:=0,nm:=0,e:=35,o:=false,xs:=(List.cons a0 []) },i:=0,off:=0 }))]++List.replicate 197 aK,D:=[],F:=[],ctr:=1 }
def S39_4 (a0:C4)(v4_7:Int):St cxT.ty:={ slots:=[(.inr (.inr { kind:=2,nm:=0,cells:=[],s:={ own:=0,nm:=0,e:=35,o:=false,xs:=(List.cons a0 []) },i:=0,off:=0 })),aK,aK,aK,aK,aK,aK,(.inl (.inl (lv (.int .i64 v4_7))))]++List.replicate 190 aK,D:=[],F:=[],ctr:=1 }
def X39_4 (a0:C4):St cxT.ty:={ slots:=[(.inr (.inr { kind:=2,nm:=0,cells:=[],s:={ own:=0,nm:=0,e:=35,o:=false,xs:=(List.cons a0 []) },i:=0,off:=0 }))]++List.replicate 197 aK,D:=[],F:=[],ctr:=1 }
def S39_6 (a0:C4)(v6_8:Int):St cxT.ty:={ slots:=[(.inr (.inr { kind:=2,nm:=0,cells:=[],s:={ own:=0,nm:=0,e:=35,o:=false,xs:=(List.cons a0 []) },i:=0,off:=0 })),aK,aK,aK,aK,aK,aK,aK,(.inl (.inl (lv (.int .i64 v6_8))))]++List.replicate 189 aK,D:=[],F:=[],ctr:=1 }
def X39_6 (a0:C4):St cxT.ty:={ slots:=[]++List.replicate 198 aK,D:=[],F:=[],ctr:=1 }
def G39 {B:Type}(u:Int->B)(hh0:Int->Option B)(eJ:Y85)(eR:Y86)(eV:Y87)(bM:Y88)(m89:Y89)(a0:C4):Option B:=
 bif (decide ((Nat.cast (List.length a0.1):Int) < (1:Int)))then some (u (2:Int))
 else bif (decide ((Nat.cast (List.length a0.1):Int) > (5:Int)))then some (u (2:Int))
 else bif (decide ((Nat.cast (List.length a0.2.1):Int) > (80:Int)))then some (u (2:Int))
 else hh0 (0:Int)
def B39_0 {B:Type}(u:Int->B)(gg:Int->Option B)(kk:Option B)(eJ:Y85)(eR:Y86)(eV:Y87)(bM:Y88)(m89:Y89)(a0:C4)(v0_3:Int):Option B:=
 bif (decide (v0_3 < (Nat.cast (List.length a0.1):Int)))then dY a0 λs1_0=>dY (List.getD s1_0.1 v0_3.toNat ((0:Int),((0:Int),((0:Int),((0:Int),(([]:List E9),((0:Int),((0:Int),(([]:List (Int)),(([]:List (Int)),([]:List (Int)))))))))))) λs1_1=>bif ((decide ((0:Int)<=v0_3))&&(decide (v0_3 < (Nat.cast (List.length s1_0.1):Int))))then dB (eJ s1_1) (0:Int) λ(q3:Int)=>bif (q3 != (0:Int))then some (u q3)
    else bif ((decide ((0:Int)<=v0_3))&&(decide (v0_3 < (Nat.cast (List.length s1_0.1):Int))))then bif (s1_1.1 != v0_3)then some (u (1:Int))
     else bif ((decide ((0:Int)<=v0_3))&&(decide (v0_3 < (Nat.cast (List.length s1_0.1):Int))))then bif (s1_1.2.1 != (Nat.cast (List.length s1_0.1):Int))then some (u (1:Int))
      else gg (wrap .i64 (v0_3+(1:Int)))
     else none
    else none
  else none
 else kk
def A39_0 {B:Type}(u:Int->B)(hh2:Int->Option B)(eJ:Y85)(eR:Y86)(eV:Y87)(bM:Y88)(m89:Y89)(a0:C4):Option B:=
 hh2 (0:Int)
def B39_2 {B:Type}(u:Int->B)(gg:Int->Option B)(kk:Option B)(eJ:Y85)(eR:Y86)(eV:Y87)(bM:Y88)(m89:Y89)(a0:C4)(v2_5:Int):Option B:=
 bif (decide (v2_5 < (Nat.cast (List.length a0.2.1):Int)))then dY a0 λs1_0=>dY (List.getD s1_0.2.1 v2_5.toNat ((0:Int),((0:Int),((0:Int),((0:Int),((0:Int),((0:Int),((0:Int),(false,[]))))))))) λs1_1=>dY (List.getD s1_0.1 (Int.toNat s1_1.2.2.1) ((0:Int),((0:Int),((0:Int),((0:Int),(([]:List E9),((0:Int),((0:Int),(([]:List (Int)),(([]:List (Int)),([]:List (Int)))))))))))) λs1_2=>bif ((decide ((0:Int)<=v2_5))&&(decide (v2_5 < (Nat.cast (List.length s1_0.2.1):Int))))then dB (eR (s1_0,s1_1.2.2.1)) false λ(q3:Bool)=>bif (!q3)then some (u (3:Int))
    else bif ((decide ((0:Int)<=v2_5))&&(decide (v2_5 < (Nat.cast (List.length s1_0.2.1):Int))))then bif ((decide ((0:Int)<=s1_1.2.2.1))&&(decide (s1_1.2.2.1 < (Nat.cast (List.length s1_0.1):Int))))then bif ((decide ((0:Int)<=v2_5))&&(decide (v2_5 < (Nat.cast (List.length s1_0.2.1):Int))))then dB (eV (s1_2,(s1_1.1,(s1_1.2.1,(s1_1.2.2.1,(s1_1.2.2.2.1,(s1_1.2.2.2.2.1,(s1_1.2.2.2.2.2.1,(s1_1.2.2.2.2.2.2.1,(s1_1.2.2.2.2.2.2.2.1,s1_1.2.2.2.2.2.2.2.2)))))))))) (0:Int) λ(q7:Int)=>bif (q7 != (0:Int))then some (u q7)
        else gg (wrap .i64 (v2_5+(1:Int)))
      else none
     else none
    else none
  else none
 else kk
def A39_2 {B:Type}(u:Int->B)(hh4:Int->Option B)(eJ:Y85)(eR:Y86)(eV:Y87)(bM:Y88)(m89:Y89)(a0:C4):Option B:=
 bif (decide ((Nat.cast (List.length a0.2.2.1):Int) > (400:Int)))then some (u (2:Int))
 else bif (decide ((Nat.cast (List.length a0.2.2.2):Int) > (40:Int)))then some (u (2:Int))
 else hh4 (0:Int)
def B39_4 {B:Type}(u:Int->B)(gg:Int->Option B)(kk:Option B)(eJ:Y85)(eR:Y86)(eV:Y87)(bM:Y88)(m89:Y89)(a0:C4)(v4_7:Int):Option B:=
 bif (decide (v4_7 < (Nat.cast (List.length a0.2.2.1):Int)))then dY a0 λs1_0=>dY (List.getD s1_0.2.2.1 v4_7.toNat ((0:Int),(0:Int))) λs1_1=>bif ((decide ((0:Int)<=v4_7))&&(decide (v4_7 < (Nat.cast (List.length s1_0.2.2.1):Int))))then dB (bM (s1_1.1,((1:Int),(100000:Int)))) false λ(q3:Bool)=>bif (!q3)then some (u (3:Int))
    else bif ((decide ((0:Int)<=v4_7))&&(decide (v4_7 < (Nat.cast (List.length s1_0.2.2.1):Int))))then dB (eR (s1_0,s1_1.2)) false λ(q5:Bool)=>bif (!q5)then some (u (3:Int))
      else gg (wrap .i64 (v4_7+(1:Int)))
    else none
  else none
 else kk
def A39_4 {B:Type}(u:Int->B)(hh6:Int->Option B)(eJ:Y85)(eR:Y86)(eV:Y87)(bM:Y88)(m89:Y89)(a0:C4):Option B:=
 hh6 (0:Int)
def B39_6 {B:Type}(u:Int->B)(gg:Int->Option B)(kk:Option B)(eJ:Y85)(eR:Y86)(eV:Y87)(bM:Y88)(m89:Y89)(a0:C4)(v6_8:Int):Option B:=
 bif (decide (v6_8 < (Nat.cast (List.length a0.2.2.2):Int)))then dY a0 λs1_0=>dY (List.getD s1_0.2.2.2 v6_8.toNat ((0:Int),((0:Int),((0:Int),((0:Int),((0:Int),((0:Int),((0:Int),((0:Int),((0:Int),(0:Int))))))))))) λs1_1=>bif ((decide ((0:Int)<=v6_8))&&(decide (v6_8 < (Nat.cast (List.length s1_0.2.2.2):Int))))then dB (bM (s1_1.1,((1:Int),(100000:Int)))) false λ(q3:Bool)=>bif (!q3)then some (u (3:Int))
    else bif ((decide ((0:Int)<=v6_8))&&(decide (v6_8 < (Nat.cast (List.length s1_0.2.2.2):Int))))then dB (m89 (s1_1.2.1,(s1_1.2.2.1,(s1_1.2.2.2.1,(s1_1.2.2.2.2.1,(s1_1.2.2.2.2.2.1,(s1_1.2.2.2.2.2.2.1,(s1_1.2.2.2.2.2.2.2.1,(s1_1.2.2.2.2.2.2.2.2.1,s1_1.2.2.2.2.2.2.2.2.2))))))))) (0:Int) λ(q5:Int)=>bif (q5 != (0:Int))then some (u q5)
      else gg (wrap .i64 (v6_8+(1:Int)))
    else none
  else none
 else kk
def A39_6 {B:Type}(u:Int->B)(eJ:Y85)(eR:Y86)(eV:Y87)(bM:Y88)(m89:Y89)(a0:C4):Option B:=
 some (u (0:Int))
def oW (eJ:Y85)(eR:Y86)(eV:Y87)(bM:Y88)(m89:Y89)(L:Nat)(a0:C4):Nat->Int->(Option Int)->Option Int
 | 0,_,_=>none
 | n+1,v6_8,k=>B39_6 (λx=>x) (λv6_8=>oW eJ eR eV bM m89 L a0 n v6_8 k) k eJ eR eV bM m89 a0 v6_8
theorem aNJ (eJ:Y85)(eR:Y86)(eV:Y87)(bM:Y88)(m89:Y89)(L:Nat)(a0:C4)(k:St cxT.ty->Option (V cxT.ty))(xk:Nat->St cxT.ty->Option (V cxT.ty))(k':Option Int)(hk:k (X39_6 a0)=(k').map yT):∀ (n:Nat) (v6_8:Int),bE prog (jR eJ eR eV bM m89) L f39 6 [1,1,1,1,1,1,0,1,0,0] (bW (aX prog f39) k xk) n (S39_6 a0 v6_8)=(oW eJ eR eV bM m89 L a0 n v6_8 k').map yT
 | 0,_=>rfl
 | n+1,v6_8=>by
  rw[bP];have ih:=aNJ eJ eR eV bM m89 L a0 k xk k' hk n;refine .trans (b:=B39_6 yT (λv6_8=>(bE prog (jR eJ eR eV bM m89) L f39 6 [1,1,1,1,1,1,0,1,0,0] (bW (aX prog f39) k xk) n) (S39_6 a0 v6_8)) (k (X39_6 a0)) eJ eR eV bM m89 a0 v6_8) (by kernel_rfl) ?_;unfold oW B39_6
  repeat' first | with_reducible refine dP ?_ ?_ | with_reducible refine dL λ_=>?_ | with_reducible refine dO λ_=>?_ | with_reducible exact ih _ | with_reducible exact hk | exact rfl
def pV (eJ:Y85)(eR:Y86)(eV:Y87)(bM:Y88)(m89:Y89)(L:Nat)(a0:C4):Nat->Int->(Option Int)->Option Int
 | 0,_,_=>none
 | n+1,v4_7,k=>B39_4 (λx=>x) (λv4_7=>pV eJ eR eV bM m89 L a0 n v4_7 k) k eJ eR eV bM m89 a0 v4_7
theorem aNK (eJ:Y85)(eR:Y86)(eV:Y87)(bM:Y88)(m89:Y89)(L:Nat)(a0:C4)(k:St cxT.ty->Option (V cxT.ty))(xk:Nat->St cxT.ty->Option (V cxT.ty))(k':Option Int)(hk:k (X39_4 a0)=(k').map yT):∀ (n:Nat) (v4_7:Int),bE prog (jR eJ eR eV bM m89) L f39 4 [1,1,1,1,1,0,1,0,0] (bW (aX prog f39) k xk) n (S39_4 a0 v4_7)=(pV eJ eR eV bM m89 L a0 n v4_7 k').map yT
 | 0,_=>rfl
 | n+1,v4_7=>by
  rw[bP];have ih:=aNK eJ eR eV bM m89 L a0 k xk k' hk n;refine .trans (b:=B39_4 yT (λv4_7=>(bE prog (jR eJ eR eV bM m89) L f39 4 [1,1,1,1,1,0,1,0,0] (bW (aX prog f39) k xk) n) (S39_4 a0 v4_7)) (k (X39_4 a0)) eJ eR eV bM m89 a0 v4_7) (by kernel_rfl) ?_;unfold pV B39_4
  repeat' first | with_reducible refine dP ?_ ?_ | with_reducible refine dL λ_=>?_ | with_reducible refine dO λ_=>?_ | with_reducible exact ih _ | with_reducible exact hk | exact rfl
def pW (eJ:Y85)(eR:Y86)(eV:Y87)(bM:Y88)(m89:Y89)(L:Nat)(a0:C4):Nat->Int->(Option Int)->Option Int
 | 0,_,_=>none
 | n+1,v2_5,k=>B39_2 (λx=>x) (λv2_5=>pW eJ eR eV bM m89 L a0 n v2_5 k) k eJ eR eV bM m89 a0 v2_5
theorem aNL (eJ:Y85)(eR:Y86)(eV:Y87)(bM:Y88)(m89:Y89)(L:Nat)(a0:C4)(k:St cxT.ty->Option (V cxT.ty))(xk:Nat->St cxT.ty->Option (V cxT.ty))(k':Option Int)(hk:k (X39_2 a0)=(k').map yT):∀ (n:Nat) (v2_5:Int),bE prog (jR eJ eR eV bM m89) L f39 2 [1,1,1,0,1,0,0] (bW (aX prog f39) k xk) n (S39_2 a0 v2_5)=(pW eJ eR eV bM m89 L a0 n v2_5 k').map yT
 | 0,_=>rfl
 | n+1,v2_5=>by
  rw[bP];have ih:=aNL eJ eR eV bM m89 L a0 k xk k' hk n;refine .trans (b:=B39_2 yT (λv2_5=>(bE prog (jR eJ eR eV bM m89) L f39 2 [1,1,1,0,1,0,0] (bW (aX prog f39) k xk) n) (S39_2 a0 v2_5)) (k (X39_2 a0)) eJ eR eV bM m89 a0 v2_5) (by kernel_rfl) ?_;unfold pW B39_2
  repeat' first | with_reducible refine dP ?_ ?_ | with_reducible refine dL λ_=>?_ | with_reducible refine dO λ_=>?_ | with_reducible exact ih _ | with_reducible exact hk | exact rfl
def sB (eJ:Y85)(eR:Y86)(eV:Y87)(bM:Y88)(m89:Y89)(L:Nat)(a0:C4):Nat->Int->(Option Int)->Option Int
 | 0,_,_=>none
 | n+1,v0_3,k=>B39_0 (λx=>x) (λv0_3=>sB eJ eR eV bM m89 L a0 n v0_3 k) k eJ eR eV bM m89 a0 v0_3
theorem aNM (eJ:Y85)(eR:Y86)(eV:Y87)(bM:Y88)(m89:Y89)(L:Nat)(a0:C4)(k:St cxT.ty->Option (V cxT.ty))(xk:Nat->St cxT.ty->Option (V cxT.ty))(k':Option Int)(hk:k (X39_0 a0)=(k').map yT):∀ (n:Nat) (v0_3:Int),bE prog (jR eJ eR eV bM m89) L f39 0 [1,1,0,1,0,0] (bW (aX prog f39) k xk) n (S39_0 a0 v0_3)=(sB eJ eR eV bM m89 L a0 n v0_3 k').map yT
 | 0,_=>rfl
 | n+1,v0_3=>by
  rw[bP];have ih:=aNM eJ eR eV bM m89 L a0 k xk k' hk n;refine .trans (b:=B39_0 yT (λv0_3=>(bE prog (jR eJ eR eV bM m89) L f39 0 [1,1,0,1,0,0] (bW (aX prog f39) k xk) n) (S39_0 a0 v0_3)) (k (X39_0 a0)) eJ eR eV bM m89 a0 v0_3) (by kernel_rfl) ?_;unfold sB B39_0
  repeat' first | with_reducible refine dP ?_ ?_ | with_reducible refine dL λ_=>?_ | with_reducible refine dO λ_=>?_ | with_reducible exact ih _ | with_reducible exact hk | exact rfl
def g39 (eJ:Y85)(eR:Y86)(eV:Y87)(bM:Y88)(m89:Y89)(L:Nat)(a0:C4):Option Int:=G39 (λx=>x) (λv0_3=>sB eJ eR eV bM m89 L a0 L v0_3 (A39_0 (λx=>x) (λv2_5=>pW eJ eR eV bM m89 L a0 L v2_5 (A39_2 (λx=>x) (λv4_7=>pV eJ eR eV bM m89 L a0 L v4_7 (A39_4 (λx=>x) (λv6_8=>oW eJ eR eV bM m89 L a0 L v6_8 (A39_6 (λx=>x) eJ eR eV bM m89 a0)) eJ eR eV bM m89 a0)) eJ eR eV bM m89 a0)) eJ eR eV bM m89 a0)) eJ eR eV bM m89 a0
theorem e39 (eJ:Y85)(eR:Y86)(eV:Y87)(bM:Y88)(m89:Y89)(L:Nat)(a0:C4):fK prog (jR eJ eR eV bM m89) (bJ L) f39 (a39.enc a0)=(g39 eJ eR eV bM m89 L a0).map yT:=by
 have hin6:∀ (v6_8:Int),bE prog (jR eJ eR eV bM m89) L f39 6 [1,1,1,1,1,1,0,1,0,0] (bW (aX prog f39) (bV prog (jR eJ eR eV bM m89) L f39 [1,1,1,1,1,1,0,1] (aX prog f39)).n (bV prog (jR eJ eR eV bM m89) L f39 [1,1,1,1,1,1,0,1] (aX prog f39)).x) L (S39_6 a0 v6_8)=((λv6_8=>oW eJ eR eV bM m89 L a0 L v6_8 (A39_6 (λx=>x) eJ eR eV bM m89 a0)) v6_8).map yT:=λv6_8=>aNJ eJ eR eV bM m89 L a0 _ _ _ (by refine .trans (b:=A39_6 yT eJ eR eV bM m89 a0) (by kernel_rfl) ?_;unfold A39_6;repeat' first | with_reducible refine dP ?_ ?_ | with_reducible refine dL λ_=>?_ | with_reducible refine dO λ_=>?_ | exact rfl) L v6_8
 have hin4:∀ (v4_7:Int),bE prog (jR eJ eR eV bM m89) L f39 4 [1,1,1,1,1,0,1,0,0] (bW (aX prog f39) (bV prog (jR eJ eR eV bM m89) L f39 [1,1,1,1,1,0,1] (aX prog f39)).n (bV prog (jR eJ eR eV bM m89) L f39 [1,1,1,1,1,0,1] (aX prog f39)).x) L (S39_4 a0 v4_7)=((λv4_7=>pV eJ eR eV bM m89 L a0 L v4_7 (A39_4 (λx=>x) (λv6_8=>oW eJ eR eV bM m89 L a0 L v6_8 (A39_6 (λx=>x) eJ eR eV bM m89 a0)) eJ eR eV bM m89 a0)) v4_7).map yT:=λv4_7=>aNK eJ eR eV bM m89 L a0 _ _ _ (by refine .trans (b:=A39_4 yT (λv6_8=>bE prog (jR eJ eR eV bM m89) L f39 6 [1,1,1,1,1,1,0,1,0,0] (bW (aX prog f39) (bV prog (jR eJ eR eV bM m89) L f39 [1,1,1,1,1,1,0,1] (aX prog f39)).n (bV prog (jR eJ eR eV bM m89) L f39 [1,1,1,1,1,1,0,1] (aX prog f39)).x) L (S39_6 a0 v6_8)) eJ eR eV bM m89 a0) (by kernel_rfl) ?_;unfold A39_4;repeat' first | with_reducible refine dP ?_ ?_ | with_reducible refine dL λ_=>?_ | with_reducible refine dO λ_=>?_ | with_reducible exact hin6 _ | exact rfl) L v4_7
 have hin2:∀ (v2_5:Int),bE prog (jR eJ eR eV bM m89) L f39 2 [1,1,1,0,1,0,0] (bW (aX prog f39) (bV prog (jR eJ eR eV bM m89) L f39 [1,1,1,0,1] (aX prog f39)).n (bV prog (jR eJ eR eV bM m89) L f39 [1,1,1,0,1] (aX prog f39)).x) L (S39_2 a0 v2_5)=((λv2_5=>pW eJ eR eV bM m89 L a0 L v2_5 (A39_2 (λx=>x) (λv4_7=>pV eJ eR eV bM m89 L a0 L v4_7 (A39_4 (λx=>x) (λv6_8=>oW eJ eR eV bM m89 L a0 L v6_8 (A39_6 (λx=>x) eJ eR eV bM m89 a0)) eJ eR eV bM m89 a0)) eJ eR eV bM m89 a0)) v2_5).map yT:=λv2_5=>aNL eJ eR eV bM m89 L a0 _ _ _ (by refine .trans (b:=A39_2 yT (λv4_7=>bE prog (jR eJ eR eV bM m89) L f39 4 [1,1,1,1,1,0,1,0,0] (bW (aX prog f39) (bV prog (jR eJ eR eV bM m89) L f39 [1,1,1,1,1,0,1] (aX prog f39)).n (bV prog (jR eJ eR eV bM m89) L f39 [1,1,1,1,1,0,1] (aX prog f39)).x) L (S39_4 a0 v4_7)) eJ eR eV bM m89 a0) (by kernel_rfl) ?_;unfold A39_2;repeat' first | with_reducible refine dP ?_ ?_ | with_reducible refine dL λ_=>?_ | with_reducible refine dO λ_=>?_ | with_reducible exact hin6 _ | with_reducible exact hin4 _ | exact rfl) L v2_5
 have hin0:∀ (v0_3:Int),bE prog (jR eJ eR eV bM m89) L f39 0 [1,1,0,1,0,0] (bW (aX prog f39) (bV prog (jR eJ eR eV bM m89) L f39 [1,1,0,1] (aX prog f39)).n (bV prog (jR eJ eR eV bM m89) L f39 [1,1,0,1] (aX prog f39)).x) L (S39_0 a0 v0_3)=((λv0_3=>sB eJ eR eV bM m89 L a0 L v0_3 (A39_0 (λx=>x) (λv2_5=>pW eJ eR eV bM m89 L a0 L v2_5 (A39_2 (λx=>x) (λv4_7=>pV eJ eR eV bM m89 L a0 L v4_7 (A39_4 (λx=>x) (λv6_8=>oW eJ eR eV bM m89 L a0 L v6_8 (A39_6 (λx=>x) eJ eR eV bM m89 a0)) eJ eR eV bM m89 a0)) eJ eR eV bM m89 a0)) eJ eR eV bM m89 a0)) v0_3).map yT:=λv0_3=>aNM eJ eR eV bM m89 L a0 _ _ _ (by refine .trans (b:=A39_0 yT (λv2_5=>bE prog (jR eJ eR eV bM m89) L f39 2 [1,1,1,0,1,0,0] (bW (aX prog f39) (bV prog (jR eJ eR eV bM m89) L f39 [1,1,1,0,1] (aX prog f39)).n (bV prog (jR eJ eR eV bM m89) L f39 [1,1,1,0,1] (aX prog f39)).x) L (S39_2 a0 v2_5)) eJ eR eV bM m89 a0) (by kernel_rfl) ?_;unfold A39_0;repeat' first | with_reducible refine dP ?_ ?_ | with_reducible refine dL λ_=>?_ | with_reducible refine dO λ_=>?_ | with_reducible exact hin6 _ | with_reducible exact hin4 _ | with_reducible exact hin2 _ | exact rfl) L v0_3
 refine .trans (b:=G39 yT (λv0_3=>bE prog (jR eJ eR eV bM m89) L f39 0 [1,1,0,1,0,0] (bW (aX prog f39) (bV prog (jR eJ eR eV bM m89) L f39 [1,1,0,1] (aX prog f39)).n (bV prog (jR eJ eR eV bM m89) L f39 [1,1,0,1] (aX prog f39)).x) L (S39_0 a0 v0_3)) eJ eR eV bM m89 a0) (by kernel_rfl) ?_;unfold g39 G39
 repeat' first | with_reducible refine dP ?_ ?_ | with_reducible refine dL λ_=>?_ | with_reducible refine dO λ_=>?_ | with_reducible exact hin6 _ | with_reducible exact hin4 _ | with_reducible exact hin2 _ | with_reducible exact hin0 _ | exact rfl
def w39 (eJ:Y85)(eR:Y86)(eV:Y87)(bM:Y88)(m89:Y89)(L:Nat)(x:C4):Option Int:=g39 eJ eR eV bM m89 L x
theorem s39 (eJ:Y85)(eR:Y86)(eV:Y87)(bM:Y88)(m89:Y89)(h85:Sat prog cxT 85 (c85 eJ))(h86:Sat prog cxT 86 (c86 eR))(h87:Sat prog cxT 87 (c87 eV))(h88:Sat prog cxT 88 (xQ bM))(h89:Sat prog cxT 89 (c89 m89))(m:Y39)(hm:∀ (x:C4) t,m x=some t->∃ L,w39 eJ eR eV bM m89 L x=some t):Sat prog cxT 39 (c39 m):=
 cD bA aW (by rfl) (fn:=f39) rfl a39 yT aYa m (jR eJ eR eV bM m89) (aL h85 (aL h86 (aL h87 (aL h88 (aL h89 aV))))) aP (w39 eJ eR eV bM m89) (λL x=>e39 eJ eR eV bM m89 L x) hm bDp
end Go.Proofs.Tryz
