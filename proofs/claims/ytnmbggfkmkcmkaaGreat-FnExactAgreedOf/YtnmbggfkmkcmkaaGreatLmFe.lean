/- A part of the proof of FnExactLeaderOf: LmFe, LmFf. -/
import Derived.Test.YtnmbggfkmkcmkaaGreatLmBase
set_option linter.unusedSimpArgs false
set_option linter.unusedVariables false
set_option maxHeartbeats 0
set_option maxRecDepth 100000
namespace Go.Proofs.Tryz
open Go.IntKind (wrap)
open Go Go.VM Go.RowKit
def aTB:Env cxT:={ Kc:=cR [],Kw:=cQ [],lv:=λi=>[],xv:=λi=>none }
def G70 {B:Type}(u:Bool->B)(a0:Int)(a1:Int)(a2:Int):Option B:=
 bif (decide (a0>=a1))then some (u (decide (a0<=a2)))
 else some (u false)
def g70 (L:Nat)(a0:Int)(a1:Int)(a2:Int):Option Bool:=G70 (λx=>x) a0 a1 a2
theorem e70 (L:Nat)(a0:Int)(a1:Int)(a2:Int):fP prog aTB (bJ L) f70 (a70.enc (a0,a1,a2))=(g70 L a0 a1 a2).map n70:=by
 refine .trans (b:=G70 n70 a0 a1 a2) (by kernel_rfl) ?_;unfold g70 G70
 repeat' first | with_reducible refine dP ?_ ?_ | with_reducible refine dL λ_=>?_ | with_reducible refine dO λ_=>?_ | exact rfl
def w70 (L:Nat)(x:(Int×Int×Int)):Option Bool:=g70 L x.1 x.2.1 x.2.2
theorem s70 (m:Y70)(hm:∀ (x:(Int×Int×Int)) t,m x=some t->∃ L,w70 L x=some t):Sat prog cxT 70 (xL m):=
 cF bC aX (by rfl) (fn:=f70) rfl a70 n70 aUA m aTB aW aQ (w70) (λL x=>e70 L x.1 x.2.1 x.2.2) hm aZs
def sW:Env cxT:={ Kc:=cR [],Kw:=cQ [],lv:=λi=>if i=0 then[(0,[some 2]),(3,[])]else[],xv:=λi=>if i=0 then some []else none }
def S114_0 (a0:(List Int))(v0_3:Int):St cxT.ty:={ slots:=[(.inl (.inl (ls { own:=0,nm:=0,e:=2,o:=false,xs:=a0 }))),aJ,aJ,(.inl (.inl (lv (.int .i64 v0_3))))]++List.replicate 16 aJ,D:=[],F:=[],ctr:=1 }
def X114_0 (a0:(List Int)):St cxT.ty:={ slots:=[]++List.replicate 20 aJ,D:=[],F:=[],ctr:=1 }
def G114 {B:Type}(u:Bool->B)(hh0:Int->Option B)(a0:(List Int)):Option B:=
 hh0 (1:Int)
def B114_0 {B:Type}(u:Bool->B)(gg:Int->Option B)(kk:Option B)(a0:(List Int))(v0_3:Int):Option B:=
 bif (decide (v0_3 < (Nat.cast (List.length a0):Int)))then bif ((decide ((0:Int)<=v0_3))&&(decide (v0_3 < (Nat.cast (List.length a0):Int))))then bif ((decide ((0:Int)<=(wrap .i64 (v0_3-(1:Int)))))&&(decide ((wrap .i64 (v0_3-(1:Int))) < (Nat.cast (List.length a0):Int))))then bif (decide ((List.getD a0 v0_3.toNat (0:Int))<=(List.getD a0 (Int.toNat (wrap .i64 (v0_3-(1:Int)))) (0:Int))))then some (u false)
    else gg (wrap .i64 (v0_3+(1:Int)))
   else none
  else none
 else kk
def A114_0 {B:Type}(u:Bool->B)(a0:(List Int)):Option B:=
 some (u true)
def tQ (L:Nat)(a0:(List Int)):Nat->Int->(Option Bool)->Option Bool
 | 0,_,_=>none
 | n+1,v0_3,k=>B114_0 (λx=>x) (λv0_3=>tQ L a0 n v0_3 k) k a0 v0_3
theorem aIB (L:Nat)(a0:(List Int))(k:St cxT.ty->Option (V cxT.ty))(xk:Nat->St cxT.ty->Option (V cxT.ty))(k':Option Bool)(hk:k (X114_0 a0)=(k').map zU):∀ (n:Nat) (v0_3:Int),bA prog sW L f114 0 [1,0,1,0,0] (cB (aY prog f114) k xk) n (S114_0 a0 v0_3)=(tQ L a0 n v0_3 k').map zU
 | 0,_=>rfl
 | n+1,v0_3=>by
  rw[bQ];have ih:=aIB L a0 k xk k' hk n;refine .trans (b:=B114_0 zU (λv0_3=>(bA prog sW L f114 0 [1,0,1,0,0] (cB (aY prog f114) k xk) n) (S114_0 a0 v0_3)) (k (X114_0 a0)) a0 v0_3) (by kernel_rfl) ?_;unfold tQ B114_0
  repeat' first | with_reducible refine dP ?_ ?_ | with_reducible refine dL λ_=>?_ | with_reducible refine dO λ_=>?_ | with_reducible exact ih _ | with_reducible exact hk | exact rfl
def aKk (L:Nat)(a0:(List Int)):Option Bool:=G114 (λx=>x) (λv0_3=>tQ L a0 L v0_3 (A114_0 (λx=>x) a0)) a0
theorem bBb (L:Nat)(a0:(List Int)):fP prog sW (bJ L) f114 (aWm.enc a0)=(aKk L a0).map zU:=by
 have hin0:∀ (v0_3:Int),bA prog sW L f114 0 [1,0,1,0,0] (cB (aY prog f114) (cA prog sW L f114 [1,0,1] (aY prog f114)).n (cA prog sW L f114 [1,0,1] (aY prog f114)).x) L (S114_0 a0 v0_3)=((λv0_3=>tQ L a0 L v0_3 (A114_0 (λx=>x) a0)) v0_3).map zU:=λv0_3=>aIB L a0 _ _ _ (by refine .trans (b:=A114_0 zU a0) (by kernel_rfl) ?_;unfold A114_0;repeat' first | with_reducible refine dP ?_ ?_ | with_reducible refine dL λ_=>?_ | with_reducible refine dO λ_=>?_ | exact rfl) L v0_3
 refine .trans (b:=G114 zU (λv0_3=>bA prog sW L f114 0 [1,0,1,0,0] (cB (aY prog f114) (cA prog sW L f114 [1,0,1] (aY prog f114)).n (cA prog sW L f114 [1,0,1] (aY prog f114)).x) L (S114_0 a0 v0_3)) a0) (by kernel_rfl) ?_;unfold aKk G114
 repeat' first | with_reducible refine dP ?_ ?_ | with_reducible refine dL λ_=>?_ | with_reducible refine dO λ_=>?_ | with_reducible exact hin0 _ | exact rfl
def aNC (L:Nat)(x:(List Int)):Option Bool:=aKk L x
theorem aYv (m:Y114)(hm:∀ (x:(List Int)) t,m x=some t->∃ L,aNC L x=some t):Sat prog cxT 114 (aKP m):=
 cF bC aX (by rfl) (fn:=f114) rfl aWm zU aM9 m sW aW aQ (aNC) (λL x=>bBb L x) hm aSo
def aTj (bN:Y70):Env cxT:={ Kc:=cR [(70,xL bN)],Kw:=cQ [],lv:=λi=>[],xv:=λi=>none }
def G96 {B:Type}(u:Bool->B)(bN:Y70)(a0:N10)(a1:Int):Option B:=
 cU (bN (a1,((0:Int),(wrap .i64 (a0.2.1-(1:Int)))))) false λ(q1:Bool)=>some (u q1)
def g96 (bN:Y70)(L:Nat)(a0:N10)(a1:Int):Option Bool:=G96 (λx=>x) bN a0 a1
theorem e96 (bN:Y70)(L:Nat)(a0:N10)(a1:Int):fP prog (aTj bN) (bJ L) f96 (a96.enc (a0,a1))=(g96 bN L a0 a1).map n96:=by
 refine .trans (b:=G96 n96 bN a0 a1) (by kernel_rfl) ?_;unfold g96 G96
 repeat' first | with_reducible refine dP ?_ ?_ | with_reducible refine dL λ_=>?_ | with_reducible refine dO λ_=>?_ | exact rfl
def w96 (bN:Y70)(L:Nat)(x:(N10×Int)):Option Bool:=g96 bN L x.1 x.2
theorem s96 (bN:Y70)(h70:Sat prog cxT 70 (xL bN))(m:Y96)(hm:∀ (x:(N10×Int)) t,m x=some t->∃ L,w96 bN L x=some t):Sat prog cxT 96 (c96 m):=
 cF bC aX (by rfl) (fn:=f96) rfl a96 n96 aUe m (aTj bN) (aL h70 aW) aQ (w96 bN) (λL x=>e96 bN L x.1 x.2) hm aY6
def aBi (gL:Y114)(fL:Y96):Env cxT:={ Kc:=cR [(114,aKP gL),(96,c96 fL)],Kw:=cQ [],lv:=λi=>if i=0 then[(0,[none,none,none,none,some 102,none,none,some 2,some 2,some 2]),(3,[])]else[],xv:=λi=>if i=0 then some [(0,[none,none,none,none,some 102,none,none,some 2,some 2,some 2])]else none }
def S99_0 (a0:N10)(v0_3:Int):St cxT.ty:={ slots:=[(.inr (.inr { kind:=2,nm:=0,cells:=[],s:={ own:=0,nm:=0,e:=73,o:=false,xs:=(List.cons a0 []) },i:=0,off:=0 })),aJ,aJ,(.inl (.inl (lv (.int .i64 v0_3))))]++List.replicate 66 aJ,D:=[],F:=[],ctr:=1 }
def X99_0 (a0:N10):St cxT.ty:={ slots:=[(.inr (.inr { kind:=2,nm:=0,cells:=[],s:={ own:=0,nm:=0,e:=73,o:=false,xs:=(List.cons a0 []) },i:=0,off:=0 }))]++List.replicate 69 aJ,D:=[],F:=[],ctr:=1 }
def G99 {B:Type}(u:Bool->B)(hh0:Int->Option B)(gL:Y114)(fL:Y96)(a0:N10):Option B:=
 cU (gL a0.2.2.2.2.2.2.2.1) false λ(q1:Bool)=>bif (!q1)then some (u false)
  else bif (decide ((Nat.cast (List.length a0.2.2.2.2.2.2.2.1):Int) > (0:Int)))then bif (a0.2.2.2.2.2.1 != (1:Int))then some (u false)
   else hh0 (0:Int)
  else hh0 (0:Int)
def B99_0 {B:Type}(u:Bool->B)(gg:Int->Option B)(kk:Option B)(gL:Y114)(fL:Y96)(a0:N10)(v0_3:Int):Option B:=
 bif (decide (v0_3 < (Nat.cast (List.length a0.2.2.2.2.2.2.2.1):Int)))then dX a0 λs1_0=>bif ((decide ((0:Int)<=v0_3))&&(decide (v0_3 < (Nat.cast (List.length s1_0.2.2.2.2.2.2.2.1):Int))))then cU (fL (s1_0,(List.getD s1_0.2.2.2.2.2.2.2.1 v0_3.toNat (0:Int)))) false λ(q3:Bool)=>bif (!q3)then some (u false)
    else gg (wrap .i64 (v0_3+(1:Int)))
  else none
 else kk
def A99_0 {B:Type}(u:Bool->B)(gL:Y114)(fL:Y96)(a0:N10):Option B:=
 bif (a0.2.2.2.2.2.1 == (2:Int))then dX a0 λs1_0=>bif ((Nat.cast (List.length s1_0.2.2.2.2.2.2.2.2.1):Int) == s1_0.2.1)then some (u ((Nat.cast (List.length s1_0.2.2.2.2.2.2.2.2.2):Int) == s1_0.2.1))
  else some (u false)
 else bif ((Nat.cast (List.length a0.2.2.2.2.2.2.2.2.1):Int) == (0:Int))then some (u ((Nat.cast (List.length a0.2.2.2.2.2.2.2.2.2):Int) == (0:Int)))
 else some (u false)
def aAc (gL:Y114)(fL:Y96)(L:Nat)(a0:N10):Nat->Int->(Option Bool)->Option Bool
 | 0,_,_=>none
 | n+1,v0_3,k=>B99_0 (λx=>x) (λv0_3=>aAc gL fL L a0 n v0_3 k) k gL fL a0 v0_3
theorem aLr (gL:Y114)(fL:Y96)(L:Nat)(a0:N10)(k:St cxT.ty->Option (V cxT.ty))(xk:Nat->St cxT.ty->Option (V cxT.ty))(k':Option Bool)(hk:k (X99_0 a0)=(k').map n99):∀ (n:Nat) (v0_3:Int),bA prog (aBi gL fL) L f99 0 [1,1,0,1,0,0] (cB (aY prog f99) k xk) n (S99_0 a0 v0_3)=(aAc gL fL L a0 n v0_3 k').map n99
 | 0,_=>rfl
 | n+1,v0_3=>by
  rw[bQ];have ih:=aLr gL fL L a0 k xk k' hk n;refine .trans (b:=B99_0 n99 (λv0_3=>(bA prog (aBi gL fL) L f99 0 [1,1,0,1,0,0] (cB (aY prog f99) k xk) n) (S99_0 a0 v0_3)) (k (X99_0 a0)) gL fL a0 v0_3) (by kernel_rfl) ?_;unfold aAc B99_0
  repeat' first | with_reducible refine dP ?_ ?_ | with_reducible refine dL λ_=>?_ | with_reducible refine dO λ_=>?_ | with_reducible exact ih _ | with_reducible exact hk | exact rfl
def g99 (gL:Y114)(fL:Y96)(L:Nat)(a0:N10):Option Bool:=G99 (λx=>x) (λv0_3=>aAc gL fL L a0 L v0_3 (A99_0 (λx=>x) gL fL a0)) gL fL a0
theorem e99 (gL:Y114)(fL:Y96)(L:Nat)(a0:N10):fP prog (aBi gL fL) (bJ L) f99 (a99.enc a0)=(g99 gL fL L a0).map n99:=by
 have hin0:∀ (v0_3:Int),bA prog (aBi gL fL) L f99 0 [1,1,0,1,0,0] (cB (aY prog f99) (cA prog (aBi gL fL) L f99 [1,1,0,1] (aY prog f99)).n (cA prog (aBi gL fL) L f99 [1,1,0,1] (aY prog f99)).x) L (S99_0 a0 v0_3)=((λv0_3=>aAc gL fL L a0 L v0_3 (A99_0 (λx=>x) gL fL a0)) v0_3).map n99:=λv0_3=>aLr gL fL L a0 _ _ _ (by refine .trans (b:=A99_0 n99 gL fL a0) (by kernel_rfl) ?_;unfold A99_0;repeat' first | with_reducible refine dP ?_ ?_ | with_reducible refine dL λ_=>?_ | with_reducible refine dO λ_=>?_ | exact rfl) L v0_3
 refine .trans (b:=G99 n99 (λv0_3=>bA prog (aBi gL fL) L f99 0 [1,1,0,1,0,0] (cB (aY prog f99) (cA prog (aBi gL fL) L f99 [1,1,0,1] (aY prog f99)).n (cA prog (aBi gL fL) L f99 [1,1,0,1] (aY prog f99)).x) L (S99_0 a0 v0_3)) gL fL a0) (by kernel_rfl) ?_;unfold g99 G99
 repeat' first | with_reducible refine dP ?_ ?_ | with_reducible refine dL λ_=>?_ | with_reducible refine dO λ_=>?_ | with_reducible exact hin0 _ | exact rfl
def w99 (gL:Y114)(fL:Y96)(L:Nat)(x:N10):Option Bool:=g99 gL fL L x
theorem s99 (gL:Y114)(fL:Y96)(h114:Sat prog cxT 114 (aKP gL))(h96:Sat prog cxT 96 (c96 fL))(m:Y99)(hm:∀ (x:N10) t,m x=some t->∃ L,w99 gL fL L x=some t):Sat prog cxT 99 (c99 m):=
 cF bC aX (by rfl) (fn:=f99) rfl a99 n99 aUb m (aBi gL fL) (aL h114 (aL h96 aW)) aQ (w99 gL fL) (λL x=>e99 gL fL L x) hm aY3
def aTA (bN:Y70)(m101:Y101):Env cxT:={ Kc:=cR [(70,xL bN),(101,aPs m101)],Kw:=cQ [],lv:=λi=>[],xv:=λi=>none }
def G71 {B:Type}(u:Int->B)(bN:Y70)(m101:Y101)(a0_0:Int)(a0_1:Int)(a0_2:Int)(a0_3:Int)(a0_4:Int)(a0_5:Int)(a0_6:Int)(a0_7:Int)(a0_8:Int):Option B:=
 cU (bN (a0_0,((1:Int),(100000:Int)))) false λ(q1:Bool)=>bif (!q1)then some (u (3:Int))
  else cU (bN (a0_1,((0:Int),(999:Int)))) false λ(q2:Bool)=>bif (!q2)then some (u (3:Int))
   else cU (bN (a0_2,((0:Int),(1000000:Int)))) false λ(q3:Bool)=>bif (!q3)then some (u (3:Int))
    else bif (!((a0_1 == (0:Int)) == (a0_2 == (0:Int))))then some (u (1:Int))
    else bif (a0_1 != (0:Int))then cU (m101 (a0_3,(a0_4,(a0_5,(a0_6,(a0_7,a0_8)))))) (0:Int) λ(q5:Int)=>some (u q5)
    else bif (!((((((a0_3 == (0:Int))&&(a0_4 == (0:Int)))&&(a0_5 == (0:Int)))&&(a0_6 == (0:Int)))&&(a0_7 == (0:Int)))&&(a0_8 == (0:Int))))then some (u (1:Int))
    else some (u (0:Int))
def g71 (bN:Y70)(m101:Y101)(L:Nat)(a0_0:Int)(a0_1:Int)(a0_2:Int)(a0_3:Int)(a0_4:Int)(a0_5:Int)(a0_6:Int)(a0_7:Int)(a0_8:Int):Option Int:=G71 (λx=>x) bN m101 a0_0 a0_1 a0_2 a0_3 a0_4 a0_5 a0_6 a0_7 a0_8
theorem e71 (bN:Y70)(m101:Y101)(L:Nat)(a0_0:Int)(a0_1:Int)(a0_2:Int)(a0_3:Int)(a0_4:Int)(a0_5:Int)(a0_6:Int)(a0_7:Int)(a0_8:Int):fP prog (aTA bN m101) (bJ L) f71 (a71.enc (a0_0,a0_1,a0_2,a0_3,a0_4,a0_5,a0_6,a0_7,a0_8))=(g71 bN m101 L a0_0 a0_1 a0_2 a0_3 a0_4 a0_5 a0_6 a0_7 a0_8).map n71:=by
 refine .trans (b:=G71 n71 bN m101 a0_0 a0_1 a0_2 a0_3 a0_4 a0_5 a0_6 a0_7 a0_8) (by kernel_rfl) ?_;unfold g71 G71
 repeat' first | with_reducible refine dP ?_ ?_ | with_reducible refine dL λ_=>?_ | with_reducible refine dO λ_=>?_ | exact rfl
def w71 (bN:Y70)(m101:Y101)(L:Nat)(x:E9):Option Int:=g71 bN m101 L x.1 x.2.1 x.2.2.1 x.2.2.2.1 x.2.2.2.2.1 x.2.2.2.2.2.1 x.2.2.2.2.2.2.1 x.2.2.2.2.2.2.2.1 x.2.2.2.2.2.2.2.2
theorem s71 (bN:Y70)(m101:Y101)(h70:Sat prog cxT 70 (xL bN))(h101:Sat prog cxT 101 (aPs m101))(m:Y71)(hm:∀ (x:E9) t,m x=some t->∃ L,w71 bN m101 L x=some t):Sat prog cxT 71 (c71 m):=
 cF bC aX (by rfl) (fn:=f71) rfl a71 n71 aUz m (aTA bN m101) (aL h70 (aL h101 aW)) aQ (w71 bN m101) (λL x=>e71 bN m101 L x.1 x.2.1 x.2.2.1 x.2.2.2.1 x.2.2.2.2.1 x.2.2.2.2.2.1 x.2.2.2.2.2.2.1 x.2.2.2.2.2.2.2.1 x.2.2.2.2.2.2.2.2) hm aZr
def aBj (m71:Y71):Env cxT:={ Kc:=cR [(71,c71 m71)],Kw:=cQ [],lv:=λi=>if i=0 then[(0,[some 102]),(3,[])]else[],xv:=λi=>if i=0 then some []else none }
def S97_0 (a0:(List E9))(v0_3:Int):St cxT.ty:={ slots:=[(.inl (.inl (ls { own:=0,nm:=0,e:=102,o:=false,xs:=a0 }))),aJ,aJ,(.inl (.inl (lv (.int .i64 v0_3))))]++List.replicate 34 aJ,D:=[],F:=[],ctr:=1 }
def X97_0 (a0:(List E9)):St cxT.ty:={ slots:=[]++List.replicate 38 aJ,D:=[],F:=[],ctr:=1 }
def G97 {B:Type}(u:Int->B)(hh0:Int->Option B)(m71:Y71)(a0:(List E9)):Option B:=
 bif (decide ((Nat.cast (List.length a0):Int) > (40:Int)))then some (u (2:Int))
 else hh0 (0:Int)
def B97_0 {B:Type}(u:Int->B)(gg:Int->Option B)(kk:Option B)(m71:Y71)(a0:(List E9))(v0_3:Int):Option B:=
 bif (decide (v0_3 < (Nat.cast (List.length a0):Int)))then dX (List.getD a0 v0_3.toNat ((0:Int),((0:Int),((0:Int),((0:Int),((0:Int),((0:Int),((0:Int),((0:Int),(0:Int)))))))))) λs1_0=>bif ((decide ((0:Int)<=v0_3))&&(decide (v0_3 < (Nat.cast (List.length a0):Int))))then cU (m71 (s1_0.1,(s1_0.2.1,(s1_0.2.2.1,(s1_0.2.2.2.1,(s1_0.2.2.2.2.1,(s1_0.2.2.2.2.2.1,(s1_0.2.2.2.2.2.2.1,(s1_0.2.2.2.2.2.2.2.1,s1_0.2.2.2.2.2.2.2.2))))))))) (0:Int) λ(q3:Int)=>bif (q3 != (0:Int))then some (u q3)
    else bif (decide (v0_3 > (0:Int)))then bif ((decide ((0:Int)<=v0_3))&&(decide (v0_3 < (Nat.cast (List.length a0):Int))))then bif ((decide ((0:Int)<=(wrap .i64 (v0_3-(1:Int)))))&&(decide ((wrap .i64 (v0_3-(1:Int))) < (Nat.cast (List.length a0):Int))))then bif (decide (s1_0.1 < (List.getD a0 (Int.toNat (wrap .i64 (v0_3-(1:Int)))) ((0:Int),((0:Int),((0:Int),((0:Int),((0:Int),((0:Int),((0:Int),((0:Int),(0:Int)))))))))).1))then some (u (1:Int))
       else gg (wrap .i64 (v0_3+(1:Int)))
      else none
     else none
    else gg (wrap .i64 (v0_3+(1:Int)))
  else none
 else kk
def A97_0 {B:Type}(u:Int->B)(m71:Y71)(a0:(List E9)):Option B:=
 some (u (0:Int))
def aAd (m71:Y71)(L:Nat)(a0:(List E9)):Nat->Int->(Option Int)->Option Int
 | 0,_,_=>none
 | n+1,v0_3,k=>B97_0 (λx=>x) (λv0_3=>aAd m71 L a0 n v0_3 k) k m71 a0 v0_3
theorem aLs (m71:Y71)(L:Nat)(a0:(List E9))(k:St cxT.ty->Option (V cxT.ty))(xk:Nat->St cxT.ty->Option (V cxT.ty))(k':Option Int)(hk:k (X97_0 a0)=(k').map n97):∀ (n:Nat) (v0_3:Int),bA prog (aBj m71) L f97 0 [1,1,0,1,0,0] (cB (aY prog f97) k xk) n (S97_0 a0 v0_3)=(aAd m71 L a0 n v0_3 k').map n97
 | 0,_=>rfl
 | n+1,v0_3=>by
  rw[bQ];have ih:=aLs m71 L a0 k xk k' hk n;refine .trans (b:=B97_0 n97 (λv0_3=>(bA prog (aBj m71) L f97 0 [1,1,0,1,0,0] (cB (aY prog f97) k xk) n) (S97_0 a0 v0_3)) (k (X97_0 a0)) m71 a0 v0_3) (by kernel_rfl) ?_;unfold aAd B97_0
  repeat' first | with_reducible refine dP ?_ ?_ | with_reducible refine dL λ_=>?_ | with_reducible refine dO λ_=>?_ | with_reducible exact ih _ | with_reducible exact hk | exact rfl
def g97 (m71:Y71)(L:Nat)(a0:(List E9)):Option Int:=G97 (λx=>x) (λv0_3=>aAd m71 L a0 L v0_3 (A97_0 (λx=>x) m71 a0)) m71 a0
theorem e97 (m71:Y71)(L:Nat)(a0:(List E9)):fP prog (aBj m71) (bJ L) f97 (a97.enc a0)=(g97 m71 L a0).map n97:=by
 have hin0:∀ (v0_3:Int),bA prog (aBj m71) L f97 0 [1,1,0,1,0,0] (cB (aY prog f97) (cA prog (aBj m71) L f97 [1,1,0,1] (aY prog f97)).n (cA prog (aBj m71) L f97 [1,1,0,1] (aY prog f97)).x) L (S97_0 a0 v0_3)=((λv0_3=>aAd m71 L a0 L v0_3 (A97_0 (λx=>x) m71 a0)) v0_3).map n97:=λv0_3=>aLs m71 L a0 _ _ _ (by refine .trans (b:=A97_0 n97 m71 a0) (by kernel_rfl) ?_;unfold A97_0;repeat' first | with_reducible refine dP ?_ ?_ | with_reducible refine dL λ_=>?_ | with_reducible refine dO λ_=>?_ | exact rfl) L v0_3
 refine .trans (b:=G97 n97 (λv0_3=>bA prog (aBj m71) L f97 0 [1,1,0,1,0,0] (cB (aY prog f97) (cA prog (aBj m71) L f97 [1,1,0,1] (aY prog f97)).n (cA prog (aBj m71) L f97 [1,1,0,1] (aY prog f97)).x) L (S97_0 a0 v0_3)) m71 a0) (by kernel_rfl) ?_;unfold g97 G97
 repeat' first | with_reducible refine dP ?_ ?_ | with_reducible refine dL λ_=>?_ | with_reducible refine dO λ_=>?_ | with_reducible exact hin0 _ | exact rfl
def w97 (m71:Y71)(L:Nat)(x:(List E9)):Option Int:=g97 m71 L x
theorem s97 (m71:Y71)(h71:Sat prog cxT 71 (c71 m71))(m:Y97)(hm:∀ (x:(List E9)) t,m x=some t->∃ L,w97 m71 L x=some t):Sat prog cxT 97 (c97 m):=
 cF bC aX (by rfl) (fn:=f97) rfl a97 n97 aUd m (aBj m71) (aL h71 aW) aQ (w97 m71) (λL x=>e97 m71 L x) hm aY5
def aBo (bN:Y70)(fL:Y96)(m97:Y97)(m98:Y98)(lZ:Y99):Env cxT:={ Kc:=cR [(70,xL bN),(96,c96 fL),(97,c97 m97),(98,c98 m98),(99,c99 lZ)],Kw:=cQ [],lv:=λi=>if i=0 then[(0,[none,none,none,none,some 102,none,none,some 2,some 2,some 2]),(4,[]),(5,[])]else[],xv:=λi=>if i=0 then some [(0,[none,none,none,none,some 102,none,none,some 2,some 2,some 2])]else none }
def S67_0 (a0:N10)(v0_5:Int):St cxT.ty:={ slots:=[(.inr (.inr { kind:=2,nm:=0,cells:=[],s:={ own:=0,nm:=0,e:=73,o:=false,xs:=(List.cons a0 []) },i:=0,off:=0 })),aJ,aJ,aJ,(.inl (.inl (lv (.int .i64 (Nat.cast (List.length a0.2.2.2.2.1):Int))))),(.inl (.inl (lv (.int .i64 v0_5))))]++List.replicate 133 aJ,D:=[],F:=[],ctr:=1 }
def X67_0 (a0:N10):St cxT.ty:={ slots:=[(.inr (.inr { kind:=2,nm:=0,cells:=[],s:={ own:=0,nm:=0,e:=73,o:=false,xs:=(List.cons a0 []) },i:=0,off:=0 }))]++List.replicate 138 aJ,D:=[],F:=[],ctr:=1 }
def G67 {B:Type}(u:Int->B)(hh0:Int->Option B)(bN:Y70)(fL:Y96)(m97:Y97)(m98:Y98)(lZ:Y99)(a0:N10):Option B:=
 cU (bN (a0.2.1,((1:Int),(5:Int)))) false λ(q1:Bool)=>bif (!q1)then some (u (3:Int))
  else cU (fL (a0,a0.1)) false λ(q2:Bool)=>bif (!q2)then some (u (3:Int))
   else cU (bN (a0.2.2.1,((0:Int),(100000:Int)))) false λ(q3:Bool)=>bif (!q3)then some (u (3:Int))
    else cU (bN (a0.2.2.2.1,((-(1:Int)),(wrap .i64 (a0.2.1-(1:Int)))))) false λ(q4:Bool)=>bif (!q4)then some (u (3:Int))
     else cU (bN (a0.2.2.2.2.2.1,((0:Int),(2:Int)))) false λ(q5:Bool)=>bif (!q5)then some (u (3:Int))
      else cU (m97 a0.2.2.2.2.1) (0:Int) λ(q6:Int)=>bif (q6 != (0:Int))then some (u q6)
       else cU (m98 a0.2.2.2.2.1) ((0:Int),(0:Int),(0:Int),(0:Int),(0:Int),(0:Int),(0:Int),(0:Int),(0:Int)) λ(q7:E9)=>bif (decide (q7.1 > a0.2.2.1))then some (u (1:Int))
        else cU (bN (a0.2.2.2.2.2.2.1,((0:Int),(Nat.cast (List.length a0.2.2.2.2.1):Int)))) false λ(q8:Bool)=>bif (!q8)then some (u (3:Int))
         else cU (lZ a0) false λ(q9:Bool)=>bif (!q9)then some (u (1:Int))
          else hh0 (0:Int)
def B67_0 {B:Type}(u:Int->B)(gg:Int->Option B)(kk:Option B)(bN:Y70)(fL:Y96)(m97:Y97)(m98:Y98)(lZ:Y99)(a0:N10)(v0_5:Int):Option B:=
 bif (decide (v0_5 < (Nat.cast (List.length a0.2.2.2.2.2.2.2.2.1):Int)))then dX a0 λs1_0=>bif ((decide ((0:Int)<=v0_5))&&(decide (v0_5 < (Nat.cast (List.length s1_0.2.2.2.2.2.2.2.2.1):Int))))then cU (bN ((List.getD s1_0.2.2.2.2.2.2.2.2.1 v0_5.toNat (0:Int)),((1:Int),(wrap .i64 ((Nat.cast (List.length s1_0.2.2.2.2.1):Int)+(1:Int)))))) false λ(q3:Bool)=>bif (!q3)then some (u (3:Int))
    else bif ((decide ((0:Int)<=v0_5))&&(decide (v0_5 < (Nat.cast (List.length s1_0.2.2.2.2.2.2.2.2.2):Int))))then cU (bN ((List.getD s1_0.2.2.2.2.2.2.2.2.2 v0_5.toNat (0:Int)),((0:Int),(Nat.cast (List.length s1_0.2.2.2.2.1):Int)))) false λ(q5:Bool)=>bif (!q5)then some (u (3:Int))
      else gg (wrap .i64 (v0_5+(1:Int)))
    else none
  else none
 else kk
def A67_0 {B:Type}(u:Int->B)(bN:Y70)(fL:Y96)(m97:Y97)(m98:Y98)(lZ:Y99)(a0:N10):Option B:=
 bif (a0.2.2.2.2.2.1 != (0:Int))then dX a0 λs1_0=>bif (s1_0.2.2.2.1 != s1_0.1)then some (u (1:Int))
  else bif (s1_0.2.2.1 == (0:Int))then some (u (1:Int))
  else some (u (0:Int))
 else some (u (0:Int))
def aAe (bN:Y70)(fL:Y96)(m97:Y97)(m98:Y98)(lZ:Y99)(L:Nat)(a0:N10):Nat->Int->(Option Int)->Option Int
 | 0,_,_=>none
 | n+1,v0_5,k=>B67_0 (λx=>x) (λv0_5=>aAe bN fL m97 m98 lZ L a0 n v0_5 k) k bN fL m97 m98 lZ a0 v0_5
theorem aLx (bN:Y70)(fL:Y96)(m97:Y97)(m98:Y98)(lZ:Y99)(L:Nat)(a0:N10)(k:St cxT.ty->Option (V cxT.ty))(xk:Nat->St cxT.ty->Option (V cxT.ty))(k':Option Int)(hk:k (X67_0 a0)=(k').map n67):∀ (n:Nat) (v0_5:Int),bA prog (aBo bN fL m97 m98 lZ) L f67 0 [1,1,1,1,1,1,1,0,1,0,0] (cB (aY prog f67) k xk) n (S67_0 a0 v0_5)=(aAe bN fL m97 m98 lZ L a0 n v0_5 k').map n67
 | 0,_=>rfl
 | n+1,v0_5=>by
  rw[bQ];have ih:=aLx bN fL m97 m98 lZ L a0 k xk k' hk n;refine .trans (b:=B67_0 n67 (λv0_5=>(bA prog (aBo bN fL m97 m98 lZ) L f67 0 [1,1,1,1,1,1,1,0,1,0,0] (cB (aY prog f67) k xk) n) (S67_0 a0 v0_5)) (k (X67_0 a0)) bN fL m97 m98 lZ a0 v0_5) (by kernel_rfl) ?_;unfold aAe B67_0
  repeat' first | with_reducible refine dP ?_ ?_ | with_reducible refine dL λ_=>?_ | with_reducible refine dO λ_=>?_ | with_reducible exact ih _ | with_reducible exact hk | exact rfl
def g67 (bN:Y70)(fL:Y96)(m97:Y97)(m98:Y98)(lZ:Y99)(L:Nat)(a0:N10):Option Int:=G67 (λx=>x) (λv0_5=>aAe bN fL m97 m98 lZ L a0 L v0_5 (A67_0 (λx=>x) bN fL m97 m98 lZ a0)) bN fL m97 m98 lZ a0
theorem e67 (bN:Y70)(fL:Y96)(m97:Y97)(m98:Y98)(lZ:Y99)(L:Nat)(a0:N10):fP prog (aBo bN fL m97 m98 lZ) (bJ L) f67 (a67.enc a0)=(g67 bN fL m97 m98 lZ L a0).map n67:=by
 have hin0:∀ (v0_5:Int),bA prog (aBo bN fL m97 m98 lZ) L f67 0 [1,1,1,1,1,1,1,0,1,0,0] (cB (aY prog f67) (cA prog (aBo bN fL m97 m98 lZ) L f67 [1,1,1,1,1,1,1,0,1] (aY prog f67)).n (cA prog (aBo bN fL m97 m98 lZ) L f67 [1,1,1,1,1,1,1,0,1] (aY prog f67)).x) L (S67_0 a0 v0_5)=((λv0_5=>aAe bN fL m97 m98 lZ L a0 L v0_5 (A67_0 (λx=>x) bN fL m97 m98 lZ a0)) v0_5).map n67:=λv0_5=>aLx bN fL m97 m98 lZ L a0 _ _ _ (by refine .trans (b:=A67_0 n67 bN fL m97 m98 lZ a0) (by kernel_rfl) ?_;unfold A67_0;repeat' first | with_reducible refine dP ?_ ?_ | with_reducible refine dL λ_=>?_ | with_reducible refine dO λ_=>?_ | exact rfl) L v0_5
 refine .trans (b:=G67 n67 (λv0_5=>bA prog (aBo bN fL m97 m98 lZ) L f67 0 [1,1,1,1,1,1,1,0,1,0,0] (cB (aY prog f67) (cA prog (aBo bN fL m97 m98 lZ) L f67 [1,1,1,1,1,1,1,0,1] (aY prog f67)).n (cA prog (aBo bN fL m97 m98 lZ) L f67 [1,1,1,1,1,1,1,0,1] (aY prog f67)).x) L (S67_0 a0 v0_5)) bN fL m97 m98 lZ a0) (by kernel_rfl) ?_;unfold g67 G67
 repeat' first | with_reducible refine dP ?_ ?_ | with_reducible refine dL λ_=>?_ | with_reducible refine dO λ_=>?_ | with_reducible exact hin0 _ | exact rfl
def w67 (bN:Y70)(fL:Y96)(m97:Y97)(m98:Y98)(lZ:Y99)(L:Nat)(x:N10):Option Int:=g67 bN fL m97 m98 lZ L x
theorem s67 (bN:Y70)(fL:Y96)(m97:Y97)(m98:Y98)(lZ:Y99)(h70:Sat prog cxT 70 (xL bN))(h96:Sat prog cxT 96 (c96 fL))(h97:Sat prog cxT 97 (c97 m97))(h98:Sat prog cxT 98 (c98 m98))(h99:Sat prog cxT 99 (c99 lZ))(m:Y67)(hm:∀ (x:N10) t,m x=some t->∃ L,w67 bN fL m97 m98 lZ L x=some t):Sat prog cxT 67 (c67 m):=
 cF bC aX (by rfl) (fn:=f67) rfl a67 n67 aUD m (aBo bN fL m97 m98 lZ) (aL h70 (aL h96 (aL h97 (aL h98 (aL h99 aW))))) aQ (w67 bN fL m97 m98 lZ) (λL x=>e67 bN fL m97 m98 lZ L x) hm aZv
end Go.Proofs.Tryz
set_option maxHeartbeats 0
set_option maxRecDepth 100000
namespace Go.Proofs.Tryz
open Go.IntKind (wrap)
open Go Go.VM Go.RowKit
def aTD (bN:Y70):Env cxT:={ Kc:=cR [(70,xL bN)],Kw:=cQ [],lv:=λi=>[],xv:=λi=>none }
def G68 {B:Type}(u:Bool->B)(bN:Y70)(a0:C4)(a1:Int):Option B:=
 cU (bN (a1,((0:Int),(wrap .i64 ((Nat.cast (List.length a0.1):Int)-(1:Int)))))) false λ(q1:Bool)=>some (u q1)
def g68 (bN:Y70)(L:Nat)(a0:C4)(a1:Int):Option Bool:=G68 (λx=>x) bN a0 a1
theorem e68 (bN:Y70)(L:Nat)(a0:C4)(a1:Int):fP prog (aTD bN) (bJ L) f68 (a68.enc (a0,a1))=(g68 bN L a0 a1).map n68:=by
 refine .trans (b:=G68 n68 bN a0 a1) (by kernel_rfl) ?_;unfold g68 G68
 repeat' first | with_reducible refine dP ?_ ?_ | with_reducible refine dL λ_=>?_ | with_reducible refine dO λ_=>?_ | exact rfl
def w68 (bN:Y70)(L:Nat)(x:(C4×Int)):Option Bool:=g68 bN L x.1 x.2
theorem s68 (bN:Y70)(h70:Sat prog cxT 70 (xL bN))(m:Y68)(hm:∀ (x:(C4×Int)) t,m x=some t->∃ L,w68 bN L x=some t):Sat prog cxT 68 (c68 m):=
 cF bC aX (by rfl) (fn:=f68) rfl a68 n68 aUC m (aTD bN) (aL h70 aW) aQ (w68 bN) (λL x=>e68 bN L x.1 x.2) hm aZu
def aTC (bN:Y70)(fL:Y96)(m97:Y97)(m98:Y98)(jD:Y100):Env cxT:={ Kc:=cR [(70,xL bN),(96,c96 fL),(97,c97 m97),(98,c98 m98),(100,aKU jD)],Kw:=cQ [],lv:=λi=>[],xv:=λi=>none }
def G69 {B:Type}(u:Int->B)(bN:Y70)(fL:Y96)(m97:Y97)(m98:Y98)(jD:Y100)(a0:N10)(a1_0:Int)(a1_1:Int)(a1_2:Int)(a1_3:Int)(a1_4:Int)(a1_5:Int)(a1_6:Int)(a1_7:Bool)(a1_8:(List E9)):Option B:=
 cU (bN (a1_0,((1:Int),(4:Int)))) false λ(q1:Bool)=>bif (!q1)then some (u (5:Int))
  else cU (fL (a0,a1_1)) false λ(q2:Bool)=>bif (!q2)then some (u (3:Int))
   else bif (a1_1 == a0.1)then some (u (3:Int))
   else bif (a1_2 != a0.1)then some (u (3:Int))
   else cU (bN (a1_3,((1:Int),(100000:Int)))) false λ(q3:Bool)=>bif (!q3)then some (u (3:Int))
    else cU (bN (a1_4,((0:Int),(40:Int)))) false λ(q4:Bool)=>bif (!q4)then some (u (3:Int))
     else cU (bN (a1_5,((0:Int),a1_3))) false λ(q5:Bool)=>bif (!q5)then some (u (3:Int))
      else cU (bN (a1_6,((0:Int),(40:Int)))) false λ(q6:Bool)=>bif (!q6)then some (u (3:Int))
       else cU (m97 a1_8) (0:Int) λ(q7:Int)=>bif (q7 != (0:Int))then some (u q7)
        else bif (decide ((Nat.cast (List.length a1_8):Int) > (0:Int)))then bif (a1_0 != (3:Int))then some (u (1:Int))
         else cU (m98 a1_8) ((0:Int),(0:Int),(0:Int),(0:Int),(0:Int),(0:Int),(0:Int),(0:Int),(0:Int)) λ(q9:E9)=>bif (decide (q9.1 > a1_3))then some (u (1:Int))
          else bif ((decide ((0:Int)<=(0:Int)))&&(decide ((0:Int) < (Nat.cast (List.length a1_8):Int))))then bif (decide ((List.getD a1_8 (0:Nat) ((0:Int),((0:Int),((0:Int),((0:Int),((0:Int),((0:Int),((0:Int),((0:Int),(0:Int)))))))))).1 < a1_5))then some (u (1:Int))
           else bif a1_7 then bif (a1_0 != (2:Int))then bif (a1_0 != (4:Int))then some (u (1:Int))
             else cU (jD (a1_0,(a1_1,(a1_2,(a1_3,(a1_4,(a1_5,(a1_6,(a1_7,a1_8))))))))) false λ(q13:Bool)=>bif (!q13)then some (u (1:Int))
              else bif (a1_4 == (0:Int))then bif (a1_5 != (0:Int))then some (u (1:Int))
               else some (u (0:Int))
              else some (u (0:Int))
            else cU (jD (a1_0,(a1_1,(a1_2,(a1_3,(a1_4,(a1_5,(a1_6,(a1_7,a1_8))))))))) false λ(q12:Bool)=>bif (!q12)then some (u (1:Int))
             else bif (a1_4 == (0:Int))then bif (a1_5 != (0:Int))then some (u (1:Int))
              else some (u (0:Int))
             else some (u (0:Int))
           else cU (jD (a1_0,(a1_1,(a1_2,(a1_3,(a1_4,(a1_5,(a1_6,(a1_7,a1_8))))))))) false λ(q11:Bool)=>bif (!q11)then some (u (1:Int))
            else bif (a1_4 == (0:Int))then bif (a1_5 != (0:Int))then some (u (1:Int))
             else some (u (0:Int))
            else some (u (0:Int))
          else none
        else bif a1_7 then bif (a1_0 != (2:Int))then bif (a1_0 != (4:Int))then some (u (1:Int))
          else cU (jD (a1_0,(a1_1,(a1_2,(a1_3,(a1_4,(a1_5,(a1_6,(a1_7,a1_8))))))))) false λ(q10:Bool)=>bif (!q10)then some (u (1:Int))
           else bif (a1_4 == (0:Int))then bif (a1_5 != (0:Int))then some (u (1:Int))
            else some (u (0:Int))
           else some (u (0:Int))
         else cU (jD (a1_0,(a1_1,(a1_2,(a1_3,(a1_4,(a1_5,(a1_6,(a1_7,a1_8))))))))) false λ(q9:Bool)=>bif (!q9)then some (u (1:Int))
          else bif (a1_4 == (0:Int))then bif (a1_5 != (0:Int))then some (u (1:Int))
           else some (u (0:Int))
          else some (u (0:Int))
        else cU (jD (a1_0,(a1_1,(a1_2,(a1_3,(a1_4,(a1_5,(a1_6,(a1_7,a1_8))))))))) false λ(q8:Bool)=>bif (!q8)then some (u (1:Int))
         else bif (a1_4 == (0:Int))then bif (a1_5 != (0:Int))then some (u (1:Int))
          else some (u (0:Int))
         else some (u (0:Int))
def g69 (bN:Y70)(fL:Y96)(m97:Y97)(m98:Y98)(jD:Y100)(L:Nat)(a0:N10)(a1_0:Int)(a1_1:Int)(a1_2:Int)(a1_3:Int)(a1_4:Int)(a1_5:Int)(a1_6:Int)(a1_7:Bool)(a1_8:(List E9)):Option Int:=G69 (λx=>x) bN fL m97 m98 jD a0 a1_0 a1_1 a1_2 a1_3 a1_4 a1_5 a1_6 a1_7 a1_8
theorem e69 (bN:Y70)(fL:Y96)(m97:Y97)(m98:Y98)(jD:Y100)(L:Nat)(a0:N10)(a1_0:Int)(a1_1:Int)(a1_2:Int)(a1_3:Int)(a1_4:Int)(a1_5:Int)(a1_6:Int)(a1_7:Bool)(a1_8:(List E9)):fP prog (aTC bN fL m97 m98 jD) (bJ L) f69 (a69.enc (a0,(a1_0,a1_1,a1_2,a1_3,a1_4,a1_5,a1_6,a1_7,a1_8)))=(g69 bN fL m97 m98 jD L a0 a1_0 a1_1 a1_2 a1_3 a1_4 a1_5 a1_6 a1_7 a1_8).map n69:=by
 refine .trans (b:=G69 n69 bN fL m97 m98 jD a0 a1_0 a1_1 a1_2 a1_3 a1_4 a1_5 a1_6 a1_7 a1_8) (by kernel_rfl) ?_;unfold g69 G69
 repeat' first | with_reducible refine dP ?_ ?_ | with_reducible refine dL λ_=>?_ | with_reducible refine dO λ_=>?_ | exact rfl
def w69 (bN:Y70)(fL:Y96)(m97:Y97)(m98:Y98)(jD:Y100)(L:Nat)(x:(N10×M9)):Option Int:=g69 bN fL m97 m98 jD L x.1 x.2.1 x.2.2.1 x.2.2.2.1 x.2.2.2.2.1 x.2.2.2.2.2.1 x.2.2.2.2.2.2.1 x.2.2.2.2.2.2.2.1 x.2.2.2.2.2.2.2.2.1 x.2.2.2.2.2.2.2.2.2
theorem s69 (bN:Y70)(fL:Y96)(m97:Y97)(m98:Y98)(jD:Y100)(h70:Sat prog cxT 70 (xL bN))(h96:Sat prog cxT 96 (c96 fL))(h97:Sat prog cxT 97 (c97 m97))(h98:Sat prog cxT 98 (c98 m98))(h100:Sat prog cxT 100 (aKU jD))(m:Y69)(hm:∀ (x:(N10×M9)) t,m x=some t->∃ L,w69 bN fL m97 m98 jD L x=some t):Sat prog cxT 69 (c69 m):=
 cF bC aX (by rfl) (fn:=f69) rfl a69 n69 aUB m (aTC bN fL m97 m98 jD) (aL h70 (aL h96 (aL h97 (aL h98 (aL h100 aW))))) aQ (w69 bN fL m97 m98 jD) (λL x=>e69 bN fL m97 m98 jD L x.1 x.2.1 x.2.2.1 x.2.2.2.1 x.2.2.2.2.1 x.2.2.2.2.2.1 x.2.2.2.2.2.2.1 x.2.2.2.2.2.2.2.1 x.2.2.2.2.2.2.2.2.1 x.2.2.2.2.2.2.2.2.2) hm aZt
def jA (eF:Y67)(eJ:Y68)(eL:Y69)(bN:Y70)(m71:Y71):Env cxT:={ Kc:=cR [(67,c67 eF),(68,c68 eJ),(69,c69 eL),(70,xL bN),(71,c71 m71)],Kw:=cQ [],lv:=λi=>if i=0 then[(0,[some 73,some 96,some 64,some 104]),(3,[])]else if i=2 then[(0,[some 73,some 96,some 64,some 104]),(5,[])]else if i=4 then[(0,[some 73,some 96,some 64,some 104]),(7,[])]else if i=6 then[(0,[some 73,some 96,some 64,some 104]),(8,[])]else[],xv:=λi=>if i=0 then some [(0,[some 73,some 96,some 64,some 104])]else if i=2 then some [(0,[some 73,some 96,some 64,some 104])]else if i=4 then some [(0,[some 73,some 96,some 64,some 104])]else if i=6 then some []else none }
def S36_0 (a0:C4)(v0_3:Int):St cxT.ty:={ slots:=[(.inr (.inr { kind:=2,nm:=0,cells:=[],s:={ own:=0,nm:=0,e:=35,o:=false,xs:=(List.cons a0 []) },i:=0,off:=0 })),aJ,aJ,(.inl (.inl (lv (.int .i64 v0_3))))]++List.replicate 194 aJ,D:=[],F:=[],ctr:=1 }
def X36_0 (a0:C4):St cxT.ty:={ slots:=[(.inr (.inr { kind:=2,nm:=0,cells:=[],s:={ own:=0,nm:=0,e:=35,o:=false,xs:=(List.cons a0 []) },i:=0,off:=0 }))]++List.replicate 197 aJ,D:=[],F:=[],ctr:=1 }
def S36_2 (a0:C4)(v2_5:Int):St cxT.ty:={ slots:=[(.inr (.inr { kind:=2,nm:=0,cells:=[],s:={ own:=0,nm:=0,e:=35,o:=false,xs:=(List.cons a0 []) },i:=0,off:=0 })),aJ,aJ,aJ,aJ,(.inl (.inl (lv (.int .i64 v2_5))))]++List.replicate 192 aJ,D:=[],F:=[],ctr:=1 }
def X36_2 (a0:C4):St cxT.ty:={ slots:=[(.inr (.inr { kind:=2,nm:=0,cells:=[],s:={ own:=0,nm:=0,e:=35,o:=false,xs:=(List.cons a0 []) },i:=0,off:=0 }))]++List.replicate 197 aJ,D:=[],F:=[],ctr:=1 }
def S36_4 (a0:C4)(v4_7:Int):St cxT.ty:={ slots:=[(.inr (.inr { kind:=2,nm:=0,cells:=[],s:={ own:=0,nm:=0,e:=35,o:=false,xs:=(List.cons a0 []) },i:=0,off:=0 })),aJ,aJ,aJ,aJ,aJ,aJ,(.inl (.inl (lv (.int .i64 v4_7))))]++List.replicate 190 aJ,D:=[],F:=[],ctr:=1 }
def X36_4 (a0:C4):St cxT.ty:={ slots:=[(.inr (.inr { kind:=2,nm:=0,cells:=[],s:={ own:=0,nm:=0,e:=35,o:=false,xs:=(List.cons a0 []) },i:=0,off:=0 }))]++List.replicate 197 aJ,D:=[],F:=[],ctr:=1 }
def S36_6 (a0:C4)(v6_8:Int):St cxT.ty:={ slots:=[(.inr (.inr { kind:=2,nm:=0,cells:=[],s:={ own:=0,nm:=0,e:=35,o:=false,xs:=(List.cons a0 []) },i:=0,off:=0 })),aJ,aJ,aJ,aJ,aJ,aJ,aJ,(.inl (.inl (lv (.int .i64 v6_8))))]++List.replicate 189 aJ,D:=[],F:=[],ctr:=1 }
def X36_6 (a0:C4):St cxT.ty:={ slots:=[]++List.replicate 198 aJ,D:=[],F:=[],ctr:=1 }
def G36 {B:Type}(u:Int->B)(hh0:Int->Option B)(eF:Y67)(eJ:Y68)(eL:Y69)(bN:Y70)(m71:Y71)(a0:C4):Option B:=
 bif (decide ((Nat.cast (List.length a0.1):Int) < (1:Int)))then some (u (2:Int))
 else bif (decide ((Nat.cast (List.length a0.1):Int) > (5:Int)))then some (u (2:Int))
 else bif (decide ((Nat.cast (List.length a0.2.1):Int) > (80:Int)))then some (u (2:Int))
 else hh0 (0:Int)
def B36_0 {B:Type}(u:Int->B)(gg:Int->Option B)(kk:Option B)(eF:Y67)(eJ:Y68)(eL:Y69)(bN:Y70)(m71:Y71)(a0:C4)(v0_3:Int):Option B:=
 bif (decide (v0_3 < (Nat.cast (List.length a0.1):Int)))then dX a0 λs1_0=>dX (List.getD s1_0.1 v0_3.toNat ((0:Int),((0:Int),((0:Int),((0:Int),(([]:List E9),((0:Int),((0:Int),(([]:List (Int)),(([]:List (Int)),([]:List (Int)))))))))))) λs1_1=>bif ((decide ((0:Int)<=v0_3))&&(decide (v0_3 < (Nat.cast (List.length s1_0.1):Int))))then cU (eF s1_1) (0:Int) λ(q3:Int)=>bif (q3 != (0:Int))then some (u q3)
    else bif ((decide ((0:Int)<=v0_3))&&(decide (v0_3 < (Nat.cast (List.length s1_0.1):Int))))then bif (s1_1.1 != v0_3)then some (u (1:Int))
     else bif ((decide ((0:Int)<=v0_3))&&(decide (v0_3 < (Nat.cast (List.length s1_0.1):Int))))then bif (s1_1.2.1 != (Nat.cast (List.length s1_0.1):Int))then some (u (1:Int))
      else gg (wrap .i64 (v0_3+(1:Int)))
     else none
    else none
  else none
 else kk
def A36_0 {B:Type}(u:Int->B)(hh2:Int->Option B)(eF:Y67)(eJ:Y68)(eL:Y69)(bN:Y70)(m71:Y71)(a0:C4):Option B:=
 hh2 (0:Int)
def B36_2 {B:Type}(u:Int->B)(gg:Int->Option B)(kk:Option B)(eF:Y67)(eJ:Y68)(eL:Y69)(bN:Y70)(m71:Y71)(a0:C4)(v2_5:Int):Option B:=
 bif (decide (v2_5 < (Nat.cast (List.length a0.2.1):Int)))then dX a0 λs1_0=>dX (List.getD s1_0.2.1 v2_5.toNat ((0:Int),((0:Int),((0:Int),((0:Int),((0:Int),((0:Int),((0:Int),(false,[]))))))))) λs1_1=>dX (List.getD s1_0.1 (Int.toNat s1_1.2.2.1) ((0:Int),((0:Int),((0:Int),((0:Int),(([]:List E9),((0:Int),((0:Int),(([]:List (Int)),(([]:List (Int)),([]:List (Int)))))))))))) λs1_2=>bif ((decide ((0:Int)<=v2_5))&&(decide (v2_5 < (Nat.cast (List.length s1_0.2.1):Int))))then cU (eJ (s1_0,s1_1.2.2.1)) false λ(q3:Bool)=>bif (!q3)then some (u (3:Int))
    else bif ((decide ((0:Int)<=v2_5))&&(decide (v2_5 < (Nat.cast (List.length s1_0.2.1):Int))))then bif ((decide ((0:Int)<=s1_1.2.2.1))&&(decide (s1_1.2.2.1 < (Nat.cast (List.length s1_0.1):Int))))then bif ((decide ((0:Int)<=v2_5))&&(decide (v2_5 < (Nat.cast (List.length s1_0.2.1):Int))))then cU (eL (s1_2,(s1_1.1,(s1_1.2.1,(s1_1.2.2.1,(s1_1.2.2.2.1,(s1_1.2.2.2.2.1,(s1_1.2.2.2.2.2.1,(s1_1.2.2.2.2.2.2.1,(s1_1.2.2.2.2.2.2.2.1,s1_1.2.2.2.2.2.2.2.2)))))))))) (0:Int) λ(q7:Int)=>bif (q7 != (0:Int))then some (u q7)
        else gg (wrap .i64 (v2_5+(1:Int)))
      else none
     else none
    else none
  else none
 else kk
def A36_2 {B:Type}(u:Int->B)(hh4:Int->Option B)(eF:Y67)(eJ:Y68)(eL:Y69)(bN:Y70)(m71:Y71)(a0:C4):Option B:=
 bif (decide ((Nat.cast (List.length a0.2.2.1):Int) > (400:Int)))then some (u (2:Int))
 else bif (decide ((Nat.cast (List.length a0.2.2.2):Int) > (40:Int)))then some (u (2:Int))
 else hh4 (0:Int)
def B36_4 {B:Type}(u:Int->B)(gg:Int->Option B)(kk:Option B)(eF:Y67)(eJ:Y68)(eL:Y69)(bN:Y70)(m71:Y71)(a0:C4)(v4_7:Int):Option B:=
 bif (decide (v4_7 < (Nat.cast (List.length a0.2.2.1):Int)))then dX a0 λs1_0=>dX (List.getD s1_0.2.2.1 v4_7.toNat ((0:Int),(0:Int))) λs1_1=>bif ((decide ((0:Int)<=v4_7))&&(decide (v4_7 < (Nat.cast (List.length s1_0.2.2.1):Int))))then cU (bN (s1_1.1,((1:Int),(100000:Int)))) false λ(q3:Bool)=>bif (!q3)then some (u (3:Int))
    else bif ((decide ((0:Int)<=v4_7))&&(decide (v4_7 < (Nat.cast (List.length s1_0.2.2.1):Int))))then cU (eJ (s1_0,s1_1.2)) false λ(q5:Bool)=>bif (!q5)then some (u (3:Int))
      else gg (wrap .i64 (v4_7+(1:Int)))
    else none
  else none
 else kk
def A36_4 {B:Type}(u:Int->B)(hh6:Int->Option B)(eF:Y67)(eJ:Y68)(eL:Y69)(bN:Y70)(m71:Y71)(a0:C4):Option B:=
 hh6 (0:Int)
def B36_6 {B:Type}(u:Int->B)(gg:Int->Option B)(kk:Option B)(eF:Y67)(eJ:Y68)(eL:Y69)(bN:Y70)(m71:Y71)(a0:C4)(v6_8:Int):Option B:=
 bif (decide (v6_8 < (Nat.cast (List.length a0.2.2.2):Int)))then dX a0 λs1_0=>dX (List.getD s1_0.2.2.2 v6_8.toNat ((0:Int),((0:Int),((0:Int),((0:Int),((0:Int),((0:Int),((0:Int),((0:Int),((0:Int),(0:Int))))))))))) λs1_1=>bif ((decide ((0:Int)<=v6_8))&&(decide (v6_8 < (Nat.cast (List.length s1_0.2.2.2):Int))))then cU (bN (s1_1.1,((1:Int),(100000:Int)))) false λ(q3:Bool)=>bif (!q3)then some (u (3:Int))
    else bif ((decide ((0:Int)<=v6_8))&&(decide (v6_8 < (Nat.cast (List.length s1_0.2.2.2):Int))))then cU (m71 (s1_1.2.1,(s1_1.2.2.1,(s1_1.2.2.2.1,(s1_1.2.2.2.2.1,(s1_1.2.2.2.2.2.1,(s1_1.2.2.2.2.2.2.1,(s1_1.2.2.2.2.2.2.2.1,(s1_1.2.2.2.2.2.2.2.2.1,s1_1.2.2.2.2.2.2.2.2.2))))))))) (0:Int) λ(q5:Int)=>bif (q5 != (0:Int))then some (u q5)
      else gg (wrap .i64 (v6_8+(1:Int)))
    else none
  else none
 else kk
def A36_6 {B:Type}(u:Int->B)(eF:Y67)(eJ:Y68)(eL:Y69)(bN:Y70)(m71:Y71)(a0:C4):Option B:=
 some (u (0:Int))
def nE (eF:Y67)(eJ:Y68)(eL:Y69)(bN:Y70)(m71:Y71)(L:Nat)(a0:C4):Nat->Int->(Option Int)->Option Int
 | 0,_,_=>none
 | n+1,v6_8,k=>B36_6 (λx=>x) (λv6_8=>nE eF eJ eL bN m71 L a0 n v6_8 k) k eF eJ eL bN m71 a0 v6_8
theorem aLQ (eF:Y67)(eJ:Y68)(eL:Y69)(bN:Y70)(m71:Y71)(L:Nat)(a0:C4)(k:St cxT.ty->Option (V cxT.ty))(xk:Nat->St cxT.ty->Option (V cxT.ty))(k':Option Int)(hk:k (X36_6 a0)=(k').map wX):∀ (n:Nat) (v6_8:Int),bA prog (jA eF eJ eL bN m71) L f36 6 [1,1,1,1,1,1,0,1,0,0] (cB (aY prog f36) k xk) n (S36_6 a0 v6_8)=(nE eF eJ eL bN m71 L a0 n v6_8 k').map wX
 | 0,_=>rfl
 | n+1,v6_8=>by
  rw[bQ];have ih:=aLQ eF eJ eL bN m71 L a0 k xk k' hk n;refine .trans (b:=B36_6 wX (λv6_8=>(bA prog (jA eF eJ eL bN m71) L f36 6 [1,1,1,1,1,1,0,1,0,0] (cB (aY prog f36) k xk) n) (S36_6 a0 v6_8)) (k (X36_6 a0)) eF eJ eL bN m71 a0 v6_8) (by kernel_rfl) ?_;unfold nE B36_6
  repeat' first | with_reducible refine dP ?_ ?_ | with_reducible refine dL λ_=>?_ | with_reducible refine dO λ_=>?_ | with_reducible exact ih _ | with_reducible exact hk | exact rfl
def oC (eF:Y67)(eJ:Y68)(eL:Y69)(bN:Y70)(m71:Y71)(L:Nat)(a0:C4):Nat->Int->(Option Int)->Option Int
 | 0,_,_=>none
 | n+1,v4_7,k=>B36_4 (λx=>x) (λv4_7=>oC eF eJ eL bN m71 L a0 n v4_7 k) k eF eJ eL bN m71 a0 v4_7
theorem aLR (eF:Y67)(eJ:Y68)(eL:Y69)(bN:Y70)(m71:Y71)(L:Nat)(a0:C4)(k:St cxT.ty->Option (V cxT.ty))(xk:Nat->St cxT.ty->Option (V cxT.ty))(k':Option Int)(hk:k (X36_4 a0)=(k').map wX):∀ (n:Nat) (v4_7:Int),bA prog (jA eF eJ eL bN m71) L f36 4 [1,1,1,1,1,0,1,0,0] (cB (aY prog f36) k xk) n (S36_4 a0 v4_7)=(oC eF eJ eL bN m71 L a0 n v4_7 k').map wX
 | 0,_=>rfl
 | n+1,v4_7=>by
  rw[bQ];have ih:=aLR eF eJ eL bN m71 L a0 k xk k' hk n;refine .trans (b:=B36_4 wX (λv4_7=>(bA prog (jA eF eJ eL bN m71) L f36 4 [1,1,1,1,1,0,1,0,0] (cB (aY prog f36) k xk) n) (S36_4 a0 v4_7)) (k (X36_4 a0)) eF eJ eL bN m71 a0 v4_7) (by kernel_rfl) ?_;unfold oC B36_4
  repeat' first | with_reducible refine dP ?_ ?_ | with_reducible refine dL λ_=>?_ | with_reducible refine dO λ_=>?_ | with_reducible exact ih _ | with_reducible exact hk | exact rfl
def oD (eF:Y67)(eJ:Y68)(eL:Y69)(bN:Y70)(m71:Y71)(L:Nat)(a0:C4):Nat->Int->(Option Int)->Option Int
 | 0,_,_=>none
 | n+1,v2_5,k=>B36_2 (λx=>x) (λv2_5=>oD eF eJ eL bN m71 L a0 n v2_5 k) k eF eJ eL bN m71 a0 v2_5
theorem aLS (eF:Y67)(eJ:Y68)(eL:Y69)(bN:Y70)(m71:Y71)(L:Nat)(a0:C4)(k:St cxT.ty->Option (V cxT.ty))(xk:Nat->St cxT.ty->Option (V cxT.ty))(k':Option Int)(hk:k (X36_2 a0)=(k').map wX):∀ (n:Nat) (v2_5:Int),bA prog (jA eF eJ eL bN m71) L f36 2 [1,1,1,0,1,0,0] (cB (aY prog f36) k xk) n (S36_2 a0 v2_5)=(oD eF eJ eL bN m71 L a0 n v2_5 k').map wX
 | 0,_=>rfl
 | n+1,v2_5=>by
  rw[bQ];have ih:=aLS eF eJ eL bN m71 L a0 k xk k' hk n;refine .trans (b:=B36_2 wX (λv2_5=>(bA prog (jA eF eJ eL bN m71) L f36 2 [1,1,1,0,1,0,0] (cB (aY prog f36) k xk) n) (S36_2 a0 v2_5)) (k (X36_2 a0)) eF eJ eL bN m71 a0 v2_5) (by kernel_rfl) ?_;unfold oD B36_2
  repeat' first | with_reducible refine dP ?_ ?_ | with_reducible refine dL λ_=>?_ | with_reducible refine dO λ_=>?_ | with_reducible exact ih _ | with_reducible exact hk | exact rfl
def qR (eF:Y67)(eJ:Y68)(eL:Y69)(bN:Y70)(m71:Y71)(L:Nat)(a0:C4):Nat->Int->(Option Int)->Option Int
 | 0,_,_=>none
 | n+1,v0_3,k=>B36_0 (λx=>x) (λv0_3=>qR eF eJ eL bN m71 L a0 n v0_3 k) k eF eJ eL bN m71 a0 v0_3
theorem aLT (eF:Y67)(eJ:Y68)(eL:Y69)(bN:Y70)(m71:Y71)(L:Nat)(a0:C4)(k:St cxT.ty->Option (V cxT.ty))(xk:Nat->St cxT.ty->Option (V cxT.ty))(k':Option Int)(hk:k (X36_0 a0)=(k').map wX):∀ (n:Nat) (v0_3:Int),bA prog (jA eF eJ eL bN m71) L f36 0 [1,1,0,1,0,0] (cB (aY prog f36) k xk) n (S36_0 a0 v0_3)=(qR eF eJ eL bN m71 L a0 n v0_3 k').map wX
 | 0,_=>rfl
 | n+1,v0_3=>by
  rw[bQ];have ih:=aLT eF eJ eL bN m71 L a0 k xk k' hk n;refine .trans (b:=B36_0 wX (λv0_3=>(bA prog (jA eF eJ eL bN m71) L f36 0 [1,1,0,1,0,0] (cB (aY prog f36) k xk) n) (S36_0 a0 v0_3)) (k (X36_0 a0)) eF eJ eL bN m71 a0 v0_3) (by kernel_rfl) ?_;unfold qR B36_0
  repeat' first | with_reducible refine dP ?_ ?_ | with_reducible refine dL λ_=>?_ | with_reducible refine dO λ_=>?_ | with_reducible exact ih _ | with_reducible exact hk | exact rfl
def g36 (eF:Y67)(eJ:Y68)(eL:Y69)(bN:Y70)(m71:Y71)(L:Nat)(a0:C4):Option Int:=G36 (λx=>x) (λv0_3=>qR eF eJ eL bN m71 L a0 L v0_3 (A36_0 (λx=>x) (λv2_5=>oD eF eJ eL bN m71 L a0 L v2_5 (A36_2 (λx=>x) (λv4_7=>oC eF eJ eL bN m71 L a0 L v4_7 (A36_4 (λx=>x) (λv6_8=>nE eF eJ eL bN m71 L a0 L v6_8 (A36_6 (λx=>x) eF eJ eL bN m71 a0)) eF eJ eL bN m71 a0)) eF eJ eL bN m71 a0)) eF eJ eL bN m71 a0)) eF eJ eL bN m71 a0
theorem e36 (eF:Y67)(eJ:Y68)(eL:Y69)(bN:Y70)(m71:Y71)(L:Nat)(a0:C4):fP prog (jA eF eJ eL bN m71) (bJ L) f36 (a36.enc a0)=(g36 eF eJ eL bN m71 L a0).map wX:=by
 have hin6:∀ (v6_8:Int),bA prog (jA eF eJ eL bN m71) L f36 6 [1,1,1,1,1,1,0,1,0,0] (cB (aY prog f36) (cA prog (jA eF eJ eL bN m71) L f36 [1,1,1,1,1,1,0,1] (aY prog f36)).n (cA prog (jA eF eJ eL bN m71) L f36 [1,1,1,1,1,1,0,1] (aY prog f36)).x) L (S36_6 a0 v6_8)=((λv6_8=>nE eF eJ eL bN m71 L a0 L v6_8 (A36_6 (λx=>x) eF eJ eL bN m71 a0)) v6_8).map wX:=λv6_8=>aLQ eF eJ eL bN m71 L a0 _ _ _ (by refine .trans (b:=A36_6 wX eF eJ eL bN m71 a0) (by kernel_rfl) ?_;unfold A36_6;repeat' first | with_reducible refine dP ?_ ?_ | with_reducible refine dL λ_=>?_ | with_reducible refine dO λ_=>?_ | exact rfl) L v6_8
 have hin4:∀ (v4_7:Int),bA prog (jA eF eJ eL bN m71) L f36 4 [1,1,1,1,1,0,1,0,0] (cB (aY prog f36) (cA prog (jA eF eJ eL bN m71) L f36 [1,1,1,1,1,0,1] (aY prog f36)).n (cA prog (jA eF eJ eL bN m71) L f36 [1,1,1,1,1,0,1] (aY prog f36)).x) L (S36_4 a0 v4_7)=((λv4_7=>oC eF eJ eL bN m71 L a0 L v4_7 (A36_4 (λx=>x) (λv6_8=>nE eF eJ eL bN m71 L a0 L v6_8 (A36_6 (λx=>x) eF eJ eL bN m71 a0)) eF eJ eL bN m71 a0)) v4_7).map wX:=λv4_7=>aLR eF eJ eL bN m71 L a0 _ _ _ (by refine .trans (b:=A36_4 wX (λv6_8=>bA prog (jA eF eJ eL bN m71) L f36 6 [1,1,1,1,1,1,0,1,0,0] (cB (aY prog f36) (cA prog (jA eF eJ eL bN m71) L f36 [1,1,1,1,1,1,0,1] (aY prog f36)).n (cA prog (jA eF eJ eL bN m71) L f36 [1,1,1,1,1,1,0,1] (aY prog f36)).x) L (S36_6 a0 v6_8)) eF eJ eL bN m71 a0) (by kernel_rfl) ?_;unfold A36_4;repeat' first | with_reducible refine dP ?_ ?_ | with_reducible refine dL λ_=>?_ | with_reducible refine dO λ_=>?_ | with_reducible exact hin6 _ | exact rfl) L v4_7
 have hin2:∀ (v2_5:Int),bA prog (jA eF eJ eL bN m71) L f36 2 [1,1,1,0,1,0,0] (cB (aY prog f36) (cA prog (jA eF eJ eL bN m71) L f36 [1,1,1,0,1] (aY prog f36)).n (cA prog (jA eF eJ eL bN m71) L f36 [1,1,1,0,1] (aY prog f36)).x) L (S36_2 a0 v2_5)=((λv2_5=>oD eF eJ eL bN m71 L a0 L v2_5 (A36_2 (λx=>x) (λv4_7=>oC eF eJ eL bN m71 L a0 L v4_7 (A36_4 (λx=>x) (λv6_8=>nE eF eJ eL bN m71 L a0 L v6_8 (A36_6 (λx=>x) eF eJ eL bN m71 a0)) eF eJ eL bN m71 a0)) eF eJ eL bN m71 a0)) v2_5).map wX:=λv2_5=>aLS eF eJ eL bN m71 L a0 _ _ _ (by refine .trans (b:=A36_2 wX (λv4_7=>bA prog (jA eF eJ eL bN m71) L f36 4 [1,1,1,1,1,0,1,0,0] (cB (aY prog f36) (cA prog (jA eF eJ eL bN m71) L f36 [1,1,1,1,1,0,1] (aY prog f36)).n (cA prog (jA eF eJ eL bN m71) L f36 [1,1,1,1,1,0,1] (aY prog f36)).x) L (S36_4 a0 v4_7)) eF eJ eL bN m71 a0) (by kernel_rfl) ?_;unfold A36_2;repeat' first | with_reducible refine dP ?_ ?_ | with_reducible refine dL λ_=>?_ | with_reducible refine dO λ_=>?_ | with_reducible exact hin6 _ | with_reducible exact hin4 _ | exact rfl) L v2_5
 have hin0:∀ (v0_3:Int),bA prog (jA eF eJ eL bN m71) L f36 0 [1,1,0,1,0,0] (cB (aY prog f36) (cA prog (jA eF eJ eL bN m71) L f36 [1,1,0,1] (aY prog f36)).n (cA prog (jA eF eJ eL bN m71) L f36 [1,1,0,1] (aY prog f36)).x) L (S36_0 a0 v0_3)=((λv0_3=>qR eF eJ eL bN m71 L a0 L v0_3 (A36_0 (λx=>x) (λv2_5=>oD eF eJ eL bN m71 L a0 L v2_5 (A36_2 (λx=>x) (λv4_7=>oC eF eJ eL bN m71 L a0 L v4_7 (A36_4 (λx=>x) (λv6_8=>nE eF eJ eL bN m71 L a0 L v6_8 (A36_6 (λx=>x) eF eJ eL bN m71 a0)) eF eJ eL bN m71 a0)) eF eJ eL bN m71 a0)) eF eJ eL bN m71 a0)) v0_3).map wX:=λv0_3=>aLT eF eJ eL bN m71 L a0 _ _ _ (by refine .trans (b:=A36_0 wX (λv2_5=>bA prog (jA eF eJ eL bN m71) L f36 2 [1,1,1,0,1,0,0] (cB (aY prog f36) (cA prog (jA eF eJ eL bN m71) L f36 [1,1,1,0,1] (aY prog f36)).n (cA prog (jA eF eJ eL bN m71) L f36 [1,1,1,0,1] (aY prog f36)).x) L (S36_2 a0 v2_5)) eF eJ eL bN m71 a0) (by kernel_rfl) ?_;unfold A36_0;repeat' first | with_reducible refine dP ?_ ?_ | with_reducible refine dL λ_=>?_ | with_reducible refine dO λ_=>?_ | with_reducible exact hin6 _ | with_reducible exact hin4 _ | with_reducible exact hin2 _ | exact rfl) L v0_3
 refine .trans (b:=G36 wX (λv0_3=>bA prog (jA eF eJ eL bN m71) L f36 0 [1,1,0,1,0,0] (cB (aY prog f36) (cA prog (jA eF eJ eL bN m71) L f36 [1,1,0,1] (aY prog f36)).n (cA prog (jA eF eJ eL bN m71) L f36 [1,1,0,1] (aY prog f36)).x) L (S36_0 a0 v0_3)) eF eJ eL bN m71 a0) (by kernel_rfl) ?_;unfold g36 G36
 repeat' first | with_reducible refine dP ?_ ?_ | with_reducible refine dL λ_=>?_ | with_reducible refine dO λ_=>?_ | with_reducible exact hin6 _ | with_reducible exact hin4 _ | with_reducible exact hin2 _ | with_reducible exact hin0 _ | exact rfl
def w36 (eF:Y67)(eJ:Y68)(eL:Y69)(bN:Y70)(m71:Y71)(L:Nat)(x:C4):Option Int:=g36 eF eJ eL bN m71 L x
theorem s36 (eF:Y67)(eJ:Y68)(eL:Y69)(bN:Y70)(m71:Y71)(h67:Sat prog cxT 67 (c67 eF))(h68:Sat prog cxT 68 (c68 eJ))(h69:Sat prog cxT 69 (c69 eL))(h70:Sat prog cxT 70 (xL bN))(h71:Sat prog cxT 71 (c71 m71))(m:Y36)(hm:∀ (x:C4) t,m x=some t->∃ L,w36 eF eJ eL bN m71 L x=some t):Sat prog cxT 36 (c36 m):=
 cF bC aX (by rfl) (fn:=f36) rfl a36 wX aUX m (jA eF eJ eL bN m71) (aL h67 (aL h68 (aL h69 (aL h70 (aL h71 aW))))) aQ (w36 eF eJ eL bN m71) (λL x=>e36 eF eJ eL bN m71 L x) hm aZQ
end Go.Proofs.Tryz
