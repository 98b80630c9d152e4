/- A part of the proof of FnExactLeaderOf: LmFc, LmFd, LmFq. -/
import Derived.Test.YtnmbggfkmkcmkaaGreatLmBase
set_option linter.unusedSimpArgs false
set_option linter.unusedVariables false
set_option maxHeartbeats 0
set_option maxRecDepth 100000
namespace Go.Proofs.Tryz
open Go.IntKind (wrap)
open Go Go.VM Go.RowKit
def aMp:Env cxT:={ Kc:=cR [],Kw:=cQ [],lv:=λi=>[],xv:=λi=>none }
def G113 {B:Type}(u:Bool->B)(a0_0:Int)(a0_1:Int)(a0_2:Int)(a0_3:Int)(a0_4:Int)(a0_5:Int)(a1_0:Int)(a1_1:Int)(a1_2:Int)(a1_3:Int)(a1_4:Int)(a1_5:Int):Option B:=
 bif (a0_0 != a1_0)then some (u false)
 else bif (a0_1 != a1_1)then some (u false)
 else bif (a0_2 != a1_2)then some (u false)
 else bif (a0_3 != a1_3)then some (u false)
 else bif (a0_4 != a1_4)then some (u false)
 else bif (a0_5 != a1_5)then some (u false)
 else some (u true)
def aIS (L:Nat)(a0_0:Int)(a0_1:Int)(a0_2:Int)(a0_3:Int)(a0_4:Int)(a0_5:Int)(a1_0:Int)(a1_1:Int)(a1_2:Int)(a1_3:Int)(a1_4:Int)(a1_5:Int):Option Bool:=G113 (λx=>x) a0_0 a0_1 a0_2 a0_3 a0_4 a0_5 a1_0 a1_1 a1_2 a1_3 a1_4 a1_5
theorem bBc (L:Nat)(a0_0:Int)(a0_1:Int)(a0_2:Int)(a0_3:Int)(a0_4:Int)(a0_5:Int)(a1_0:Int)(a1_1:Int)(a1_2:Int)(a1_3:Int)(a1_4:Int)(a1_5:Int):fP prog aMp (bJ L) f113 (aWn.enc ((a0_0,a0_1,a0_2,a0_3,a0_4,a0_5),(a1_0,a1_1,a1_2,a1_3,a1_4,a1_5)))=(aIS L a0_0 a0_1 a0_2 a0_3 a0_4 a0_5 a1_0 a1_1 a1_2 a1_3 a1_4 a1_5).map aGP:=by
 refine .trans (b:=G113 aGP a0_0 a0_1 a0_2 a0_3 a0_4 a0_5 a1_0 a1_1 a1_2 a1_3 a1_4 a1_5) (by kernel_rfl) ?_;unfold aIS G113
 repeat' first | with_reducible refine dP ?_ ?_ | with_reducible refine dL λ_=>?_ | with_reducible refine dO λ_=>?_ | exact rfl
def aND (L:Nat)(x:((Int×Int×Int×Int×Int×Int)×(Int×Int×Int×Int×Int×Int))):Option Bool:=aIS L x.1.1 x.1.2.1 x.1.2.2.1 x.1.2.2.2.1 x.1.2.2.2.2.1 x.1.2.2.2.2.2 x.2.1 x.2.2.1 x.2.2.2.1 x.2.2.2.2.1 x.2.2.2.2.2.1 x.2.2.2.2.2.2
theorem aYw (m:Y113)(hm:∀ (x:((Int×Int×Int×Int×Int×Int)×(Int×Int×Int×Int×Int×Int))) t,m x=some t->∃ L,aND L x=some t):Sat prog cxT 113 (aKQ m):=
 cF bC aX (by rfl) (fn:=f113) rfl aWn aGP aNa m aMp aW aQ (aND) (λL x=>bBc L x.1.1 x.1.2.1 x.1.2.2.1 x.1.2.2.2.1 x.1.2.2.2.2.1 x.1.2.2.2.2.2 x.2.1 x.2.2.1 x.2.2.2.1 x.2.2.2.2.1 x.2.2.2.2.2.1 x.2.2.2.2.2.2) hm aSp
def aTm (m113:Y113):Env cxT:={ Kc:=cR [(113,aKQ m113)],Kw:=cQ [],lv:=λi=>[],xv:=λi=>none }
def G92 {B:Type}(u:Bool->B)(m113:Y113)(a0_0:Int)(a0_1:Int)(a0_2:Int)(a0_3:Int)(a0_4:Int)(a0_5:Int)(a0_6:Int)(a0_7:Int)(a0_8:Int)(a1_0:Int)(a1_1:Int)(a1_2:Int)(a1_3:Int)(a1_4:Int)(a1_5:Int)(a1_6:Int)(a1_7:Int)(a1_8:Int):Option B:=
 bif (a0_0 != a1_0)then some (u false)
 else bif (a0_1 != a1_1)then some (u false)
 else bif (a0_2 != a1_2)then some (u false)
 else cU (m113 ((a0_3,(a0_4,(a0_5,(a0_6,(a0_7,a0_8))))),(a1_3,(a1_4,(a1_5,(a1_6,(a1_7,a1_8))))))) false λ(q1:Bool)=>bif (!q1)then some (u false)
  else some (u true)
def g92 (m113:Y113)(L:Nat)(a0_0:Int)(a0_1:Int)(a0_2:Int)(a0_3:Int)(a0_4:Int)(a0_5:Int)(a0_6:Int)(a0_7:Int)(a0_8:Int)(a1_0:Int)(a1_1:Int)(a1_2:Int)(a1_3:Int)(a1_4:Int)(a1_5:Int)(a1_6:Int)(a1_7:Int)(a1_8:Int):Option Bool:=G92 (λx=>x) m113 a0_0 a0_1 a0_2 a0_3 a0_4 a0_5 a0_6 a0_7 a0_8 a1_0 a1_1 a1_2 a1_3 a1_4 a1_5 a1_6 a1_7 a1_8
theorem e92 (m113:Y113)(L:Nat)(a0_0:Int)(a0_1:Int)(a0_2:Int)(a0_3:Int)(a0_4:Int)(a0_5:Int)(a0_6:Int)(a0_7:Int)(a0_8:Int)(a1_0:Int)(a1_1:Int)(a1_2:Int)(a1_3:Int)(a1_4:Int)(a1_5:Int)(a1_6:Int)(a1_7:Int)(a1_8:Int):fP prog (aTm m113) (bJ L) f92 (a92.enc ((a0_0,a0_1,a0_2,a0_3,a0_4,a0_5,a0_6,a0_7,a0_8),(a1_0,a1_1,a1_2,a1_3,a1_4,a1_5,a1_6,a1_7,a1_8)))=(g92 m113 L a0_0 a0_1 a0_2 a0_3 a0_4 a0_5 a0_6 a0_7 a0_8 a1_0 a1_1 a1_2 a1_3 a1_4 a1_5 a1_6 a1_7 a1_8).map n92:=by
 refine .trans (b:=G92 n92 m113 a0_0 a0_1 a0_2 a0_3 a0_4 a0_5 a0_6 a0_7 a0_8 a1_0 a1_1 a1_2 a1_3 a1_4 a1_5 a1_6 a1_7 a1_8) (by kernel_rfl) ?_;unfold g92 G92
 repeat' first | with_reducible refine dP ?_ ?_ | with_reducible refine dL λ_=>?_ | with_reducible refine dO λ_=>?_ | exact rfl
def w92 (m113:Y113)(L:Nat)(x:(E9×E9)):Option Bool:=g92 m113 L x.1.1 x.1.2.1 x.1.2.2.1 x.1.2.2.2.1 x.1.2.2.2.2.1 x.1.2.2.2.2.2.1 x.1.2.2.2.2.2.2.1 x.1.2.2.2.2.2.2.2.1 x.1.2.2.2.2.2.2.2.2 x.2.1 x.2.2.1 x.2.2.2.1 x.2.2.2.2.1 x.2.2.2.2.2.1 x.2.2.2.2.2.2.1 x.2.2.2.2.2.2.2.1 x.2.2.2.2.2.2.2.2.1 x.2.2.2.2.2.2.2.2.2
theorem s92 (m113:Y113)(h113:Sat prog cxT 113 (aKQ m113))(m:Y92)(hm:∀ (x:(E9×E9)) t,m x=some t->∃ L,w92 m113 L x=some t):Sat prog cxT 92 (c92 m):=
 cF bC aX (by rfl) (fn:=f92) rfl a92 n92 aUi m (aTm m113) (aL h113 aW) aQ (w92 m113) (λL x=>e92 m113 L x.1.1 x.1.2.1 x.1.2.2.1 x.1.2.2.2.1 x.1.2.2.2.2.1 x.1.2.2.2.2.2.1 x.1.2.2.2.2.2.2.1 x.1.2.2.2.2.2.2.2.1 x.1.2.2.2.2.2.2.2.2 x.2.1 x.2.2.1 x.2.2.2.1 x.2.2.2.2.1 x.2.2.2.2.2.1 x.2.2.2.2.2.2.1 x.2.2.2.2.2.2.2.1 x.2.2.2.2.2.2.2.2.1 x.2.2.2.2.2.2.2.2.2) hm aZa
def aBv (m92:Y92):Env cxT:={ Kc:=cR [(92,c92 m92)],Kw:=cQ [],lv:=λi=>if i=0 then[(0,[some 102]),(1,[some 102]),(5,[])]else[],xv:=λi=>if i=0 then some []else none }
def S58_0 (a0:(List E9))(a1:(List E9))(v0_5:Int):St cxT.ty:={ slots:=[(.inl (.inl (ls { own:=0,nm:=0,e:=102,o:=false,xs:=a0 }))),(.inl (.inl (ls { own:=0,nm:=0,e:=102,o:=false,xs:=a1 }))),aJ,aJ,aJ,(.inl (.inl (lv (.int .i64 v0_5))))]++List.replicate 21 aJ,D:=[],F:=[],ctr:=1 }
def X58_0 (a0:(List E9))(a1:(List E9)):St cxT.ty:={ slots:=[]++List.replicate 27 aJ,D:=[],F:=[],ctr:=1 }
def G58 {B:Type}(u:Bool->B)(hh0:Int->Option B)(m92:Y92)(a0:(List E9))(a1:(List E9)):Option B:=
 bif ((Nat.cast (List.length a0):Int) != (Nat.cast (List.length a1):Int))then some (u false)
 else hh0 (0:Int)
def B58_0 {B:Type}(u:Bool->B)(gg:Int->Option B)(kk:Option B)(m92:Y92)(a0:(List E9))(a1:(List E9))(v0_5:Int):Option B:=
 bif (decide (v0_5 < (Nat.cast (List.length a0):Int)))then dX (List.getD a0 v0_5.toNat ((0:Int),((0:Int),((0:Int),((0:Int),((0:Int),((0:Int),((0:Int),((0:Int),(0:Int)))))))))) λs1_0=>dX (List.getD a1 v0_5.toNat ((0:Int),((0:Int),((0:Int),((0:Int),((0:Int),((0:Int),((0:Int),((0:Int),(0:Int)))))))))) λs1_1=>bif ((decide ((0:Int)<=v0_5))&&(decide (v0_5 < (Nat.cast (List.length a0):Int))))then bif ((decide ((0:Int)<=v0_5))&&(decide (v0_5 < (Nat.cast (List.length a1):Int))))then cU (m92 ((s1_0.1,(s1_0.2.1,(s1_0.2.2.1,(s1_0.2.2.2.1,(s1_0.2.2.2.2.1,(s1_0.2.2.2.2.2.1,(s1_0.2.2.2.2.2.2.1,(s1_0.2.2.2.2.2.2.2.1,s1_0.2.2.2.2.2.2.2.2)))))))),(s1_1.1,(s1_1.2.1,(s1_1.2.2.1,(s1_1.2.2.2.1,(s1_1.2.2.2.2.1,(s1_1.2.2.2.2.2.1,(s1_1.2.2.2.2.2.2.1,(s1_1.2.2.2.2.2.2.2.1,s1_1.2.2.2.2.2.2.2.2)))))))))) false λ(q4:Bool)=>bif (!q4)then some (u false)
     else gg (wrap .i64 (v0_5+(1:Int)))
   else none
  else none
 else kk
def A58_0 {B:Type}(u:Bool->B)(m92:Y92)(a0:(List E9))(a1:(List E9)):Option B:=
 some (u true)
def aAf (m92:Y92)(L:Nat)(a0:(List E9))(a1:(List E9)):Nat->Int->(Option Bool)->Option Bool
 | 0,_,_=>none
 | n+1,v0_5,k=>B58_0 (λx=>x) (λv0_5=>aAf m92 L a0 a1 n v0_5 k) k m92 a0 a1 v0_5
theorem aLE (m92:Y92)(L:Nat)(a0:(List E9))(a1:(List E9))(k:St cxT.ty->Option (V cxT.ty))(xk:Nat->St cxT.ty->Option (V cxT.ty))(k':Option Bool)(hk:k (X58_0 a0 a1)=(k').map n58):∀ (n:Nat) (v0_5:Int),bA prog (aBv m92) L f58 0 [1,1,0,1,0,0] (cB (aY prog f58) k xk) n (S58_0 a0 a1 v0_5)=(aAf m92 L a0 a1 n v0_5 k').map n58
 | 0,_=>rfl
 | n+1,v0_5=>by
  rw[bQ];have ih:=aLE m92 L a0 a1 k xk k' hk n;refine .trans (b:=B58_0 n58 (λv0_5=>(bA prog (aBv m92) L f58 0 [1,1,0,1,0,0] (cB (aY prog f58) k xk) n) (S58_0 a0 a1 v0_5)) (k (X58_0 a0 a1)) m92 a0 a1 v0_5) (by kernel_rfl) ?_;unfold aAf B58_0
  repeat' first | with_reducible refine dP ?_ ?_ | with_reducible refine dL λ_=>?_ | with_reducible refine dO λ_=>?_ | with_reducible exact ih _ | with_reducible exact hk | exact rfl
def g58 (m92:Y92)(L:Nat)(a0:(List E9))(a1:(List E9)):Option Bool:=G58 (λx=>x) (λv0_5=>aAf m92 L a0 a1 L v0_5 (A58_0 (λx=>x) m92 a0 a1)) m92 a0 a1
theorem e58 (m92:Y92)(L:Nat)(a0:(List E9))(a1:(List E9)):fP prog (aBv m92) (bJ L) f58 (a58.enc (a0,a1))=(g58 m92 L a0 a1).map n58:=by
 have hin0:∀ (v0_5:Int),bA prog (aBv m92) L f58 0 [1,1,0,1,0,0] (cB (aY prog f58) (cA prog (aBv m92) L f58 [1,1,0,1] (aY prog f58)).n (cA prog (aBv m92) L f58 [1,1,0,1] (aY prog f58)).x) L (S58_0 a0 a1 v0_5)=((λv0_5=>aAf m92 L a0 a1 L v0_5 (A58_0 (λx=>x) m92 a0 a1)) v0_5).map n58:=λv0_5=>aLE m92 L a0 a1 _ _ _ (by refine .trans (b:=A58_0 n58 m92 a0 a1) (by kernel_rfl) ?_;unfold A58_0;repeat' first | with_reducible refine dP ?_ ?_ | with_reducible refine dL λ_=>?_ | with_reducible refine dO λ_=>?_ | exact rfl) L v0_5
 refine .trans (b:=G58 n58 (λv0_5=>bA prog (aBv m92) L f58 0 [1,1,0,1,0,0] (cB (aY prog f58) (cA prog (aBv m92) L f58 [1,1,0,1] (aY prog f58)).n (cA prog (aBv m92) L f58 [1,1,0,1] (aY prog f58)).x) L (S58_0 a0 a1 v0_5)) m92 a0 a1) (by kernel_rfl) ?_;unfold g58 G58
 repeat' first | with_reducible refine dP ?_ ?_ | with_reducible refine dL λ_=>?_ | with_reducible refine dO λ_=>?_ | with_reducible exact hin0 _ | exact rfl
def w58 (m92:Y92)(L:Nat)(x:((List E9)×(List E9))):Option Bool:=g58 m92 L x.1 x.2
theorem s58 (m92:Y92)(h92:Sat prog cxT 92 (c92 m92))(m:Y58)(hm:∀ (x:((List E9)×(List E9))) t,m x=some t->∃ L,w58 m92 L x=some t):Sat prog cxT 58 (c58 m):=
 cF bC aX (by rfl) (fn:=f58) rfl a58 n58 aUM m (aBv m92) (aL h92 aW) aQ (w58 m92) (λL x=>e58 m92 L x.1 x.2) hm aZE
def sX:Env cxT:={ Kc:=cR [],Kw:=cQ [],lv:=λi=>if i=0 then[(0,[some 2]),(1,[some 2]),(5,[])]else[],xv:=λi=>if i=0 then some []else none }
def S109_0 (a0:(List Int))(a1:(List Int))(v0_5:Int):St cxT.ty:={ slots:=[(.inl (.inl (ls { own:=0,nm:=0,e:=2,o:=false,xs:=a0 }))),(.inl (.inl (ls { own:=0,nm:=0,e:=2,o:=false,xs:=a1 }))),aJ,aJ,aJ,(.inl (.inl (lv (.int .i64 v0_5))))]++List.replicate 20 aJ,D:=[],F:=[],ctr:=1 }
def X109_0 (a0:(List Int))(a1:(List Int)):St cxT.ty:={ slots:=[]++List.replicate 26 aJ,D:=[],F:=[],ctr:=1 }
def G109 {B:Type}(u:Bool->B)(hh0:Int->Option B)(a0:(List Int))(a1:(List Int)):Option B:=
 bif ((Nat.cast (List.length a0):Int) != (Nat.cast (List.length a1):Int))then some (u false)
 else hh0 (0:Int)
def B109_0 {B:Type}(u:Bool->B)(gg:Int->Option B)(kk:Option B)(a0:(List Int))(a1:(List Int))(v0_5:Int):Option B:=
 bif (decide (v0_5 < (Nat.cast (List.length a0):Int)))then bif ((decide ((0:Int)<=v0_5))&&(decide (v0_5 < (Nat.cast (List.length a0):Int))))then bif ((decide ((0:Int)<=v0_5))&&(decide (v0_5 < (Nat.cast (List.length a1):Int))))then bif ((List.getD a0 v0_5.toNat (0:Int)) != (List.getD a1 v0_5.toNat (0:Int)))then some (u false)
    else gg (wrap .i64 (v0_5+(1:Int)))
   else none
  else none
 else kk
def A109_0 {B:Type}(u:Bool->B)(a0:(List Int))(a1:(List Int)):Option B:=
 some (u true)
def tR (L:Nat)(a0:(List Int))(a1:(List Int)):Nat->Int->(Option Bool)->Option Bool
 | 0,_,_=>none
 | n+1,v0_5,k=>B109_0 (λx=>x) (λv0_5=>tR L a0 a1 n v0_5 k) k a0 a1 v0_5
theorem aIC (L:Nat)(a0:(List Int))(a1:(List Int))(k:St cxT.ty->Option (V cxT.ty))(xk:Nat->St cxT.ty->Option (V cxT.ty))(k':Option Bool)(hk:k (X109_0 a0 a1)=(k').map zV):∀ (n:Nat) (v0_5:Int),bA prog sX L f109 0 [1,1,0,1,0,0] (cB (aY prog f109) k xk) n (S109_0 a0 a1 v0_5)=(tR L a0 a1 n v0_5 k').map zV
 | 0,_=>rfl
 | n+1,v0_5=>by
  rw[bQ];have ih:=aIC L a0 a1 k xk k' hk n;refine .trans (b:=B109_0 zV (λv0_5=>(bA prog sX L f109 0 [1,1,0,1,0,0] (cB (aY prog f109) k xk) n) (S109_0 a0 a1 v0_5)) (k (X109_0 a0 a1)) a0 a1 v0_5) (by kernel_rfl) ?_;unfold tR B109_0
  repeat' first | with_reducible refine dP ?_ ?_ | with_reducible refine dL λ_=>?_ | with_reducible refine dO λ_=>?_ | with_reducible exact ih _ | with_reducible exact hk | exact rfl
def aIT (L:Nat)(a0:(List Int))(a1:(List Int)):Option Bool:=G109 (λx=>x) (λv0_5=>tR L a0 a1 L v0_5 (A109_0 (λx=>x) a0 a1)) a0 a1
theorem bBe (L:Nat)(a0:(List Int))(a1:(List Int)):fP prog sX (bJ L) f109 (aWp.enc (a0,a1))=(aIT L a0 a1).map zV:=by
 have hin0:∀ (v0_5:Int),bA prog sX L f109 0 [1,1,0,1,0,0] (cB (aY prog f109) (cA prog sX L f109 [1,1,0,1] (aY prog f109)).n (cA prog sX L f109 [1,1,0,1] (aY prog f109)).x) L (S109_0 a0 a1 v0_5)=((λv0_5=>tR L a0 a1 L v0_5 (A109_0 (λx=>x) a0 a1)) v0_5).map zV:=λv0_5=>aIC L a0 a1 _ _ _ (by refine .trans (b:=A109_0 zV a0 a1) (by kernel_rfl) ?_;unfold A109_0;repeat' first | with_reducible refine dP ?_ ?_ | with_reducible refine dL λ_=>?_ | with_reducible refine dO λ_=>?_ | exact rfl) L v0_5
 refine .trans (b:=G109 zV (λv0_5=>bA prog sX L f109 0 [1,1,0,1,0,0] (cB (aY prog f109) (cA prog sX L f109 [1,1,0,1] (aY prog f109)).n (cA prog sX L f109 [1,1,0,1] (aY prog f109)).x) L (S109_0 a0 a1 v0_5)) a0 a1) (by kernel_rfl) ?_;unfold aIT G109
 repeat' first | with_reducible refine dP ?_ ?_ | with_reducible refine dL λ_=>?_ | with_reducible refine dO λ_=>?_ | with_reducible exact hin0 _ | exact rfl
def aNE (L:Nat)(x:((List Int)×(List Int))):Option Bool:=aIT L x.1 x.2
theorem aYy (m:Y109)(hm:∀ (x:((List Int)×(List Int))) t,m x=some t->∃ L,aNE L x=some t):Sat prog cxT 109 (aKR m):=
 cF bC aX (by rfl) (fn:=f109) rfl aWp zV aNc m sX aW aQ (aNE) (λL x=>bBe L x.1 x.2) hm aSr
def aTs (jF:Y58)(kE:Y109):Env cxT:={ Kc:=cR [(58,c58 jF),(109,aKR kE)],Kw:=cQ [],lv:=λi=>[],xv:=λi=>none }
def G82 {B:Type}(u:Bool->B)(jF:Y58)(kE:Y109)(a0_0:Int)(a0_1:Int)(a0_2:Int)(a0_3:Int)(a0_4:(List E9))(a0_5:Int)(a0_6:Int)(a0_7:(List Int))(a0_8:(List Int))(a0_9:(List Int))(a1_0:Int)(a1_1:Int)(a1_2:Int)(a1_3:Int)(a1_4:(List E9))(a1_5:Int)(a1_6:Int)(a1_7:(List Int))(a1_8:(List Int))(a1_9:(List Int)):Option B:=
 bif (a0_0 != a1_0)then some (u false)
 else bif (a0_1 != a1_1)then some (u false)
 else bif (a0_2 != a1_2)then some (u false)
 else bif (a0_3 != a1_3)then some (u false)
 else cU (jF (a0_4,a1_4)) false λ(q1:Bool)=>bif (!q1)then some (u false)
  else bif (a0_5 != a1_5)then some (u false)
  else bif (a0_6 != a1_6)then some (u false)
  else cU (kE (a0_7,a1_7)) false λ(q2:Bool)=>bif (!q2)then some (u false)
   else cU (kE (a0_8,a1_8)) false λ(q3:Bool)=>bif (!q3)then some (u false)
    else cU (kE (a0_9,a1_9)) false λ(q4:Bool)=>bif (!q4)then some (u false)
     else some (u true)
def g82 (jF:Y58)(kE:Y109)(L:Nat)(a0_0:Int)(a0_1:Int)(a0_2:Int)(a0_3:Int)(a0_4:(List E9))(a0_5:Int)(a0_6:Int)(a0_7:(List Int))(a0_8:(List Int))(a0_9:(List Int))(a1_0:Int)(a1_1:Int)(a1_2:Int)(a1_3:Int)(a1_4:(List E9))(a1_5:Int)(a1_6:Int)(a1_7:(List Int))(a1_8:(List Int))(a1_9:(List Int)):Option Bool:=G82 (λx=>x) jF kE a0_0 a0_1 a0_2 a0_3 a0_4 a0_5 a0_6 a0_7 a0_8 a0_9 a1_0 a1_1 a1_2 a1_3 a1_4 a1_5 a1_6 a1_7 a1_8 a1_9
theorem e82 (jF:Y58)(kE:Y109)(L:Nat)(a0_0:Int)(a0_1:Int)(a0_2:Int)(a0_3:Int)(a0_4:(List E9))(a0_5:Int)(a0_6:Int)(a0_7:(List Int))(a0_8:(List Int))(a0_9:(List Int))(a1_0:Int)(a1_1:Int)(a1_2:Int)(a1_3:Int)(a1_4:(List E9))(a1_5:Int)(a1_6:Int)(a1_7:(List Int))(a1_8:(List Int))(a1_9:(List Int)):fP prog (aTs jF kE) (bJ L) f82 (a82.enc ((a0_0,a0_1,a0_2,a0_3,a0_4,a0_5,a0_6,a0_7,a0_8,a0_9),(a1_0,a1_1,a1_2,a1_3,a1_4,a1_5,a1_6,a1_7,a1_8,a1_9)))=(g82 jF kE L a0_0 a0_1 a0_2 a0_3 a0_4 a0_5 a0_6 a0_7 a0_8 a0_9 a1_0 a1_1 a1_2 a1_3 a1_4 a1_5 a1_6 a1_7 a1_8 a1_9).map n82:=by
 refine .trans (b:=G82 n82 jF kE a0_0 a0_1 a0_2 a0_3 a0_4 a0_5 a0_6 a0_7 a0_8 a0_9 a1_0 a1_1 a1_2 a1_3 a1_4 a1_5 a1_6 a1_7 a1_8 a1_9) (by kernel_rfl) ?_;unfold g82 G82
 repeat' first | with_reducible refine dP ?_ ?_ | with_reducible refine dL λ_=>?_ | with_reducible refine dO λ_=>?_ | exact rfl
def w82 (jF:Y58)(kE:Y109)(L:Nat)(x:(N10×N10)):Option Bool:=g82 jF kE L x.1.1 x.1.2.1 x.1.2.2.1 x.1.2.2.2.1 x.1.2.2.2.2.1 x.1.2.2.2.2.2.1 x.1.2.2.2.2.2.2.1 x.1.2.2.2.2.2.2.2.1 x.1.2.2.2.2.2.2.2.2.1 x.1.2.2.2.2.2.2.2.2.2 x.2.1 x.2.2.1 x.2.2.2.1 x.2.2.2.2.1 x.2.2.2.2.2.1 x.2.2.2.2.2.2.1 x.2.2.2.2.2.2.2.1 x.2.2.2.2.2.2.2.2.1 x.2.2.2.2.2.2.2.2.2.1 x.2.2.2.2.2.2.2.2.2.2
theorem s82 (jF:Y58)(kE:Y109)(h58:Sat prog cxT 58 (c58 jF))(h109:Sat prog cxT 109 (aKR kE))(m:Y82)(hm:∀ (x:(N10×N10)) t,m x=some t->∃ L,w82 jF kE L x=some t):Sat prog cxT 82 (c82 m):=
 cF bC aX (by rfl) (fn:=f82) rfl a82 n82 aUo m (aTs jF kE) (aL h58 (aL h109 aW)) aQ (w82 jF kE) (λL x=>e82 jF kE L x.1.1 x.1.2.1 x.1.2.2.1 x.1.2.2.2.1 x.1.2.2.2.2.1 x.1.2.2.2.2.2.1 x.1.2.2.2.2.2.2.1 x.1.2.2.2.2.2.2.2.1 x.1.2.2.2.2.2.2.2.2.1 x.1.2.2.2.2.2.2.2.2.2 x.2.1 x.2.2.1 x.2.2.2.1 x.2.2.2.2.1 x.2.2.2.2.2.1 x.2.2.2.2.2.2.1 x.2.2.2.2.2.2.2.1 x.2.2.2.2.2.2.2.2.1 x.2.2.2.2.2.2.2.2.2.1 x.2.2.2.2.2.2.2.2.2.2) hm aZg
def aTr (jF:Y58):Env cxT:={ Kc:=cR [(58,c58 jF)],Kw:=cQ [],lv:=λi=>[],xv:=λi=>none }
def G83 {B:Type}(u:Bool->B)(jF:Y58)(a0_0:Int)(a0_1:Int)(a0_2:Int)(a0_3:Int)(a0_4:Int)(a0_5:Int)(a0_6:Int)(a0_7:Bool)(a0_8:(List E9))(a1_0:Int)(a1_1:Int)(a1_2:Int)(a1_3:Int)(a1_4:Int)(a1_5:Int)(a1_6:Int)(a1_7:Bool)(a1_8:(List E9)):Option B:=
 bif (a0_0 != a1_0)then some (u false)
 else bif (a0_1 != a1_1)then some (u false)
 else bif (a0_2 != a1_2)then some (u false)
 else bif (a0_3 != a1_3)then some (u false)
 else bif (a0_4 != a1_4)then some (u false)
 else bif (a0_5 != a1_5)then some (u false)
 else bif (a0_6 != a1_6)then some (u false)
 else bif (!(a0_7 == a1_7))then some (u false)
 else cU (jF (a0_8,a1_8)) false λ(q1:Bool)=>bif (!q1)then some (u false)
  else some (u true)
def g83 (jF:Y58)(L:Nat)(a0_0:Int)(a0_1:Int)(a0_2:Int)(a0_3:Int)(a0_4:Int)(a0_5:Int)(a0_6:Int)(a0_7:Bool)(a0_8:(List E9))(a1_0:Int)(a1_1:Int)(a1_2:Int)(a1_3:Int)(a1_4:Int)(a1_5:Int)(a1_6:Int)(a1_7:Bool)(a1_8:(List E9)):Option Bool:=G83 (λx=>x) jF a0_0 a0_1 a0_2 a0_3 a0_4 a0_5 a0_6 a0_7 a0_8 a1_0 a1_1 a1_2 a1_3 a1_4 a1_5 a1_6 a1_7 a1_8
theorem e83 (jF:Y58)(L:Nat)(a0_0:Int)(a0_1:Int)(a0_2:Int)(a0_3:Int)(a0_4:Int)(a0_5:Int)(a0_6:Int)(a0_7:Bool)(a0_8:(List E9))(a1_0:Int)(a1_1:Int)(a1_2:Int)(a1_3:Int)(a1_4:Int)(a1_5:Int)(a1_6:Int)(a1_7:Bool)(a1_8:(List E9)):fP prog (aTr jF) (bJ L) f83 (a83.enc ((a0_0,a0_1,a0_2,a0_3,a0_4,a0_5,a0_6,a0_7,a0_8),(a1_0,a1_1,a1_2,a1_3,a1_4,a1_5,a1_6,a1_7,a1_8)))=(g83 jF L a0_0 a0_1 a0_2 a0_3 a0_4 a0_5 a0_6 a0_7 a0_8 a1_0 a1_1 a1_2 a1_3 a1_4 a1_5 a1_6 a1_7 a1_8).map n83:=by
 refine .trans (b:=G83 n83 jF a0_0 a0_1 a0_2 a0_3 a0_4 a0_5 a0_6 a0_7 a0_8 a1_0 a1_1 a1_2 a1_3 a1_4 a1_5 a1_6 a1_7 a1_8) (by kernel_rfl) ?_;unfold g83 G83
 repeat' first | with_reducible refine dP ?_ ?_ | with_reducible refine dL λ_=>?_ | with_reducible refine dO λ_=>?_ | exact rfl
def w83 (jF:Y58)(L:Nat)(x:(M9×M9)):Option Bool:=g83 jF L x.1.1 x.1.2.1 x.1.2.2.1 x.1.2.2.2.1 x.1.2.2.2.2.1 x.1.2.2.2.2.2.1 x.1.2.2.2.2.2.2.1 x.1.2.2.2.2.2.2.2.1 x.1.2.2.2.2.2.2.2.2 x.2.1 x.2.2.1 x.2.2.2.1 x.2.2.2.2.1 x.2.2.2.2.2.1 x.2.2.2.2.2.2.1 x.2.2.2.2.2.2.2.1 x.2.2.2.2.2.2.2.2.1 x.2.2.2.2.2.2.2.2.2
theorem s83 (jF:Y58)(h58:Sat prog cxT 58 (c58 jF))(m:Y83)(hm:∀ (x:(M9×M9)) t,m x=some t->∃ L,w83 jF L x=some t):Sat prog cxT 83 (c83 m):=
 cF bC aX (by rfl) (fn:=f83) rfl a83 n83 aUn m (aTr jF) (aL h58 aW) aQ (w83 jF) (λL x=>e83 jF L x.1.1 x.1.2.1 x.1.2.2.1 x.1.2.2.2.1 x.1.2.2.2.2.1 x.1.2.2.2.2.2.1 x.1.2.2.2.2.2.2.1 x.1.2.2.2.2.2.2.2.1 x.1.2.2.2.2.2.2.2.2 x.2.1 x.2.2.1 x.2.2.2.1 x.2.2.2.2.1 x.2.2.2.2.2.1 x.2.2.2.2.2.2.1 x.2.2.2.2.2.2.2.1 x.2.2.2.2.2.2.2.2.1 x.2.2.2.2.2.2.2.2.2) hm aZf
def aTq:Env cxT:={ Kc:=cR [],Kw:=cQ [],lv:=λi=>[],xv:=λi=>none }
def G84 {B:Type}(u:Bool->B)(a0_0:Int)(a0_1:Int)(a1_0:Int)(a1_1:Int):Option B:=
 bif (a0_0 != a1_0)then some (u false)
 else bif (a0_1 != a1_1)then some (u false)
 else some (u true)
def g84 (L:Nat)(a0_0:Int)(a0_1:Int)(a1_0:Int)(a1_1:Int):Option Bool:=G84 (λx=>x) a0_0 a0_1 a1_0 a1_1
theorem e84 (L:Nat)(a0_0:Int)(a0_1:Int)(a1_0:Int)(a1_1:Int):fP prog aTq (bJ L) f84 (a84.enc ((a0_0,a0_1),(a1_0,a1_1)))=(g84 L a0_0 a0_1 a1_0 a1_1).map n84:=by
 refine .trans (b:=G84 n84 a0_0 a0_1 a1_0 a1_1) (by kernel_rfl) ?_;unfold g84 G84
 repeat' first | with_reducible refine dP ?_ ?_ | with_reducible refine dL λ_=>?_ | with_reducible refine dO λ_=>?_ | exact rfl
def w84 (L:Nat)(x:((Int×Int)×(Int×Int))):Option Bool:=g84 L x.1.1 x.1.2 x.2.1 x.2.2
theorem s84 (m:Y84)(hm:∀ (x:((Int×Int)×(Int×Int))) t,m x=some t->∃ L,w84 L x=some t):Sat prog cxT 84 (c84 m):=
 cF bC aX (by rfl) (fn:=f84) rfl a84 n84 aUm m aTq aW aQ (w84) (λL x=>e84 L x.1.1 x.1.2 x.2.1 x.2.2) hm aZe
def aTp (m92:Y92):Env cxT:={ Kc:=cR [(92,c92 m92)],Kw:=cQ [],lv:=λi=>[],xv:=λi=>none }
def G85 {B:Type}(u:Bool->B)(m92:Y92)(a0_0:Int)(a0_1:Int)(a0_2:Int)(a0_3:Int)(a0_4:Int)(a0_5:Int)(a0_6:Int)(a0_7:Int)(a0_8:Int)(a0_9:Int)(a1_0:Int)(a1_1:Int)(a1_2:Int)(a1_3:Int)(a1_4:Int)(a1_5:Int)(a1_6:Int)(a1_7:Int)(a1_8:Int)(a1_9:Int):Option B:=
 bif (a0_0 != a1_0)then some (u false)
 else cU (m92 ((a0_1,(a0_2,(a0_3,(a0_4,(a0_5,(a0_6,(a0_7,(a0_8,a0_9)))))))),(a1_1,(a1_2,(a1_3,(a1_4,(a1_5,(a1_6,(a1_7,(a1_8,a1_9)))))))))) false λ(q1:Bool)=>bif (!q1)then some (u false)
  else some (u true)
def g85 (m92:Y92)(L:Nat)(a0_0:Int)(a0_1:Int)(a0_2:Int)(a0_3:Int)(a0_4:Int)(a0_5:Int)(a0_6:Int)(a0_7:Int)(a0_8:Int)(a0_9:Int)(a1_0:Int)(a1_1:Int)(a1_2:Int)(a1_3:Int)(a1_4:Int)(a1_5:Int)(a1_6:Int)(a1_7:Int)(a1_8:Int)(a1_9:Int):Option Bool:=G85 (λx=>x) m92 a0_0 a0_1 a0_2 a0_3 a0_4 a0_5 a0_6 a0_7 a0_8 a0_9 a1_0 a1_1 a1_2 a1_3 a1_4 a1_5 a1_6 a1_7 a1_8 a1_9
theorem e85 (m92:Y92)(L:Nat)(a0_0:Int)(a0_1:Int)(a0_2:Int)(a0_3:Int)(a0_4:Int)(a0_5:Int)(a0_6:Int)(a0_7:Int)(a0_8:Int)(a0_9:Int)(a1_0:Int)(a1_1:Int)(a1_2:Int)(a1_3:Int)(a1_4:Int)(a1_5:Int)(a1_6:Int)(a1_7:Int)(a1_8:Int)(a1_9:Int):fP prog (aTp m92) (bJ L) f85 (a85.enc ((a0_0,a0_1,a0_2,a0_3,a0_4,a0_5,a0_6,a0_7,a0_8,a0_9),(a1_0,a1_1,a1_2,a1_3,a1_4,a1_5,a1_6,a1_7,a1_8,a1_9)))=(g85 m92 L a0_0 a0_1 a0_2 a0_3 a0_4 a0_5 a0_6 a0_7 a0_8 a0_9 a1_0 a1_1 a1_2 a1_3 a1_4 a1_5 a1_6 a1_7 a1_8 a1_9).map n85:=by
 refine .trans (b:=G85 n85 m92 a0_0 a0_1 a0_2 a0_3 a0_4 a0_5 a0_6 a0_7 a0_8 a0_9 a1_0 a1_1 a1_2 a1_3 a1_4 a1_5 a1_6 a1_7 a1_8 a1_9) (by kernel_rfl) ?_;unfold g85 G85
 repeat' first | with_reducible refine dP ?_ ?_ | with_reducible refine dL λ_=>?_ | with_reducible refine dO λ_=>?_ | exact rfl
def w85 (m92:Y92)(L:Nat)(x:(S10×S10)):Option Bool:=g85 m92 L x.1.1 x.1.2.1 x.1.2.2.1 x.1.2.2.2.1 x.1.2.2.2.2.1 x.1.2.2.2.2.2.1 x.1.2.2.2.2.2.2.1 x.1.2.2.2.2.2.2.2.1 x.1.2.2.2.2.2.2.2.2.1 x.1.2.2.2.2.2.2.2.2.2 x.2.1 x.2.2.1 x.2.2.2.1 x.2.2.2.2.1 x.2.2.2.2.2.1 x.2.2.2.2.2.2.1 x.2.2.2.2.2.2.2.1 x.2.2.2.2.2.2.2.2.1 x.2.2.2.2.2.2.2.2.2.1 x.2.2.2.2.2.2.2.2.2.2
theorem s85 (m92:Y92)(h92:Sat prog cxT 92 (c92 m92))(m:Y85)(hm:∀ (x:(S10×S10)) t,m x=some t->∃ L,w85 m92 L x=some t):Sat prog cxT 85 (c85 m):=
 cF bC aX (by rfl) (fn:=f85) rfl a85 n85 aUl m (aTp m92) (aL h92 aW) aQ (w85 m92) (λL x=>e85 m92 L x.1.1 x.1.2.1 x.1.2.2.1 x.1.2.2.2.1 x.1.2.2.2.2.1 x.1.2.2.2.2.2.1 x.1.2.2.2.2.2.2.1 x.1.2.2.2.2.2.2.2.1 x.1.2.2.2.2.2.2.2.2.1 x.1.2.2.2.2.2.2.2.2.2 x.2.1 x.2.2.1 x.2.2.2.1 x.2.2.2.2.1 x.2.2.2.2.2.1 x.2.2.2.2.2.2.1 x.2.2.2.2.2.2.2.1 x.2.2.2.2.2.2.2.2.1 x.2.2.2.2.2.2.2.2.2.1 x.2.2.2.2.2.2.2.2.2.2) hm aZd
def aBB (mH:Y82):Env cxT:={ Kc:=cR [(82,c82 mH)],Kw:=cQ [],lv:=λi=>if i=0 then[(0,[some 73]),(1,[some 73]),(5,[])]else[],xv:=λi=>if i=0 then some []else none }
def S45_0 (a0:(List N10))(a1:(List N10))(v0_5:Int):St cxT.ty:={ slots:=[(.inl (.inl (ls { own:=0,nm:=0,e:=73,o:=false,xs:=a0 }))),(.inl (.inl (ls { own:=0,nm:=0,e:=73,o:=false,xs:=a1 }))),aJ,aJ,aJ,(.inl (.inl (lv (.int .i64 v0_5))))]++List.replicate 21 aJ,D:=[],F:=[],ctr:=1 }
def X45_0 (a0:(List N10))(a1:(List N10)):St cxT.ty:={ slots:=[]++List.replicate 27 aJ,D:=[],F:=[],ctr:=1 }
def G45 {B:Type}(u:Bool->B)(hh0:Int->Option B)(mH:Y82)(a0:(List N10))(a1:(List N10)):Option B:=
 bif ((Nat.cast (List.length a0):Int) != (Nat.cast (List.length a1):Int))then some (u false)
 else hh0 (0:Int)
def B45_0 {B:Type}(u:Bool->B)(gg:Int->Option B)(kk:Option B)(mH:Y82)(a0:(List N10))(a1:(List N10))(v0_5:Int):Option B:=
 bif (decide (v0_5 < (Nat.cast (List.length a0):Int)))then dX (List.getD a0 v0_5.toNat ((0:Int),((0:Int),((0:Int),((0:Int),(([]:List E9),((0:Int),((0:Int),(([]:List (Int)),(([]:List (Int)),([]:List (Int)))))))))))) λs1_0=>dX (List.getD a1 v0_5.toNat ((0:Int),((0:Int),((0:Int),((0:Int),(([]:List E9),((0:Int),((0:Int),(([]:List (Int)),(([]:List (Int)),([]:List (Int)))))))))))) λs1_1=>bif ((decide ((0:Int)<=v0_5))&&(decide (v0_5 < (Nat.cast (List.length a0):Int))))then bif ((decide ((0:Int)<=v0_5))&&(decide (v0_5 < (Nat.cast (List.length a1):Int))))then cU (mH ((s1_0.1,(s1_0.2.1,(s1_0.2.2.1,(s1_0.2.2.2.1,(s1_0.2.2.2.2.1,(s1_0.2.2.2.2.2.1,(s1_0.2.2.2.2.2.2.1,(s1_0.2.2.2.2.2.2.2.1,(s1_0.2.2.2.2.2.2.2.2.1,s1_0.2.2.2.2.2.2.2.2.2))))))))),(s1_1.1,(s1_1.2.1,(s1_1.2.2.1,(s1_1.2.2.2.1,(s1_1.2.2.2.2.1,(s1_1.2.2.2.2.2.1,(s1_1.2.2.2.2.2.2.1,(s1_1.2.2.2.2.2.2.2.1,(s1_1.2.2.2.2.2.2.2.2.1,s1_1.2.2.2.2.2.2.2.2.2))))))))))) false λ(q4:Bool)=>bif (!q4)then some (u false)
     else gg (wrap .i64 (v0_5+(1:Int)))
   else none
  else none
 else kk
def A45_0 {B:Type}(u:Bool->B)(mH:Y82)(a0:(List N10))(a1:(List N10)):Option B:=
 some (u true)
def aAj (mH:Y82)(L:Nat)(a0:(List N10))(a1:(List N10)):Nat->Int->(Option Bool)->Option Bool
 | 0,_,_=>none
 | n+1,v0_5,k=>B45_0 (λx=>x) (λv0_5=>aAj mH L a0 a1 n v0_5 k) k mH a0 a1 v0_5
theorem aLK (mH:Y82)(L:Nat)(a0:(List N10))(a1:(List N10))(k:St cxT.ty->Option (V cxT.ty))(xk:Nat->St cxT.ty->Option (V cxT.ty))(k':Option Bool)(hk:k (X45_0 a0 a1)=(k').map n45):∀ (n:Nat) (v0_5:Int),bA prog (aBB mH) L f45 0 [1,1,0,1,0,0] (cB (aY prog f45) k xk) n (S45_0 a0 a1 v0_5)=(aAj mH L a0 a1 n v0_5 k').map n45
 | 0,_=>rfl
 | n+1,v0_5=>by
  rw[bQ];have ih:=aLK mH L a0 a1 k xk k' hk n;refine .trans (b:=B45_0 n45 (λv0_5=>(bA prog (aBB mH) L f45 0 [1,1,0,1,0,0] (cB (aY prog f45) k xk) n) (S45_0 a0 a1 v0_5)) (k (X45_0 a0 a1)) mH a0 a1 v0_5) (by kernel_rfl) ?_;unfold aAj B45_0
  repeat' first | with_reducible refine dP ?_ ?_ | with_reducible refine dL λ_=>?_ | with_reducible refine dO λ_=>?_ | with_reducible exact ih _ | with_reducible exact hk | exact rfl
def g45 (mH:Y82)(L:Nat)(a0:(List N10))(a1:(List N10)):Option Bool:=G45 (λx=>x) (λv0_5=>aAj mH L a0 a1 L v0_5 (A45_0 (λx=>x) mH a0 a1)) mH a0 a1
theorem e45 (mH:Y82)(L:Nat)(a0:(List N10))(a1:(List N10)):fP prog (aBB mH) (bJ L) f45 (a45.enc (a0,a1))=(g45 mH L a0 a1).map n45:=by
 have hin0:∀ (v0_5:Int),bA prog (aBB mH) L f45 0 [1,1,0,1,0,0] (cB (aY prog f45) (cA prog (aBB mH) L f45 [1,1,0,1] (aY prog f45)).n (cA prog (aBB mH) L f45 [1,1,0,1] (aY prog f45)).x) L (S45_0 a0 a1 v0_5)=((λv0_5=>aAj mH L a0 a1 L v0_5 (A45_0 (λx=>x) mH a0 a1)) v0_5).map n45:=λv0_5=>aLK mH L a0 a1 _ _ _ (by refine .trans (b:=A45_0 n45 mH a0 a1) (by kernel_rfl) ?_;unfold A45_0;repeat' first | with_reducible refine dP ?_ ?_ | with_reducible refine dL λ_=>?_ | with_reducible refine dO λ_=>?_ | exact rfl) L v0_5
 refine .trans (b:=G45 n45 (λv0_5=>bA prog (aBB mH) L f45 0 [1,1,0,1,0,0] (cB (aY prog f45) (cA prog (aBB mH) L f45 [1,1,0,1] (aY prog f45)).n (cA prog (aBB mH) L f45 [1,1,0,1] (aY prog f45)).x) L (S45_0 a0 a1 v0_5)) mH a0 a1) (by kernel_rfl) ?_;unfold g45 G45
 repeat' first | with_reducible refine dP ?_ ?_ | with_reducible refine dL λ_=>?_ | with_reducible refine dO λ_=>?_ | with_reducible exact hin0 _ | exact rfl
def w45 (mH:Y82)(L:Nat)(x:((List N10)×(List N10))):Option Bool:=g45 mH L x.1 x.2
theorem s45 (mH:Y82)(h82:Sat prog cxT 82 (c82 mH))(m:Y45)(hm:∀ (x:((List N10)×(List N10))) t,m x=some t->∃ L,w45 mH L x=some t):Sat prog cxT 45 (c45 m):=
 cF bC aX (by rfl) (fn:=f45) rfl a45 n45 aUS m (aBB mH) (aL h82 aW) aQ (w45 mH) (λL x=>e45 mH L x.1 x.2) hm aZK
def aBA (mG:Y83):Env cxT:={ Kc:=cR [(83,c83 mG)],Kw:=cQ [],lv:=λi=>if i=0 then[(0,[some 96]),(1,[some 96]),(5,[])]else[],xv:=λi=>if i=0 then some []else none }
def S46_0 (a0:(List M9))(a1:(List M9))(v0_5:Int):St cxT.ty:={ slots:=[(.inl (.inl (ls { own:=0,nm:=0,e:=96,o:=false,xs:=a0 }))),(.inl (.inl (ls { own:=0,nm:=0,e:=96,o:=false,xs:=a1 }))),aJ,aJ,aJ,(.inl (.inl (lv (.int .i64 v0_5))))]++List.replicate 21 aJ,D:=[],F:=[],ctr:=1 }
def X46_0 (a0:(List M9))(a1:(List M9)):St cxT.ty:={ slots:=[]++List.replicate 27 aJ,D:=[],F:=[],ctr:=1 }
def G46 {B:Type}(u:Bool->B)(hh0:Int->Option B)(mG:Y83)(a0:(List M9))(a1:(List M9)):Option B:=
 bif ((Nat.cast (List.length a0):Int) != (Nat.cast (List.length a1):Int))then some (u false)
 else hh0 (0:Int)
def B46_0 {B:Type}(u:Bool->B)(gg:Int->Option B)(kk:Option B)(mG:Y83)(a0:(List M9))(a1:(List M9))(v0_5:Int):Option B:=
 bif (decide (v0_5 < (Nat.cast (List.length a0):Int)))then dX (List.getD a0 v0_5.toNat ((0:Int),((0:Int),((0:Int),((0:Int),((0:Int),((0:Int),((0:Int),(false,[]))))))))) λs1_0=>dX (List.getD a1 v0_5.toNat ((0:Int),((0:Int),((0:Int),((0:Int),((0:Int),((0:Int),((0:Int),(false,[]))))))))) λs1_1=>bif ((decide ((0:Int)<=v0_5))&&(decide (v0_5 < (Nat.cast (List.length a0):Int))))then bif ((decide ((0:Int)<=v0_5))&&(decide (v0_5 < (Nat.cast (List.length a1):Int))))then cU (mG ((s1_0.1,(s1_0.2.1,(s1_0.2.2.1,(s1_0.2.2.2.1,(s1_0.2.2.2.2.1,(s1_0.2.2.2.2.2.1,(s1_0.2.2.2.2.2.2.1,(s1_0.2.2.2.2.2.2.2.1,s1_0.2.2.2.2.2.2.2.2)))))))),(s1_1.1,(s1_1.2.1,(s1_1.2.2.1,(s1_1.2.2.2.1,(s1_1.2.2.2.2.1,(s1_1.2.2.2.2.2.1,(s1_1.2.2.2.2.2.2.1,(s1_1.2.2.2.2.2.2.2.1,s1_1.2.2.2.2.2.2.2.2)))))))))) false λ(q4:Bool)=>bif (!q4)then some (u false)
     else gg (wrap .i64 (v0_5+(1:Int)))
   else none
  else none
 else kk
def A46_0 {B:Type}(u:Bool->B)(mG:Y83)(a0:(List M9))(a1:(List M9)):Option B:=
 some (u true)
def aAi (mG:Y83)(L:Nat)(a0:(List M9))(a1:(List M9)):Nat->Int->(Option Bool)->Option Bool
 | 0,_,_=>none
 | n+1,v0_5,k=>B46_0 (λx=>x) (λv0_5=>aAi mG L a0 a1 n v0_5 k) k mG a0 a1 v0_5
theorem aLJ (mG:Y83)(L:Nat)(a0:(List M9))(a1:(List M9))(k:St cxT.ty->Option (V cxT.ty))(xk:Nat->St cxT.ty->Option (V cxT.ty))(k':Option Bool)(hk:k (X46_0 a0 a1)=(k').map n46):∀ (n:Nat) (v0_5:Int),bA prog (aBA mG) L f46 0 [1,1,0,1,0,0] (cB (aY prog f46) k xk) n (S46_0 a0 a1 v0_5)=(aAi mG L a0 a1 n v0_5 k').map n46
 | 0,_=>rfl
 | n+1,v0_5=>by
  rw[bQ];have ih:=aLJ mG L a0 a1 k xk k' hk n;refine .trans (b:=B46_0 n46 (λv0_5=>(bA prog (aBA mG) L f46 0 [1,1,0,1,0,0] (cB (aY prog f46) k xk) n) (S46_0 a0 a1 v0_5)) (k (X46_0 a0 a1)) mG a0 a1 v0_5) (by kernel_rfl) ?_;unfold aAi B46_0
  repeat' first | with_reducible refine dP ?_ ?_ | with_reducible refine dL λ_=>?_ | with_reducible refine dO λ_=>?_ | with_reducible exact ih _ | with_reducible exact hk | exact rfl
def g46 (mG:Y83)(L:Nat)(a0:(List M9))(a1:(List M9)):Option Bool:=G46 (λx=>x) (λv0_5=>aAi mG L a0 a1 L v0_5 (A46_0 (λx=>x) mG a0 a1)) mG a0 a1
theorem e46 (mG:Y83)(L:Nat)(a0:(List M9))(a1:(List M9)):fP prog (aBA mG) (bJ L) f46 (a46.enc (a0,a1))=(g46 mG L a0 a1).map n46:=by
 have hin0:∀ (v0_5:Int),bA prog (aBA mG) L f46 0 [1,1,0,1,0,0] (cB (aY prog f46) (cA prog (aBA mG) L f46 [1,1,0,1] (aY prog f46)).n (cA prog (aBA mG) L f46 [1,1,0,1] (aY prog f46)).x) L (S46_0 a0 a1 v0_5)=((λv0_5=>aAi mG L a0 a1 L v0_5 (A46_0 (λx=>x) mG a0 a1)) v0_5).map n46:=λv0_5=>aLJ mG L a0 a1 _ _ _ (by refine .trans (b:=A46_0 n46 mG a0 a1) (by kernel_rfl) ?_;unfold A46_0;repeat' first | with_reducible refine dP ?_ ?_ | with_reducible refine dL λ_=>?_ | with_reducible refine dO λ_=>?_ | exact rfl) L v0_5
 refine .trans (b:=G46 n46 (λv0_5=>bA prog (aBA mG) L f46 0 [1,1,0,1,0,0] (cB (aY prog f46) (cA prog (aBA mG) L f46 [1,1,0,1] (aY prog f46)).n (cA prog (aBA mG) L f46 [1,1,0,1] (aY prog f46)).x) L (S46_0 a0 a1 v0_5)) mG a0 a1) (by kernel_rfl) ?_;unfold g46 G46
 repeat' first | with_reducible refine dP ?_ ?_ | with_reducible refine dL λ_=>?_ | with_reducible refine dO λ_=>?_ | with_reducible exact hin0 _ | exact rfl
def w46 (mG:Y83)(L:Nat)(x:((List M9)×(List M9))):Option Bool:=g46 mG L x.1 x.2
theorem s46 (mG:Y83)(h83:Sat prog cxT 83 (c83 mG))(m:Y46)(hm:∀ (x:((List M9)×(List M9))) t,m x=some t->∃ L,w46 mG L x=some t):Sat prog cxT 46 (c46 m):=
 cF bC aX (by rfl) (fn:=f46) rfl a46 n46 aUR m (aBA mG) (aL h83 aW) aQ (w46 mG) (λL x=>e46 mG L x.1 x.2) hm aZJ
def aBz (m84:Y84):Env cxT:={ Kc:=cR [(84,c84 m84)],Kw:=cQ [],lv:=λi=>if i=0 then[(0,[some 64]),(1,[some 64]),(5,[])]else[],xv:=λi=>if i=0 then some []else none }
def S47_0 (a0:(List W2))(a1:(List W2))(v0_5:Int):St cxT.ty:={ slots:=[(.inl (.inl (ls { own:=0,nm:=0,e:=64,o:=false,xs:=a0 }))),(.inl (.inl (ls { own:=0,nm:=0,e:=64,o:=false,xs:=a1 }))),aJ,aJ,aJ,(.inl (.inl (lv (.int .i64 v0_5))))]++List.replicate 21 aJ,D:=[],F:=[],ctr:=1 }
def X47_0 (a0:(List W2))(a1:(List W2)):St cxT.ty:={ slots:=[]++List.replicate 27 aJ,D:=[],F:=[],ctr:=1 }
def G47 {B:Type}(u:Bool->B)(hh0:Int->Option B)(m84:Y84)(a0:(List W2))(a1:(List W2)):Option B:=
 bif ((Nat.cast (List.length a0):Int) != (Nat.cast (List.length a1):Int))then some (u false)
 else hh0 (0:Int)
def B47_0 {B:Type}(u:Bool->B)(gg:Int->Option B)(kk:Option B)(m84:Y84)(a0:(List W2))(a1:(List W2))(v0_5:Int):Option B:=
 bif (decide (v0_5 < (Nat.cast (List.length a0):Int)))then dX (List.getD a0 v0_5.toNat ((0:Int),(0:Int))) λs1_0=>dX (List.getD a1 v0_5.toNat ((0:Int),(0:Int))) λs1_1=>bif ((decide ((0:Int)<=v0_5))&&(decide (v0_5 < (Nat.cast (List.length a0):Int))))then bif ((decide ((0:Int)<=v0_5))&&(decide (v0_5 < (Nat.cast (List.length a1):Int))))then cU (m84 ((s1_0.1,s1_0.2),(s1_1.1,s1_1.2))) false λ(q4:Bool)=>bif (!q4)then some (u false)
     else gg (wrap .i64 (v0_5+(1:Int)))
   else none
  else none
 else kk
def A47_0 {B:Type}(u:Bool->B)(m84:Y84)(a0:(List W2))(a1:(List W2)):Option B:=
 some (u true)
def aAh (m84:Y84)(L:Nat)(a0:(List W2))(a1:(List W2)):Nat->Int->(Option Bool)->Option Bool
 | 0,_,_=>none
 | n+1,v0_5,k=>B47_0 (λx=>x) (λv0_5=>aAh m84 L a0 a1 n v0_5 k) k m84 a0 a1 v0_5
theorem aLI (m84:Y84)(L:Nat)(a0:(List W2))(a1:(List W2))(k:St cxT.ty->Option (V cxT.ty))(xk:Nat->St cxT.ty->Option (V cxT.ty))(k':Option Bool)(hk:k (X47_0 a0 a1)=(k').map n47):∀ (n:Nat) (v0_5:Int),bA prog (aBz m84) L f47 0 [1,1,0,1,0,0] (cB (aY prog f47) k xk) n (S47_0 a0 a1 v0_5)=(aAh m84 L a0 a1 n v0_5 k').map n47
 | 0,_=>rfl
 | n+1,v0_5=>by
  rw[bQ];have ih:=aLI m84 L a0 a1 k xk k' hk n;refine .trans (b:=B47_0 n47 (λv0_5=>(bA prog (aBz m84) L f47 0 [1,1,0,1,0,0] (cB (aY prog f47) k xk) n) (S47_0 a0 a1 v0_5)) (k (X47_0 a0 a1)) m84 a0 a1 v0_5) (by kernel_rfl) ?_;unfold aAh B47_0
  repeat' first | with_reducible refine dP ?_ ?_ | with_reducible refine dL λ_=>?_ | with_reducible refine dO λ_=>?_ | with_reducible exact ih _ | with_reducible exact hk | exact rfl
def g47 (m84:Y84)(L:Nat)(a0:(List W2))(a1:(List W2)):Option Bool:=G47 (λx=>x) (λv0_5=>aAh m84 L a0 a1 L v0_5 (A47_0 (λx=>x) m84 a0 a1)) m84 a0 a1
theorem e47 (m84:Y84)(L:Nat)(a0:(List W2))(a1:(List W2)):fP prog (aBz m84) (bJ L) f47 (a47.enc (a0,a1))=(g47 m84 L a0 a1).map n47:=by
 have hin0:∀ (v0_5:Int),bA prog (aBz m84) L f47 0 [1,1,0,1,0,0] (cB (aY prog f47) (cA prog (aBz m84) L f47 [1,1,0,1] (aY prog f47)).n (cA prog (aBz m84) L f47 [1,1,0,1] (aY prog f47)).x) L (S47_0 a0 a1 v0_5)=((λv0_5=>aAh m84 L a0 a1 L v0_5 (A47_0 (λx=>x) m84 a0 a1)) v0_5).map n47:=λv0_5=>aLI m84 L a0 a1 _ _ _ (by refine .trans (b:=A47_0 n47 m84 a0 a1) (by kernel_rfl) ?_;unfold A47_0;repeat' first | with_reducible refine dP ?_ ?_ | with_reducible refine dL λ_=>?_ | with_reducible refine dO λ_=>?_ | exact rfl) L v0_5
 refine .trans (b:=G47 n47 (λv0_5=>bA prog (aBz m84) L f47 0 [1,1,0,1,0,0] (cB (aY prog f47) (cA prog (aBz m84) L f47 [1,1,0,1] (aY prog f47)).n (cA prog (aBz m84) L f47 [1,1,0,1] (aY prog f47)).x) L (S47_0 a0 a1 v0_5)) m84 a0 a1) (by kernel_rfl) ?_;unfold g47 G47
 repeat' first | with_reducible refine dP ?_ ?_ | with_reducible refine dL λ_=>?_ | with_reducible refine dO λ_=>?_ | with_reducible exact hin0 _ | exact rfl
def w47 (m84:Y84)(L:Nat)(x:((List W2)×(List W2))):Option Bool:=g47 m84 L x.1 x.2
theorem s47 (m84:Y84)(h84:Sat prog cxT 84 (c84 m84))(m:Y47)(hm:∀ (x:((List W2)×(List W2))) t,m x=some t->∃ L,w47 m84 L x=some t):Sat prog cxT 47 (c47 m):=
 cF bC aX (by rfl) (fn:=f47) rfl a47 n47 aUQ m (aBz m84) (aL h84 aW) aQ (w47 m84) (λL x=>e47 m84 L x.1 x.2) hm aZI
def aBy (m85:Y85):Env cxT:={ Kc:=cR [(85,c85 m85)],Kw:=cQ [],lv:=λi=>if i=0 then[(0,[some 104]),(1,[some 104]),(5,[])]else[],xv:=λi=>if i=0 then some []else none }
def S48_0 (a0:(List S10))(a1:(List S10))(v0_5:Int):St cxT.ty:={ slots:=[(.inl (.inl (ls { own:=0,nm:=0,e:=104,o:=false,xs:=a0 }))),(.inl (.inl (ls { own:=0,nm:=0,e:=104,o:=false,xs:=a1 }))),aJ,aJ,aJ,(.inl (.inl (lv (.int .i64 v0_5))))]++List.replicate 21 aJ,D:=[],F:=[],ctr:=1 }
def X48_0 (a0:(List S10))(a1:(List S10)):St cxT.ty:={ slots:=[]++List.replicate 27 aJ,D:=[],F:=[],ctr:=1 }
def G48 {B:Type}(u:Bool->B)(hh0:Int->Option B)(m85:Y85)(a0:(List S10))(a1:(List S10)):Option B:=
 bif ((Nat.cast (List.length a0):Int) != (Nat.cast (List.length a1):Int))then some (u false)
 else hh0 (0:Int)
def B48_0 {B:Type}(u:Bool->B)(gg:Int->Option B)(kk:Option B)(m85:Y85)(a0:(List S10))(a1:(List S10))(v0_5:Int):Option B:=
 bif (decide (v0_5 < (Nat.cast (List.length a0):Int)))then dX (List.getD a0 v0_5.toNat ((0:Int),((0:Int),((0:Int),((0:Int),((0:Int),((0:Int),((0:Int),((0:Int),((0:Int),(0:Int))))))))))) λs1_0=>dX (List.getD a1 v0_5.toNat ((0:Int),((0:Int),((0:Int),((0:Int),((0:Int),((0:Int),((0:Int),((0:Int),((0:Int),(0:Int))))))))))) λs1_1=>bif ((decide ((0:Int)<=v0_5))&&(decide (v0_5 < (Nat.cast (List.length a0):Int))))then bif ((decide ((0:Int)<=v0_5))&&(decide (v0_5 < (Nat.cast (List.length a1):Int))))then cU (m85 ((s1_0.1,(s1_0.2.1,(s1_0.2.2.1,(s1_0.2.2.2.1,(s1_0.2.2.2.2.1,(s1_0.2.2.2.2.2.1,(s1_0.2.2.2.2.2.2.1,(s1_0.2.2.2.2.2.2.2.1,(s1_0.2.2.2.2.2.2.2.2.1,s1_0.2.2.2.2.2.2.2.2.2))))))))),(s1_1.1,(s1_1.2.1,(s1_1.2.2.1,(s1_1.2.2.2.1,(s1_1.2.2.2.2.1,(s1_1.2.2.2.2.2.1,(s1_1.2.2.2.2.2.2.1,(s1_1.2.2.2.2.2.2.2.1,(s1_1.2.2.2.2.2.2.2.2.1,s1_1.2.2.2.2.2.2.2.2.2))))))))))) false λ(q4:Bool)=>bif (!q4)then some (u false)
     else gg (wrap .i64 (v0_5+(1:Int)))
   else none
  else none
 else kk
def A48_0 {B:Type}(u:Bool->B)(m85:Y85)(a0:(List S10))(a1:(List S10)):Option B:=
 some (u true)
def aAg (m85:Y85)(L:Nat)(a0:(List S10))(a1:(List S10)):Nat->Int->(Option Bool)->Option Bool
 | 0,_,_=>none
 | n+1,v0_5,k=>B48_0 (λx=>x) (λv0_5=>aAg m85 L a0 a1 n v0_5 k) k m85 a0 a1 v0_5
theorem aLH (m85:Y85)(L:Nat)(a0:(List S10))(a1:(List S10))(k:St cxT.ty->Option (V cxT.ty))(xk:Nat->St cxT.ty->Option (V cxT.ty))(k':Option Bool)(hk:k (X48_0 a0 a1)=(k').map n48):∀ (n:Nat) (v0_5:Int),bA prog (aBy m85) L f48 0 [1,1,0,1,0,0] (cB (aY prog f48) k xk) n (S48_0 a0 a1 v0_5)=(aAg m85 L a0 a1 n v0_5 k').map n48
 | 0,_=>rfl
 | n+1,v0_5=>by
  rw[bQ];have ih:=aLH m85 L a0 a1 k xk k' hk n;refine .trans (b:=B48_0 n48 (λv0_5=>(bA prog (aBy m85) L f48 0 [1,1,0,1,0,0] (cB (aY prog f48) k xk) n) (S48_0 a0 a1 v0_5)) (k (X48_0 a0 a1)) m85 a0 a1 v0_5) (by kernel_rfl) ?_;unfold aAg B48_0
  repeat' first | with_reducible refine dP ?_ ?_ | with_reducible refine dL λ_=>?_ | with_reducible refine dO λ_=>?_ | with_reducible exact ih _ | with_reducible exact hk | exact rfl
def g48 (m85:Y85)(L:Nat)(a0:(List S10))(a1:(List S10)):Option Bool:=G48 (λx=>x) (λv0_5=>aAg m85 L a0 a1 L v0_5 (A48_0 (λx=>x) m85 a0 a1)) m85 a0 a1
theorem e48 (m85:Y85)(L:Nat)(a0:(List S10))(a1:(List S10)):fP prog (aBy m85) (bJ L) f48 (a48.enc (a0,a1))=(g48 m85 L a0 a1).map n48:=by
 have hin0:∀ (v0_5:Int),bA prog (aBy m85) L f48 0 [1,1,0,1,0,0] (cB (aY prog f48) (cA prog (aBy m85) L f48 [1,1,0,1] (aY prog f48)).n (cA prog (aBy m85) L f48 [1,1,0,1] (aY prog f48)).x) L (S48_0 a0 a1 v0_5)=((λv0_5=>aAg m85 L a0 a1 L v0_5 (A48_0 (λx=>x) m85 a0 a1)) v0_5).map n48:=λv0_5=>aLH m85 L a0 a1 _ _ _ (by refine .trans (b:=A48_0 n48 m85 a0 a1) (by kernel_rfl) ?_;unfold A48_0;repeat' first | with_reducible refine dP ?_ ?_ | with_reducible refine dL λ_=>?_ | with_reducible refine dO λ_=>?_ | exact rfl) L v0_5
 refine .trans (b:=G48 n48 (λv0_5=>bA prog (aBy m85) L f48 0 [1,1,0,1,0,0] (cB (aY prog f48) (cA prog (aBy m85) L f48 [1,1,0,1] (aY prog f48)).n (cA prog (aBy m85) L f48 [1,1,0,1] (aY prog f48)).x) L (S48_0 a0 a1 v0_5)) m85 a0 a1) (by kernel_rfl) ?_;unfold g48 G48
 repeat' first | with_reducible refine dP ?_ ?_ | with_reducible refine dL λ_=>?_ | with_reducible refine dO λ_=>?_ | with_reducible exact hin0 _ | exact rfl
def w48 (m85:Y85)(L:Nat)(x:((List S10)×(List S10))):Option Bool:=g48 m85 L x.1 x.2
theorem s48 (m85:Y85)(h85:Sat prog cxT 85 (c85 m85))(m:Y48)(hm:∀ (x:((List S10)×(List S10))) t,m x=some t->∃ L,w48 m85 L x=some t):Sat prog cxT 48 (c48 m):=
 cF bC aX (by rfl) (fn:=f48) rfl a48 n48 aUP m (aBy m85) (aL h85 aW) aQ (w48 m85) (λL x=>e48 m85 L x.1 x.2) hm aZH
def aTP (yK:Y45)(yJ:Y46)(yI:Y47)(yH:Y48):Env cxT:={ Kc:=cR [(45,c45 yK),(46,c46 yJ),(47,c47 yI),(48,c48 yH)],Kw:=cQ [],lv:=λi=>[],xv:=λi=>none }
def G14 {B:Type}(u:Bool->B)(yK:Y45)(yJ:Y46)(yI:Y47)(yH:Y48)(a0_0:(List N10))(a0_1:(List M9))(a0_2:(List W2))(a0_3:(List S10))(a1_0:(List N10))(a1_1:(List M9))(a1_2:(List W2))(a1_3:(List S10)):Option B:=
 cU (yK (a0_0,a1_0)) false λ(q1:Bool)=>bif (!q1)then some (u false)
  else cU (yJ (a0_1,a1_1)) false λ(q2:Bool)=>bif (!q2)then some (u false)
   else cU (yI (a0_2,a1_2)) false λ(q3:Bool)=>bif (!q3)then some (u false)
    else cU (yH (a0_3,a1_3)) false λ(q4:Bool)=>bif (!q4)then some (u false)
     else some (u true)
def g14 (yK:Y45)(yJ:Y46)(yI:Y47)(yH:Y48)(L:Nat)(a0_0:(List N10))(a0_1:(List M9))(a0_2:(List W2))(a0_3:(List S10))(a1_0:(List N10))(a1_1:(List M9))(a1_2:(List W2))(a1_3:(List S10)):Option Bool:=G14 (λx=>x) yK yJ yI yH a0_0 a0_1 a0_2 a0_3 a1_0 a1_1 a1_2 a1_3
theorem e14 (yK:Y45)(yJ:Y46)(yI:Y47)(yH:Y48)(L:Nat)(a0_0:(List N10))(a0_1:(List M9))(a0_2:(List W2))(a0_3:(List S10))(a1_0:(List N10))(a1_1:(List M9))(a1_2:(List W2))(a1_3:(List S10)):fP prog (aTP yK yJ yI yH) (bJ L) f14 (a14.enc ((a0_0,a0_1,a0_2,a0_3),(a1_0,a1_1,a1_2,a1_3)))=(g14 yK yJ yI yH L a0_0 a0_1 a0_2 a0_3 a1_0 a1_1 a1_2 a1_3).map n14:=by
 refine .trans (b:=G14 n14 yK yJ yI yH a0_0 a0_1 a0_2 a0_3 a1_0 a1_1 a1_2 a1_3) (by kernel_rfl) ?_;unfold g14 G14
 repeat' first | with_reducible refine dP ?_ ?_ | with_reducible refine dL λ_=>?_ | with_reducible refine dO λ_=>?_ | exact rfl
def w14 (yK:Y45)(yJ:Y46)(yI:Y47)(yH:Y48)(L:Nat)(x:(C4×C4)):Option Bool:=g14 yK yJ yI yH L x.1.1 x.1.2.1 x.1.2.2.1 x.1.2.2.2 x.2.1 x.2.2.1 x.2.2.2.1 x.2.2.2.2
theorem s14 (yK:Y45)(yJ:Y46)(yI:Y47)(yH:Y48)(h45:Sat prog cxT 45 (c45 yK))(h46:Sat prog cxT 46 (c46 yJ))(h47:Sat prog cxT 47 (c47 yI))(h48:Sat prog cxT 48 (c48 yH))(m:Y14)(hm:∀ (x:(C4×C4)) t,m x=some t->∃ L,w14 yK yJ yI yH L x=some t):Sat prog cxT 14 (c14 m):=
 cF bC aX (by rfl) (fn:=f14) rfl a14 n14 aVa m (aTP yK yJ yI yH) (aL h45 (aL h46 (aL h47 (aL h48 aW)))) aQ (w14 yK yJ yI yH) (λL x=>e14 yK yJ yI yH L x.1.1 x.1.2.1 x.1.2.2.1 x.1.2.2.2 x.2.1 x.2.2.1 x.2.2.2.1 x.2.2.2.2) hm aZ3
end Go.Proofs.Tryz
set_option maxHeartbeats 0
set_option maxRecDepth 100000
namespace Go.Proofs.Tryz
open Go.IntKind (wrap)
open Go Go.VM Go.RowKit
def aBq:Env cxT:={ Kc:=cR [],Kw:=cQ [],lv:=λi=>if i=0 then[(0,[some 102]),(1,[]),(5,[])]else[],xv:=λi=>if i=0 then some [(0,[some 102]),(1,[])]else none }
def S63_0 (a0:(List E9))(a1:Int)(v0_0:(List E9))(v0_1:Int)(v0_5:Int):St cxT.ty:={ slots:=[(.inl (.inl (ls { own:=1,nm:=0,e:=102,o:=true,xs:=v0_0 }))),(.inl (.inl (lv (.int .i64 v0_1)))),aJ,aJ,aJ,(.inl (.inl (lv (.int .i64 v0_5))))]++List.replicate 76 aJ,D:=[],F:=[],ctr:=1,lo:=1 }
def X63_0 (a0:(List E9))(a1:Int)(w0_0:(List E9))(w0_1:Int):St cxT.ty:={ slots:=[(.inl (.inl (ls { own:=1,nm:=0,e:=102,o:=true,xs:=w0_0 }))),(.inl (.inl (lv (.int .i64 w0_1))))]++List.replicate 80 aJ,D:=[],F:=[],ctr:=1,lo:=1 }
def G63 {B:Type}(u:(Int×(List E9))->B)(hh0:(List E9)->Int->Int->Option B)(a0:(List E9))(a1:Int):Option B:=
 hh0 a0 a1 (0:Int)
def B63_0 {B:Type}(u:(Int×(List E9))->B)(gg:(List E9)->Int->Int->Option B)(kk:(List E9)->Int->Option B)(a0:(List E9))(a1:Int)(v0_0:(List E9))(v0_1:Int)(v0_5:Int):Option B:=
 bif (decide (v0_5 < (Nat.cast (List.length v0_0):Int)))then dX (List.modify v0_0 v0_5.toNat (λy=>(v0_1,(y.2.1,(y.2.2.1,(y.2.2.2.1,(y.2.2.2.2.1,(y.2.2.2.2.2.1,(y.2.2.2.2.2.2.1,(y.2.2.2.2.2.2.2.1,y.2.2.2.2.2.2.2.2)))))))))) λs1_0=>dX (List.modify s1_0 v0_5.toNat (λy=>(y.1,((wrap .i64 (v0_1+(1:Int))),(y.2.2.1,(y.2.2.2.1,(y.2.2.2.2.1,(y.2.2.2.2.2.1,(y.2.2.2.2.2.2.1,(y.2.2.2.2.2.2.2.1,y.2.2.2.2.2.2.2.2)))))))))) λs1_1=>dX (List.modify s1_1 v0_5.toNat (λy=>(y.1,(y.2.1,((wrap .i64 ((wrap .i64 (v0_1+(1:Int)))+(1:Int))),(y.2.2.2.1,(y.2.2.2.2.1,(y.2.2.2.2.2.1,(y.2.2.2.2.2.2.1,(y.2.2.2.2.2.2.2.1,y.2.2.2.2.2.2.2.2)))))))))) λs1_2=>dX (List.modify s1_2 v0_5.toNat (λy=>(y.1,(y.2.1,(y.2.2.1,((wrap .i64 ((wrap .i64 ((wrap .i64 (v0_1+(1:Int)))+(1:Int)))+(1:Int))),(y.2.2.2.2.1,(y.2.2.2.2.2.1,(y.2.2.2.2.2.2.1,(y.2.2.2.2.2.2.2.1,y.2.2.2.2.2.2.2.2)))))))))) λs1_3=>dX (List.modify s1_3 v0_5.toNat (λy=>(y.1,(y.2.1,(y.2.2.1,(y.2.2.2.1,((wrap .i64 ((wrap .i64 ((wrap .i64 ((wrap .i64 (v0_1+(1:Int)))+(1:Int)))+(1:Int)))+(1:Int))),(y.2.2.2.2.2.1,(y.2.2.2.2.2.2.1,(y.2.2.2.2.2.2.2.1,y.2.2.2.2.2.2.2.2)))))))))) λs1_4=>dX (List.modify s1_4 v0_5.toNat (λy=>(y.1,(y.2.1,(y.2.2.1,(y.2.2.2.1,(y.2.2.2.2.1,((wrap .i64 ((wrap .i64 ((wrap .i64 ((wrap .i64 ((wrap .i64 (v0_1+(1:Int)))+(1:Int)))+(1:Int)))+(1:Int)))+(1:Int))),(y.2.2.2.2.2.2.1,(y.2.2.2.2.2.2.2.1,y.2.2.2.2.2.2.2.2)))))))))) λs1_5=>dX (List.modify s1_5 v0_5.toNat (λy=>(y.1,(y.2.1,(y.2.2.1,(y.2.2.2.1,(y.2.2.2.2.1,(y.2.2.2.2.2.1,((wrap .i64 ((wrap .i64 ((wrap .i64 ((wrap .i64 ((wrap .i64 ((wrap .i64 (v0_1+(1:Int)))+(1:Int)))+(1:Int)))+(1:Int)))+(1:Int)))+(1:Int))),(y.2.2.2.2.2.2.2.1,y.2.2.2.2.2.2.2.2)))))))))) λs1_6=>bif ((decide ((0:Int)<=v0_5))&&(decide (v0_5 < (Nat.cast (List.length v0_0):Int))))then bif ((decide ((0:Int)<=v0_5))&&(decide (v0_5 < (Nat.cast (List.length s1_0):Int))))then bif ((decide ((0:Int)<=v0_5))&&(decide (v0_5 < (Nat.cast (List.length s1_1):Int))))then bif ((decide ((0:Int)<=v0_5))&&(decide (v0_5 < (Nat.cast (List.length s1_2):Int))))then bif ((decide ((0:Int)<=v0_5))&&(decide (v0_5 < (Nat.cast (List.length s1_3):Int))))then bif ((decide ((0:Int)<=v0_5))&&(decide (v0_5 < (Nat.cast (List.length s1_4):Int))))then bif ((decide ((0:Int)<=v0_5))&&(decide (v0_5 < (Nat.cast (List.length s1_5):Int))))then bif ((decide ((0:Int)<=v0_5))&&(decide (v0_5 < (Nat.cast (List.length s1_6):Int))))then bif ((decide ((0:Int)<=v0_5))&&(decide (v0_5 < (Nat.cast (List.length (List.modify s1_6 v0_5.toNat (λy=>(y.1,(y.2.1,(y.2.2.1,(y.2.2.2.1,(y.2.2.2.2.1,(y.2.2.2.2.2.1,(y.2.2.2.2.2.2.1,((wrap .i64 ((wrap .i64 ((wrap .i64 ((wrap .i64 ((wrap .i64 ((wrap .i64 ((wrap .i64 (v0_1+(1:Int)))+(1:Int)))+(1:Int)))+(1:Int)))+(1:Int)))+(1:Int)))+(1:Int))),y.2.2.2.2.2.2.2.2))))))))))):Int))))then gg (List.modify (List.modify s1_6 v0_5.toNat (λy=>(y.1,(y.2.1,(y.2.2.1,(y.2.2.2.1,(y.2.2.2.2.1,(y.2.2.2.2.2.1,(y.2.2.2.2.2.2.1,((wrap .i64 ((wrap .i64 ((wrap .i64 ((wrap .i64 ((wrap .i64 ((wrap .i64 ((wrap .i64 (v0_1+(1:Int)))+(1:Int)))+(1:Int)))+(1:Int)))+(1:Int)))+(1:Int)))+(1:Int))),y.2.2.2.2.2.2.2.2)))))))))) v0_5.toNat (λy=>(y.1,(y.2.1,(y.2.2.1,(y.2.2.2.1,(y.2.2.2.2.1,(y.2.2.2.2.2.1,(y.2.2.2.2.2.2.1,(y.2.2.2.2.2.2.2.1,(wrap .i64 ((wrap .i64 ((wrap .i64 ((wrap .i64 ((wrap .i64 ((wrap .i64 ((wrap .i64 ((wrap .i64 (v0_1+(1:Int)))+(1:Int)))+(1:Int)))+(1:Int)))+(1:Int)))+(1:Int)))+(1:Int)))+(1:Int))))))))))))) (wrap .i64 ((wrap .i64 ((wrap .i64 ((wrap .i64 ((wrap .i64 ((wrap .i64 ((wrap .i64 ((wrap .i64 ((wrap .i64 (v0_1+(1:Int)))+(1:Int)))+(1:Int)))+(1:Int)))+(1:Int)))+(1:Int)))+(1:Int)))+(1:Int)))+(1:Int))) (wrap .i64 (v0_5+(1:Int)))
          else none
         else none
        else none
       else none
      else none
     else none
    else none
   else none
  else none
 else kk v0_0 v0_1
def A63_0 {B:Type}(u:(Int×(List E9))->B)(a0:(List E9))(a1:Int)(w0_0:(List E9))(w0_1:Int):Option B:=
 some (u (w0_1,w0_0))
def qM (L:Nat)(a0:(List E9))(a1:Int):Nat->(List E9)->Int->Int->((List E9)->Int->Option (Int×(List E9)))->Option (Int×(List E9))
 | 0,_,_,_,_=>none
 | n+1,v0_0,v0_1,v0_5,k=>B63_0 (λx=>x) (λv0_0 v0_1 v0_5=>qM L a0 a1 n v0_0 v0_1 v0_5 k) k a0 a1 v0_0 v0_1 v0_5
theorem aLz (L:Nat)(a0:(List E9))(a1:Int)(k:St cxT.ty->Option (List (A cxT.ty)))(xk:Nat->St cxT.ty->Option (List (A cxT.ty)))(k':(List E9)->Int->Option (Int×(List E9)))(hk:∀ (w0_0:(List E9)) (w0_1:Int),k (X63_0 a0 a1 w0_0 w0_1)=(k' w0_0 w0_1).map n63):∀ (n:Nat) (v0_0:(List E9)) (v0_1:Int) (v0_5:Int),bA prog aBq L f63 0 [1,0,1,0,0] (cB (fY prog f63 1) k xk) n (S63_0 a0 a1 v0_0 v0_1 v0_5)=(qM L a0 a1 n v0_0 v0_1 v0_5 k').map n63
 | 0,_,_,_=>rfl
 | n+1,v0_0,v0_1,v0_5=>by
  rw[bQ];have ih:=aLz L a0 a1 k xk k' hk n;refine .trans (b:=B63_0 n63 (λv0_0 v0_1 v0_5=>(bA prog aBq L f63 0 [1,0,1,0,0] (cB (fY prog f63 1) k xk) n) (S63_0 a0 a1 v0_0 v0_1 v0_5)) (λw0_0 w0_1=>k (X63_0 a0 a1 w0_0 w0_1)) a0 a1 v0_0 v0_1 v0_5) (by kernel_rfl) ?_;unfold qM B63_0
  repeat' first | with_reducible refine dP ?_ ?_ | with_reducible refine dL λ_=>?_ | with_reducible refine dO λ_=>?_ | with_reducible exact ih _ _ _ | with_reducible exact hk _ _ | exact rfl
def g63 (L:Nat)(a0:(List E9))(a1:Int):Option (Int×(List E9)):=G63 (λx=>x) (λv0_0 v0_1 v0_5=>qM L a0 a1 L v0_0 v0_1 v0_5 (λw0_0 w0_1=>A63_0 (λx=>x) a0 a1 w0_0 w0_1)) a0 a1
theorem e63 (L:Nat)(a0:(List E9))(a1:Int):aAI prog aBq (bJ L) f63 1 (a63.enc (a0,a1))=(g63 L a0 a1).map n63:=by
 have hin0:∀ (v0_0:(List E9)) (v0_1:Int) (v0_5:Int),bA prog aBq L f63 0 [1,0,1,0,0] (cB (fY prog f63 1) (cA prog aBq L f63 [1,0,1] (fY prog f63 1)).n (cA prog aBq L f63 [1,0,1] (fY prog f63 1)).x) L (S63_0 a0 a1 v0_0 v0_1 v0_5)=((λv0_0 v0_1 v0_5=>qM L a0 a1 L v0_0 v0_1 v0_5 (λw0_0 w0_1=>A63_0 (λx=>x) a0 a1 w0_0 w0_1)) v0_0 v0_1 v0_5).map n63:=λv0_0 v0_1 v0_5=>aLz L a0 a1 _ _ _ (λw0_0 w0_1=>by refine .trans (b:=A63_0 n63 a0 a1 w0_0 w0_1) (by kernel_rfl) ?_;unfold A63_0;repeat' first | with_reducible refine dP ?_ ?_ | with_reducible refine dL λ_=>?_ | with_reducible refine dO λ_=>?_ | exact rfl) L v0_0 v0_1 v0_5
 refine .trans (b:=G63 n63 (λv0_0 v0_1 v0_5=>bA prog aBq L f63 0 [1,0,1,0,0] (cB (fY prog f63 1) (cA prog aBq L f63 [1,0,1] (fY prog f63 1)).n (cA prog aBq L f63 [1,0,1] (fY prog f63 1)).x) L (S63_0 a0 a1 v0_0 v0_1 v0_5)) a0 a1) (by kernel_rfl) ?_;unfold g63 G63
 repeat' first | with_reducible refine dP ?_ ?_ | with_reducible refine dL λ_=>?_ | with_reducible refine dO λ_=>?_ | with_reducible exact hin0 _ _ _ | exact rfl
def w63 (L:Nat)(x:((List E9)×Int)):Option (Int×(List E9)):=g63 L x.1 x.2
theorem s63 (m:Y63)(hm:∀ (x:((List E9)×Int)) t,m x=some t->∃ L,w63 L x=some t):SatW prog cxT 63 (c63 m).nres (c63 m).n (c63 m).F:=
 wS bC aX (by rfl) (fn:=f63) rfl rfl a63 n63 aUH m aBq aW aQ (w63) (λL x=>e63 L x.1 x.2) hm aZz
def aBk:Env cxT:={ Kc:=cR [],Kw:=cQ [],lv:=λi=>if i=0 then[(0,[some 2]),(1,[]),(5,[])]else[],xv:=λi=>if i=0 then some [(0,[some 2]),(1,[])]else none }
def S93_0 (a0:(List Int))(a1:Int)(v0_0:(List Int))(v0_1:Int)(v0_5:Int):St cxT.ty:={ slots:=[(.inl (.inl (ls { own:=1,nm:=0,e:=2,o:=true,xs:=v0_0 }))),(.inl (.inl (lv (.int .i64 v0_1)))),aJ,aJ,aJ,(.inl (.inl (lv (.int .i64 v0_5))))]++List.replicate 13 aJ,D:=[],F:=[],ctr:=1,lo:=1 }
def X93_0 (a0:(List Int))(a1:Int)(w0_0:(List Int))(w0_1:Int):St cxT.ty:={ slots:=[(.inl (.inl (ls { own:=1,nm:=0,e:=2,o:=true,xs:=w0_0 }))),(.inl (.inl (lv (.int .i64 w0_1))))]++List.replicate 17 aJ,D:=[],F:=[],ctr:=1,lo:=1 }
def G93 {B:Type}(u:(Int×(List Int))->B)(hh0:(List Int)->Int->Int->Option B)(a0:(List Int))(a1:Int):Option B:=
 hh0 a0 a1 (0:Int)
def B93_0 {B:Type}(u:(Int×(List Int))->B)(gg:(List Int)->Int->Int->Option B)(kk:(List Int)->Int->Option B)(a0:(List Int))(a1:Int)(v0_0:(List Int))(v0_1:Int)(v0_5:Int):Option B:=
 bif (decide (v0_5 < (Nat.cast (List.length v0_0):Int)))then bif ((decide ((0:Int)<=v0_5))&&(decide (v0_5 < (Nat.cast (List.length v0_0):Int))))then gg (List.set v0_0 v0_5.toNat v0_1) (wrap .i64 (v0_1+(1:Int))) (wrap .i64 (v0_5+(1:Int)))
  else none
 else kk v0_0 v0_1
def A93_0 {B:Type}(u:(Int×(List Int))->B)(a0:(List Int))(a1:Int)(w0_0:(List Int))(w0_1:Int):Option B:=
 some (u (w0_1,w0_0))
def qJ (L:Nat)(a0:(List Int))(a1:Int):Nat->(List Int)->Int->Int->((List Int)->Int->Option (Int×(List Int)))->Option (Int×(List Int))
 | 0,_,_,_,_=>none
 | n+1,v0_0,v0_1,v0_5,k=>B93_0 (λx=>x) (λv0_0 v0_1 v0_5=>qJ L a0 a1 n v0_0 v0_1 v0_5 k) k a0 a1 v0_0 v0_1 v0_5
theorem aLt (L:Nat)(a0:(List Int))(a1:Int)(k:St cxT.ty->Option (List (A cxT.ty)))(xk:Nat->St cxT.ty->Option (List (A cxT.ty)))(k':(List Int)->Int->Option (Int×(List Int)))(hk:∀ (w0_0:(List Int)) (w0_1:Int),k (X93_0 a0 a1 w0_0 w0_1)=(k' w0_0 w0_1).map n93):∀ (n:Nat) (v0_0:(List Int)) (v0_1:Int) (v0_5:Int),bA prog aBk L f93 0 [1,0,1,0,0] (cB (fY prog f93 1) k xk) n (S93_0 a0 a1 v0_0 v0_1 v0_5)=(qJ L a0 a1 n v0_0 v0_1 v0_5 k').map n93
 | 0,_,_,_=>rfl
 | n+1,v0_0,v0_1,v0_5=>by
  rw[bQ];have ih:=aLt L a0 a1 k xk k' hk n;refine .trans (b:=B93_0 n93 (λv0_0 v0_1 v0_5=>(bA prog aBk L f93 0 [1,0,1,0,0] (cB (fY prog f93 1) k xk) n) (S93_0 a0 a1 v0_0 v0_1 v0_5)) (λw0_0 w0_1=>k (X93_0 a0 a1 w0_0 w0_1)) a0 a1 v0_0 v0_1 v0_5) (by kernel_rfl) ?_;unfold qJ B93_0
  repeat' first | with_reducible refine dP ?_ ?_ | with_reducible refine dL λ_=>?_ | with_reducible refine dO λ_=>?_ | with_reducible exact ih _ _ _ | with_reducible exact hk _ _ | exact rfl
def g93 (L:Nat)(a0:(List Int))(a1:Int):Option (Int×(List Int)):=G93 (λx=>x) (λv0_0 v0_1 v0_5=>qJ L a0 a1 L v0_0 v0_1 v0_5 (λw0_0 w0_1=>A93_0 (λx=>x) a0 a1 w0_0 w0_1)) a0 a1
theorem e93 (L:Nat)(a0:(List Int))(a1:Int):aAI prog aBk (bJ L) f93 1 (a93.enc (a0,a1))=(g93 L a0 a1).map n93:=by
 have hin0:∀ (v0_0:(List Int)) (v0_1:Int) (v0_5:Int),bA prog aBk L f93 0 [1,0,1,0,0] (cB (fY prog f93 1) (cA prog aBk L f93 [1,0,1] (fY prog f93 1)).n (cA prog aBk L f93 [1,0,1] (fY prog f93 1)).x) L (S93_0 a0 a1 v0_0 v0_1 v0_5)=((λv0_0 v0_1 v0_5=>qJ L a0 a1 L v0_0 v0_1 v0_5 (λw0_0 w0_1=>A93_0 (λx=>x) a0 a1 w0_0 w0_1)) v0_0 v0_1 v0_5).map n93:=λv0_0 v0_1 v0_5=>aLt L a0 a1 _ _ _ (λw0_0 w0_1=>by refine .trans (b:=A93_0 n93 a0 a1 w0_0 w0_1) (by kernel_rfl) ?_;unfold A93_0;repeat' first | with_reducible refine dP ?_ ?_ | with_reducible refine dL λ_=>?_ | with_reducible refine dO λ_=>?_ | exact rfl) L v0_0 v0_1 v0_5
 refine .trans (b:=G93 n93 (λv0_0 v0_1 v0_5=>bA prog aBk L f93 0 [1,0,1,0,0] (cB (fY prog f93 1) (cA prog aBk L f93 [1,0,1] (fY prog f93 1)).n (cA prog aBk L f93 [1,0,1] (fY prog f93 1)).x) L (S93_0 a0 a1 v0_0 v0_1 v0_5)) a0 a1) (by kernel_rfl) ?_;unfold g93 G93
 repeat' first | with_reducible refine dP ?_ ?_ | with_reducible refine dL λ_=>?_ | with_reducible refine dO λ_=>?_ | with_reducible exact hin0 _ _ _ | exact rfl
def w93 (L:Nat)(x:((List Int)×Int)):Option (Int×(List Int)):=g93 L x.1 x.2
theorem s93 (m:Y93)(hm:∀ (x:((List Int)×Int)) t,m x=some t->∃ L,w93 L x=some t):SatW prog cxT 93 (c93 m).nres (c93 m).n (c93 m).F:=
 wS bC aX (by rfl) (fn:=f93) rfl rfl a93 n93 aUh m aBk aW aQ (w93) (λL x=>e93 L x.1 x.2) hm aY9
def aBu (eT:Y63)(kD:Y93):Env cxT:={ Kc:=cR [],Kw:=cQ [(63,{ c63 eT with p:=5 }),(93,{ c93 kD with p:=5 })],lv:=λi=>if i=0 then[(0,[some 73]),(1,[]),(5,[])]else[],xv:=λi=>if i=0 then some [(0,[some 73]),(1,[])]else none }
def S59_0 (a0:(List N10))(a1:Int)(v0_0:(List N10))(v0_1:Int)(v0_5:Int):St cxT.ty:={ slots:=[(.inl (.inl (ls { own:=1,nm:=0,e:=73,o:=true,xs:=v0_0 }))),(.inl (.inl (lv (.int .i64 v0_1)))),aJ,aJ,aJ,(.inl (.inl (lv (.int .i64 v0_5))))]++List.replicate 77 aJ,D:=[],F:=[],ctr:=1,lo:=1 }
def X59_0 (a0:(List N10))(a1:Int)(w0_0:(List N10))(w0_1:Int):St cxT.ty:={ slots:=[(.inl (.inl (ls { own:=1,nm:=0,e:=73,o:=true,xs:=w0_0 }))),(.inl (.inl (lv (.int .i64 w0_1))))]++List.replicate 81 aJ,D:=[],F:=[],ctr:=1,lo:=1 }
def G59 {B:Type}(u:(Int×(List N10))->B)(hh0:(List N10)->Int->Int->Option B)(eT:Y63)(kD:Y93)(a0:(List N10))(a1:Int):Option B:=
 hh0 a0 a1 (0:Int)
def B59_0 {B:Type}(u:(Int×(List N10))->B)(gg:(List N10)->Int->Int->Option B)(kk:(List N10)->Int->Option B)(eT:Y63)(kD:Y93)(a0:(List N10))(a1:Int)(v0_0:(List N10))(v0_1:Int)(v0_5:Int):Option B:=
 bif (decide (v0_5 < (Nat.cast (List.length v0_0):Int)))then dX (List.modify v0_0 v0_5.toNat (λy=>(v0_1,(y.2.1,(y.2.2.1,(y.2.2.2.1,(y.2.2.2.2.1,(y.2.2.2.2.2.1,(y.2.2.2.2.2.2.1,(y.2.2.2.2.2.2.2.1,(y.2.2.2.2.2.2.2.2.1,y.2.2.2.2.2.2.2.2.2))))))))))) λs1_0=>dX (List.modify s1_0 v0_5.toNat (λy=>(y.1,((wrap .i64 (v0_1+(1:Int))),(y.2.2.1,(y.2.2.2.1,(y.2.2.2.2.1,(y.2.2.2.2.2.1,(y.2.2.2.2.2.2.1,(y.2.2.2.2.2.2.2.1,(y.2.2.2.2.2.2.2.2.1,y.2.2.2.2.2.2.2.2.2))))))))))) λs1_1=>dX (List.modify s1_1 v0_5.toNat (λy=>(y.1,(y.2.1,((wrap .i64 ((wrap .i64 (v0_1+(1:Int)))+(1:Int))),(y.2.2.2.1,(y.2.2.2.2.1,(y.2.2.2.2.2.1,(y.2.2.2.2.2.2.1,(y.2.2.2.2.2.2.2.1,(y.2.2.2.2.2.2.2.2.1,y.2.2.2.2.2.2.2.2.2))))))))))) λs1_2=>dX (List.modify s1_2 v0_5.toNat (λy=>(y.1,(y.2.1,(y.2.2.1,((wrap .i64 ((wrap .i64 ((wrap .i64 (v0_1+(1:Int)))+(1:Int)))+(1:Int))),(y.2.2.2.2.1,(y.2.2.2.2.2.1,(y.2.2.2.2.2.2.1,(y.2.2.2.2.2.2.2.1,(y.2.2.2.2.2.2.2.2.1,y.2.2.2.2.2.2.2.2.2))))))))))) λs1_3=>dX (List.getD s1_3 v0_5.toNat ((0:Int),((0:Int),((0:Int),((0:Int),(([]:List E9),((0:Int),((0:Int),(([]:List (Int)),(([]:List (Int)),([]:List (Int)))))))))))) λs1_4=>bif ((decide ((0:Int)<=v0_5))&&(decide (v0_5 < (Nat.cast (List.length v0_0):Int))))then bif ((decide ((0:Int)<=v0_5))&&(decide (v0_5 < (Nat.cast (List.length s1_0):Int))))then bif ((decide ((0:Int)<=v0_5))&&(decide (v0_5 < (Nat.cast (List.length s1_1):Int))))then bif ((decide ((0:Int)<=v0_5))&&(decide (v0_5 < (Nat.cast (List.length s1_2):Int))))then bif ((decide ((0:Int)<=v0_5))&&(decide (v0_5 < (Nat.cast (List.length s1_3):Int))))then cU (eT (s1_4.2.2.2.2.1,(wrap .i64 ((wrap .i64 ((wrap .i64 ((wrap .i64 (v0_1+(1:Int)))+(1:Int)))+(1:Int)))+(1:Int))))) ((0:Int),[]) λ(q7:(Int×(List E9)))=>bif ((decide ((0:Int)<=v0_5))&&(decide (v0_5 < (Nat.cast (List.length (List.modify s1_3 v0_5.toNat (λy=>(y.1,(y.2.1,(y.2.2.1,(y.2.2.2.1,(q7.2,(y.2.2.2.2.2.1,(y.2.2.2.2.2.2.1,(y.2.2.2.2.2.2.2.1,(y.2.2.2.2.2.2.2.2.1,y.2.2.2.2.2.2.2.2.2)))))))))))):Int))))then dX (List.modify s1_3 v0_5.toNat (λy=>(y.1,(y.2.1,(y.2.2.1,(y.2.2.2.1,(q7.2,(y.2.2.2.2.2.1,(y.2.2.2.2.2.2.1,(y.2.2.2.2.2.2.2.1,(y.2.2.2.2.2.2.2.2.1,y.2.2.2.2.2.2.2.2.2))))))))))) λs8_0=>dX (List.modify s8_0 v0_5.toNat (λy=>(y.1,(y.2.1,(y.2.2.1,(y.2.2.2.1,(y.2.2.2.2.1,(q7.1,(y.2.2.2.2.2.2.1,(y.2.2.2.2.2.2.2.1,(y.2.2.2.2.2.2.2.2.1,y.2.2.2.2.2.2.2.2.2))))))))))) λs8_1=>dX (List.modify s8_1 v0_5.toNat (λy=>(y.1,(y.2.1,(y.2.2.1,(y.2.2.2.1,(y.2.2.2.2.1,(y.2.2.2.2.2.1,((wrap .i64 (q7.1+(1:Int))),(y.2.2.2.2.2.2.2.1,(y.2.2.2.2.2.2.2.2.1,y.2.2.2.2.2.2.2.2.2))))))))))) λs8_2=>dX (List.getD s8_2 v0_5.toNat ((0:Int),((0:Int),((0:Int),((0:Int),(([]:List E9),((0:Int),((0:Int),(([]:List (Int)),(([]:List (Int)),([]:List (Int)))))))))))) λs8_3=>bif ((decide ((0:Int)<=v0_5))&&(decide (v0_5 < (Nat.cast (List.length s8_1):Int))))then bif ((decide ((0:Int)<=v0_5))&&(decide (v0_5 < (Nat.cast (List.length s8_2):Int))))then cU (kD (s8_3.2.2.2.2.2.2.2.1,(wrap .i64 ((wrap .i64 (q7.1+(1:Int)))+(1:Int))))) ((0:Int),[]) λ(q11:(Int×(List Int)))=>bif ((decide ((0:Int)<=v0_5))&&(decide (v0_5 < (Nat.cast (List.length (List.modify s8_2 v0_5.toNat (λy=>(y.1,(y.2.1,(y.2.2.1,(y.2.2.2.1,(y.2.2.2.2.1,(y.2.2.2.2.2.1,(y.2.2.2.2.2.2.1,(q11.2,(y.2.2.2.2.2.2.2.2.1,y.2.2.2.2.2.2.2.2.2)))))))))))):Int))))then dX (List.modify s8_2 v0_5.toNat (λy=>(y.1,(y.2.1,(y.2.2.1,(y.2.2.2.1,(y.2.2.2.2.1,(y.2.2.2.2.2.1,(y.2.2.2.2.2.2.1,(q11.2,(y.2.2.2.2.2.2.2.2.1,y.2.2.2.2.2.2.2.2.2))))))))))) λs12_0=>dX (List.getD s12_0 v0_5.toNat ((0:Int),((0:Int),((0:Int),((0:Int),(([]:List E9),((0:Int),((0:Int),(([]:List (Int)),(([]:List (Int)),([]:List (Int)))))))))))) λs12_1=>cU (kD (s12_1.2.2.2.2.2.2.2.2.1,q11.1)) ((0:Int),[]) λ(q13:(Int×(List Int)))=>bif ((decide ((0:Int)<=v0_5))&&(decide (v0_5 < (Nat.cast (List.length (List.modify s12_0 v0_5.toNat (λy=>(y.1,(y.2.1,(y.2.2.1,(y.2.2.2.1,(y.2.2.2.2.1,(y.2.2.2.2.2.1,(y.2.2.2.2.2.2.1,(y.2.2.2.2.2.2.2.1,(q13.2,y.2.2.2.2.2.2.2.2.2)))))))))))):Int))))then dX (List.modify s12_0 v0_5.toNat (λy=>(y.1,(y.2.1,(y.2.2.1,(y.2.2.2.1,(y.2.2.2.2.1,(y.2.2.2.2.2.1,(y.2.2.2.2.2.2.1,(y.2.2.2.2.2.2.2.1,(q13.2,y.2.2.2.2.2.2.2.2.2))))))))))) λs14_0=>dX (List.getD s14_0 v0_5.toNat ((0:Int),((0:Int),((0:Int),((0:Int),(([]:List E9),((0:Int),((0:Int),(([]:List (Int)),(([]:List (Int)),([]:List (Int)))))))))))) λs14_1=>cU (kD (s14_1.2.2.2.2.2.2.2.2.2,q13.1)) ((0:Int),[]) λ(q15:(Int×(List Int)))=>gg (List.modify s14_0 v0_5.toNat (λy=>(y.1,(y.2.1,(y.2.2.1,(y.2.2.2.1,(y.2.2.2.2.1,(y.2.2.2.2.2.1,(y.2.2.2.2.2.2.1,(y.2.2.2.2.2.2.2.1,(y.2.2.2.2.2.2.2.2.1,q15.2))))))))))) q15.1 (wrap .i64 (v0_5+(1:Int)))
              else none
            else none
          else none
         else none
        else none
      else none
     else none
    else none
   else none
  else none
 else kk v0_0 v0_1
def A59_0 {B:Type}(u:(Int×(List N10))->B)(eT:Y63)(kD:Y93)(a0:(List N10))(a1:Int)(w0_0:(List N10))(w0_1:Int):Option B:=
 some (u (w0_1,w0_0))
def qQ (eT:Y63)(kD:Y93)(L:Nat)(a0:(List N10))(a1:Int):Nat->(List N10)->Int->Int->((List N10)->Int->Option (Int×(List N10)))->Option (Int×(List N10))
 | 0,_,_,_,_=>none
 | n+1,v0_0,v0_1,v0_5,k=>B59_0 (λx=>x) (λv0_0 v0_1 v0_5=>qQ eT kD L a0 a1 n v0_0 v0_1 v0_5 k) k eT kD a0 a1 v0_0 v0_1 v0_5
theorem aLD (eT:Y63)(kD:Y93)(L:Nat)(a0:(List N10))(a1:Int)(k:St cxT.ty->Option (List (A cxT.ty)))(xk:Nat->St cxT.ty->Option (List (A cxT.ty)))(k':(List N10)->Int->Option (Int×(List N10)))(hk:∀ (w0_0:(List N10)) (w0_1:Int),k (X59_0 a0 a1 w0_0 w0_1)=(k' w0_0 w0_1).map n59):∀ (n:Nat) (v0_0:(List N10)) (v0_1:Int) (v0_5:Int),bA prog (aBu eT kD) L f59 0 [1,0,1,0,0] (cB (fY prog f59 1) k xk) n (S59_0 a0 a1 v0_0 v0_1 v0_5)=(qQ eT kD L a0 a1 n v0_0 v0_1 v0_5 k').map n59
 | 0,_,_,_=>rfl
 | n+1,v0_0,v0_1,v0_5=>by
  rw[bQ];have ih:=aLD eT kD L a0 a1 k xk k' hk n;refine .trans (b:=B59_0 n59 (λv0_0 v0_1 v0_5=>(bA prog (aBu eT kD) L f59 0 [1,0,1,0,0] (cB (fY prog f59 1) k xk) n) (S59_0 a0 a1 v0_0 v0_1 v0_5)) (λw0_0 w0_1=>k (X59_0 a0 a1 w0_0 w0_1)) eT kD a0 a1 v0_0 v0_1 v0_5) (by kernel_rfl) ?_;unfold qQ B59_0
  repeat' first | with_reducible refine dP ?_ ?_ | with_reducible refine dL λ_=>?_ | with_reducible refine dO λ_=>?_ | with_reducible exact ih _ _ _ | with_reducible exact hk _ _ | exact rfl
def g59 (eT:Y63)(kD:Y93)(L:Nat)(a0:(List N10))(a1:Int):Option (Int×(List N10)):=G59 (λx=>x) (λv0_0 v0_1 v0_5=>qQ eT kD L a0 a1 L v0_0 v0_1 v0_5 (λw0_0 w0_1=>A59_0 (λx=>x) eT kD a0 a1 w0_0 w0_1)) eT kD a0 a1
theorem e59 (eT:Y63)(kD:Y93)(L:Nat)(a0:(List N10))(a1:Int):aAI prog (aBu eT kD) (bJ L) f59 1 (a59.enc (a0,a1))=(g59 eT kD L a0 a1).map n59:=by
 have hin0:∀ (v0_0:(List N10)) (v0_1:Int) (v0_5:Int),bA prog (aBu eT kD) L f59 0 [1,0,1,0,0] (cB (fY prog f59 1) (cA prog (aBu eT kD) L f59 [1,0,1] (fY prog f59 1)).n (cA prog (aBu eT kD) L f59 [1,0,1] (fY prog f59 1)).x) L (S59_0 a0 a1 v0_0 v0_1 v0_5)=((λv0_0 v0_1 v0_5=>qQ eT kD L a0 a1 L v0_0 v0_1 v0_5 (λw0_0 w0_1=>A59_0 (λx=>x) eT kD a0 a1 w0_0 w0_1)) v0_0 v0_1 v0_5).map n59:=λv0_0 v0_1 v0_5=>aLD eT kD L a0 a1 _ _ _ (λw0_0 w0_1=>by refine .trans (b:=A59_0 n59 eT kD a0 a1 w0_0 w0_1) (by kernel_rfl) ?_;unfold A59_0;repeat' first | with_reducible refine dP ?_ ?_ | with_reducible refine dL λ_=>?_ | with_reducible refine dO λ_=>?_ | exact rfl) L v0_0 v0_1 v0_5
 refine .trans (b:=G59 n59 (λv0_0 v0_1 v0_5=>bA prog (aBu eT kD) L f59 0 [1,0,1,0,0] (cB (fY prog f59 1) (cA prog (aBu eT kD) L f59 [1,0,1] (fY prog f59 1)).n (cA prog (aBu eT kD) L f59 [1,0,1] (fY prog f59 1)).x) L (S59_0 a0 a1 v0_0 v0_1 v0_5)) eT kD a0 a1) (by kernel_rfl) ?_;unfold g59 G59
 repeat' first | with_reducible refine dP ?_ ?_ | with_reducible refine dL λ_=>?_ | with_reducible refine dO λ_=>?_ | with_reducible exact hin0 _ _ _ | exact rfl
def w59 (eT:Y63)(kD:Y93)(L:Nat)(x:((List N10)×Int)):Option (Int×(List N10)):=g59 eT kD L x.1 x.2
theorem s59 (eT:Y63)(kD:Y93)(h63:SatW prog cxT 63 (c63 eT).nres (c63 eT).n (c63 eT).F)(h93:SatW prog cxT 93 (c93 kD).nres (c93 kD).n (c93 kD).F)(m:Y59)(hm:∀ (x:((List N10)×Int)) t,m x=some t->∃ L,w59 eT kD L x=some t):SatW prog cxT 59 (c59 m).nres (c59 m).n (c59 m).F:=
 wS bC aX (by rfl) (fn:=f59) rfl rfl a59 n59 aUL m (aBu eT kD) aW (iJ h63 (iJ h93 aQ)) (w59 eT kD) (λL x=>e59 eT kD L x.1 x.2) hm aZD
def aBt (eT:Y63):Env cxT:={ Kc:=cR [],Kw:=cQ [(63,{ c63 eT with p:=5 })],lv:=λi=>if i=0 then[(0,[some 96]),(1,[]),(5,[])]else[],xv:=λi=>if i=0 then some [(0,[some 96]),(1,[])]else none }
def S60_0 (a0:(List M9))(a1:Int)(v0_0:(List M9))(v0_1:Int)(v0_5:Int):St cxT.ty:={ slots:=[(.inl (.inl (ls { own:=1,nm:=0,e:=96,o:=true,xs:=v0_0 }))),(.inl (.inl (lv (.int .i64 v0_1)))),aJ,aJ,aJ,(.inl (.inl (lv (.int .i64 v0_5))))]++List.replicate 72 aJ,D:=[],F:=[],ctr:=1,lo:=1 }
def X60_0 (a0:(List M9))(a1:Int)(w0_0:(List M9))(w0_1:Int):St cxT.ty:={ slots:=[(.inl (.inl (ls { own:=1,nm:=0,e:=96,o:=true,xs:=w0_0 }))),(.inl (.inl (lv (.int .i64 w0_1))))]++List.replicate 76 aJ,D:=[],F:=[],ctr:=1,lo:=1 }
def G60 {B:Type}(u:(Int×(List M9))->B)(hh0:(List M9)->Int->Int->Option B)(eT:Y63)(a0:(List M9))(a1:Int):Option B:=
 hh0 a0 a1 (0:Int)
def B60_0 {B:Type}(u:(Int×(List M9))->B)(gg:(List M9)->Int->Int->Option B)(kk:(List M9)->Int->Option B)(eT:Y63)(a0:(List M9))(a1:Int)(v0_0:(List M9))(v0_1:Int)(v0_5:Int):Option B:=
 bif (decide (v0_5 < (Nat.cast (List.length v0_0):Int)))then dX (List.modify v0_0 v0_5.toNat (λy=>(v0_1,(y.2.1,(y.2.2.1,(y.2.2.2.1,(y.2.2.2.2.1,(y.2.2.2.2.2.1,(y.2.2.2.2.2.2.1,(y.2.2.2.2.2.2.2.1,y.2.2.2.2.2.2.2.2)))))))))) λs1_0=>dX (List.modify s1_0 v0_5.toNat (λy=>(y.1,((wrap .i64 (v0_1+(1:Int))),(y.2.2.1,(y.2.2.2.1,(y.2.2.2.2.1,(y.2.2.2.2.2.1,(y.2.2.2.2.2.2.1,(y.2.2.2.2.2.2.2.1,y.2.2.2.2.2.2.2.2)))))))))) λs1_1=>dX (List.modify s1_1 v0_5.toNat (λy=>(y.1,(y.2.1,((wrap .i64 ((wrap .i64 (v0_1+(1:Int)))+(1:Int))),(y.2.2.2.1,(y.2.2.2.2.1,(y.2.2.2.2.2.1,(y.2.2.2.2.2.2.1,(y.2.2.2.2.2.2.2.1,y.2.2.2.2.2.2.2.2)))))))))) λs1_2=>dX (List.modify s1_2 v0_5.toNat (λy=>(y.1,(y.2.1,(y.2.2.1,((wrap .i64 ((wrap .i64 ((wrap .i64 (v0_1+(1:Int)))+(1:Int)))+(1:Int))),(y.2.2.2.2.1,(y.2.2.2.2.2.1,(y.2.2.2.2.2.2.1,(y.2.2.2.2.2.2.2.1,y.2.2.2.2.2.2.2.2)))))))))) λs1_3=>dX (List.modify s1_3 v0_5.toNat (λy=>(y.1,(y.2.1,(y.2.2.1,(y.2.2.2.1,((wrap .i64 ((wrap .i64 ((wrap .i64 ((wrap .i64 (v0_1+(1:Int)))+(1:Int)))+(1:Int)))+(1:Int))),(y.2.2.2.2.2.1,(y.2.2.2.2.2.2.1,(y.2.2.2.2.2.2.2.1,y.2.2.2.2.2.2.2.2)))))))))) λs1_4=>dX (List.modify s1_4 v0_5.toNat (λy=>(y.1,(y.2.1,(y.2.2.1,(y.2.2.2.1,(y.2.2.2.2.1,((wrap .i64 ((wrap .i64 ((wrap .i64 ((wrap .i64 ((wrap .i64 (v0_1+(1:Int)))+(1:Int)))+(1:Int)))+(1:Int)))+(1:Int))),(y.2.2.2.2.2.2.1,(y.2.2.2.2.2.2.2.1,y.2.2.2.2.2.2.2.2)))))))))) λs1_5=>dX (List.modify s1_5 v0_5.toNat (λy=>(y.1,(y.2.1,(y.2.2.1,(y.2.2.2.1,(y.2.2.2.2.1,(y.2.2.2.2.2.1,((wrap .i64 ((wrap .i64 ((wrap .i64 ((wrap .i64 ((wrap .i64 ((wrap .i64 (v0_1+(1:Int)))+(1:Int)))+(1:Int)))+(1:Int)))+(1:Int)))+(1:Int))),(y.2.2.2.2.2.2.2.1,y.2.2.2.2.2.2.2.2)))))))))) λs1_6=>dX (List.modify s1_6 v0_5.toNat (λy=>(y.1,(y.2.1,(y.2.2.1,(y.2.2.2.1,(y.2.2.2.2.1,(y.2.2.2.2.2.1,(y.2.2.2.2.2.2.1,(((Int.tmod (wrap .i64 ((wrap .i64 ((wrap .i64 ((wrap .i64 ((wrap .i64 ((wrap .i64 ((wrap .i64 (v0_1+(1:Int)))+(1:Int)))+(1:Int)))+(1:Int)))+(1:Int)))+(1:Int)))+(1:Int))) (3:Int)) == (0:Int)),y.2.2.2.2.2.2.2.2)))))))))) λs1_7=>dX (List.getD s1_7 v0_5.toNat ((0:Int),((0:Int),((0:Int),((0:Int),((0:Int),((0:Int),((0:Int),(false,[]))))))))) λs1_8=>bif ((decide ((0:Int)<=v0_5))&&(decide (v0_5 < (Nat.cast (List.length v0_0):Int))))then bif ((decide ((0:Int)<=v0_5))&&(decide (v0_5 < (Nat.cast (List.length s1_0):Int))))then bif ((decide ((0:Int)<=v0_5))&&(decide (v0_5 < (Nat.cast (List.length s1_1):Int))))then bif ((decide ((0:Int)<=v0_5))&&(decide (v0_5 < (Nat.cast (List.length s1_2):Int))))then bif ((decide ((0:Int)<=v0_5))&&(decide (v0_5 < (Nat.cast (List.length s1_3):Int))))then bif ((decide ((0:Int)<=v0_5))&&(decide (v0_5 < (Nat.cast (List.length s1_4):Int))))then bif ((decide ((0:Int)<=v0_5))&&(decide (v0_5 < (Nat.cast (List.length s1_5):Int))))then bif ((decide ((0:Int)<=v0_5))&&(decide (v0_5 < (Nat.cast (List.length s1_6):Int))))then bif ((decide ((0:Int)<=v0_5))&&(decide (v0_5 < (Nat.cast (List.length s1_7):Int))))then cU (eT (s1_8.2.2.2.2.2.2.2.2,(wrap .i64 ((wrap .i64 ((wrap .i64 ((wrap .i64 ((wrap .i64 ((wrap .i64 ((wrap .i64 ((wrap .i64 (v0_1+(1:Int)))+(1:Int)))+(1:Int)))+(1:Int)))+(1:Int)))+(1:Int)))+(1:Int)))+(1:Int))))) ((0:Int),[]) λ(q11:(Int×(List E9)))=>gg (List.modify s1_7 v0_5.toNat (λy=>(y.1,(y.2.1,(y.2.2.1,(y.2.2.2.1,(y.2.2.2.2.1,(y.2.2.2.2.2.1,(y.2.2.2.2.2.2.1,(y.2.2.2.2.2.2.2.1,q11.2)))))))))) q11.1 (wrap .i64 (v0_5+(1:Int)))
          else none
         else none
        else none
       else none
      else none
     else none
    else none
   else none
  else none
 else kk v0_0 v0_1
def A60_0 {B:Type}(u:(Int×(List M9))->B)(eT:Y63)(a0:(List M9))(a1:Int)(w0_0:(List M9))(w0_1:Int):Option B:=
 some (u (w0_1,w0_0))
def qP (eT:Y63)(L:Nat)(a0:(List M9))(a1:Int):Nat->(List M9)->Int->Int->((List M9)->Int->Option (Int×(List M9)))->Option (Int×(List M9))
 | 0,_,_,_,_=>none
 | n+1,v0_0,v0_1,v0_5,k=>B60_0 (λx=>x) (λv0_0 v0_1 v0_5=>qP eT L a0 a1 n v0_0 v0_1 v0_5 k) k eT a0 a1 v0_0 v0_1 v0_5
theorem aLC (eT:Y63)(L:Nat)(a0:(List M9))(a1:Int)(k:St cxT.ty->Option (List (A cxT.ty)))(xk:Nat->St cxT.ty->Option (List (A cxT.ty)))(k':(List M9)->Int->Option (Int×(List M9)))(hk:∀ (w0_0:(List M9)) (w0_1:Int),k (X60_0 a0 a1 w0_0 w0_1)=(k' w0_0 w0_1).map n60):∀ (n:Nat) (v0_0:(List M9)) (v0_1:Int) (v0_5:Int),bA prog (aBt eT) L f60 0 [1,0,1,0,0] (cB (fY prog f60 1) k xk) n (S60_0 a0 a1 v0_0 v0_1 v0_5)=(qP eT L a0 a1 n v0_0 v0_1 v0_5 k').map n60
 | 0,_,_,_=>rfl
 | n+1,v0_0,v0_1,v0_5=>by
  rw[bQ];have ih:=aLC eT L a0 a1 k xk k' hk n;refine .trans (b:=B60_0 n60 (λv0_0 v0_1 v0_5=>(bA prog (aBt eT) L f60 0 [1,0,1,0,0] (cB (fY prog f60 1) k xk) n) (S60_0 a0 a1 v0_0 v0_1 v0_5)) (λw0_0 w0_1=>k (X60_0 a0 a1 w0_0 w0_1)) eT a0 a1 v0_0 v0_1 v0_5) (by kernel_rfl) ?_;unfold qP B60_0
  repeat' first | with_reducible refine dP ?_ ?_ | with_reducible refine dL λ_=>?_ | with_reducible refine dO λ_=>?_ | with_reducible exact ih _ _ _ | with_reducible exact hk _ _ | exact rfl
def g60 (eT:Y63)(L:Nat)(a0:(List M9))(a1:Int):Option (Int×(List M9)):=G60 (λx=>x) (λv0_0 v0_1 v0_5=>qP eT L a0 a1 L v0_0 v0_1 v0_5 (λw0_0 w0_1=>A60_0 (λx=>x) eT a0 a1 w0_0 w0_1)) eT a0 a1
theorem e60 (eT:Y63)(L:Nat)(a0:(List M9))(a1:Int):aAI prog (aBt eT) (bJ L) f60 1 (a60.enc (a0,a1))=(g60 eT L a0 a1).map n60:=by
 have hin0:∀ (v0_0:(List M9)) (v0_1:Int) (v0_5:Int),bA prog (aBt eT) L f60 0 [1,0,1,0,0] (cB (fY prog f60 1) (cA prog (aBt eT) L f60 [1,0,1] (fY prog f60 1)).n (cA prog (aBt eT) L f60 [1,0,1] (fY prog f60 1)).x) L (S60_0 a0 a1 v0_0 v0_1 v0_5)=((λv0_0 v0_1 v0_5=>qP eT L a0 a1 L v0_0 v0_1 v0_5 (λw0_0 w0_1=>A60_0 (λx=>x) eT a0 a1 w0_0 w0_1)) v0_0 v0_1 v0_5).map n60:=λv0_0 v0_1 v0_5=>aLC eT L a0 a1 _ _ _ (λw0_0 w0_1=>by refine .trans (b:=A60_0 n60 eT a0 a1 w0_0 w0_1) (by kernel_rfl) ?_;unfold A60_0;repeat' first | with_reducible refine dP ?_ ?_ | with_reducible refine dL λ_=>?_ | with_reducible refine dO λ_=>?_ | exact rfl) L v0_0 v0_1 v0_5
 refine .trans (b:=G60 n60 (λv0_0 v0_1 v0_5=>bA prog (aBt eT) L f60 0 [1,0,1,0,0] (cB (fY prog f60 1) (cA prog (aBt eT) L f60 [1,0,1] (fY prog f60 1)).n (cA prog (aBt eT) L f60 [1,0,1] (fY prog f60 1)).x) L (S60_0 a0 a1 v0_0 v0_1 v0_5)) eT a0 a1) (by kernel_rfl) ?_;unfold g60 G60
 repeat' first | with_reducible refine dP ?_ ?_ | with_reducible refine dL λ_=>?_ | with_reducible refine dO λ_=>?_ | with_reducible exact hin0 _ _ _ | exact rfl
def w60 (eT:Y63)(L:Nat)(x:((List M9)×Int)):Option (Int×(List M9)):=g60 eT L x.1 x.2
theorem s60 (eT:Y63)(h63:SatW prog cxT 63 (c63 eT).nres (c63 eT).n (c63 eT).F)(m:Y60)(hm:∀ (x:((List M9)×Int)) t,m x=some t->∃ L,w60 eT L x=some t):SatW prog cxT 60 (c60 m).nres (c60 m).n (c60 m).F:=
 wS bC aX (by rfl) (fn:=f60) rfl rfl a60 n60 aUK m (aBt eT) aW (iJ h63 aQ) (w60 eT) (λL x=>e60 eT L x.1 x.2) hm aZC
def aBs:Env cxT:={ Kc:=cR [],Kw:=cQ [],lv:=λi=>if i=0 then[(0,[some 64]),(1,[]),(5,[])]else[],xv:=λi=>if i=0 then some [(0,[some 64]),(1,[])]else none }
def S61_0 (a0:(List W2))(a1:Int)(v0_0:(List W2))(v0_1:Int)(v0_5:Int):St cxT.ty:={ slots:=[(.inl (.inl (ls { own:=1,nm:=0,e:=64,o:=true,xs:=v0_0 }))),(.inl (.inl (lv (.int .i64 v0_1)))),aJ,aJ,aJ,(.inl (.inl (lv (.int .i64 v0_5))))]++List.replicate 21 aJ,D:=[],F:=[],ctr:=1,lo:=1 }
def X61_0 (a0:(List W2))(a1:Int)(w0_0:(List W2))(w0_1:Int):St cxT.ty:={ slots:=[(.inl (.inl (ls { own:=1,nm:=0,e:=64,o:=true,xs:=w0_0 }))),(.inl (.inl (lv (.int .i64 w0_1))))]++List.replicate 25 aJ,D:=[],F:=[],ctr:=1,lo:=1 }
def G61 {B:Type}(u:(Int×(List W2))->B)(hh0:(List W2)->Int->Int->Option B)(a0:(List W2))(a1:Int):Option B:=
 hh0 a0 a1 (0:Int)
def B61_0 {B:Type}(u:(Int×(List W2))->B)(gg:(List W2)->Int->Int->Option B)(kk:(List W2)->Int->Option B)(a0:(List W2))(a1:Int)(v0_0:(List W2))(v0_1:Int)(v0_5:Int):Option B:=
 bif (decide (v0_5 < (Nat.cast (List.length v0_0):Int)))then dX (List.getD v0_0 v0_5.toNat ((0:Int),(0:Int))) λs1_0=>dX (List.set v0_0 v0_5.toNat (v0_1,s1_0.2)) λs1_1=>bif ((decide ((0:Int)<=v0_5))&&(decide (v0_5 < (Nat.cast (List.length v0_0):Int))))then bif ((decide ((0:Int)<=v0_5))&&(decide (v0_5 < (Nat.cast (List.length s1_1):Int))))then gg (List.set s1_1 v0_5.toNat ((List.getD s1_1 v0_5.toNat ((0:Int),(0:Int))).1,(wrap .i64 (v0_1+(1:Int))))) (wrap .i64 ((wrap .i64 (v0_1+(1:Int)))+(1:Int))) (wrap .i64 (v0_5+(1:Int)))
   else none
  else none
 else kk v0_0 v0_1
def A61_0 {B:Type}(u:(Int×(List W2))->B)(a0:(List W2))(a1:Int)(w0_0:(List W2))(w0_1:Int):Option B:=
 some (u (w0_1,w0_0))
def qO (L:Nat)(a0:(List W2))(a1:Int):Nat->(List W2)->Int->Int->((List W2)->Int->Option (Int×(List W2)))->Option (Int×(List W2))
 | 0,_,_,_,_=>none
 | n+1,v0_0,v0_1,v0_5,k=>B61_0 (λx=>x) (λv0_0 v0_1 v0_5=>qO L a0 a1 n v0_0 v0_1 v0_5 k) k a0 a1 v0_0 v0_1 v0_5
theorem aLB (L:Nat)(a0:(List W2))(a1:Int)(k:St cxT.ty->Option (List (A cxT.ty)))(xk:Nat->St cxT.ty->Option (List (A cxT.ty)))(k':(List W2)->Int->Option (Int×(List W2)))(hk:∀ (w0_0:(List W2)) (w0_1:Int),k (X61_0 a0 a1 w0_0 w0_1)=(k' w0_0 w0_1).map n61):∀ (n:Nat) (v0_0:(List W2)) (v0_1:Int) (v0_5:Int),bA prog aBs L f61 0 [1,0,1,0,0] (cB (fY prog f61 1) k xk) n (S61_0 a0 a1 v0_0 v0_1 v0_5)=(qO L a0 a1 n v0_0 v0_1 v0_5 k').map n61
 | 0,_,_,_=>rfl
 | n+1,v0_0,v0_1,v0_5=>by
  rw[bQ];have ih:=aLB L a0 a1 k xk k' hk n;refine .trans (b:=B61_0 n61 (λv0_0 v0_1 v0_5=>(bA prog aBs L f61 0 [1,0,1,0,0] (cB (fY prog f61 1) k xk) n) (S61_0 a0 a1 v0_0 v0_1 v0_5)) (λw0_0 w0_1=>k (X61_0 a0 a1 w0_0 w0_1)) a0 a1 v0_0 v0_1 v0_5) (by kernel_rfl) ?_;unfold qO B61_0
  repeat' first | with_reducible refine dP ?_ ?_ | with_reducible refine dL λ_=>?_ | with_reducible refine dO λ_=>?_ | with_reducible exact ih _ _ _ | with_reducible exact hk _ _ | exact rfl
def g61 (L:Nat)(a0:(List W2))(a1:Int):Option (Int×(List W2)):=G61 (λx=>x) (λv0_0 v0_1 v0_5=>qO L a0 a1 L v0_0 v0_1 v0_5 (λw0_0 w0_1=>A61_0 (λx=>x) a0 a1 w0_0 w0_1)) a0 a1
theorem e61 (L:Nat)(a0:(List W2))(a1:Int):aAI prog aBs (bJ L) f61 1 (a61.enc (a0,a1))=(g61 L a0 a1).map n61:=by
 have hin0:∀ (v0_0:(List W2)) (v0_1:Int) (v0_5:Int),bA prog aBs L f61 0 [1,0,1,0,0] (cB (fY prog f61 1) (cA prog aBs L f61 [1,0,1] (fY prog f61 1)).n (cA prog aBs L f61 [1,0,1] (fY prog f61 1)).x) L (S61_0 a0 a1 v0_0 v0_1 v0_5)=((λv0_0 v0_1 v0_5=>qO L a0 a1 L v0_0 v0_1 v0_5 (λw0_0 w0_1=>A61_0 (λx=>x) a0 a1 w0_0 w0_1)) v0_0 v0_1 v0_5).map n61:=λv0_0 v0_1 v0_5=>aLB L a0 a1 _ _ _ (λw0_0 w0_1=>by refine .trans (b:=A61_0 n61 a0 a1 w0_0 w0_1) (by kernel_rfl) ?_;unfold A61_0;repeat' first | with_reducible refine dP ?_ ?_ | with_reducible refine dL λ_=>?_ | with_reducible refine dO λ_=>?_ | exact rfl) L v0_0 v0_1 v0_5
 refine .trans (b:=G61 n61 (λv0_0 v0_1 v0_5=>bA prog aBs L f61 0 [1,0,1,0,0] (cB (fY prog f61 1) (cA prog aBs L f61 [1,0,1] (fY prog f61 1)).n (cA prog aBs L f61 [1,0,1] (fY prog f61 1)).x) L (S61_0 a0 a1 v0_0 v0_1 v0_5)) a0 a1) (by kernel_rfl) ?_;unfold g61 G61
 repeat' first | with_reducible refine dP ?_ ?_ | with_reducible refine dL λ_=>?_ | with_reducible refine dO λ_=>?_ | with_reducible exact hin0 _ _ _ | exact rfl
def w61 (L:Nat)(x:((List W2)×Int)):Option (Int×(List W2)):=g61 L x.1 x.2
theorem s61 (m:Y61)(hm:∀ (x:((List W2)×Int)) t,m x=some t->∃ L,w61 L x=some t):SatW prog cxT 61 (c61 m).nres (c61 m).n (c61 m).F:=
 wS bC aX (by rfl) (fn:=f61) rfl rfl a61 n61 aUJ m aBs aW aQ (w61) (λL x=>e61 L x.1 x.2) hm aZB
def aBr:Env cxT:={ Kc:=cR [],Kw:=cQ [],lv:=λi=>if i=0 then[(0,[some 104]),(1,[]),(5,[])]else[],xv:=λi=>if i=0 then some [(0,[some 104]),(1,[])]else none }
def S62_0 (a0:(List S10))(a1:Int)(v0_0:(List S10))(v0_1:Int)(v0_5:Int):St cxT.ty:={ slots:=[(.inl (.inl (ls { own:=1,nm:=0,e:=104,o:=true,xs:=v0_0 }))),(.inl (.inl (lv (.int .i64 v0_1)))),aJ,aJ,aJ,(.inl (.inl (lv (.int .i64 v0_5))))]++List.replicate 92 aJ,D:=[],F:=[],ctr:=1,lo:=1 }
def X62_0 (a0:(List S10))(a1:Int)(w0_0:(List S10))(w0_1:Int):St cxT.ty:={ slots:=[(.inl (.inl (ls { own:=1,nm:=0,e:=104,o:=true,xs:=w0_0 }))),(.inl (.inl (lv (.int .i64 w0_1))))]++List.replicate 96 aJ,D:=[],F:=[],ctr:=1,lo:=1 }
def G62 {B:Type}(u:(Int×(List S10))->B)(hh0:(List S10)->Int->Int->Option B)(a0:(List S10))(a1:Int):Option B:=
 hh0 a0 a1 (0:Int)
def B62_0 {B:Type}(u:(Int×(List S10))->B)(gg:(List S10)->Int->Int->Option B)(kk:(List S10)->Int->Option B)(a0:(List S10))(a1:Int)(v0_0:(List S10))(v0_1:Int)(v0_5:Int):Option B:=
 bif (decide (v0_5 < (Nat.cast (List.length v0_0):Int)))then dX (List.modify v0_0 v0_5.toNat (λy=>(v0_1,(y.2.1,(y.2.2.1,(y.2.2.2.1,(y.2.2.2.2.1,(y.2.2.2.2.2.1,(y.2.2.2.2.2.2.1,(y.2.2.2.2.2.2.2.1,(y.2.2.2.2.2.2.2.2.1,y.2.2.2.2.2.2.2.2.2))))))))))) λs1_0=>dX (List.modify s1_0 v0_5.toNat (λy=>(y.1,((wrap .i64 (v0_1+(1:Int))),(y.2.2.1,(y.2.2.2.1,(y.2.2.2.2.1,(y.2.2.2.2.2.1,(y.2.2.2.2.2.2.1,(y.2.2.2.2.2.2.2.1,(y.2.2.2.2.2.2.2.2.1,y.2.2.2.2.2.2.2.2.2))))))))))) λs1_1=>dX (List.modify s1_1 v0_5.toNat (λy=>(y.1,(y.2.1,((wrap .i64 ((wrap .i64 (v0_1+(1:Int)))+(1:Int))),(y.2.2.2.1,(y.2.2.2.2.1,(y.2.2.2.2.2.1,(y.2.2.2.2.2.2.1,(y.2.2.2.2.2.2.2.1,(y.2.2.2.2.2.2.2.2.1,y.2.2.2.2.2.2.2.2.2))))))))))) λs1_2=>dX (List.modify s1_2 v0_5.toNat (λy=>(y.1,(y.2.1,(y.2.2.1,((wrap .i64 ((wrap .i64 ((wrap .i64 (v0_1+(1:Int)))+(1:Int)))+(1:Int))),(y.2.2.2.2.1,(y.2.2.2.2.2.1,(y.2.2.2.2.2.2.1,(y.2.2.2.2.2.2.2.1,(y.2.2.2.2.2.2.2.2.1,y.2.2.2.2.2.2.2.2.2))))))))))) λs1_3=>dX (List.modify s1_3 v0_5.toNat (λy=>(y.1,(y.2.1,(y.2.2.1,(y.2.2.2.1,((wrap .i64 ((wrap .i64 ((wrap .i64 ((wrap .i64 (v0_1+(1:Int)))+(1:Int)))+(1:Int)))+(1:Int))),(y.2.2.2.2.2.1,(y.2.2.2.2.2.2.1,(y.2.2.2.2.2.2.2.1,(y.2.2.2.2.2.2.2.2.1,y.2.2.2.2.2.2.2.2.2))))))))))) λs1_4=>dX (List.modify s1_4 v0_5.toNat (λy=>(y.1,(y.2.1,(y.2.2.1,(y.2.2.2.1,(y.2.2.2.2.1,((wrap .i64 ((wrap .i64 ((wrap .i64 ((wrap .i64 ((wrap .i64 (v0_1+(1:Int)))+(1:Int)))+(1:Int)))+(1:Int)))+(1:Int))),(y.2.2.2.2.2.2.1,(y.2.2.2.2.2.2.2.1,(y.2.2.2.2.2.2.2.2.1,y.2.2.2.2.2.2.2.2.2))))))))))) λs1_5=>dX (List.modify s1_5 v0_5.toNat (λy=>(y.1,(y.2.1,(y.2.2.1,(y.2.2.2.1,(y.2.2.2.2.1,(y.2.2.2.2.2.1,((wrap .i64 ((wrap .i64 ((wrap .i64 ((wrap .i64 ((wrap .i64 ((wrap .i64 (v0_1+(1:Int)))+(1:Int)))+(1:Int)))+(1:Int)))+(1:Int)))+(1:Int))),(y.2.2.2.2.2.2.2.1,(y.2.2.2.2.2.2.2.2.1,y.2.2.2.2.2.2.2.2.2))))))))))) λs1_6=>dX (List.modify s1_6 v0_5.toNat (λy=>(y.1,(y.2.1,(y.2.2.1,(y.2.2.2.1,(y.2.2.2.2.1,(y.2.2.2.2.2.1,(y.2.2.2.2.2.2.1,((wrap .i64 ((wrap .i64 ((wrap .i64 ((wrap .i64 ((wrap .i64 ((wrap .i64 ((wrap .i64 (v0_1+(1:Int)))+(1:Int)))+(1:Int)))+(1:Int)))+(1:Int)))+(1:Int)))+(1:Int))),(y.2.2.2.2.2.2.2.2.1,y.2.2.2.2.2.2.2.2.2))))))))))) λs1_7=>bif ((decide ((0:Int)<=v0_5))&&(decide (v0_5 < (Nat.cast (List.length v0_0):Int))))then bif ((decide ((0:Int)<=v0_5))&&(decide (v0_5 < (Nat.cast (List.length s1_0):Int))))then bif ((decide ((0:Int)<=v0_5))&&(decide (v0_5 < (Nat.cast (List.length s1_1):Int))))then bif ((decide ((0:Int)<=v0_5))&&(decide (v0_5 < (Nat.cast (List.length s1_2):Int))))then bif ((decide ((0:Int)<=v0_5))&&(decide (v0_5 < (Nat.cast (List.length s1_3):Int))))then bif ((decide ((0:Int)<=v0_5))&&(decide (v0_5 < (Nat.cast (List.length s1_4):Int))))then bif ((decide ((0:Int)<=v0_5))&&(decide (v0_5 < (Nat.cast (List.length s1_5):Int))))then bif ((decide ((0:Int)<=v0_5))&&(decide (v0_5 < (Nat.cast (List.length s1_6):Int))))then bif ((decide ((0:Int)<=v0_5))&&(decide (v0_5 < (Nat.cast (List.length s1_7):Int))))then bif ((decide ((0:Int)<=v0_5))&&(decide (v0_5 < (Nat.cast (List.length (List.modify s1_7 v0_5.toNat (λy=>(y.1,(y.2.1,(y.2.2.1,(y.2.2.2.1,(y.2.2.2.2.1,(y.2.2.2.2.2.1,(y.2.2.2.2.2.2.1,(y.2.2.2.2.2.2.2.1,((wrap .i64 ((wrap .i64 ((wrap .i64 ((wrap .i64 ((wrap .i64 ((wrap .i64 ((wrap .i64 ((wrap .i64 (v0_1+(1:Int)))+(1:Int)))+(1:Int)))+(1:Int)))+(1:Int)))+(1:Int)))+(1:Int)))+(1:Int))),y.2.2.2.2.2.2.2.2.2)))))))))))):Int))))then gg (List.modify (List.modify s1_7 v0_5.toNat (λy=>(y.1,(y.2.1,(y.2.2.1,(y.2.2.2.1,(y.2.2.2.2.1,(y.2.2.2.2.2.1,(y.2.2.2.2.2.2.1,(y.2.2.2.2.2.2.2.1,((wrap .i64 ((wrap .i64 ((wrap .i64 ((wrap .i64 ((wrap .i64 ((wrap .i64 ((wrap .i64 ((wrap .i64 (v0_1+(1:Int)))+(1:Int)))+(1:Int)))+(1:Int)))+(1:Int)))+(1:Int)))+(1:Int)))+(1:Int))),y.2.2.2.2.2.2.2.2.2))))))))))) v0_5.toNat (λy=>(y.1,(y.2.1,(y.2.2.1,(y.2.2.2.1,(y.2.2.2.2.1,(y.2.2.2.2.2.1,(y.2.2.2.2.2.2.1,(y.2.2.2.2.2.2.2.1,(y.2.2.2.2.2.2.2.2.1,(wrap .i64 ((wrap .i64 ((wrap .i64 ((wrap .i64 ((wrap .i64 ((wrap .i64 ((wrap .i64 ((wrap .i64 ((wrap .i64 (v0_1+(1:Int)))+(1:Int)))+(1:Int)))+(1:Int)))+(1:Int)))+(1:Int)))+(1:Int)))+(1:Int)))+(1:Int)))))))))))))) (wrap .i64 ((wrap .i64 ((wrap .i64 ((wrap .i64 ((wrap .i64 ((wrap .i64 ((wrap .i64 ((wrap .i64 ((wrap .i64 ((wrap .i64 (v0_1+(1:Int)))+(1:Int)))+(1:Int)))+(1:Int)))+(1:Int)))+(1:Int)))+(1:Int)))+(1:Int)))+(1:Int)))+(1:Int))) (wrap .i64 (v0_5+(1:Int)))
           else none
          else none
         else none
        else none
       else none
      else none
     else none
    else none
   else none
  else none
 else kk v0_0 v0_1
def A62_0 {B:Type}(u:(Int×(List S10))->B)(a0:(List S10))(a1:Int)(w0_0:(List S10))(w0_1:Int):Option B:=
 some (u (w0_1,w0_0))
def qN (L:Nat)(a0:(List S10))(a1:Int):Nat->(List S10)->Int->Int->((List S10)->Int->Option (Int×(List S10)))->Option (Int×(List S10))
 | 0,_,_,_,_=>none
 | n+1,v0_0,v0_1,v0_5,k=>B62_0 (λx=>x) (λv0_0 v0_1 v0_5=>qN L a0 a1 n v0_0 v0_1 v0_5 k) k a0 a1 v0_0 v0_1 v0_5
theorem aLA (L:Nat)(a0:(List S10))(a1:Int)(k:St cxT.ty->Option (List (A cxT.ty)))(xk:Nat->St cxT.ty->Option (List (A cxT.ty)))(k':(List S10)->Int->Option (Int×(List S10)))(hk:∀ (w0_0:(List S10)) (w0_1:Int),k (X62_0 a0 a1 w0_0 w0_1)=(k' w0_0 w0_1).map n62):∀ (n:Nat) (v0_0:(List S10)) (v0_1:Int) (v0_5:Int),bA prog aBr L f62 0 [1,0,1,0,0] (cB (fY prog f62 1) k xk) n (S62_0 a0 a1 v0_0 v0_1 v0_5)=(qN L a0 a1 n v0_0 v0_1 v0_5 k').map n62
 | 0,_,_,_=>rfl
 | n+1,v0_0,v0_1,v0_5=>by
  rw[bQ];have ih:=aLA L a0 a1 k xk k' hk n;refine .trans (b:=B62_0 n62 (λv0_0 v0_1 v0_5=>(bA prog aBr L f62 0 [1,0,1,0,0] (cB (fY prog f62 1) k xk) n) (S62_0 a0 a1 v0_0 v0_1 v0_5)) (λw0_0 w0_1=>k (X62_0 a0 a1 w0_0 w0_1)) a0 a1 v0_0 v0_1 v0_5) (by kernel_rfl) ?_;unfold qN B62_0
  repeat' first | with_reducible refine dP ?_ ?_ | with_reducible refine dL λ_=>?_ | with_reducible refine dO λ_=>?_ | with_reducible exact ih _ _ _ | with_reducible exact hk _ _ | exact rfl
def g62 (L:Nat)(a0:(List S10))(a1:Int):Option (Int×(List S10)):=G62 (λx=>x) (λv0_0 v0_1 v0_5=>qN L a0 a1 L v0_0 v0_1 v0_5 (λw0_0 w0_1=>A62_0 (λx=>x) a0 a1 w0_0 w0_1)) a0 a1
theorem e62 (L:Nat)(a0:(List S10))(a1:Int):aAI prog aBr (bJ L) f62 1 (a62.enc (a0,a1))=(g62 L a0 a1).map n62:=by
 have hin0:∀ (v0_0:(List S10)) (v0_1:Int) (v0_5:Int),bA prog aBr L f62 0 [1,0,1,0,0] (cB (fY prog f62 1) (cA prog aBr L f62 [1,0,1] (fY prog f62 1)).n (cA prog aBr L f62 [1,0,1] (fY prog f62 1)).x) L (S62_0 a0 a1 v0_0 v0_1 v0_5)=((λv0_0 v0_1 v0_5=>qN L a0 a1 L v0_0 v0_1 v0_5 (λw0_0 w0_1=>A62_0 (λx=>x) a0 a1 w0_0 w0_1)) v0_0 v0_1 v0_5).map n62:=λv0_0 v0_1 v0_5=>aLA L a0 a1 _ _ _ (λw0_0 w0_1=>by refine .trans (b:=A62_0 n62 a0 a1 w0_0 w0_1) (by kernel_rfl) ?_;unfold A62_0;repeat' first | with_reducible refine dP ?_ ?_ | with_reducible refine dL λ_=>?_ | with_reducible refine dO λ_=>?_ | exact rfl) L v0_0 v0_1 v0_5
 refine .trans (b:=G62 n62 (λv0_0 v0_1 v0_5=>bA prog aBr L f62 0 [1,0,1,0,0] (cB (fY prog f62 1) (cA prog aBr L f62 [1,0,1] (fY prog f62 1)).n (cA prog aBr L f62 [1,0,1] (fY prog f62 1)).x) L (S62_0 a0 a1 v0_0 v0_1 v0_5)) a0 a1) (by kernel_rfl) ?_;unfold g62 G62
 repeat' first | with_reducible refine dP ?_ ?_ | with_reducible refine dL λ_=>?_ | with_reducible refine dO λ_=>?_ | with_reducible exact hin0 _ _ _ | exact rfl
def w62 (L:Nat)(x:((List S10)×Int)):Option (Int×(List S10)):=g62 L x.1 x.2
theorem s62 (m:Y62)(hm:∀ (x:((List S10)×Int)) t,m x=some t->∃ L,w62 L x=some t):SatW prog cxT 62 (c62 m).nres (c62 m).n (c62 m).F:=
 wS bC aX (by rfl) (fn:=f62) rfl rfl a62 n62 aUI m aBr aW aQ (w62) (λL x=>e62 L x.1 x.2) hm aZA
def aTL (vO:Y59)(vN:Y60)(vM:Y61)(vL:Y62):Env cxT:={ Kc:=cR [],Kw:=cQ [(59,c59 vO),(60,c60 vN),(61,c61 vM),(62,c62 vL)],lv:=λi=>[],xv:=λi=>none }
def G26 {B:Type}(u:R5->B)(vO:Y59)(vN:Y60)(vM:Y61)(vL:Y62)(a0_0:(List N10))(a0_1:(List M9))(a0_2:(List W2))(a0_3:(List S10))(a1:Int):Option B:=
 cU (vO (a0_0,a1)) ((0:Int),[]) λ(q1:(Int×(List N10)))=>cU (vN (a0_1,q1.1)) ((0:Int),[]) λ(q2:(Int×(List M9)))=>cU (vM (a0_2,q2.1)) ((0:Int),[]) λ(q3:(Int×(List W2)))=>cU (vL (a0_3,q3.1)) ((0:Int),[]) λ(q4:(Int×(List S10)))=>some (u (q4.1,q1.2,q2.2,q3.2,q4.2))
def g26 (vO:Y59)(vN:Y60)(vM:Y61)(vL:Y62)(L:Nat)(a0_0:(List N10))(a0_1:(List M9))(a0_2:(List W2))(a0_3:(List S10))(a1:Int):Option R5:=G26 (λx=>x) vO vN vM vL a0_0 a0_1 a0_2 a0_3 a1
theorem e26 (vO:Y59)(vN:Y60)(vM:Y61)(vL:Y62)(L:Nat)(a0_0:(List N10))(a0_1:(List M9))(a0_2:(List W2))(a0_3:(List S10))(a1:Int):aAI prog (aTL vO vN vM vL) (bJ L) f26 1 (a26.enc ((a0_0,a0_1,a0_2,a0_3),a1))=(g26 vO vN vM vL L a0_0 a0_1 a0_2 a0_3 a1).map n26:=by
 refine .trans (b:=G26 n26 vO vN vM vL a0_0 a0_1 a0_2 a0_3 a1) (by kernel_rfl) ?_;unfold g26 G26
 repeat' first | with_reducible refine dP ?_ ?_ | with_reducible refine dL λ_=>?_ | with_reducible refine dO λ_=>?_ | exact rfl
def w26 (vO:Y59)(vN:Y60)(vM:Y61)(vL:Y62)(L:Nat)(x:(C4×Int)):Option R5:=g26 vO vN vM vL L x.1.1 x.1.2.1 x.1.2.2.1 x.1.2.2.2 x.2
theorem s26 (vO:Y59)(vN:Y60)(vM:Y61)(vL:Y62)(h59:SatW prog cxT 59 (c59 vO).nres (c59 vO).n (c59 vO).F)(h60:SatW prog cxT 60 (c60 vN).nres (c60 vN).n (c60 vN).F)(h61:SatW prog cxT 61 (c61 vM).nres (c61 vM).n (c61 vM).F)(h62:SatW prog cxT 62 (c62 vL).nres (c62 vL).n (c62 vL).F)(m:Y26)(hm:∀ (x:(C4×Int)) t,m x=some t->∃ L,w26 vO vN vM vL L x=some t):SatW prog cxT 26 (c26 m).nres (c26 m).n (c26 m).F:=
 wS bC aX (by rfl) (fn:=f26) rfl rfl a26 n26 aU6 m (aTL vO vN vM vL) aW (iJ h59 (iJ h60 (iJ h61 (iJ h62 aQ)))) (w26 vO vN vM vL) (λL x=>e26 vO vN vM vL L x.1.1 x.1.2.1 x.1.2.2.1 x.1.2.2.2 x.2) hm aZZ
end Go.Proofs.Tryz
set_option maxHeartbeats 0
set_option maxRecDepth 100000
namespace Go.Proofs.Tryz
open Go.IntKind (wrap)
open Go Go.VM Go.RowKit
def ev8 (gH:Y10)(fK:Y12)(m23:Y23)(m24:Y24)(wZ:Y25)(gI:Y14)(vQ:Y26)(vP:Y27)(xT:Y28):Env cxT:={ Kc:=cR [(10,c10 gH),(12,c12 fK),(23,c23 m23),(24,c24 m24),(25,c25 wZ),(14,c14 gI),(28,c28 xT)],Kw:=cQ [(26,c26 vQ),(27,c27 vP)],lv:=λi=>[],xv:=λi=>none }
def G8 {B:Type}(u:Bool->B)(gH:Y10)(fK:Y12)(m23:Y23)(m24:Y24)(wZ:Y25)(gI:Y14)(vQ:Y26)(vP:Y27)(xT:Y28)(a0_0:(List N10))(a0_1:(List M9))(a0_2:(List W2))(a0_3:(List S10)):Option B:=
 cU (gH (((a0_0,(a0_1,(a0_2,a0_3))).1,((a0_0,(a0_1,(a0_2,a0_3))).2.1,((a0_0,(a0_1,(a0_2,a0_3))).2.2.1,(a0_0,(a0_1,(a0_2,a0_3))).2.2.2))),(1048576:Int))) (0:Int) λ(q1:Int)=>bif (decide (q1 < (0:Int)))then some (u true)
  else cU (fK ((a0_0,(a0_1,(a0_2,a0_3))).1,((a0_0,(a0_1,(a0_2,a0_3))).2.1,((a0_0,(a0_1,(a0_2,a0_3))).2.2.1,(a0_0,(a0_1,(a0_2,a0_3))).2.2.2)))) ([],[],[],[]) λ(q2:C4)=>cU (m23 (q2.1,(q2.2.1,(q2.2.2.1,q2.2.2.2)))) ((0:Int),[]) λ(q3:(Int×(List E9)))=>cU (fK ((a0_0,(a0_1,(a0_2,a0_3))).1,((a0_0,(a0_1,(a0_2,a0_3))).2.1,((a0_0,(a0_1,(a0_2,a0_3))).2.2.1,(a0_0,(a0_1,(a0_2,a0_3))).2.2.2)))) ([],[],[],[]) λ(q4:C4)=>cU (m24 (q2.1,(q2.2.1,(q2.2.2.1,q2.2.2.2)))) ((0:Int),[]) λ(q5:(Int×(List E9)))=>cU (wZ ((q5.1,q5.2),(q3.1,q3.2))) false λ(q6:Bool)=>bif (!q6)then some (u false)
       else cU (fK ((a0_0,(a0_1,(a0_2,a0_3))).1,((a0_0,(a0_1,(a0_2,a0_3))).2.1,((a0_0,(a0_1,(a0_2,a0_3))).2.2.1,(a0_0,(a0_1,(a0_2,a0_3))).2.2.2)))) ([],[],[],[]) λ(q7:C4)=>cU (gI ((q2.1,(q2.2.1,(q2.2.2.1,q2.2.2.2))),(q2.1,(q2.2.1,(q2.2.2.1,q2.2.2.2))))) false λ(q8:Bool)=>bif (!q8)then some (u false)
         else cU (vQ ((q2.1,(q2.2.1,(q2.2.2.1,q2.2.2.2))),(1:Int))) ((0:Int),[],[],[],[]) λ(q9:R5)=>bif (decide (q9.1 < (0:Int)))then some (u false)
          else cU (wZ ((q5.1,q5.2),(q3.1,q3.2))) false λ(q10:Bool)=>bif (!q6)then some (u false)
           else cU (vP ((q5.1,q5.2),(1:Int))) ((0:Int),(0:Int),[]) λ(q11:(Int×Int×(List E9)))=>cU (xT ((q5.1,q11.2.2),(1:Int))) (0:Int) λ(q12:Int)=>bif (decide (q12 < (0:Int)))then some (u false)
             else bif (q12 != q11.1)then some (u false)
             else cU (fK ((a0_0,(a0_1,(a0_2,a0_3))).1,((a0_0,(a0_1,(a0_2,a0_3))).2.1,((a0_0,(a0_1,(a0_2,a0_3))).2.2.1,(a0_0,(a0_1,(a0_2,a0_3))).2.2.2)))) ([],[],[],[]) λ(q13:C4)=>cU (m24 (q2.1,(q2.2.1,(q2.2.2.1,q2.2.2.2)))) ((0:Int),[]) λ(q14:(Int×(List E9)))=>cU (wZ ((q5.1,q5.2),(q3.1,q3.2))) false λ(q15:Bool)=>bif (!q6)then some (u false)
                else cU (xT ((q5.1,q11.2.2),(1:Int))) (0:Int) λ(q16:Int)=>bif (decide (q12 < (0:Int)))then some (u false)
                 else bif (q12 != q11.1)then some (u false)
                 else some (u true)
def g8 (gH:Y10)(fK:Y12)(m23:Y23)(m24:Y24)(wZ:Y25)(gI:Y14)(vQ:Y26)(vP:Y27)(xT:Y28)(L:Nat)(a0_0:(List N10))(a0_1:(List M9))(a0_2:(List W2))(a0_3:(List S10)):Option Bool:=G8 (λx=>x) gH fK m23 m24 wZ gI vQ vP xT a0_0 a0_1 a0_2 a0_3
theorem e8 (gH:Y10)(fK:Y12)(m23:Y23)(m24:Y24)(wZ:Y25)(gI:Y14)(vQ:Y26)(vP:Y27)(xT:Y28)(L:Nat)(a0_0:(List N10))(a0_1:(List M9))(a0_2:(List W2))(a0_3:(List S10)):aBe prog (ev8 gH fK m23 m24 wZ gI vQ vP xT) (bJ L) f8 (a8.enc (a0_0,a0_1,a0_2,a0_3))=(g8 gH fK m23 m24 wZ gI vQ vP xT L a0_0 a0_1 a0_2 a0_3).map n8:=by
 refine .trans (b:=G8 n8 gH fK m23 m24 wZ gI vQ vP xT a0_0 a0_1 a0_2 a0_3) (by kernel_rfl) ?_;unfold g8 G8
 repeat' first | with_reducible refine dP ?_ ?_ | with_reducible refine dL λ_=>?_ | with_reducible refine dO λ_=>?_ | exact rfl
def w8 (gH:Y10)(fK:Y12)(m23:Y23)(m24:Y24)(wZ:Y25)(gI:Y14)(vQ:Y26)(vP:Y27)(xT:Y28)(L:Nat)(x:C4):Option Bool:=g8 gH fK m23 m24 wZ gI vQ vP xT L x.1 x.2.1 x.2.2.1 x.2.2.2
theorem s8 (gH:Y10)(fK:Y12)(m23:Y23)(m24:Y24)(wZ:Y25)(gI:Y14)(vQ:Y26)(vP:Y27)(xT:Y28)(h10:Sat prog cxT 10 (c10 gH))(h12:Sat prog cxT 12 (c12 fK))(h23:Sat prog cxT 23 (c23 m23))(h24:Sat prog cxT 24 (c24 m24))(h25:Sat prog cxT 25 (c25 wZ))(h14:Sat prog cxT 14 (c14 gI))(h26:SatW prog cxT 26 (c26 vQ).nres (c26 vQ).n (c26 vQ).F)(h27:SatW prog cxT 27 (c27 vP).nres (c27 vP).n (c27 vP).F)(h28:Sat prog cxT 28 (c28 xT))(m:Y8)(hm:∀ (x:C4) t,m x=some t->∃ L,w8 gH fK m23 m24 wZ gI vQ vP xT L x=some t):Sat prog cxT 8 (c8 m):=
 aK6 bC aX (by rfl) (fn:=f8) rfl a8 n8 dd8 m (ev8 gH fK m23 m24 wZ gI vQ vP xT) (aL h10 (aL h12 (aL h23 (aL h24 (aL h25 (aL h14 (aL h28 aW))))))) (iJ h26 (iJ h27 aQ)) (w8 gH fK m23 m24 wZ gI vQ vP xT) (λL x=>e8 gH fK m23 m24 wZ gI vQ vP xT L x.1 x.2.1 x.2.2.1 x.2.2.2) hm hs8
def ev9 (gH:Y10)(fK:Y12)(m29:Y29)(m30:Y30)(zZ:Y31)(gI:Y14):Env cxT:={ Kc:=cR [(10,c10 gH),(12,c12 fK),(29,c29 m29),(30,c30 m30),(31,c31 zZ),(14,c14 gI)],Kw:=cQ [],lv:=λi=>[],xv:=λi=>none }
def G9 {B:Type}(u:Bool->B)(gH:Y10)(fK:Y12)(m29:Y29)(m30:Y30)(zZ:Y31)(gI:Y14)(a0_0:(List N10))(a0_1:(List M9))(a0_2:(List W2))(a0_3:(List S10)):Option B:=
 cU (gH (((a0_0,(a0_1,(a0_2,a0_3))).1,((a0_0,(a0_1,(a0_2,a0_3))).2.1,((a0_0,(a0_1,(a0_2,a0_3))).2.2.1,(a0_0,(a0_1,(a0_2,a0_3))).2.2.2))),(1048576:Int))) (0:Int) λ(q1:Int)=>bif (decide (q1 < (0:Int)))then some (u true)
  else cU (fK ((a0_0,(a0_1,(a0_2,a0_3))).1,((a0_0,(a0_1,(a0_2,a0_3))).2.1,((a0_0,(a0_1,(a0_2,a0_3))).2.2.1,(a0_0,(a0_1,(a0_2,a0_3))).2.2.2)))) ([],[],[],[]) λ(q2:C4)=>cU (m29 (q2.1,(q2.2.1,(q2.2.2.1,q2.2.2.2)))) ((0:Int),(0:Int)) λ(q3:(Int×Int))=>cU (fK ((a0_0,(a0_1,(a0_2,a0_3))).1,((a0_0,(a0_1,(a0_2,a0_3))).2.1,((a0_0,(a0_1,(a0_2,a0_3))).2.2.1,(a0_0,(a0_1,(a0_2,a0_3))).2.2.2)))) ([],[],[],[]) λ(q4:C4)=>cU (m30 (q2.1,(q2.2.1,(q2.2.2.1,q2.2.2.2)))) ((0:Int),(0:Int)) λ(q5:(Int×Int))=>cU (zZ ((q5.1,q5.2),(q3.1,q3.2))) false λ(q6:Bool)=>bif (!q6)then some (u false)
       else cU (fK ((a0_0,(a0_1,(a0_2,a0_3))).1,((a0_0,(a0_1,(a0_2,a0_3))).2.1,((a0_0,(a0_1,(a0_2,a0_3))).2.2.1,(a0_0,(a0_1,(a0_2,a0_3))).2.2.2)))) ([],[],[],[]) λ(q7:C4)=>cU (gI ((q2.1,(q2.2.1,(q2.2.2.1,q2.2.2.2))),(q2.1,(q2.2.1,(q2.2.2.1,q2.2.2.2))))) false λ(q8:Bool)=>bif (!q8)then some (u false)
         else some (u true)
def g9 (gH:Y10)(fK:Y12)(m29:Y29)(m30:Y30)(zZ:Y31)(gI:Y14)(L:Nat)(a0_0:(List N10))(a0_1:(List M9))(a0_2:(List W2))(a0_3:(List S10)):Option Bool:=G9 (λx=>x) gH fK m29 m30 zZ gI a0_0 a0_1 a0_2 a0_3
theorem e9 (gH:Y10)(fK:Y12)(m29:Y29)(m30:Y30)(zZ:Y31)(gI:Y14)(L:Nat)(a0_0:(List N10))(a0_1:(List M9))(a0_2:(List W2))(a0_3:(List S10)):aBe prog (ev9 gH fK m29 m30 zZ gI) (bJ L) f9 (a9.enc (a0_0,a0_1,a0_2,a0_3))=(g9 gH fK m29 m30 zZ gI L a0_0 a0_1 a0_2 a0_3).map n9:=by
 refine .trans (b:=G9 n9 gH fK m29 m30 zZ gI a0_0 a0_1 a0_2 a0_3) (by kernel_rfl) ?_;unfold g9 G9
 repeat' first | with_reducible refine dP ?_ ?_ | with_reducible refine dL λ_=>?_ | with_reducible refine dO λ_=>?_ | exact rfl
def w9 (gH:Y10)(fK:Y12)(m29:Y29)(m30:Y30)(zZ:Y31)(gI:Y14)(L:Nat)(x:C4):Option Bool:=g9 gH fK m29 m30 zZ gI L x.1 x.2.1 x.2.2.1 x.2.2.2
theorem s9 (gH:Y10)(fK:Y12)(m29:Y29)(m30:Y30)(zZ:Y31)(gI:Y14)(h10:Sat prog cxT 10 (c10 gH))(h12:Sat prog cxT 12 (c12 fK))(h29:Sat prog cxT 29 (c29 m29))(h30:Sat prog cxT 30 (c30 m30))(h31:Sat prog cxT 31 (c31 zZ))(h14:Sat prog cxT 14 (c14 gI))(m:Y9)(hm:∀ (x:C4) t,m x=some t->∃ L,w9 gH fK m29 m30 zZ gI L x=some t):Sat prog cxT 9 (c9 m):=
 aK6 bC aX (by rfl) (fn:=f9) rfl a9 n9 dd9 m (ev9 gH fK m29 m30 zZ gI) (aL h10 (aL h12 (aL h29 (aL h30 (aL h31 (aL h14 aW)))))) aQ (w9 gH fK m29 m30 zZ gI) (λL x=>e9 gH fK m29 m30 zZ gI L x.1 x.2.1 x.2.2.1 x.2.2.2) hm hs9
def aTM (jF:Y58):Env cxT:={ Kc:=cR [(58,c58 jF)],Kw:=cQ [],lv:=λi=>[],xv:=λi=>none }
def G25 {B:Type}(u:Bool->B)(jF:Y58)(a0_0:Int)(a0_1:(List E9))(a1_0:Int)(a1_1:(List E9)):Option B:=
 bif (a0_0 != a1_0)then some (u false)
 else cU (jF (a0_1,a1_1)) false λ(q1:Bool)=>bif (!q1)then some (u false)
  else some (u true)
def g25 (jF:Y58)(L:Nat)(a0_0:Int)(a0_1:(List E9))(a1_0:Int)(a1_1:(List E9)):Option Bool:=G25 (λx=>x) jF a0_0 a0_1 a1_0 a1_1
theorem e25 (jF:Y58)(L:Nat)(a0_0:Int)(a0_1:(List E9))(a1_0:Int)(a1_1:(List E9)):fP prog (aTM jF) (bJ L) f25 (a25.enc ((a0_0,a0_1),(a1_0,a1_1)))=(g25 jF L a0_0 a0_1 a1_0 a1_1).map n25:=by
 refine .trans (b:=G25 n25 jF a0_0 a0_1 a1_0 a1_1) (by kernel_rfl) ?_;unfold g25 G25
 repeat' first | with_reducible refine dP ?_ ?_ | with_reducible refine dL λ_=>?_ | with_reducible refine dO λ_=>?_ | exact rfl
def w25 (jF:Y58)(L:Nat)(x:((Int×(List E9))×(Int×(List E9)))):Option Bool:=g25 jF L x.1.1 x.1.2 x.2.1 x.2.2
theorem s25 (jF:Y58)(h58:Sat prog cxT 58 (c58 jF))(m:Y25)(hm:∀ (x:((Int×(List E9))×(Int×(List E9)))) t,m x=some t->∃ L,w25 jF L x=some t):Sat prog cxT 25 (c25 m):=
 cF bC aX (by rfl) (fn:=f25) rfl a25 n25 aU7 m (aTM jF) (aL h58 aW) aQ (w25 jF) (λL x=>e25 jF L x.1.1 x.1.2 x.2.1 x.2.2) hm aZ0
def aTK (eT:Y63):Env cxT:={ Kc:=cR [],Kw:=cQ [(63,c63 eT)],lv:=λi=>[],xv:=λi=>none }
def G27 {B:Type}(u:(Int×Int×(List E9))->B)(eT:Y63)(a0_0:Int)(a0_1:(List E9))(a1:Int):Option B:=
 cU (eT (a0_1,a1)) ((0:Int),[]) λ(q1:(Int×(List E9)))=>some (u (q1.1,a0_0,q1.2))
def g27 (eT:Y63)(L:Nat)(a0_0:Int)(a0_1:(List E9))(a1:Int):Option (Int×Int×(List E9)):=G27 (λx=>x) eT a0_0 a0_1 a1
theorem e27 (eT:Y63)(L:Nat)(a0_0:Int)(a0_1:(List E9))(a1:Int):aAI prog (aTK eT) (bJ L) f27 1 (a27.enc ((a0_0,a0_1),a1))=(g27 eT L a0_0 a0_1 a1).map n27:=by
 refine .trans (b:=G27 n27 eT a0_0 a0_1 a1) (by kernel_rfl) ?_;unfold g27 G27
 repeat' first | with_reducible refine dP ?_ ?_ | with_reducible refine dL λ_=>?_ | with_reducible refine dO λ_=>?_ | exact rfl
def w27 (eT:Y63)(L:Nat)(x:((Int×(List E9))×Int)):Option (Int×Int×(List E9)):=g27 eT L x.1.1 x.1.2 x.2
theorem s27 (eT:Y63)(h63:SatW prog cxT 63 (c63 eT).nres (c63 eT).n (c63 eT).F)(m:Y27)(hm:∀ (x:((Int×(List E9))×Int)) t,m x=some t->∃ L,w27 eT L x=some t):SatW prog cxT 27 (c27 m).nres (c27 m).n (c27 m).F:=
 wS bC aX (by rfl) (fn:=f27) rfl rfl a27 n27 aU5 m (aTK eT) aW (iJ h63 aQ) (w27 eT) (λL x=>e27 eT L x.1.1 x.1.2 x.2) hm aZY
def aTJ (yE:Y64):Env cxT:={ Kc:=cR [(64,c64 yE)],Kw:=cQ [],lv:=λi=>[],xv:=λi=>none }
def G28 {B:Type}(u:Int->B)(yE:Y64)(a0_0:Int)(a0_1:(List E9))(a1:Int):Option B:=
 cU (yE (a0_1,a1)) (0:Int) λ(q1:Int)=>bif (decide (q1 < (0:Int)))then some (u (-(1:Int)))
  else some (u q1)
def g28 (yE:Y64)(L:Nat)(a0_0:Int)(a0_1:(List E9))(a1:Int):Option Int:=G28 (λx=>x) yE a0_0 a0_1 a1
theorem e28 (yE:Y64)(L:Nat)(a0_0:Int)(a0_1:(List E9))(a1:Int):fP prog (aTJ yE) (bJ L) f28 (a28.enc ((a0_0,a0_1),a1))=(g28 yE L a0_0 a0_1 a1).map n28:=by
 refine .trans (b:=G28 n28 yE a0_0 a0_1 a1) (by kernel_rfl) ?_;unfold g28 G28
 repeat' first | with_reducible refine dP ?_ ?_ | with_reducible refine dL λ_=>?_ | with_reducible refine dO λ_=>?_ | exact rfl
def w28 (yE:Y64)(L:Nat)(x:((Int×(List E9))×Int)):Option Int:=g28 yE L x.1.1 x.1.2 x.2
theorem s28 (yE:Y64)(h64:Sat prog cxT 64 (c64 yE))(m:Y28)(hm:∀ (x:((Int×(List E9))×Int)) t,m x=some t->∃ L,w28 yE L x=some t):Sat prog cxT 28 (c28 m):=
 cF bC aX (by rfl) (fn:=f28) rfl a28 n28 aU4 m (aTJ yE) (aL h64 aW) aQ (w28 yE) (λL x=>e28 yE L x.1.1 x.1.2 x.2) hm aZX
def aBp:Env cxT:={ Kc:=cR [],Kw:=cQ [],lv:=λi=>if i=0 then[(0,[some 102]),(1,[]),(5,[])]else[],xv:=λi=>if i=0 then some [(1,[])]else none }
def S64_0 (a0:(List E9))(a1:Int)(v0_1:Int)(v0_5:Int):St cxT.ty:={ slots:=[(.inl (.inl (ls { own:=0,nm:=0,e:=102,o:=false,xs:=a0 }))),(.inl (.inl (lv (.int .i64 v0_1)))),aJ,aJ,aJ,(.inl (.inl (lv (.int .i64 v0_5))))]++List.replicate 94 aJ,D:=[],F:=[],ctr:=1 }
def X64_0 (a0:(List E9))(a1:Int)(w0_1:Int):St cxT.ty:={ slots:=[aJ,(.inl (.inl (lv (.int .i64 w0_1))))]++List.replicate 98 aJ,D:=[],F:=[],ctr:=1 }
def G64 {B:Type}(u:Int->B)(hh0:Int->Int->Option B)(a0:(List E9))(a1:Int):Option B:=
 hh0 a1 (0:Int)
def B64_0 {B:Type}(u:Int->B)(gg:Int->Int->Option B)(kk:Int->Option B)(a0:(List E9))(a1:Int)(v0_1:Int)(v0_5:Int):Option B:=
 bif (decide (v0_5 < (Nat.cast (List.length a0):Int)))then dX (List.getD a0 v0_5.toNat ((0:Int),((0:Int),((0:Int),((0:Int),((0:Int),((0:Int),((0:Int),((0:Int),(0:Int)))))))))) λs1_0=>bif ((decide ((0:Int)<=v0_5))&&(decide (v0_5 < (Nat.cast (List.length a0):Int))))then bif (s1_0.1 != v0_1)then some (u (-(1:Int)))
   else bif ((decide ((0:Int)<=v0_5))&&(decide (v0_5 < (Nat.cast (List.length a0):Int))))then bif (s1_0.2.1 != (wrap .i64 (v0_1+(1:Int))))then some (u (-(1:Int)))
    else bif ((decide ((0:Int)<=v0_5))&&(decide (v0_5 < (Nat.cast (List.length a0):Int))))then bif (s1_0.2.2.1 != (wrap .i64 ((wrap .i64 (v0_1+(1:Int)))+(1:Int))))then some (u (-(1:Int)))
     else bif ((decide ((0:Int)<=v0_5))&&(decide (v0_5 < (Nat.cast (List.length a0):Int))))then bif (s1_0.2.2.2.1 != (wrap .i64 ((wrap .i64 ((wrap .i64 (v0_1+(1:Int)))+(1:Int)))+(1:Int))))then some (u (-(1:Int)))
      else bif ((decide ((0:Int)<=v0_5))&&(decide (v0_5 < (Nat.cast (List.length a0):Int))))then bif (s1_0.2.2.2.2.1 != (wrap .i64 ((wrap .i64 ((wrap .i64 ((wrap .i64 (v0_1+(1:Int)))+(1:Int)))+(1:Int)))+(1:Int))))then some (u (-(1:Int)))
       else bif ((decide ((0:Int)<=v0_5))&&(decide (v0_5 < (Nat.cast (List.length a0):Int))))then bif (s1_0.2.2.2.2.2.1 != (wrap .i64 ((wrap .i64 ((wrap .i64 ((wrap .i64 ((wrap .i64 (v0_1+(1:Int)))+(1:Int)))+(1:Int)))+(1:Int)))+(1:Int))))then some (u (-(1:Int)))
        else bif ((decide ((0:Int)<=v0_5))&&(decide (v0_5 < (Nat.cast (List.length a0):Int))))then bif (s1_0.2.2.2.2.2.2.1 != (wrap .i64 ((wrap .i64 ((wrap .i64 ((wrap .i64 ((wrap .i64 ((wrap .i64 (v0_1+(1:Int)))+(1:Int)))+(1:Int)))+(1:Int)))+(1:Int)))+(1:Int))))then some (u (-(1:Int)))
         else bif ((decide ((0:Int)<=v0_5))&&(decide (v0_5 < (Nat.cast (List.length a0):Int))))then bif (s1_0.2.2.2.2.2.2.2.1 != (wrap .i64 ((wrap .i64 ((wrap .i64 ((wrap .i64 ((wrap .i64 ((wrap .i64 ((wrap .i64 (v0_1+(1:Int)))+(1:Int)))+(1:Int)))+(1:Int)))+(1:Int)))+(1:Int)))+(1:Int))))then some (u (-(1:Int)))
          else bif ((decide ((0:Int)<=v0_5))&&(decide (v0_5 < (Nat.cast (List.length a0):Int))))then bif (s1_0.2.2.2.2.2.2.2.2 != (wrap .i64 ((wrap .i64 ((wrap .i64 ((wrap .i64 ((wrap .i64 ((wrap .i64 ((wrap .i64 ((wrap .i64 (v0_1+(1:Int)))+(1:Int)))+(1:Int)))+(1:Int)))+(1:Int)))+(1:Int)))+(1:Int)))+(1:Int))))then some (u (-(1:Int)))
           else gg (wrap .i64 ((wrap .i64 ((wrap .i64 ((wrap .i64 ((wrap .i64 ((wrap .i64 ((wrap .i64 ((wrap .i64 ((wrap .i64 (v0_1+(1:Int)))+(1:Int)))+(1:Int)))+(1:Int)))+(1:Int)))+(1:Int)))+(1:Int)))+(1:Int)))+(1:Int))) (wrap .i64 (v0_5+(1:Int)))
          else none
         else none
        else none
       else none
      else none
     else none
    else none
   else none
  else none
 else kk v0_1
def A64_0 {B:Type}(u:Int->B)(a0:(List E9))(a1:Int)(w0_1:Int):Option B:=
 some (u w0_1)
def qL (L:Nat)(a0:(List E9))(a1:Int):Nat->Int->Int->(Int->Option Int)->Option Int
 | 0,_,_,_=>none
 | n+1,v0_1,v0_5,k=>B64_0 (λx=>x) (λv0_1 v0_5=>qL L a0 a1 n v0_1 v0_5 k) k a0 a1 v0_1 v0_5
theorem aLy (L:Nat)(a0:(List E9))(a1:Int)(k:St cxT.ty->Option (V cxT.ty))(xk:Nat->St cxT.ty->Option (V cxT.ty))(k':Int->Option Int)(hk:∀ (w0_1:Int),k (X64_0 a0 a1 w0_1)=(k' w0_1).map n64):∀ (n:Nat) (v0_1:Int) (v0_5:Int),bA prog aBp L f64 0 [1,0,1,0,0] (cB (aY prog f64) k xk) n (S64_0 a0 a1 v0_1 v0_5)=(qL L a0 a1 n v0_1 v0_5 k').map n64
 | 0,_,_=>rfl
 | n+1,v0_1,v0_5=>by
  rw[bQ];have ih:=aLy L a0 a1 k xk k' hk n;refine .trans (b:=B64_0 n64 (λv0_1 v0_5=>(bA prog aBp L f64 0 [1,0,1,0,0] (cB (aY prog f64) k xk) n) (S64_0 a0 a1 v0_1 v0_5)) (λw0_1=>k (X64_0 a0 a1 w0_1)) a0 a1 v0_1 v0_5) (by kernel_rfl) ?_;unfold qL B64_0
  repeat' first | with_reducible refine dP ?_ ?_ | with_reducible refine dL λ_=>?_ | with_reducible refine dO λ_=>?_ | with_reducible exact ih _ _ | with_reducible exact hk _ | exact rfl
def g64 (L:Nat)(a0:(List E9))(a1:Int):Option Int:=G64 (λx=>x) (λv0_1 v0_5=>qL L a0 a1 L v0_1 v0_5 (λw0_1=>A64_0 (λx=>x) a0 a1 w0_1)) a0 a1
theorem e64 (L:Nat)(a0:(List E9))(a1:Int):fP prog aBp (bJ L) f64 (a64.enc (a0,a1))=(g64 L a0 a1).map n64:=by
 have hin0:∀ (v0_1:Int) (v0_5:Int),bA prog aBp L f64 0 [1,0,1,0,0] (cB (aY prog f64) (cA prog aBp L f64 [1,0,1] (aY prog f64)).n (cA prog aBp L f64 [1,0,1] (aY prog f64)).x) L (S64_0 a0 a1 v0_1 v0_5)=((λv0_1 v0_5=>qL L a0 a1 L v0_1 v0_5 (λw0_1=>A64_0 (λx=>x) a0 a1 w0_1)) v0_1 v0_5).map n64:=λv0_1 v0_5=>aLy L a0 a1 _ _ _ (λw0_1=>by refine .trans (b:=A64_0 n64 a0 a1 w0_1) (by kernel_rfl) ?_;unfold A64_0;repeat' first | with_reducible refine dP ?_ ?_ | with_reducible refine dL λ_=>?_ | with_reducible refine dO λ_=>?_ | exact rfl) L v0_1 v0_5
 refine .trans (b:=G64 n64 (λv0_1 v0_5=>bA prog aBp L f64 0 [1,0,1,0,0] (cB (aY prog f64) (cA prog aBp L f64 [1,0,1] (aY prog f64)).n (cA prog aBp L f64 [1,0,1] (aY prog f64)).x) L (S64_0 a0 a1 v0_1 v0_5)) a0 a1) (by kernel_rfl) ?_;unfold g64 G64
 repeat' first | with_reducible refine dP ?_ ?_ | with_reducible refine dL λ_=>?_ | with_reducible refine dO λ_=>?_ | with_reducible exact hin0 _ _ | exact rfl
def w64 (L:Nat)(x:((List E9)×Int)):Option Int:=g64 L x.1 x.2
theorem s64 (m:Y64)(hm:∀ (x:((List E9)×Int)) t,m x=some t->∃ L,w64 L x=some t):Sat prog cxT 64 (c64 m):=
 cF bC aX (by rfl) (fn:=f64) rfl a64 n64 aUG m aBp aW aQ (w64) (λL x=>e64 L x.1 x.2) hm aZy
def aTI:Env cxT:={ Kc:=cR [],Kw:=cQ [],lv:=λi=>[],xv:=λi=>none }
def G31 {B:Type}(u:Bool->B)(a0_0:Int)(a0_1:Int)(a1_0:Int)(a1_1:Int):Option B:=
 bif (a0_0 != a1_0)then some (u false)
 else bif (a0_1 != a1_1)then some (u false)
 else some (u true)
def g31 (L:Nat)(a0_0:Int)(a0_1:Int)(a1_0:Int)(a1_1:Int):Option Bool:=G31 (λx=>x) a0_0 a0_1 a1_0 a1_1
theorem e31 (L:Nat)(a0_0:Int)(a0_1:Int)(a1_0:Int)(a1_1:Int):fP prog aTI (bJ L) f31 (a31.enc ((a0_0,a0_1),(a1_0,a1_1)))=(g31 L a0_0 a0_1 a1_0 a1_1).map n31:=by
 refine .trans (b:=G31 n31 a0_0 a0_1 a1_0 a1_1) (by kernel_rfl) ?_;unfold g31 G31
 repeat' first | with_reducible refine dP ?_ ?_ | with_reducible refine dL λ_=>?_ | with_reducible refine dO λ_=>?_ | exact rfl
def w31 (L:Nat)(x:((Int×Int)×(Int×Int))):Option Bool:=g31 L x.1.1 x.1.2 x.2.1 x.2.2
theorem s31 (m:Y31)(hm:∀ (x:((Int×Int)×(Int×Int))) t,m x=some t->∃ L,w31 L x=some t):Sat prog cxT 31 (c31 m):=
 cF bC aX (by rfl) (fn:=f31) rfl a31 n31 aU2 m aTI aW aQ (w31) (λL x=>e31 L x.1.1 x.1.2 x.2.1 x.2.2) hm aZV
end Go.Proofs.Tryz
