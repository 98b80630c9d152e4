/- A part of the proof of FnExactSafeCluster: LmFc, LmFd, LmFq. -/
import Derived.Test.YtnmbggfkmkcmkaaGreatLmBase
set_option linter.unusedSimpArgs false
set_option linter.unusedVariables false
set_option maxHeartbeats 0
set_option maxRecDepth 100000
namespace Go.Proofs.Tryz
open Go.IntKind (wrap)
open Go Go.VM Go.RowKit
def aMK:Env cxT:={ Kc:=cN [],Kw:=cO [],lv:=λi=>[],xv:=λi=>none }
def G113 {B:Type}(u:Bool->B)(a0_0:Int)(a0_1:Int)(a0_2:Int)(a0_3:Int)(a0_4:Int)(a0_5:Int)(a1_0:Int)(a1_1:Int)(a1_2:Int)(a1_3:Int)(a1_4:Int)(a1_5:Int):Option B:=
 bif (a0_0 != a1_0)then some (u false)
 else bif (a0_1 != a1_1)then some (u false)
 else bif (a0_2 != a1_2)then some (u false)
 else bif (a0_3 != a1_3)then some (u false)
 else bif (a0_4 != a1_4)then some (u false)
 else bif (a0_5 != a1_5)then some (u false)
 else some (u true)
def aJg (L:Nat)(a0_0:Int)(a0_1:Int)(a0_2:Int)(a0_3:Int)(a0_4:Int)(a0_5:Int)(a1_0:Int)(a1_1:Int)(a1_2:Int)(a1_3:Int)(a1_4:Int)(a1_5:Int):Option Bool:=G113 (λx=>x) a0_0 a0_1 a0_2 a0_3 a0_4 a0_5 a1_0 a1_1 a1_2 a1_3 a1_4 a1_5
theorem bCk (L:Nat)(a0_0:Int)(a0_1:Int)(a0_2:Int)(a0_3:Int)(a0_4:Int)(a0_5:Int)(a1_0:Int)(a1_1:Int)(a1_2:Int)(a1_3:Int)(a1_4:Int)(a1_5:Int):eV prog aMK (bI L) f113 (aXs.enc ((a0_0,a0_1,a0_2,a0_3,a0_4,a0_5),(a1_0,a1_1,a1_2,a1_3,a1_4,a1_5)))=(aJg L a0_0 a0_1 a0_2 a0_3 a0_4 a0_5 a1_0 a1_1 a1_2 a1_3 a1_4 a1_5).map aG6:=by
 refine .trans (b:=G113 aG6 a0_0 a0_1 a0_2 a0_3 a0_4 a0_5 a1_0 a1_1 a1_2 a1_3 a1_4 a1_5) (by kernel_rfl) ?_;unfold aJg G113
 repeat' first | with_reducible refine dG ?_ ?_ | with_reducible refine dE λ_=>?_ | with_reducible refine dF λ_=>?_ | exact rfl
def aN3 (L:Nat)(x:((Int×Int×Int×Int×Int×Int)×(Int×Int×Int×Int×Int×Int))):Option Bool:=aJg L x.1.1 x.1.2.1 x.1.2.2.1 x.1.2.2.2.1 x.1.2.2.2.2.1 x.1.2.2.2.2.2 x.2.1 x.2.2.1 x.2.2.2.1 x.2.2.2.2.1 x.2.2.2.2.2.1 x.2.2.2.2.2.2
theorem aZB (m:Y113)(hm:∀ (x:((Int×Int×Int×Int×Int×Int)×(Int×Int×Int×Int×Int×Int))) t,m x=some t->∃ L,aN3 L x=some t):Sat prog cxT 113 (aKV m):=
 bS bB aW (by rfl) (fn:=f113) rfl aXs aG6 aNx m aMK aV aP (aN3) (λL x=>bCk L x.1.1 x.1.2.1 x.1.2.2.1 x.1.2.2.2.1 x.1.2.2.2.2.1 x.1.2.2.2.2.2 x.2.1 x.2.2.1 x.2.2.2.1 x.2.2.2.2.1 x.2.2.2.2.2.1 x.2.2.2.2.2.2) hm aTc
def aUf (m113:Y113):Env cxT:={ Kc:=cN [(113,aKV m113)],Kw:=cO [],lv:=λi=>[],xv:=λi=>none }
def G92 {B:Type}(u:Bool->B)(m113:Y113)(a0_0:Int)(a0_1:Int)(a0_2:Int)(a0_3:Int)(a0_4:Int)(a0_5:Int)(a0_6:Int)(a0_7:Int)(a0_8:Int)(a1_0:Int)(a1_1:Int)(a1_2:Int)(a1_3:Int)(a1_4:Int)(a1_5:Int)(a1_6:Int)(a1_7:Int)(a1_8:Int):Option B:=
 bif (a0_0 != a1_0)then some (u false)
 else bif (a0_1 != a1_1)then some (u false)
 else bif (a0_2 != a1_2)then some (u false)
 else cM (m113 ((a0_3,(a0_4,(a0_5,(a0_6,(a0_7,a0_8))))),(a1_3,(a1_4,(a1_5,(a1_6,(a1_7,a1_8))))))) false λ(q1:Bool)=>bif (!q1)then some (u false)
  else some (u true)
def g92 (m113:Y113)(L:Nat)(a0_0:Int)(a0_1:Int)(a0_2:Int)(a0_3:Int)(a0_4:Int)(a0_5:Int)(a0_6:Int)(a0_7:Int)(a0_8:Int)(a1_0:Int)(a1_1:Int)(a1_2:Int)(a1_3:Int)(a1_4:Int)(a1_5:Int)(a1_6:Int)(a1_7:Int)(a1_8:Int):Option Bool:=G92 (λx=>x) m113 a0_0 a0_1 a0_2 a0_3 a0_4 a0_5 a0_6 a0_7 a0_8 a1_0 a1_1 a1_2 a1_3 a1_4 a1_5 a1_6 a1_7 a1_8
theorem e92 (m113:Y113)(L:Nat)(a0_0:Int)(a0_1:Int)(a0_2:Int)(a0_3:Int)(a0_4:Int)(a0_5:Int)(a0_6:Int)(a0_7:Int)(a0_8:Int)(a1_0:Int)(a1_1:Int)(a1_2:Int)(a1_3:Int)(a1_4:Int)(a1_5:Int)(a1_6:Int)(a1_7:Int)(a1_8:Int):eV prog (aUf m113) (bI L) f92 (a92.enc ((a0_0,a0_1,a0_2,a0_3,a0_4,a0_5,a0_6,a0_7,a0_8),(a1_0,a1_1,a1_2,a1_3,a1_4,a1_5,a1_6,a1_7,a1_8)))=(g92 m113 L a0_0 a0_1 a0_2 a0_3 a0_4 a0_5 a0_6 a0_7 a0_8 a1_0 a1_1 a1_2 a1_3 a1_4 a1_5 a1_6 a1_7 a1_8).map n92:=by
 refine .trans (b:=G92 n92 m113 a0_0 a0_1 a0_2 a0_3 a0_4 a0_5 a0_6 a0_7 a0_8 a1_0 a1_1 a1_2 a1_3 a1_4 a1_5 a1_6 a1_7 a1_8) (by kernel_rfl) ?_;unfold g92 G92
 repeat' first | with_reducible refine dG ?_ ?_ | with_reducible refine dE λ_=>?_ | with_reducible refine dF λ_=>?_ | exact rfl
def w92 (m113:Y113)(L:Nat)(x:(E9×E9)):Option Bool:=g92 m113 L x.1.1 x.1.2.1 x.1.2.2.1 x.1.2.2.2.1 x.1.2.2.2.2.1 x.1.2.2.2.2.2.1 x.1.2.2.2.2.2.2.1 x.1.2.2.2.2.2.2.2.1 x.1.2.2.2.2.2.2.2.2 x.2.1 x.2.2.1 x.2.2.2.1 x.2.2.2.2.1 x.2.2.2.2.2.1 x.2.2.2.2.2.2.1 x.2.2.2.2.2.2.2.1 x.2.2.2.2.2.2.2.2.1 x.2.2.2.2.2.2.2.2.2
theorem s92 (m113:Y113)(h113:Sat prog cxT 113 (aKV m113))(m:Y92)(hm:∀ (x:(E9×E9)) t,m x=some t->∃ L,w92 m113 L x=some t):Sat prog cxT 92 (c92 m):=
 bS bB aW (by rfl) (fn:=f92) rfl a92 n92 aVf m (aUf m113) (aI h113 aV) aP (w92 m113) (λL x=>e92 m113 L x.1.1 x.1.2.1 x.1.2.2.1 x.1.2.2.2.1 x.1.2.2.2.2.1 x.1.2.2.2.2.2.1 x.1.2.2.2.2.2.2.1 x.1.2.2.2.2.2.2.2.1 x.1.2.2.2.2.2.2.2.2 x.2.1 x.2.2.1 x.2.2.2.1 x.2.2.2.2.1 x.2.2.2.2.2.1 x.2.2.2.2.2.2.1 x.2.2.2.2.2.2.2.1 x.2.2.2.2.2.2.2.2.1 x.2.2.2.2.2.2.2.2.2) hm bAd
def aBt (m92:Y92):Env cxT:={ Kc:=cN [(92,c92 m92)],Kw:=cO [],lv:=λi=>if i=0 then[(0,[some 102]),(1,[some 102]),(5,[])]else[],xv:=λi=>if i=0 then some []else none }
def S58_0 (a0:(List E9))(a1:(List E9))(v0_5:Int):St cxT.ty:={ slots:=[(.inl (.inl (ls { own:=0,nm:=0,e:=102,o:=false,xs:=a0 }))),(.inl (.inl (ls { own:=0,nm:=0,e:=102,o:=false,xs:=a1 }))),aH,aH,aH,(.inl (.inl (lv (.int .i64 v0_5))))]++List.replicate 21 aH,D:=[],F:=[],ctr:=1 }
def X58_0 (a0:(List E9))(a1:(List E9)):St cxT.ty:={ slots:=[]++List.replicate 27 aH,D:=[],F:=[],ctr:=1 }
def G58 {B:Type}(u:Bool->B)(hh0:Int->Option B)(m92:Y92)(a0:(List E9))(a1:(List E9)):Option B:=
 bif ((Nat.cast (List.length a0):Int) != (Nat.cast (List.length a1):Int))then some (u false)
 else hh0 (0:Int)
def B58_0 {B:Type}(u:Bool->B)(gg:Int->Option B)(kk:Option B)(m92:Y92)(a0:(List E9))(a1:(List E9))(v0_5:Int):Option B:=
 bif (decide (v0_5 < (Nat.cast (List.length a0):Int)))then eF (List.getD a0 v0_5.toNat ((0:Int),((0:Int),((0:Int),((0:Int),((0:Int),((0:Int),((0:Int),((0:Int),(0:Int)))))))))) λs1_0=>eF (List.getD a1 v0_5.toNat ((0:Int),((0:Int),((0:Int),((0:Int),((0:Int),((0:Int),((0:Int),((0:Int),(0:Int)))))))))) λs1_1=>bif ((decide ((0:Int)<=v0_5))&&(decide (v0_5 < (Nat.cast (List.length a0):Int))))then bif ((decide ((0:Int)<=v0_5))&&(decide (v0_5 < (Nat.cast (List.length a1):Int))))then cM (m92 ((s1_0.1,(s1_0.2.1,(s1_0.2.2.1,(s1_0.2.2.2.1,(s1_0.2.2.2.2.1,(s1_0.2.2.2.2.2.1,(s1_0.2.2.2.2.2.2.1,(s1_0.2.2.2.2.2.2.2.1,s1_0.2.2.2.2.2.2.2.2)))))))),(s1_1.1,(s1_1.2.1,(s1_1.2.2.1,(s1_1.2.2.2.1,(s1_1.2.2.2.2.1,(s1_1.2.2.2.2.2.1,(s1_1.2.2.2.2.2.2.1,(s1_1.2.2.2.2.2.2.2.1,s1_1.2.2.2.2.2.2.2.2)))))))))) false λ(q4:Bool)=>bif (!q4)then some (u false)
     else gg (wrap .i64 (v0_5+(1:Int)))
   else none
  else none
 else kk
def A58_0 {B:Type}(u:Bool->B)(m92:Y92)(a0:(List E9))(a1:(List E9)):Option B:=
 some (u true)
def aAi (m92:Y92)(L:Nat)(a0:(List E9))(a1:(List E9)):Nat->Int->(Option Bool)->Option Bool
 | 0,_,_=>none
 | n+1,v0_5,k=>B58_0 (λx=>x) (λv0_5=>aAi m92 L a0 a1 n v0_5 k) k m92 a0 a1 v0_5
theorem aLL (m92:Y92)(L:Nat)(a0:(List E9))(a1:(List E9))(k:St cxT.ty->Option (V cxT.ty))(xk:Nat->St cxT.ty->Option (V cxT.ty))(k':Option Bool)(hk:k (X58_0 a0 a1)=(k').map n58):∀ (n:Nat) (v0_5:Int),aS prog (aBt m92) L f58 0 [1,1,0,1,0,0] (bE (aM prog f58) k xk) n (S58_0 a0 a1 v0_5)=(aAi m92 L a0 a1 n v0_5 k').map n58
 | 0,_=>rfl
 | n+1,v0_5=>by
  rw[bF];have ih:=aLL m92 L a0 a1 k xk k' hk n;refine .trans (b:=B58_0 n58 (λv0_5=>(aS prog (aBt m92) L f58 0 [1,1,0,1,0,0] (bE (aM prog f58) k xk) n) (S58_0 a0 a1 v0_5)) (k (X58_0 a0 a1)) m92 a0 a1 v0_5) (by kernel_rfl) ?_;unfold aAi B58_0
  repeat' first | with_reducible refine dG ?_ ?_ | with_reducible refine dE λ_=>?_ | with_reducible refine dF λ_=>?_ | with_reducible exact ih _ | with_reducible exact hk | exact rfl
def g58 (m92:Y92)(L:Nat)(a0:(List E9))(a1:(List E9)):Option Bool:=G58 (λx=>x) (λv0_5=>aAi m92 L a0 a1 L v0_5 (A58_0 (λx=>x) m92 a0 a1)) m92 a0 a1
theorem e58 (m92:Y92)(L:Nat)(a0:(List E9))(a1:(List E9)):eV prog (aBt m92) (bI L) f58 (a58.enc (a0,a1))=(g58 m92 L a0 a1).map n58:=by
 have hin0:∀ (v0_5:Int),aS prog (aBt m92) L f58 0 [1,1,0,1,0,0] (bE (aM prog f58) (bU prog (aBt m92) L f58 [1,1,0,1] (aM prog f58)).n (bU prog (aBt m92) L f58 [1,1,0,1] (aM prog f58)).x) L (S58_0 a0 a1 v0_5)=((λv0_5=>aAi m92 L a0 a1 L v0_5 (A58_0 (λx=>x) m92 a0 a1)) v0_5).map n58:=λv0_5=>aLL m92 L a0 a1 _ _ _ (by refine .trans (b:=A58_0 n58 m92 a0 a1) (by kernel_rfl) ?_;unfold A58_0;repeat' first | with_reducible refine dG ?_ ?_ | with_reducible refine dE λ_=>?_ | with_reducible refine dF λ_=>?_ | exact rfl) L v0_5
 refine .trans (b:=G58 n58 (λv0_5=>aS prog (aBt m92) L f58 0 [1,1,0,1,0,0] (bE (aM prog f58) (bU prog (aBt m92) L f58 [1,1,0,1] (aM prog f58)).n (bU prog (aBt m92) L f58 [1,1,0,1] (aM prog f58)).x) L (S58_0 a0 a1 v0_5)) m92 a0 a1) (by kernel_rfl) ?_;unfold g58 G58
 repeat' first | with_reducible refine dG ?_ ?_ | with_reducible refine dE λ_=>?_ | with_reducible refine dF λ_=>?_ | with_reducible exact hin0 _ | exact rfl
def w58 (m92:Y92)(L:Nat)(x:((List E9)×(List E9))):Option Bool:=g58 m92 L x.1 x.2
theorem s58 (m92:Y92)(h92:Sat prog cxT 92 (c92 m92))(m:Y58)(hm:∀ (x:((List E9)×(List E9))) t,m x=some t->∃ L,w58 m92 L x=some t):Sat prog cxT 58 (c58 m):=
 bS bB aW (by rfl) (fn:=f58) rfl a58 n58 aVH m (aBt m92) (aI h92 aV) aP (w58 m92) (λL x=>e58 m92 L x.1 x.2) hm bAF
def tP:Env cxT:={ Kc:=cN [],Kw:=cO [],lv:=λi=>if i=0 then[(0,[some 2]),(1,[some 2]),(5,[])]else[],xv:=λi=>if i=0 then some []else none }
def S109_0 (a0:(List Int))(a1:(List Int))(v0_5:Int):St cxT.ty:={ slots:=[(.inl (.inl (ls { own:=0,nm:=0,e:=2,o:=false,xs:=a0 }))),(.inl (.inl (ls { own:=0,nm:=0,e:=2,o:=false,xs:=a1 }))),aH,aH,aH,(.inl (.inl (lv (.int .i64 v0_5))))]++List.replicate 20 aH,D:=[],F:=[],ctr:=1 }
def X109_0 (a0:(List Int))(a1:(List Int)):St cxT.ty:={ slots:=[]++List.replicate 26 aH,D:=[],F:=[],ctr:=1 }
def G109 {B:Type}(u:Bool->B)(hh0:Int->Option B)(a0:(List Int))(a1:(List Int)):Option B:=
 bif ((Nat.cast (List.length a0):Int) != (Nat.cast (List.length a1):Int))then some (u false)
 else hh0 (0:Int)
def B109_0 {B:Type}(u:Bool->B)(gg:Int->Option B)(kk:Option B)(a0:(List Int))(a1:(List Int))(v0_5:Int):Option B:=
 bif (decide (v0_5 < (Nat.cast (List.length a0):Int)))then bif ((decide ((0:Int)<=v0_5))&&(decide (v0_5 < (Nat.cast (List.length a0):Int))))then bif ((decide ((0:Int)<=v0_5))&&(decide (v0_5 < (Nat.cast (List.length a1):Int))))then bif ((List.getD a0 v0_5.toNat (0:Int)) != (List.getD a1 v0_5.toNat (0:Int)))then some (u false)
    else gg (wrap .i64 (v0_5+(1:Int)))
   else none
  else none
 else kk
def A109_0 {B:Type}(u:Bool->B)(a0:(List Int))(a1:(List Int)):Option B:=
 some (u true)
def uH (L:Nat)(a0:(List Int))(a1:(List Int)):Nat->Int->(Option Bool)->Option Bool
 | 0,_,_=>none
 | n+1,v0_5,k=>B109_0 (λx=>x) (λv0_5=>uH L a0 a1 n v0_5 k) k a0 a1 v0_5
theorem aI0 (L:Nat)(a0:(List Int))(a1:(List Int))(k:St cxT.ty->Option (V cxT.ty))(xk:Nat->St cxT.ty->Option (V cxT.ty))(k':Option Bool)(hk:k (X109_0 a0 a1)=(k').map zX):∀ (n:Nat) (v0_5:Int),aS prog tP L f109 0 [1,1,0,1,0,0] (bE (aM prog f109) k xk) n (S109_0 a0 a1 v0_5)=(uH L a0 a1 n v0_5 k').map zX
 | 0,_=>rfl
 | n+1,v0_5=>by
  rw[bF];have ih:=aI0 L a0 a1 k xk k' hk n;refine .trans (b:=B109_0 zX (λv0_5=>(aS prog tP L f109 0 [1,1,0,1,0,0] (bE (aM prog f109) k xk) n) (S109_0 a0 a1 v0_5)) (k (X109_0 a0 a1)) a0 a1 v0_5) (by kernel_rfl) ?_;unfold uH B109_0
  repeat' first | with_reducible refine dG ?_ ?_ | with_reducible refine dE λ_=>?_ | with_reducible refine dF λ_=>?_ | with_reducible exact ih _ | with_reducible exact hk | exact rfl
def aJi (L:Nat)(a0:(List Int))(a1:(List Int)):Option Bool:=G109 (λx=>x) (λv0_5=>uH L a0 a1 L v0_5 (A109_0 (λx=>x) a0 a1)) a0 a1
theorem bCo (L:Nat)(a0:(List Int))(a1:(List Int)):eV prog tP (bI L) f109 (aXw.enc (a0,a1))=(aJi L a0 a1).map zX:=by
 have hin0:∀ (v0_5:Int),aS prog tP L f109 0 [1,1,0,1,0,0] (bE (aM prog f109) (bU prog tP L f109 [1,1,0,1] (aM prog f109)).n (bU prog tP L f109 [1,1,0,1] (aM prog f109)).x) L (S109_0 a0 a1 v0_5)=((λv0_5=>uH L a0 a1 L v0_5 (A109_0 (λx=>x) a0 a1)) v0_5).map zX:=λv0_5=>aI0 L a0 a1 _ _ _ (by refine .trans (b:=A109_0 zX a0 a1) (by kernel_rfl) ?_;unfold A109_0;repeat' first | with_reducible refine dG ?_ ?_ | with_reducible refine dE λ_=>?_ | with_reducible refine dF λ_=>?_ | exact rfl) L v0_5
 refine .trans (b:=G109 zX (λv0_5=>aS prog tP L f109 0 [1,1,0,1,0,0] (bE (aM prog f109) (bU prog tP L f109 [1,1,0,1] (aM prog f109)).n (bU prog tP L f109 [1,1,0,1] (aM prog f109)).x) L (S109_0 a0 a1 v0_5)) a0 a1) (by kernel_rfl) ?_;unfold aJi G109
 repeat' first | with_reducible refine dG ?_ ?_ | with_reducible refine dE λ_=>?_ | with_reducible refine dF λ_=>?_ | with_reducible exact hin0 _ | exact rfl
def aN5 (L:Nat)(x:((List Int)×(List Int))):Option Bool:=aJi L x.1 x.2
theorem aZF (m:Y109)(hm:∀ (x:((List Int)×(List Int))) t,m x=some t->∃ L,aN5 L x=some t):Sat prog cxT 109 (aKY m):=
 bS bB aW (by rfl) (fn:=f109) rfl aXw zX aNB m tP aV aP (aN5) (λL x=>bCo L x.1 x.2) hm aTg
def aUn (nM:Y58)(kI:Y109):Env cxT:={ Kc:=cN [(58,c58 nM),(109,aKY kI)],Kw:=cO [],lv:=λi=>[],xv:=λi=>none }
def G82 {B:Type}(u:Bool->B)(nM:Y58)(kI:Y109)(a0_0:Int)(a0_1:Int)(a0_2:Int)(a0_3:Int)(a0_4:(List E9))(a0_5:Int)(a0_6:Int)(a0_7:(List Int))(a0_8:(List Int))(a0_9:(List Int))(a1_0:Int)(a1_1:Int)(a1_2:Int)(a1_3:Int)(a1_4:(List E9))(a1_5:Int)(a1_6:Int)(a1_7:(List Int))(a1_8:(List Int))(a1_9:(List Int)):Option B:=
 bif (a0_0 != a1_0)then some (u false)
 else bif (a0_1 != a1_1)then some (u false)
 else bif (a0_2 != a1_2)then some (u false)
 else bif (a0_3 != a1_3)then some (u false)
 else cM (nM (a0_4,a1_4)) false λ(q1:Bool)=>bif (!q1)then some (u false)
  else bif (a0_5 != a1_5)then some (u false)
  else bif (a0_6 != a1_6)then some (u false)
  else cM (kI (a0_7,a1_7)) false λ(q2:Bool)=>bif (!q2)then some (u false)
   else cM (kI (a0_8,a1_8)) false λ(q3:Bool)=>bif (!q3)then some (u false)
    else cM (kI (a0_9,a1_9)) false λ(q4:Bool)=>bif (!q4)then some (u false)
     else some (u true)
def g82 (nM:Y58)(kI:Y109)(L:Nat)(a0_0:Int)(a0_1:Int)(a0_2:Int)(a0_3:Int)(a0_4:(List E9))(a0_5:Int)(a0_6:Int)(a0_7:(List Int))(a0_8:(List Int))(a0_9:(List Int))(a1_0:Int)(a1_1:Int)(a1_2:Int)(a1_3:Int)(a1_4:(List E9))(a1_5:Int)(a1_6:Int)(a1_7:(List Int))(a1_8:(List Int))(a1_9:(List Int)):Option Bool:=G82 (λx=>x) nM kI a0_0 a0_1 a0_2 a0_3 a0_4 a0_5 a0_6 a0_7 a0_8 a0_9 a1_0 a1_1 a1_2 a1_3 a1_4 a1_5 a1_6 a1_7 a1_8 a1_9
theorem e82 (nM:Y58)(kI:Y109)(L:Nat)(a0_0:Int)(a0_1:Int)(a0_2:Int)(a0_3:Int)(a0_4:(List E9))(a0_5:Int)(a0_6:Int)(a0_7:(List Int))(a0_8:(List Int))(a0_9:(List Int))(a1_0:Int)(a1_1:Int)(a1_2:Int)(a1_3:Int)(a1_4:(List E9))(a1_5:Int)(a1_6:Int)(a1_7:(List Int))(a1_8:(List Int))(a1_9:(List Int)):eV prog (aUn nM kI) (bI L) f82 (a82.enc ((a0_0,a0_1,a0_2,a0_3,a0_4,a0_5,a0_6,a0_7,a0_8,a0_9),(a1_0,a1_1,a1_2,a1_3,a1_4,a1_5,a1_6,a1_7,a1_8,a1_9)))=(g82 nM kI L a0_0 a0_1 a0_2 a0_3 a0_4 a0_5 a0_6 a0_7 a0_8 a0_9 a1_0 a1_1 a1_2 a1_3 a1_4 a1_5 a1_6 a1_7 a1_8 a1_9).map n82:=by
 refine .trans (b:=G82 n82 nM kI a0_0 a0_1 a0_2 a0_3 a0_4 a0_5 a0_6 a0_7 a0_8 a0_9 a1_0 a1_1 a1_2 a1_3 a1_4 a1_5 a1_6 a1_7 a1_8 a1_9) (by kernel_rfl) ?_;unfold g82 G82
 repeat' first | with_reducible refine dG ?_ ?_ | with_reducible refine dE λ_=>?_ | with_reducible refine dF λ_=>?_ | exact rfl
def w82 (nM:Y58)(kI:Y109)(L:Nat)(x:(N10×N10)):Option Bool:=g82 nM kI L x.1.1 x.1.2.1 x.1.2.2.1 x.1.2.2.2.1 x.1.2.2.2.2.1 x.1.2.2.2.2.2.1 x.1.2.2.2.2.2.2.1 x.1.2.2.2.2.2.2.2.1 x.1.2.2.2.2.2.2.2.2.1 x.1.2.2.2.2.2.2.2.2.2 x.2.1 x.2.2.1 x.2.2.2.1 x.2.2.2.2.1 x.2.2.2.2.2.1 x.2.2.2.2.2.2.1 x.2.2.2.2.2.2.2.1 x.2.2.2.2.2.2.2.2.1 x.2.2.2.2.2.2.2.2.2.1 x.2.2.2.2.2.2.2.2.2.2
theorem s82 (nM:Y58)(kI:Y109)(h58:Sat prog cxT 58 (c58 nM))(h109:Sat prog cxT 109 (aKY kI))(m:Y82)(hm:∀ (x:(N10×N10)) t,m x=some t->∃ L,w82 nM kI L x=some t):Sat prog cxT 82 (c82 m):=
 bS bB aW (by rfl) (fn:=f82) rfl a82 n82 aVp m (aUn nM kI) (aI h58 (aI h109 aV)) aP (w82 nM kI) (λL x=>e82 nM kI L x.1.1 x.1.2.1 x.1.2.2.1 x.1.2.2.2.1 x.1.2.2.2.2.1 x.1.2.2.2.2.2.1 x.1.2.2.2.2.2.2.1 x.1.2.2.2.2.2.2.2.1 x.1.2.2.2.2.2.2.2.2.1 x.1.2.2.2.2.2.2.2.2.2 x.2.1 x.2.2.1 x.2.2.2.1 x.2.2.2.2.1 x.2.2.2.2.2.1 x.2.2.2.2.2.2.1 x.2.2.2.2.2.2.2.1 x.2.2.2.2.2.2.2.2.1 x.2.2.2.2.2.2.2.2.2.1 x.2.2.2.2.2.2.2.2.2.2) hm bAn
def aUm (nM:Y58):Env cxT:={ Kc:=cN [(58,c58 nM)],Kw:=cO [],lv:=λi=>[],xv:=λi=>none }
def G83 {B:Type}(u:Bool->B)(nM:Y58)(a0_0:Int)(a0_1:Int)(a0_2:Int)(a0_3:Int)(a0_4:Int)(a0_5:Int)(a0_6:Int)(a0_7:Bool)(a0_8:(List E9))(a1_0:Int)(a1_1:Int)(a1_2:Int)(a1_3:Int)(a1_4:Int)(a1_5:Int)(a1_6:Int)(a1_7:Bool)(a1_8:(List E9)):Option B:=
 bif (a0_0 != a1_0)then some (u false)
 else bif (a0_1 != a1_1)then some (u false)
 else bif (a0_2 != a1_2)then some (u false)
 else bif (a0_3 != a1_3)then some (u false)
 else bif (a0_4 != a1_4)then some (u false)
 else bif (a0_5 != a1_5)then some (u false)
 else bif (a0_6 != a1_6)then some (u false)
 else bif (!(a0_7 == a1_7))then some (u false)
 else cM (nM (a0_8,a1_8)) false λ(q1:Bool)=>bif (!q1)then some (u false)
  else some (u true)
def g83 (nM:Y58)(L:Nat)(a0_0:Int)(a0_1:Int)(a0_2:Int)(a0_3:Int)(a0_4:Int)(a0_5:Int)(a0_6:Int)(a0_7:Bool)(a0_8:(List E9))(a1_0:Int)(a1_1:Int)(a1_2:Int)(a1_3:Int)(a1_4:Int)(a1_5:Int)(a1_6:Int)(a1_7:Bool)(a1_8:(List E9)):Option Bool:=G83 (λx=>x) nM a0_0 a0_1 a0_2 a0_3 a0_4 a0_5 a0_6 a0_7 a0_8 a1_0 a1_1 a1_2 a1_3 a1_4 a1_5 a1_6 a1_7 a1_8
theorem e83 (nM:Y58)(L:Nat)(a0_0:Int)(a0_1:Int)(a0_2:Int)(a0_3:Int)(a0_4:Int)(a0_5:Int)(a0_6:Int)(a0_7:Bool)(a0_8:(List E9))(a1_0:Int)(a1_1:Int)(a1_2:Int)(a1_3:Int)(a1_4:Int)(a1_5:Int)(a1_6:Int)(a1_7:Bool)(a1_8:(List E9)):eV prog (aUm nM) (bI L) f83 (a83.enc ((a0_0,a0_1,a0_2,a0_3,a0_4,a0_5,a0_6,a0_7,a0_8),(a1_0,a1_1,a1_2,a1_3,a1_4,a1_5,a1_6,a1_7,a1_8)))=(g83 nM L a0_0 a0_1 a0_2 a0_3 a0_4 a0_5 a0_6 a0_7 a0_8 a1_0 a1_1 a1_2 a1_3 a1_4 a1_5 a1_6 a1_7 a1_8).map n83:=by
 refine .trans (b:=G83 n83 nM a0_0 a0_1 a0_2 a0_3 a0_4 a0_5 a0_6 a0_7 a0_8 a1_0 a1_1 a1_2 a1_3 a1_4 a1_5 a1_6 a1_7 a1_8) (by kernel_rfl) ?_;unfold g83 G83
 repeat' first | with_reducible refine dG ?_ ?_ | with_reducible refine dE λ_=>?_ | with_reducible refine dF λ_=>?_ | exact rfl
def w83 (nM:Y58)(L:Nat)(x:(M9×M9)):Option Bool:=g83 nM L x.1.1 x.1.2.1 x.1.2.2.1 x.1.2.2.2.1 x.1.2.2.2.2.1 x.1.2.2.2.2.2.1 x.1.2.2.2.2.2.2.1 x.1.2.2.2.2.2.2.2.1 x.1.2.2.2.2.2.2.2.2 x.2.1 x.2.2.1 x.2.2.2.1 x.2.2.2.2.1 x.2.2.2.2.2.1 x.2.2.2.2.2.2.1 x.2.2.2.2.2.2.2.1 x.2.2.2.2.2.2.2.2.1 x.2.2.2.2.2.2.2.2.2
theorem s83 (nM:Y58)(h58:Sat prog cxT 58 (c58 nM))(m:Y83)(hm:∀ (x:(M9×M9)) t,m x=some t->∃ L,w83 nM L x=some t):Sat prog cxT 83 (c83 m):=
 bS bB aW (by rfl) (fn:=f83) rfl a83 n83 aVo m (aUm nM) (aI h58 aV) aP (w83 nM) (λL x=>e83 nM L x.1.1 x.1.2.1 x.1.2.2.1 x.1.2.2.2.1 x.1.2.2.2.2.1 x.1.2.2.2.2.2.1 x.1.2.2.2.2.2.2.1 x.1.2.2.2.2.2.2.2.1 x.1.2.2.2.2.2.2.2.2 x.2.1 x.2.2.1 x.2.2.2.1 x.2.2.2.2.1 x.2.2.2.2.2.1 x.2.2.2.2.2.2.1 x.2.2.2.2.2.2.2.1 x.2.2.2.2.2.2.2.2.1 x.2.2.2.2.2.2.2.2.2) hm bAm
def aUl:Env cxT:={ Kc:=cN [],Kw:=cO [],lv:=λi=>[],xv:=λi=>none }
def G84 {B:Type}(u:Bool->B)(a0_0:Int)(a0_1:Int)(a1_0:Int)(a1_1:Int):Option B:=
 bif (a0_0 != a1_0)then some (u false)
 else bif (a0_1 != a1_1)then some (u false)
 else some (u true)
def g84 (L:Nat)(a0_0:Int)(a0_1:Int)(a1_0:Int)(a1_1:Int):Option Bool:=G84 (λx=>x) a0_0 a0_1 a1_0 a1_1
theorem e84 (L:Nat)(a0_0:Int)(a0_1:Int)(a1_0:Int)(a1_1:Int):eV prog aUl (bI L) f84 (a84.enc ((a0_0,a0_1),(a1_0,a1_1)))=(g84 L a0_0 a0_1 a1_0 a1_1).map n84:=by
 refine .trans (b:=G84 n84 a0_0 a0_1 a1_0 a1_1) (by kernel_rfl) ?_;unfold g84 G84
 repeat' first | with_reducible refine dG ?_ ?_ | with_reducible refine dE λ_=>?_ | with_reducible refine dF λ_=>?_ | exact rfl
def w84 (L:Nat)(x:((Int×Int)×(Int×Int))):Option Bool:=g84 L x.1.1 x.1.2 x.2.1 x.2.2
theorem s84 (m:Y84)(hm:∀ (x:((Int×Int)×(Int×Int))) t,m x=some t->∃ L,w84 L x=some t):Sat prog cxT 84 (c84 m):=
 bS bB aW (by rfl) (fn:=f84) rfl a84 n84 aVn m aUl aV aP (w84) (λL x=>e84 L x.1.1 x.1.2 x.2.1 x.2.2) hm bAl
def aUk (m92:Y92):Env cxT:={ Kc:=cN [(92,c92 m92)],Kw:=cO [],lv:=λi=>[],xv:=λi=>none }
def G85 {B:Type}(u:Bool->B)(m92:Y92)(a0_0:Int)(a0_1:Int)(a0_2:Int)(a0_3:Int)(a0_4:Int)(a0_5:Int)(a0_6:Int)(a0_7:Int)(a0_8:Int)(a0_9:Int)(a1_0:Int)(a1_1:Int)(a1_2:Int)(a1_3:Int)(a1_4:Int)(a1_5:Int)(a1_6:Int)(a1_7:Int)(a1_8:Int)(a1_9:Int):Option B:=
 bif (a0_0 != a1_0)then some (u false)
 else cM (m92 ((a0_1,(a0_2,(a0_3,(a0_4,(a0_5,(a0_6,(a0_7,(a0_8,a0_9)))))))),(a1_1,(a1_2,(a1_3,(a1_4,(a1_5,(a1_6,(a1_7,(a1_8,a1_9)))))))))) false λ(q1:Bool)=>bif (!q1)then some (u false)
  else some (u true)
def g85 (m92:Y92)(L:Nat)(a0_0:Int)(a0_1:Int)(a0_2:Int)(a0_3:Int)(a0_4:Int)(a0_5:Int)(a0_6:Int)(a0_7:Int)(a0_8:Int)(a0_9:Int)(a1_0:Int)(a1_1:Int)(a1_2:Int)(a1_3:Int)(a1_4:Int)(a1_5:Int)(a1_6:Int)(a1_7:Int)(a1_8:Int)(a1_9:Int):Option Bool:=G85 (λx=>x) m92 a0_0 a0_1 a0_2 a0_3 a0_4 a0_5 a0_6 a0_7 a0_8 a0_9 a1_0 a1_1 a1_2 a1_3 a1_4 a1_5 a1_6 a1_7 a1_8 a1_9
theorem e85 (m92:Y92)(L:Nat)(a0_0:Int)(a0_1:Int)(a0_2:Int)(a0_3:Int)(a0_4:Int)(a0_5:Int)(a0_6:Int)(a0_7:Int)(a0_8:Int)(a0_9:Int)(a1_0:Int)(a1_1:Int)(a1_2:Int)(a1_3:Int)(a1_4:Int)(a1_5:Int)(a1_6:Int)(a1_7:Int)(a1_8:Int)(a1_9:Int):eV prog (aUk m92) (bI L) f85 (a85.enc ((a0_0,a0_1,a0_2,a0_3,a0_4,a0_5,a0_6,a0_7,a0_8,a0_9),(a1_0,a1_1,a1_2,a1_3,a1_4,a1_5,a1_6,a1_7,a1_8,a1_9)))=(g85 m92 L a0_0 a0_1 a0_2 a0_3 a0_4 a0_5 a0_6 a0_7 a0_8 a0_9 a1_0 a1_1 a1_2 a1_3 a1_4 a1_5 a1_6 a1_7 a1_8 a1_9).map n85:=by
 refine .trans (b:=G85 n85 m92 a0_0 a0_1 a0_2 a0_3 a0_4 a0_5 a0_6 a0_7 a0_8 a0_9 a1_0 a1_1 a1_2 a1_3 a1_4 a1_5 a1_6 a1_7 a1_8 a1_9) (by kernel_rfl) ?_;unfold g85 G85
 repeat' first | with_reducible refine dG ?_ ?_ | with_reducible refine dE λ_=>?_ | with_reducible refine dF λ_=>?_ | exact rfl
def w85 (m92:Y92)(L:Nat)(x:(S10×S10)):Option Bool:=g85 m92 L x.1.1 x.1.2.1 x.1.2.2.1 x.1.2.2.2.1 x.1.2.2.2.2.1 x.1.2.2.2.2.2.1 x.1.2.2.2.2.2.2.1 x.1.2.2.2.2.2.2.2.1 x.1.2.2.2.2.2.2.2.2.1 x.1.2.2.2.2.2.2.2.2.2 x.2.1 x.2.2.1 x.2.2.2.1 x.2.2.2.2.1 x.2.2.2.2.2.1 x.2.2.2.2.2.2.1 x.2.2.2.2.2.2.2.1 x.2.2.2.2.2.2.2.2.1 x.2.2.2.2.2.2.2.2.2.1 x.2.2.2.2.2.2.2.2.2.2
theorem s85 (m92:Y92)(h92:Sat prog cxT 92 (c92 m92))(m:Y85)(hm:∀ (x:(S10×S10)) t,m x=some t->∃ L,w85 m92 L x=some t):Sat prog cxT 85 (c85 m):=
 bS bB aW (by rfl) (fn:=f85) rfl a85 n85 aVm m (aUk m92) (aI h92 aV) aP (w85 m92) (λL x=>e85 m92 L x.1.1 x.1.2.1 x.1.2.2.1 x.1.2.2.2.1 x.1.2.2.2.2.1 x.1.2.2.2.2.2.1 x.1.2.2.2.2.2.2.1 x.1.2.2.2.2.2.2.2.1 x.1.2.2.2.2.2.2.2.2.1 x.1.2.2.2.2.2.2.2.2.2 x.2.1 x.2.2.1 x.2.2.2.1 x.2.2.2.2.1 x.2.2.2.2.2.1 x.2.2.2.2.2.2.1 x.2.2.2.2.2.2.2.1 x.2.2.2.2.2.2.2.2.1 x.2.2.2.2.2.2.2.2.2.1 x.2.2.2.2.2.2.2.2.2.2) hm bAk
def aBA (mO:Y82):Env cxT:={ Kc:=cN [(82,c82 mO)],Kw:=cO [],lv:=λi=>if i=0 then[(0,[some 73]),(1,[some 73]),(5,[])]else[],xv:=λi=>if i=0 then some []else none }
def S45_0 (a0:(List N10))(a1:(List N10))(v0_5:Int):St cxT.ty:={ slots:=[(.inl (.inl (ls { own:=0,nm:=0,e:=73,o:=false,xs:=a0 }))),(.inl (.inl (ls { own:=0,nm:=0,e:=73,o:=false,xs:=a1 }))),aH,aH,aH,(.inl (.inl (lv (.int .i64 v0_5))))]++List.replicate 21 aH,D:=[],F:=[],ctr:=1 }
def X45_0 (a0:(List N10))(a1:(List N10)):St cxT.ty:={ slots:=[]++List.replicate 27 aH,D:=[],F:=[],ctr:=1 }
def G45 {B:Type}(u:Bool->B)(hh0:Int->Option B)(mO:Y82)(a0:(List N10))(a1:(List N10)):Option B:=
 bif ((Nat.cast (List.length a0):Int) != (Nat.cast (List.length a1):Int))then some (u false)
 else hh0 (0:Int)
def B45_0 {B:Type}(u:Bool->B)(gg:Int->Option B)(kk:Option B)(mO:Y82)(a0:(List N10))(a1:(List N10))(v0_5:Int):Option B:=
 bif (decide (v0_5 < (Nat.cast (List.length a0):Int)))then eF (List.getD a0 v0_5.toNat ((0:Int),((0:Int),((0:Int),((0:Int),(([]:List E9),((0:Int),((0:Int),(([]:List (Int)),(([]:List (Int)),([]:List (Int)))))))))))) λs1_0=>eF (List.getD a1 v0_5.toNat ((0:Int),((0:Int),((0:Int),((0:Int),(([]:List E9),((0:Int),((0:Int),(([]:List (Int)),(([]:List (Int)),([]:List (Int)))))))))))) λs1_1=>bif ((decide ((0:Int)<=v0_5))&&(decide (v0_5 < (Nat.cast (List.length a0):Int))))then bif ((decide ((0:Int)<=v0_5))&&(decide (v0_5 < (Nat.cast (List.length a1):Int))))then cM (mO ((s1_0.1,(s1_0.2.1,(s1_0.2.2.1,(s1_0.2.2.2.1,(s1_0.2.2.2.2.1,(s1_0.2.2.2.2.2.1,(s1_0.2.2.2.2.2.2.1,(s1_0.2.2.2.2.2.2.2.1,(s1_0.2.2.2.2.2.2.2.2.1,s1_0.2.2.2.2.2.2.2.2.2))))))))),(s1_1.1,(s1_1.2.1,(s1_1.2.2.1,(s1_1.2.2.2.1,(s1_1.2.2.2.2.1,(s1_1.2.2.2.2.2.1,(s1_1.2.2.2.2.2.2.1,(s1_1.2.2.2.2.2.2.2.1,(s1_1.2.2.2.2.2.2.2.2.1,s1_1.2.2.2.2.2.2.2.2.2))))))))))) false λ(q4:Bool)=>bif (!q4)then some (u false)
     else gg (wrap .i64 (v0_5+(1:Int)))
   else none
  else none
 else kk
def A45_0 {B:Type}(u:Bool->B)(mO:Y82)(a0:(List N10))(a1:(List N10)):Option B:=
 some (u true)
def aAm (mO:Y82)(L:Nat)(a0:(List N10))(a1:(List N10)):Nat->Int->(Option Bool)->Option Bool
 | 0,_,_=>none
 | n+1,v0_5,k=>B45_0 (λx=>x) (λv0_5=>aAm mO L a0 a1 n v0_5 k) k mO a0 a1 v0_5
theorem aL0 (mO:Y82)(L:Nat)(a0:(List N10))(a1:(List N10))(k:St cxT.ty->Option (V cxT.ty))(xk:Nat->St cxT.ty->Option (V cxT.ty))(k':Option Bool)(hk:k (X45_0 a0 a1)=(k').map n45):∀ (n:Nat) (v0_5:Int),aS prog (aBA mO) L f45 0 [1,1,0,1,0,0] (bE (aM prog f45) k xk) n (S45_0 a0 a1 v0_5)=(aAm mO L a0 a1 n v0_5 k').map n45
 | 0,_=>rfl
 | n+1,v0_5=>by
  rw[bF];have ih:=aL0 mO L a0 a1 k xk k' hk n;refine .trans (b:=B45_0 n45 (λv0_5=>(aS prog (aBA mO) L f45 0 [1,1,0,1,0,0] (bE (aM prog f45) k xk) n) (S45_0 a0 a1 v0_5)) (k (X45_0 a0 a1)) mO a0 a1 v0_5) (by kernel_rfl) ?_;unfold aAm B45_0
  repeat' first | with_reducible refine dG ?_ ?_ | with_reducible refine dE λ_=>?_ | with_reducible refine dF λ_=>?_ | with_reducible exact ih _ | with_reducible exact hk | exact rfl
def g45 (mO:Y82)(L:Nat)(a0:(List N10))(a1:(List N10)):Option Bool:=G45 (λx=>x) (λv0_5=>aAm mO L a0 a1 L v0_5 (A45_0 (λx=>x) mO a0 a1)) mO a0 a1
theorem e45 (mO:Y82)(L:Nat)(a0:(List N10))(a1:(List N10)):eV prog (aBA mO) (bI L) f45 (a45.enc (a0,a1))=(g45 mO L a0 a1).map n45:=by
 have hin0:∀ (v0_5:Int),aS prog (aBA mO) L f45 0 [1,1,0,1,0,0] (bE (aM prog f45) (bU prog (aBA mO) L f45 [1,1,0,1] (aM prog f45)).n (bU prog (aBA mO) L f45 [1,1,0,1] (aM prog f45)).x) L (S45_0 a0 a1 v0_5)=((λv0_5=>aAm mO L a0 a1 L v0_5 (A45_0 (λx=>x) mO a0 a1)) v0_5).map n45:=λv0_5=>aL0 mO L a0 a1 _ _ _ (by refine .trans (b:=A45_0 n45 mO a0 a1) (by kernel_rfl) ?_;unfold A45_0;repeat' first | with_reducible refine dG ?_ ?_ | with_reducible refine dE λ_=>?_ | with_reducible refine dF λ_=>?_ | exact rfl) L v0_5
 refine .trans (b:=G45 n45 (λv0_5=>aS prog (aBA mO) L f45 0 [1,1,0,1,0,0] (bE (aM prog f45) (bU prog (aBA mO) L f45 [1,1,0,1] (aM prog f45)).n (bU prog (aBA mO) L f45 [1,1,0,1] (aM prog f45)).x) L (S45_0 a0 a1 v0_5)) mO a0 a1) (by kernel_rfl) ?_;unfold g45 G45
 repeat' first | with_reducible refine dG ?_ ?_ | with_reducible refine dE λ_=>?_ | with_reducible refine dF λ_=>?_ | with_reducible exact hin0 _ | exact rfl
def w45 (mO:Y82)(L:Nat)(x:((List N10)×(List N10))):Option Bool:=g45 mO L x.1 x.2
theorem s45 (mO:Y82)(h82:Sat prog cxT 82 (c82 mO))(m:Y45)(hm:∀ (x:((List N10)×(List N10))) t,m x=some t->∃ L,w45 mO L x=some t):Sat prog cxT 45 (c45 m):=
 bS bB aW (by rfl) (fn:=f45) rfl a45 n45 aVT m (aBA mO) (aI h82 aV) aP (w45 mO) (λL x=>e45 mO L x.1 x.2) hm bAR
def aBz (mN:Y83):Env cxT:={ Kc:=cN [(83,c83 mN)],Kw:=cO [],lv:=λi=>if i=0 then[(0,[some 96]),(1,[some 96]),(5,[])]else[],xv:=λi=>if i=0 then some []else none }
def S46_0 (a0:(List M9))(a1:(List M9))(v0_5:Int):St cxT.ty:={ slots:=[(.inl (.inl (ls { own:=0,nm:=0,e:=96,o:=false,xs:=a0 }))),(.inl (.inl (ls { own:=0,nm:=0,e:=96,o:=false,xs:=a1 }))),aH,aH,aH,(.inl (.inl (lv (.int .i64 v0_5))))]++List.replicate 21 aH,D:=[],F:=[],ctr:=1 }
def X46_0 (a0:(List M9))(a1:(List M9)):St cxT.ty:={ slots:=[]++List.replicate 27 aH,D:=[],F:=[],ctr:=1 }
def G46 {B:Type}(u:Bool->B)(hh0:Int->Option B)(mN:Y83)(a0:(List M9))(a1:(List M9)):Option B:=
 bif ((Nat.cast (List.length a0):Int) != (Nat.cast (List.length a1):Int))then some (u false)
 else hh0 (0:Int)
def B46_0 {B:Type}(u:Bool->B)(gg:Int->Option B)(kk:Option B)(mN:Y83)(a0:(List M9))(a1:(List M9))(v0_5:Int):Option B:=
 bif (decide (v0_5 < (Nat.cast (List.length a0):Int)))then eF (List.getD a0 v0_5.toNat ((0:Int),((0:Int),((0:Int),((0:Int),((0:Int),((0:Int),((0:Int),(false,[]))))))))) λs1_0=>eF (List.getD a1 v0_5.toNat ((0:Int),((0:Int),((0:Int),((0:Int),((0:Int),((0:Int),((0:Int),(false,[]))))))))) λs1_1=>bif ((decide ((0:Int)<=v0_5))&&(decide (v0_5 < (Nat.cast (List.length a0):Int))))then bif ((decide ((0:Int)<=v0_5))&&(decide (v0_5 < (Nat.cast (List.length a1):Int))))then cM (mN ((s1_0.1,(s1_0.2.1,(s1_0.2.2.1,(s1_0.2.2.2.1,(s1_0.2.2.2.2.1,(s1_0.2.2.2.2.2.1,(s1_0.2.2.2.2.2.2.1,(s1_0.2.2.2.2.2.2.2.1,s1_0.2.2.2.2.2.2.2.2)))))))),(s1_1.1,(s1_1.2.1,(s1_1.2.2.1,(s1_1.2.2.2.1,(s1_1.2.2.2.2.1,(s1_1.2.2.2.2.2.1,(s1_1.2.2.2.2.2.2.1,(s1_1.2.2.2.2.2.2.2.1,s1_1.2.2.2.2.2.2.2.2)))))))))) false λ(q4:Bool)=>bif (!q4)then some (u false)
     else gg (wrap .i64 (v0_5+(1:Int)))
   else none
  else none
 else kk
def A46_0 {B:Type}(u:Bool->B)(mN:Y83)(a0:(List M9))(a1:(List M9)):Option B:=
 some (u true)
def aAl (mN:Y83)(L:Nat)(a0:(List M9))(a1:(List M9)):Nat->Int->(Option Bool)->Option Bool
 | 0,_,_=>none
 | n+1,v0_5,k=>B46_0 (λx=>x) (λv0_5=>aAl mN L a0 a1 n v0_5 k) k mN a0 a1 v0_5
theorem aLZ (mN:Y83)(L:Nat)(a0:(List M9))(a1:(List M9))(k:St cxT.ty->Option (V cxT.ty))(xk:Nat->St cxT.ty->Option (V cxT.ty))(k':Option Bool)(hk:k (X46_0 a0 a1)=(k').map n46):∀ (n:Nat) (v0_5:Int),aS prog (aBz mN) L f46 0 [1,1,0,1,0,0] (bE (aM prog f46) k xk) n (S46_0 a0 a1 v0_5)=(aAl mN L a0 a1 n v0_5 k').map n46
 | 0,_=>rfl
 | n+1,v0_5=>by
  rw[bF];have ih:=aLZ mN L a0 a1 k xk k' hk n;refine .trans (b:=B46_0 n46 (λv0_5=>(aS prog (aBz mN) L f46 0 [1,1,0,1,0,0] (bE (aM prog f46) k xk) n) (S46_0 a0 a1 v0_5)) (k (X46_0 a0 a1)) mN a0 a1 v0_5) (by kernel_rfl) ?_;unfold aAl B46_0
  repeat' first | with_reducible refine dG ?_ ?_ | with_reducible refine dE λ_=>?_ | with_reducible refine dF λ_=>?_ | with_reducible exact ih _ | with_reducible exact hk | exact rfl
def g46 (mN:Y83)(L:Nat)(a0:(List M9))(a1:(List M9)):Option Bool:=G46 (λx=>x) (λv0_5=>aAl mN L a0 a1 L v0_5 (A46_0 (λx=>x) mN a0 a1)) mN a0 a1
theorem e46 (mN:Y83)(L:Nat)(a0:(List M9))(a1:(List M9)):eV prog (aBz mN) (bI L) f46 (a46.enc (a0,a1))=(g46 mN L a0 a1).map n46:=by
 have hin0:∀ (v0_5:Int),aS prog (aBz mN) L f46 0 [1,1,0,1,0,0] (bE (aM prog f46) (bU prog (aBz mN) L f46 [1,1,0,1] (aM prog f46)).n (bU prog (aBz mN) L f46 [1,1,0,1] (aM prog f46)).x) L (S46_0 a0 a1 v0_5)=((λv0_5=>aAl mN L a0 a1 L v0_5 (A46_0 (λx=>x) mN a0 a1)) v0_5).map n46:=λv0_5=>aLZ mN L a0 a1 _ _ _ (by refine .trans (b:=A46_0 n46 mN a0 a1) (by kernel_rfl) ?_;unfold A46_0;repeat' first | with_reducible refine dG ?_ ?_ | with_reducible refine dE λ_=>?_ | with_reducible refine dF λ_=>?_ | exact rfl) L v0_5
 refine .trans (b:=G46 n46 (λv0_5=>aS prog (aBz mN) L f46 0 [1,1,0,1,0,0] (bE (aM prog f46) (bU prog (aBz mN) L f46 [1,1,0,1] (aM prog f46)).n (bU prog (aBz mN) L f46 [1,1,0,1] (aM prog f46)).x) L (S46_0 a0 a1 v0_5)) mN a0 a1) (by kernel_rfl) ?_;unfold g46 G46
 repeat' first | with_reducible refine dG ?_ ?_ | with_reducible refine dE λ_=>?_ | with_reducible refine dF λ_=>?_ | with_reducible exact hin0 _ | exact rfl
def w46 (mN:Y83)(L:Nat)(x:((List M9)×(List M9))):Option Bool:=g46 mN L x.1 x.2
theorem s46 (mN:Y83)(h83:Sat prog cxT 83 (c83 mN))(m:Y46)(hm:∀ (x:((List M9)×(List M9))) t,m x=some t->∃ L,w46 mN L x=some t):Sat prog cxT 46 (c46 m):=
 bS bB aW (by rfl) (fn:=f46) rfl a46 n46 aVS m (aBz mN) (aI h83 aV) aP (w46 mN) (λL x=>e46 mN L x.1 x.2) hm bAQ
def aBy (m84:Y84):Env cxT:={ Kc:=cN [(84,c84 m84)],Kw:=cO [],lv:=λi=>if i=0 then[(0,[some 64]),(1,[some 64]),(5,[])]else[],xv:=λi=>if i=0 then some []else none }
def S47_0 (a0:(List W2))(a1:(List W2))(v0_5:Int):St cxT.ty:={ slots:=[(.inl (.inl (ls { own:=0,nm:=0,e:=64,o:=false,xs:=a0 }))),(.inl (.inl (ls { own:=0,nm:=0,e:=64,o:=false,xs:=a1 }))),aH,aH,aH,(.inl (.inl (lv (.int .i64 v0_5))))]++List.replicate 21 aH,D:=[],F:=[],ctr:=1 }
def X47_0 (a0:(List W2))(a1:(List W2)):St cxT.ty:={ slots:=[]++List.replicate 27 aH,D:=[],F:=[],ctr:=1 }
def G47 {B:Type}(u:Bool->B)(hh0:Int->Option B)(m84:Y84)(a0:(List W2))(a1:(List W2)):Option B:=
 bif ((Nat.cast (List.length a0):Int) != (Nat.cast (List.length a1):Int))then some (u false)
 else hh0 (0:Int)
def B47_0 {B:Type}(u:Bool->B)(gg:Int->Option B)(kk:Option B)(m84:Y84)(a0:(List W2))(a1:(List W2))(v0_5:Int):Option B:=
 bif (decide (v0_5 < (Nat.cast (List.length a0):Int)))then eF (List.getD a0 v0_5.toNat ((0:Int),(0:Int))) λs1_0=>eF (List.getD a1 v0_5.toNat ((0:Int),(0:Int))) λs1_1=>bif ((decide ((0:Int)<=v0_5))&&(decide (v0_5 < (Nat.cast (List.length a0):Int))))then bif ((decide ((0:Int)<=v0_5))&&(decide (v0_5 < (Nat.cast (List.length a1):Int))))then cM (m84 ((s1_0.1,s1_0.2),(s1_1.1,s1_1.2))) false λ(q4:Bool)=>bif (!q4)then some (u false)
     else gg (wrap .i64 (v0_5+(1:Int)))
   else none
  else none
 else kk
def A47_0 {B:Type}(u:Bool->B)(m84:Y84)(a0:(List W2))(a1:(List W2)):Option B:=
 some (u true)
def aAk (m84:Y84)(L:Nat)(a0:(List W2))(a1:(List W2)):Nat->Int->(Option Bool)->Option Bool
 | 0,_,_=>none
 | n+1,v0_5,k=>B47_0 (λx=>x) (λv0_5=>aAk m84 L a0 a1 n v0_5 k) k m84 a0 a1 v0_5
theorem aLY (m84:Y84)(L:Nat)(a0:(List W2))(a1:(List W2))(k:St cxT.ty->Option (V cxT.ty))(xk:Nat->St cxT.ty->Option (V cxT.ty))(k':Option Bool)(hk:k (X47_0 a0 a1)=(k').map n47):∀ (n:Nat) (v0_5:Int),aS prog (aBy m84) L f47 0 [1,1,0,1,0,0] (bE (aM prog f47) k xk) n (S47_0 a0 a1 v0_5)=(aAk m84 L a0 a1 n v0_5 k').map n47
 | 0,_=>rfl
 | n+1,v0_5=>by
  rw[bF];have ih:=aLY m84 L a0 a1 k xk k' hk n;refine .trans (b:=B47_0 n47 (λv0_5=>(aS prog (aBy m84) L f47 0 [1,1,0,1,0,0] (bE (aM prog f47) k xk) n) (S47_0 a0 a1 v0_5)) (k (X47_0 a0 a1)) m84 a0 a1 v0_5) (by kernel_rfl) ?_;unfold aAk B47_0
  repeat' first | with_reducible refine dG ?_ ?_ | with_reducible refine dE λ_=>?_ | with_reducible refine dF λ_=>?_ | with_reducible exact ih _ | with_reducible exact hk | exact rfl
def g47 (m84:Y84)(L:Nat)(a0:(List W2))(a1:(List W2)):Option Bool:=G47 (λx=>x) (λv0_5=>aAk m84 L a0 a1 L v0_5 (A47_0 (λx=>x) m84 a0 a1)) m84 a0 a1
theorem e47 (m84:Y84)(L:Nat)(a0:(List W2))(a1:(List W2)):eV prog (aBy m84) (bI L) f47 (a47.enc (a0,a1))=(g47 m84 L a0 a1).map n47:=by
 have hin0:∀ (v0_5:Int),aS prog (aBy m84) L f47 0 [1,1,0,1,0,0] (bE (aM prog f47) (bU prog (aBy m84) L f47 [1,1,0,1] (aM prog f47)).n (bU prog (aBy m84) L f47 [1,1,0,1] (aM prog f47)).x) L (S47_0 a0 a1 v0_5)=((λv0_5=>aAk m84 L a0 a1 L v0_5 (A47_0 (λx=>x) m84 a0 a1)) v0_5).map n47:=λv0_5=>aLY m84 L a0 a1 _ _ _ (by refine .trans (b:=A47_0 n47 m84 a0 a1) (by kernel_rfl) ?_;unfold A47_0;repeat' first | with_reducible refine dG ?_ ?_ | with_reducible refine dE λ_=>?_ | with_reducible refine dF λ_=>?_ | exact rfl) L v0_5
 refine .trans (b:=G47 n47 (λv0_5=>aS prog (aBy m84) L f47 0 [1,1,0,1,0,0] (bE (aM prog f47) (bU prog (aBy m84) L f47 [1,1,0,1] (aM prog f47)).n (bU prog (aBy m84) L f47 [1,1,0,1] (aM prog f47)).x) L (S47_0 a0 a1 v0_5)) m84 a0 a1) (by kernel_rfl) ?_;unfold g47 G47
 repeat' first | with_reducible refine dG ?_ ?_ | with_reducible refine dE λ_=>?_ | with_reducible refine dF λ_=>?_ | with_reducible exact hin0 _ | exact rfl
def w47 (m84:Y84)(L:Nat)(x:((List W2)×(List W2))):Option Bool:=g47 m84 L x.1 x.2
theorem s47 (m84:Y84)(h84:Sat prog cxT 84 (c84 m84))(m:Y47)(hm:∀ (x:((List W2)×(List W2))) t,m x=some t->∃ L,w47 m84 L x=some t):Sat prog cxT 47 (c47 m):=
 bS bB aW (by rfl) (fn:=f47) rfl a47 n47 aVR m (aBy m84) (aI h84 aV) aP (w47 m84) (λL x=>e47 m84 L x.1 x.2) hm bAP
def aBx (m85:Y85):Env cxT:={ Kc:=cN [(85,c85 m85)],Kw:=cO [],lv:=λi=>if i=0 then[(0,[some 104]),(1,[some 104]),(5,[])]else[],xv:=λi=>if i=0 then some []else none }
def S48_0 (a0:(List S10))(a1:(List S10))(v0_5:Int):St cxT.ty:={ slots:=[(.inl (.inl (ls { own:=0,nm:=0,e:=104,o:=false,xs:=a0 }))),(.inl (.inl (ls { own:=0,nm:=0,e:=104,o:=false,xs:=a1 }))),aH,aH,aH,(.inl (.inl (lv (.int .i64 v0_5))))]++List.replicate 21 aH,D:=[],F:=[],ctr:=1 }
def X48_0 (a0:(List S10))(a1:(List S10)):St cxT.ty:={ slots:=[]++List.replicate 27 aH,D:=[],F:=[],ctr:=1 }
def G48 {B:Type}(u:Bool->B)(hh0:Int->Option B)(m85:Y85)(a0:(List S10))(a1:(List S10)):Option B:=
 bif ((Nat.cast (List.length a0):Int) != (Nat.cast (List.length a1):Int))then some (u false)
 else hh0 (0:Int)
def B48_0 {B:Type}(u:Bool->B)(gg:Int->Option B)(kk:Option B)(m85:Y85)(a0:(List S10))(a1:(List S10))(v0_5:Int):Option B:=
 bif (decide (v0_5 < (Nat.cast (List.length a0):Int)))then eF (List.getD a0 v0_5.toNat ((0:Int),((0:Int),((0:Int),((0:Int),((0:Int),((0:Int),((0:Int),((0:Int),((0:Int),(0:Int))))))))))) λs1_0=>eF (List.getD a1 v0_5.toNat ((0:Int),((0:Int),((0:Int),((0:Int),((0:Int),((0:Int),((0:Int),((0:Int),((0:Int),(0:Int))))))))))) λs1_1=>bif ((decide ((0:Int)<=v0_5))&&(decide (v0_5 < (Nat.cast (List.length a0):Int))))then bif ((decide ((0:Int)<=v0_5))&&(decide (v0_5 < (Nat.cast (List.length a1):Int))))then cM (m85 ((s1_0.1,(s1_0.2.1,(s1_0.2.2.1,(s1_0.2.2.2.1,(s1_0.2.2.2.2.1,(s1_0.2.2.2.2.2.1,(s1_0.2.2.2.2.2.2.1,(s1_0.2.2.2.2.2.2.2.1,(s1_0.2.2.2.2.2.2.2.2.1,s1_0.2.2.2.2.2.2.2.2.2))))))))),(s1_1.1,(s1_1.2.1,(s1_1.2.2.1,(s1_1.2.2.2.1,(s1_1.2.2.2.2.1,(s1_1.2.2.2.2.2.1,(s1_1.2.2.2.2.2.2.1,(s1_1.2.2.2.2.2.2.2.1,(s1_1.2.2.2.2.2.2.2.2.1,s1_1.2.2.2.2.2.2.2.2.2))))))))))) false λ(q4:Bool)=>bif (!q4)then some (u false)
     else gg (wrap .i64 (v0_5+(1:Int)))
   else none
  else none
 else kk
def A48_0 {B:Type}(u:Bool->B)(m85:Y85)(a0:(List S10))(a1:(List S10)):Option B:=
 some (u true)
def aAj (m85:Y85)(L:Nat)(a0:(List S10))(a1:(List S10)):Nat->Int->(Option Bool)->Option Bool
 | 0,_,_=>none
 | n+1,v0_5,k=>B48_0 (λx=>x) (λv0_5=>aAj m85 L a0 a1 n v0_5 k) k m85 a0 a1 v0_5
theorem aLX (m85:Y85)(L:Nat)(a0:(List S10))(a1:(List S10))(k:St cxT.ty->Option (V cxT.ty))(xk:Nat->St cxT.ty->Option (V cxT.ty))(k':Option Bool)(hk:k (X48_0 a0 a1)=(k').map n48):∀ (n:Nat) (v0_5:Int),aS prog (aBx m85) L f48 0 [1,1,0,1,0,0] (bE (aM prog f48) k xk) n (S48_0 a0 a1 v0_5)=(aAj m85 L a0 a1 n v0_5 k').map n48
 | 0,_=>rfl
 | n+1,v0_5=>by
  rw[bF];have ih:=aLX m85 L a0 a1 k xk k' hk n;refine .trans (b:=B48_0 n48 (λv0_5=>(aS prog (aBx m85) L f48 0 [1,1,0,1,0,0] (bE (aM prog f48) k xk) n) (S48_0 a0 a1 v0_5)) (k (X48_0 a0 a1)) m85 a0 a1 v0_5) (by kernel_rfl) ?_;unfold aAj B48_0
  repeat' first | with_reducible refine dG ?_ ?_ | with_reducible refine dE λ_=>?_ | with_reducible refine dF λ_=>?_ | with_reducible exact ih _ | with_reducible exact hk | exact rfl
def g48 (m85:Y85)(L:Nat)(a0:(List S10))(a1:(List S10)):Option Bool:=G48 (λx=>x) (λv0_5=>aAj m85 L a0 a1 L v0_5 (A48_0 (λx=>x) m85 a0 a1)) m85 a0 a1
theorem e48 (m85:Y85)(L:Nat)(a0:(List S10))(a1:(List S10)):eV prog (aBx m85) (bI L) f48 (a48.enc (a0,a1))=(g48 m85 L a0 a1).map n48:=by
 have hin0:∀ (v0_5:Int),aS prog (aBx m85) L f48 0 [1,1,0,1,0,0] (bE (aM prog f48) (bU prog (aBx m85) L f48 [1,1,0,1] (aM prog f48)).n (bU prog (aBx m85) L f48 [1,1,0,1] (aM prog f48)).x) L (S48_0 a0 a1 v0_5)=((λv0_5=>aAj m85 L a0 a1 L v0_5 (A48_0 (λx=>x) m85 a0 a1)) v0_5).map n48:=λv0_5=>aLX m85 L a0 a1 _ _ _ (by refine .trans (b:=A48_0 n48 m85 a0 a1) (by kernel_rfl) ?_;unfold A48_0;repeat' first | with_reducible refine dG ?_ ?_ | with_reducible refine dE λ_=>?_ | with_reducible refine dF λ_=>?_ | exact rfl) L v0_5
 refine .trans (b:=G48 n48 (λv0_5=>aS prog (aBx m85) L f48 0 [1,1,0,1,0,0] (bE (aM prog f48) (bU prog (aBx m85) L f48 [1,1,0,1] (aM prog f48)).n (bU prog (aBx m85) L f48 [1,1,0,1] (aM prog f48)).x) L (S48_0 a0 a1 v0_5)) m85 a0 a1) (by kernel_rfl) ?_;unfold g48 G48
 repeat' first | with_reducible refine dG ?_ ?_ | with_reducible refine dE λ_=>?_ | with_reducible refine dF λ_=>?_ | with_reducible exact hin0 _ | exact rfl
def w48 (m85:Y85)(L:Nat)(x:((List S10)×(List S10))):Option Bool:=g48 m85 L x.1 x.2
theorem s48 (m85:Y85)(h85:Sat prog cxT 85 (c85 m85))(m:Y48)(hm:∀ (x:((List S10)×(List S10))) t,m x=some t->∃ L,w48 m85 L x=some t):Sat prog cxT 48 (c48 m):=
 bS bB aW (by rfl) (fn:=f48) rfl a48 n48 aVQ m (aBx m85) (aI h85 aV) aP (w48 m85) (λL x=>e48 m85 L x.1 x.2) hm bAO
def aUL (yL:Y45)(yK:Y46)(yJ:Y47)(yI:Y48):Env cxT:={ Kc:=cN [(45,c45 yL),(46,c46 yK),(47,c47 yJ),(48,c48 yI)],Kw:=cO [],lv:=λi=>[],xv:=λi=>none }
def G14 {B:Type}(u:Bool->B)(yL:Y45)(yK:Y46)(yJ:Y47)(yI:Y48)(a0_0:(List N10))(a0_1:(List M9))(a0_2:(List W2))(a0_3:(List S10))(a1_0:(List N10))(a1_1:(List M9))(a1_2:(List W2))(a1_3:(List S10)):Option B:=
 cM (yL (a0_0,a1_0)) false λ(q1:Bool)=>bif (!q1)then some (u false)
  else cM (yK (a0_1,a1_1)) false λ(q2:Bool)=>bif (!q2)then some (u false)
   else cM (yJ (a0_2,a1_2)) false λ(q3:Bool)=>bif (!q3)then some (u false)
    else cM (yI (a0_3,a1_3)) false λ(q4:Bool)=>bif (!q4)then some (u false)
     else some (u true)
def g14 (yL:Y45)(yK:Y46)(yJ:Y47)(yI:Y48)(L:Nat)(a0_0:(List N10))(a0_1:(List M9))(a0_2:(List W2))(a0_3:(List S10))(a1_0:(List N10))(a1_1:(List M9))(a1_2:(List W2))(a1_3:(List S10)):Option Bool:=G14 (λx=>x) yL yK yJ yI a0_0 a0_1 a0_2 a0_3 a1_0 a1_1 a1_2 a1_3
theorem e14 (yL:Y45)(yK:Y46)(yJ:Y47)(yI:Y48)(L:Nat)(a0_0:(List N10))(a0_1:(List M9))(a0_2:(List W2))(a0_3:(List S10))(a1_0:(List N10))(a1_1:(List M9))(a1_2:(List W2))(a1_3:(List S10)):eV prog (aUL yL yK yJ yI) (bI L) f14 (a14.enc ((a0_0,a0_1,a0_2,a0_3),(a1_0,a1_1,a1_2,a1_3)))=(g14 yL yK yJ yI L a0_0 a0_1 a0_2 a0_3 a1_0 a1_1 a1_2 a1_3).map n14:=by
 refine .trans (b:=G14 n14 yL yK yJ yI a0_0 a0_1 a0_2 a0_3 a1_0 a1_1 a1_2 a1_3) (by kernel_rfl) ?_;unfold g14 G14
 repeat' first | with_reducible refine dG ?_ ?_ | with_reducible refine dE λ_=>?_ | with_reducible refine dF λ_=>?_ | exact rfl
def w14 (yL:Y45)(yK:Y46)(yJ:Y47)(yI:Y48)(L:Nat)(x:(C4×C4)):Option Bool:=g14 yL yK yJ yI L x.1.1 x.1.2.1 x.1.2.2.1 x.1.2.2.2 x.2.1 x.2.2.1 x.2.2.2.1 x.2.2.2.2
theorem s14 (yL:Y45)(yK:Y46)(yJ:Y47)(yI:Y48)(h45:Sat prog cxT 45 (c45 yL))(h46:Sat prog cxT 46 (c46 yK))(h47:Sat prog cxT 47 (c47 yJ))(h48:Sat prog cxT 48 (c48 yI))(m:Y14)(hm:∀ (x:(C4×C4)) t,m x=some t->∃ L,w14 yL yK yJ yI L x=some t):Sat prog cxT 14 (c14 m):=
 bS bB aW (by rfl) (fn:=f14) rfl a14 n14 aWf m (aUL yL yK yJ yI) (aI h45 (aI h46 (aI h47 (aI h48 aV)))) aP (w14 yL yK yJ yI) (λL x=>e14 yL yK yJ yI L x.1.1 x.1.2.1 x.1.2.2.1 x.1.2.2.2 x.2.1 x.2.2.1 x.2.2.2.1 x.2.2.2.2) hm bBd
end Go.Proofs.Tryz
set_option maxHeartbeats 0
set_option maxRecDepth 100000
namespace Go.Proofs.Tryz
open Go.IntKind (wrap)
open Go Go.VM Go.RowKit
end Go.Proofs.Tryz
set_option maxHeartbeats 0
set_option maxRecDepth 100000
namespace Go.Proofs.Tryz
open Go.IntKind (wrap)
open Go Go.VM Go.RowKit
def ev8 (fA:Y10)(eR:Y12)(m23:Y23)(m24:Y24)(m25:Y25)(fB:Y14)(m26:Y26)(m27:Y27)(m28:Y28):Env cxT:={ Kc:=cN [(10,c10 fA),(12,c12 eR),(23,c23 m23),(24,c24 m24),(25,c25 m25),(14,c14 fB),(28,c28 m28)],Kw:=cO [(26,c26 m26),(27,c27 m27)],lv:=λi=>[],xv:=λi=>none }
def G8 {B:Type}(u:Bool->B)(fA:Y10)(eR:Y12)(m23:Y23)(m24:Y24)(m25:Y25)(fB:Y14)(m26:Y26)(m27:Y27)(m28:Y28)(a0_0:(List N10))(a0_1:(List M9))(a0_2:(List W2))(a0_3:(List S10)):Option B:=
 cM (fA (((a0_0,(a0_1,(a0_2,a0_3))).1,((a0_0,(a0_1,(a0_2,a0_3))).2.1,((a0_0,(a0_1,(a0_2,a0_3))).2.2.1,(a0_0,(a0_1,(a0_2,a0_3))).2.2.2))),(1048576:Int))) (0:Int) λ(q1:Int)=>bif (decide (q1 < (0:Int)))then some (u true)
  else cM (eR ((a0_0,(a0_1,(a0_2,a0_3))).1,((a0_0,(a0_1,(a0_2,a0_3))).2.1,((a0_0,(a0_1,(a0_2,a0_3))).2.2.1,(a0_0,(a0_1,(a0_2,a0_3))).2.2.2)))) ([],[],[],[]) λ(q2:C4)=>cM (m23 (q2.1,(q2.2.1,(q2.2.2.1,q2.2.2.2)))) ((0:Int),[]) λ(q3:(Int×(List E9)))=>cM (eR ((a0_0,(a0_1,(a0_2,a0_3))).1,((a0_0,(a0_1,(a0_2,a0_3))).2.1,((a0_0,(a0_1,(a0_2,a0_3))).2.2.1,(a0_0,(a0_1,(a0_2,a0_3))).2.2.2)))) ([],[],[],[]) λ(q4:C4)=>cM (m24 (q2.1,(q2.2.1,(q2.2.2.1,q2.2.2.2)))) ((0:Int),[]) λ(q5:(Int×(List E9)))=>cM (m25 ((q5.1,q5.2),(q3.1,q3.2))) false λ(q6:Bool)=>bif (!q6)then some (u false)
       else cM (eR ((a0_0,(a0_1,(a0_2,a0_3))).1,((a0_0,(a0_1,(a0_2,a0_3))).2.1,((a0_0,(a0_1,(a0_2,a0_3))).2.2.1,(a0_0,(a0_1,(a0_2,a0_3))).2.2.2)))) ([],[],[],[]) λ(q7:C4)=>cM (fB ((q2.1,(q2.2.1,(q2.2.2.1,q2.2.2.2))),(q2.1,(q2.2.1,(q2.2.2.1,q2.2.2.2))))) false λ(q8:Bool)=>bif (!q8)then some (u false)
         else cM (m26 ((q2.1,(q2.2.1,(q2.2.2.1,q2.2.2.2))),(1:Int))) ((0:Int),[],[],[],[]) λ(q9:R5)=>bif (decide (q9.1 < (0:Int)))then some (u false)
          else cM (m25 ((q5.1,q5.2),(q3.1,q3.2))) false λ(q10:Bool)=>bif (!q6)then some (u false)
           else cM (m27 ((q5.1,q5.2),(1:Int))) ((0:Int),(0:Int),[]) λ(q11:(Int×Int×(List E9)))=>cM (m28 ((q5.1,q11.2.2),(1:Int))) (0:Int) λ(q12:Int)=>bif (decide (q12 < (0:Int)))then some (u false)
             else bif (q12 != q11.1)then some (u false)
             else cM (eR ((a0_0,(a0_1,(a0_2,a0_3))).1,((a0_0,(a0_1,(a0_2,a0_3))).2.1,((a0_0,(a0_1,(a0_2,a0_3))).2.2.1,(a0_0,(a0_1,(a0_2,a0_3))).2.2.2)))) ([],[],[],[]) λ(q13:C4)=>cM (m24 (q2.1,(q2.2.1,(q2.2.2.1,q2.2.2.2)))) ((0:Int),[]) λ(q14:(Int×(List E9)))=>cM (m25 ((q5.1,q5.2),(q3.1,q3.2))) false λ(q15:Bool)=>bif (!q6)then some (u false)
                else cM (m28 ((q5.1,q11.2.2),(1:Int))) (0:Int) λ(q16:Int)=>bif (decide (q12 < (0:Int)))then some (u false)
                 else bif (q12 != q11.1)then some (u false)
                 else some (u true)
def g8 (fA:Y10)(eR:Y12)(m23:Y23)(m24:Y24)(m25:Y25)(fB:Y14)(m26:Y26)(m27:Y27)(m28:Y28)(L:Nat)(a0_0:(List N10))(a0_1:(List M9))(a0_2:(List W2))(a0_3:(List S10)):Option Bool:=G8 (λx=>x) fA eR m23 m24 m25 fB m26 m27 m28 a0_0 a0_1 a0_2 a0_3
theorem e8 (fA:Y10)(eR:Y12)(m23:Y23)(m24:Y24)(m25:Y25)(fB:Y14)(m26:Y26)(m27:Y27)(m28:Y28)(L:Nat)(a0_0:(List N10))(a0_1:(List M9))(a0_2:(List W2))(a0_3:(List S10)):aBh prog (ev8 fA eR m23 m24 m25 fB m26 m27 m28) (bI L) f8 (a8.enc (a0_0,a0_1,a0_2,a0_3))=(g8 fA eR m23 m24 m25 fB m26 m27 m28 L a0_0 a0_1 a0_2 a0_3).map n8:=by
 refine .trans (b:=G8 n8 fA eR m23 m24 m25 fB m26 m27 m28 a0_0 a0_1 a0_2 a0_3) (by kernel_rfl) ?_;unfold g8 G8
 repeat' first | with_reducible refine dG ?_ ?_ | with_reducible refine dE λ_=>?_ | with_reducible refine dF λ_=>?_ | exact rfl
def ev9 (fA:Y10)(eR:Y12)(m29:Y29)(m30:Y30)(m31:Y31)(fB:Y14):Env cxT:={ Kc:=cN [(10,c10 fA),(12,c12 eR),(29,c29 m29),(30,c30 m30),(31,c31 m31),(14,c14 fB)],Kw:=cO [],lv:=λi=>[],xv:=λi=>none }
def G9 {B:Type}(u:Bool->B)(fA:Y10)(eR:Y12)(m29:Y29)(m30:Y30)(m31:Y31)(fB:Y14)(a0_0:(List N10))(a0_1:(List M9))(a0_2:(List W2))(a0_3:(List S10)):Option B:=
 cM (fA (((a0_0,(a0_1,(a0_2,a0_3))).1,((a0_0,(a0_1,(a0_2,a0_3))).2.1,((a0_0,(a0_1,(a0_2,a0_3))).2.2.1,(a0_0,(a0_1,(a0_2,a0_3))).2.2.2))),(1048576:Int))) (0:Int) λ(q1:Int)=>bif (decide (q1 < (0:Int)))then some (u true)
  else cM (eR ((a0_0,(a0_1,(a0_2,a0_3))).1,((a0_0,(a0_1,(a0_2,a0_3))).2.1,((a0_0,(a0_1,(a0_2,a0_3))).2.2.1,(a0_0,(a0_1,(a0_2,a0_3))).2.2.2)))) ([],[],[],[]) λ(q2:C4)=>cM (m29 (q2.1,(q2.2.1,(q2.2.2.1,q2.2.2.2)))) ((0:Int),(0:Int)) λ(q3:(Int×Int))=>cM (eR ((a0_0,(a0_1,(a0_2,a0_3))).1,((a0_0,(a0_1,(a0_2,a0_3))).2.1,((a0_0,(a0_1,(a0_2,a0_3))).2.2.1,(a0_0,(a0_1,(a0_2,a0_3))).2.2.2)))) ([],[],[],[]) λ(q4:C4)=>cM (m30 (q2.1,(q2.2.1,(q2.2.2.1,q2.2.2.2)))) ((0:Int),(0:Int)) λ(q5:(Int×Int))=>cM (m31 ((q5.1,q5.2),(q3.1,q3.2))) false λ(q6:Bool)=>bif (!q6)then some (u false)
       else cM (eR ((a0_0,(a0_1,(a0_2,a0_3))).1,((a0_0,(a0_1,(a0_2,a0_3))).2.1,((a0_0,(a0_1,(a0_2,a0_3))).2.2.1,(a0_0,(a0_1,(a0_2,a0_3))).2.2.2)))) ([],[],[],[]) λ(q7:C4)=>cM (fB ((q2.1,(q2.2.1,(q2.2.2.1,q2.2.2.2))),(q2.1,(q2.2.1,(q2.2.2.1,q2.2.2.2))))) false λ(q8:Bool)=>bif (!q8)then some (u false)
         else some (u true)
def g9 (fA:Y10)(eR:Y12)(m29:Y29)(m30:Y30)(m31:Y31)(fB:Y14)(L:Nat)(a0_0:(List N10))(a0_1:(List M9))(a0_2:(List W2))(a0_3:(List S10)):Option Bool:=G9 (λx=>x) fA eR m29 m30 m31 fB a0_0 a0_1 a0_2 a0_3
theorem e9 (fA:Y10)(eR:Y12)(m29:Y29)(m30:Y30)(m31:Y31)(fB:Y14)(L:Nat)(a0_0:(List N10))(a0_1:(List M9))(a0_2:(List W2))(a0_3:(List S10)):aBh prog (ev9 fA eR m29 m30 m31 fB) (bI L) f9 (a9.enc (a0_0,a0_1,a0_2,a0_3))=(g9 fA eR m29 m30 m31 fB L a0_0 a0_1 a0_2 a0_3).map n9:=by
 refine .trans (b:=G9 n9 fA eR m29 m30 m31 fB a0_0 a0_1 a0_2 a0_3) (by kernel_rfl) ?_;unfold g9 G9
 repeat' first | with_reducible refine dG ?_ ?_ | with_reducible refine dE λ_=>?_ | with_reducible refine dF λ_=>?_ | exact rfl
end Go.Proofs.Tryz
