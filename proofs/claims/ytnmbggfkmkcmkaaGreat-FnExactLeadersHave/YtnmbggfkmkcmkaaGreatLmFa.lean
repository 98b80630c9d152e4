/- A part of the proof of FnExactSafeCluster: LmFa, LmFb, LmFj. -/
import Derived.Test.YtnmbggfkmkcmkaaGreatLmBase
set_option linter.unusedSimpArgs false
set_option linter.unusedVariables false
set_option maxHeartbeats 0
set_option maxRecDepth 100000
namespace Go.Proofs.Tryz
open Go.IntKind (wrap)
open Go Go.VM Go.RowKit
def aUe:Env cxT:={ Kc:=cN [],Kw:=cO [],lv:=λi=>[],xv:=λi=>none }
def G94 {B:Type}(u:Int->B)(a0:(List E9))(a1:Int):Option B:=
 bif (decide ((wrap .i64 (a1-(Nat.cast (List.length a0):Int))) < (0:Int)))then some (u (-(1:Int)))
 else some (u (wrap .i64 (a1-(Nat.cast (List.length a0):Int))))
def g94 (L:Nat)(a0:(List E9))(a1:Int):Option Int:=G94 (λx=>x) a0 a1
theorem e94 (L:Nat)(a0:(List E9))(a1:Int):eV prog aUe (bI L) f94 (a94.enc (a0,a1))=(g94 L a0 a1).map n94:=by
 refine .trans (b:=G94 n94 a0 a1) (by kernel_rfl) ?_;unfold g94 G94
 repeat' first | with_reducible refine dG ?_ ?_ | with_reducible refine dE λ_=>?_ | with_reducible refine dF λ_=>?_ | exact rfl
def w94 (L:Nat)(x:((List E9)×Int)):Option Int:=g94 L x.1 x.2
theorem s94 (m:Y94)(hm:∀ (x:((List E9)×Int)) t,m x=some t->∃ L,w94 L x=some t):Sat prog cxT 94 (c94 m):=
 bS bB aW (by rfl) (fn:=f94) rfl a94 n94 aVe m aUe aV aP (w94) (λL x=>e94 L x.1 x.2) hm bAc
def aUd:Env cxT:={ Kc:=cN [],Kw:=cO [],lv:=λi=>[],xv:=λi=>none }
def G95 {B:Type}(u:Int->B)(a0:(List Int))(a1:Int):Option B:=
 bif (decide ((wrap .i64 (a1-(Nat.cast (List.length a0):Int))) < (0:Int)))then some (u (-(1:Int)))
 else some (u (wrap .i64 (a1-(Nat.cast (List.length a0):Int))))
def g95 (L:Nat)(a0:(List Int))(a1:Int):Option Int:=G95 (λx=>x) a0 a1
theorem e95 (L:Nat)(a0:(List Int))(a1:Int):eV prog aUd (bI L) f95 (a95.enc (a0,a1))=(g95 L a0 a1).map n95:=by
 refine .trans (b:=G95 n95 a0 a1) (by kernel_rfl) ?_;unfold g95 G95
 repeat' first | with_reducible refine dG ?_ ?_ | with_reducible refine dE λ_=>?_ | with_reducible refine dF λ_=>?_ | exact rfl
def w95 (L:Nat)(x:((List Int)×Int)):Option Int:=g95 L x.1 x.2
theorem s95 (m:Y95)(hm:∀ (x:((List Int)×Int)) t,m x=some t->∃ L,w95 L x=some t):Sat prog cxT 95 (c95 m):=
 bS bB aW (by rfl) (fn:=f95) rfl a95 n95 aVd m aUd aV aP (w95) (λL x=>e95 L x.1 x.2) hm bAb
def aUA (nL:Y94)(wA:Y95):Env cxT:={ Kc:=cN [(94,c94 nL),(95,c95 wA)],Kw:=cO [],lv:=λi=>[],xv:=λi=>none }
def G65 {B:Type}(u:Int->B)(nL:Y94)(wA:Y95)(a0_0:Int)(a0_1:Int)(a0_2:Int)(a0_3:Int)(a0_4:(List E9))(a0_5:Int)(a0_6:Int)(a0_7:(List Int))(a0_8:(List Int))(a0_9:(List Int))(a1:Int):Option B:=
 cM (nL (a0_4,a1)) (0:Int) λ(q1:Int)=>bif (decide (q1 < (0:Int)))then some (u (-(1:Int)))
  else cM (wA (a0_7,q1)) (0:Int) λ(q2:Int)=>bif (decide (q2 < (0:Int)))then some (u (-(1:Int)))
   else cM (wA (a0_8,q2)) (0:Int) λ(q3:Int)=>bif (decide (q3 < (0:Int)))then some (u (-(1:Int)))
    else cM (wA (a0_9,q3)) (0:Int) λ(q4:Int)=>bif (decide (q4 < (0:Int)))then some (u (-(1:Int)))
     else some (u q4)
def g65 (nL:Y94)(wA:Y95)(L:Nat)(a0_0:Int)(a0_1:Int)(a0_2:Int)(a0_3:Int)(a0_4:(List E9))(a0_5:Int)(a0_6:Int)(a0_7:(List Int))(a0_8:(List Int))(a0_9:(List Int))(a1:Int):Option Int:=G65 (λx=>x) nL wA a0_0 a0_1 a0_2 a0_3 a0_4 a0_5 a0_6 a0_7 a0_8 a0_9 a1
theorem e65 (nL:Y94)(wA:Y95)(L:Nat)(a0_0:Int)(a0_1:Int)(a0_2:Int)(a0_3:Int)(a0_4:(List E9))(a0_5:Int)(a0_6:Int)(a0_7:(List Int))(a0_8:(List Int))(a0_9:(List Int))(a1:Int):eV prog (aUA nL wA) (bI L) f65 (a65.enc ((a0_0,a0_1,a0_2,a0_3,a0_4,a0_5,a0_6,a0_7,a0_8,a0_9),a1))=(g65 nL wA L a0_0 a0_1 a0_2 a0_3 a0_4 a0_5 a0_6 a0_7 a0_8 a0_9 a1).map n65:=by
 refine .trans (b:=G65 n65 nL wA a0_0 a0_1 a0_2 a0_3 a0_4 a0_5 a0_6 a0_7 a0_8 a0_9 a1) (by kernel_rfl) ?_;unfold g65 G65
 repeat' first | with_reducible refine dG ?_ ?_ | with_reducible refine dE λ_=>?_ | with_reducible refine dF λ_=>?_ | exact rfl
def w65 (nL:Y94)(wA:Y95)(L:Nat)(x:(N10×Int)):Option Int:=g65 nL wA L x.1.1 x.1.2.1 x.1.2.2.1 x.1.2.2.2.1 x.1.2.2.2.2.1 x.1.2.2.2.2.2.1 x.1.2.2.2.2.2.2.1 x.1.2.2.2.2.2.2.2.1 x.1.2.2.2.2.2.2.2.2.1 x.1.2.2.2.2.2.2.2.2.2 x.2
theorem s65 (nL:Y94)(wA:Y95)(h94:Sat prog cxT 94 (c94 nL))(h95:Sat prog cxT 95 (c95 wA))(m:Y65)(hm:∀ (x:(N10×Int)) t,m x=some t->∃ L,w65 nL wA L x=some t):Sat prog cxT 65 (c65 m):=
 bS bB aW (by rfl) (fn:=f65) rfl a65 n65 aVG m (aUA nL wA) (aI h94 (aI h95 aV)) aP (w65 nL wA) (λL x=>e65 nL wA L x.1.1 x.1.2.1 x.1.2.2.1 x.1.2.2.2.1 x.1.2.2.2.2.1 x.1.2.2.2.2.2.1 x.1.2.2.2.2.2.2.1 x.1.2.2.2.2.2.2.2.1 x.1.2.2.2.2.2.2.2.2.1 x.1.2.2.2.2.2.2.2.2.2 x.2) hm bAE
def aUz (nL:Y94):Env cxT:={ Kc:=cN [(94,c94 nL)],Kw:=cO [],lv:=λi=>[],xv:=λi=>none }
def G66 {B:Type}(u:Int->B)(nL:Y94)(a0_0:Int)(a0_1:Int)(a0_2:Int)(a0_3:Int)(a0_4:Int)(a0_5:Int)(a0_6:Int)(a0_7:Bool)(a0_8:(List E9))(a1:Int):Option B:=
 cM (nL (a0_8,a1)) (0:Int) λ(q1:Int)=>bif (decide (q1 < (0:Int)))then some (u (-(1:Int)))
  else some (u q1)
def g66 (nL:Y94)(L:Nat)(a0_0:Int)(a0_1:Int)(a0_2:Int)(a0_3:Int)(a0_4:Int)(a0_5:Int)(a0_6:Int)(a0_7:Bool)(a0_8:(List E9))(a1:Int):Option Int:=G66 (λx=>x) nL a0_0 a0_1 a0_2 a0_3 a0_4 a0_5 a0_6 a0_7 a0_8 a1
theorem e66 (nL:Y94)(L:Nat)(a0_0:Int)(a0_1:Int)(a0_2:Int)(a0_3:Int)(a0_4:Int)(a0_5:Int)(a0_6:Int)(a0_7:Bool)(a0_8:(List E9))(a1:Int):eV prog (aUz nL) (bI L) f66 (a66.enc ((a0_0,a0_1,a0_2,a0_3,a0_4,a0_5,a0_6,a0_7,a0_8),a1))=(g66 nL L a0_0 a0_1 a0_2 a0_3 a0_4 a0_5 a0_6 a0_7 a0_8 a1).map n66:=by
 refine .trans (b:=G66 n66 nL a0_0 a0_1 a0_2 a0_3 a0_4 a0_5 a0_6 a0_7 a0_8 a1) (by kernel_rfl) ?_;unfold g66 G66
 repeat' first | with_reducible refine dG ?_ ?_ | with_reducible refine dE λ_=>?_ | with_reducible refine dF λ_=>?_ | exact rfl
def w66 (nL:Y94)(L:Nat)(x:(M9×Int)):Option Int:=g66 nL L x.1.1 x.1.2.1 x.1.2.2.1 x.1.2.2.2.1 x.1.2.2.2.2.1 x.1.2.2.2.2.2.1 x.1.2.2.2.2.2.2.1 x.1.2.2.2.2.2.2.2.1 x.1.2.2.2.2.2.2.2.2 x.2
theorem s66 (nL:Y94)(h94:Sat prog cxT 94 (c94 nL))(m:Y66)(hm:∀ (x:(M9×Int)) t,m x=some t->∃ L,w66 nL L x=some t):Sat prog cxT 66 (c66 m):=
 bS bB aW (by rfl) (fn:=f66) rfl a66 n66 aVF m (aUz nL) (aI h94 aV) aP (w66 nL) (λL x=>e66 nL L x.1.1 x.1.2.1 x.1.2.2.1 x.1.2.2.2.1 x.1.2.2.2.2.1 x.1.2.2.2.2.2.1 x.1.2.2.2.2.2.2.1 x.1.2.2.2.2.2.2.2.1 x.1.2.2.2.2.2.2.2.2 x.2) hm bAD
def aBH (mS:Y65):Env cxT:={ Kc:=cN [(65,c65 mS)],Kw:=cO [],lv:=λi=>if i=0 then[(0,[some 88]),(1,[]),(5,[])]else[],xv:=λi=>if i=0 then some [(1,[])]else none }
def S32_0 (a0:(List N10))(a1:Int)(v0_1:Int)(v0_5:Int):St cxT.ty:={ slots:=[(.inl (.inl (ls { own:=0,nm:=0,e:=88,o:=false,xs:=a0 }))),(.inl (.inl (lv (.int .i64 v0_1)))),aH,aH,aH,(.inl (.inl (lv (.int .i64 v0_5))))]++List.replicate 21 aH,D:=[],F:=[],ctr:=1 }
def X32_0 (a0:(List N10))(a1:Int)(w0_1:Int):St cxT.ty:={ slots:=[aH,(.inl (.inl (lv (.int .i64 w0_1))))]++List.replicate 25 aH,D:=[],F:=[],ctr:=1 }
def G32 {B:Type}(u:Int->B)(hh0:Int->Int->Option B)(mS:Y65)(a0:(List N10))(a1:Int):Option B:=
 bif (decide ((wrap .i64 (a1-(Nat.cast (List.length a0):Int))) < (0:Int)))then some (u (-(1:Int)))
 else hh0 (wrap .i64 (a1-(Nat.cast (List.length a0):Int))) (0:Int)
def B32_0 {B:Type}(u:Int->B)(gg:Int->Int->Option B)(kk:Int->Option B)(mS:Y65)(a0:(List N10))(a1:Int)(v0_1:Int)(v0_5:Int):Option B:=
 bif (decide (v0_5 < (Nat.cast (List.length a0):Int)))then eF (List.getD a0 v0_5.toNat ((0:Int),((0:Int),((0:Int),((0:Int),(([]:List E9),((0:Int),((0:Int),(([]:List (Int)),(([]:List (Int)),([]:List (Int)))))))))))) λs1_0=>bif ((decide ((0:Int)<=v0_5))&&(decide (v0_5 < (Nat.cast (List.length a0):Int))))then cM (mS ((s1_0.1,(s1_0.2.1,(s1_0.2.2.1,(s1_0.2.2.2.1,(s1_0.2.2.2.2.1,(s1_0.2.2.2.2.2.1,(s1_0.2.2.2.2.2.2.1,(s1_0.2.2.2.2.2.2.2.1,(s1_0.2.2.2.2.2.2.2.2.1,s1_0.2.2.2.2.2.2.2.2.2))))))))),v0_1)) (0:Int) λ(q3:Int)=>bif (decide (q3 < (0:Int)))then some (u (-(1:Int)))
    else gg q3 (wrap .i64 (v0_5+(1:Int)))
  else none
 else kk v0_1
def A32_0 {B:Type}(u:Int->B)(mS:Y65)(a0:(List N10))(a1:Int)(w0_1:Int):Option B:=
 some (u w0_1)
def aAs (mS:Y65)(L:Nat)(a0:(List N10))(a1:Int):Nat->Int->Int->(Int->Option Int)->Option Int
 | 0,_,_,_=>none
 | n+1,v0_1,v0_5,k=>B32_0 (λx=>x) (λv0_1 v0_5=>aAs mS L a0 a1 n v0_1 v0_5 k) k mS a0 a1 v0_1 v0_5
theorem aMf (mS:Y65)(L:Nat)(a0:(List N10))(a1:Int)(k:St cxT.ty->Option (V cxT.ty))(xk:Nat->St cxT.ty->Option (V cxT.ty))(k':Int->Option Int)(hk:∀ (w0_1:Int),k (X32_0 a0 a1 w0_1)=(k' w0_1).map n32):∀ (n:Nat) (v0_1:Int) (v0_5:Int),aS prog (aBH mS) L f32 0 [1,1,1,0,1,0,0] (bE (aM prog f32) k xk) n (S32_0 a0 a1 v0_1 v0_5)=(aAs mS L a0 a1 n v0_1 v0_5 k').map n32
 | 0,_,_=>rfl
 | n+1,v0_1,v0_5=>by
  rw[bF];have ih:=aMf mS L a0 a1 k xk k' hk n;refine .trans (b:=B32_0 n32 (λv0_1 v0_5=>(aS prog (aBH mS) L f32 0 [1,1,1,0,1,0,0] (bE (aM prog f32) k xk) n) (S32_0 a0 a1 v0_1 v0_5)) (λw0_1=>k (X32_0 a0 a1 w0_1)) mS a0 a1 v0_1 v0_5) (by kernel_rfl) ?_;unfold aAs B32_0
  repeat' first | with_reducible refine dG ?_ ?_ | with_reducible refine dE λ_=>?_ | with_reducible refine dF λ_=>?_ | with_reducible exact ih _ _ | with_reducible exact hk _ | exact rfl
def g32 (mS:Y65)(L:Nat)(a0:(List N10))(a1:Int):Option Int:=G32 (λx=>x) (λv0_1 v0_5=>aAs mS L a0 a1 L v0_1 v0_5 (λw0_1=>A32_0 (λx=>x) mS a0 a1 w0_1)) mS a0 a1
theorem e32 (mS:Y65)(L:Nat)(a0:(List N10))(a1:Int):eV prog (aBH mS) (bI L) f32 (a32.enc (a0,a1))=(g32 mS L a0 a1).map n32:=by
 have hin0:∀ (v0_1:Int) (v0_5:Int),aS prog (aBH mS) L f32 0 [1,1,1,0,1,0,0] (bE (aM prog f32) (bU prog (aBH mS) L f32 [1,1,1,0,1] (aM prog f32)).n (bU prog (aBH mS) L f32 [1,1,1,0,1] (aM prog f32)).x) L (S32_0 a0 a1 v0_1 v0_5)=((λv0_1 v0_5=>aAs mS L a0 a1 L v0_1 v0_5 (λw0_1=>A32_0 (λx=>x) mS a0 a1 w0_1)) v0_1 v0_5).map n32:=λv0_1 v0_5=>aMf mS L a0 a1 _ _ _ (λw0_1=>by refine .trans (b:=A32_0 n32 mS a0 a1 w0_1) (by kernel_rfl) ?_;unfold A32_0;repeat' first | with_reducible refine dG ?_ ?_ | with_reducible refine dE λ_=>?_ | with_reducible refine dF λ_=>?_ | exact rfl) L v0_1 v0_5
 refine .trans (b:=G32 n32 (λv0_1 v0_5=>aS prog (aBH mS) L f32 0 [1,1,1,0,1,0,0] (bE (aM prog f32) (bU prog (aBH mS) L f32 [1,1,1,0,1] (aM prog f32)).n (bU prog (aBH mS) L f32 [1,1,1,0,1] (aM prog f32)).x) L (S32_0 a0 a1 v0_1 v0_5)) mS a0 a1) (by kernel_rfl) ?_;unfold g32 G32
 repeat' first | with_reducible refine dG ?_ ?_ | with_reducible refine dE λ_=>?_ | with_reducible refine dF λ_=>?_ | with_reducible exact hin0 _ _ | exact rfl
def w32 (mS:Y65)(L:Nat)(x:((List N10)×Int)):Option Int:=g32 mS L x.1 x.2
theorem s32 (mS:Y65)(h65:Sat prog cxT 65 (c65 mS))(m:Y32)(hm:∀ (x:((List N10)×Int)) t,m x=some t->∃ L,w32 mS L x=some t):Sat prog cxT 32 (c32 m):=
 bS bB aW (by rfl) (fn:=f32) rfl a32 n32 aV6 m (aBH mS) (aI h65 aV) aP (w32 mS) (λL x=>e32 mS L x.1 x.2) hm bA4
def aBG (mR:Y66):Env cxT:={ Kc:=cN [(66,c66 mR)],Kw:=cO [],lv:=λi=>if i=0 then[(0,[some 91]),(1,[]),(5,[])]else[],xv:=λi=>if i=0 then some [(1,[])]else none }
def S33_0 (a0:(List M9))(a1:Int)(v0_1:Int)(v0_5:Int):St cxT.ty:={ slots:=[(.inl (.inl (ls { own:=0,nm:=0,e:=91,o:=false,xs:=a0 }))),(.inl (.inl (lv (.int .i64 v0_1)))),aH,aH,aH,(.inl (.inl (lv (.int .i64 v0_5))))]++List.replicate 21 aH,D:=[],F:=[],ctr:=1 }
def X33_0 (a0:(List M9))(a1:Int)(w0_1:Int):St cxT.ty:={ slots:=[aH,(.inl (.inl (lv (.int .i64 w0_1))))]++List.replicate 25 aH,D:=[],F:=[],ctr:=1 }
def G33 {B:Type}(u:Int->B)(hh0:Int->Int->Option B)(mR:Y66)(a0:(List M9))(a1:Int):Option B:=
 bif (decide ((wrap .i64 (a1-(Nat.cast (List.length a0):Int))) < (0:Int)))then some (u (-(1:Int)))
 else hh0 (wrap .i64 (a1-(Nat.cast (List.length a0):Int))) (0:Int)
def B33_0 {B:Type}(u:Int->B)(gg:Int->Int->Option B)(kk:Int->Option B)(mR:Y66)(a0:(List M9))(a1:Int)(v0_1:Int)(v0_5:Int):Option B:=
 bif (decide (v0_5 < (Nat.cast (List.length a0):Int)))then eF (List.getD a0 v0_5.toNat ((0:Int),((0:Int),((0:Int),((0:Int),((0:Int),((0:Int),((0:Int),(false,[]))))))))) λs1_0=>bif ((decide ((0:Int)<=v0_5))&&(decide (v0_5 < (Nat.cast (List.length a0):Int))))then cM (mR ((s1_0.1,(s1_0.2.1,(s1_0.2.2.1,(s1_0.2.2.2.1,(s1_0.2.2.2.2.1,(s1_0.2.2.2.2.2.1,(s1_0.2.2.2.2.2.2.1,(s1_0.2.2.2.2.2.2.2.1,s1_0.2.2.2.2.2.2.2.2)))))))),v0_1)) (0:Int) λ(q3:Int)=>bif (decide (q3 < (0:Int)))then some (u (-(1:Int)))
    else gg q3 (wrap .i64 (v0_5+(1:Int)))
  else none
 else kk v0_1
def A33_0 {B:Type}(u:Int->B)(mR:Y66)(a0:(List M9))(a1:Int)(w0_1:Int):Option B:=
 some (u w0_1)
def aAr (mR:Y66)(L:Nat)(a0:(List M9))(a1:Int):Nat->Int->Int->(Int->Option Int)->Option Int
 | 0,_,_,_=>none
 | n+1,v0_1,v0_5,k=>B33_0 (λx=>x) (λv0_1 v0_5=>aAr mR L a0 a1 n v0_1 v0_5 k) k mR a0 a1 v0_1 v0_5
theorem aMe (mR:Y66)(L:Nat)(a0:(List M9))(a1:Int)(k:St cxT.ty->Option (V cxT.ty))(xk:Nat->St cxT.ty->Option (V cxT.ty))(k':Int->Option Int)(hk:∀ (w0_1:Int),k (X33_0 a0 a1 w0_1)=(k' w0_1).map n33):∀ (n:Nat) (v0_1:Int) (v0_5:Int),aS prog (aBG mR) L f33 0 [1,1,1,0,1,0,0] (bE (aM prog f33) k xk) n (S33_0 a0 a1 v0_1 v0_5)=(aAr mR L a0 a1 n v0_1 v0_5 k').map n33
 | 0,_,_=>rfl
 | n+1,v0_1,v0_5=>by
  rw[bF];have ih:=aMe mR L a0 a1 k xk k' hk n;refine .trans (b:=B33_0 n33 (λv0_1 v0_5=>(aS prog (aBG mR) L f33 0 [1,1,1,0,1,0,0] (bE (aM prog f33) k xk) n) (S33_0 a0 a1 v0_1 v0_5)) (λw0_1=>k (X33_0 a0 a1 w0_1)) mR a0 a1 v0_1 v0_5) (by kernel_rfl) ?_;unfold aAr B33_0
  repeat' first | with_reducible refine dG ?_ ?_ | with_reducible refine dE λ_=>?_ | with_reducible refine dF λ_=>?_ | with_reducible exact ih _ _ | with_reducible exact hk _ | exact rfl
def g33 (mR:Y66)(L:Nat)(a0:(List M9))(a1:Int):Option Int:=G33 (λx=>x) (λv0_1 v0_5=>aAr mR L a0 a1 L v0_1 v0_5 (λw0_1=>A33_0 (λx=>x) mR a0 a1 w0_1)) mR a0 a1
theorem e33 (mR:Y66)(L:Nat)(a0:(List M9))(a1:Int):eV prog (aBG mR) (bI L) f33 (a33.enc (a0,a1))=(g33 mR L a0 a1).map n33:=by
 have hin0:∀ (v0_1:Int) (v0_5:Int),aS prog (aBG mR) L f33 0 [1,1,1,0,1,0,0] (bE (aM prog f33) (bU prog (aBG mR) L f33 [1,1,1,0,1] (aM prog f33)).n (bU prog (aBG mR) L f33 [1,1,1,0,1] (aM prog f33)).x) L (S33_0 a0 a1 v0_1 v0_5)=((λv0_1 v0_5=>aAr mR L a0 a1 L v0_1 v0_5 (λw0_1=>A33_0 (λx=>x) mR a0 a1 w0_1)) v0_1 v0_5).map n33:=λv0_1 v0_5=>aMe mR L a0 a1 _ _ _ (λw0_1=>by refine .trans (b:=A33_0 n33 mR a0 a1 w0_1) (by kernel_rfl) ?_;unfold A33_0;repeat' first | with_reducible refine dG ?_ ?_ | with_reducible refine dE λ_=>?_ | with_reducible refine dF λ_=>?_ | exact rfl) L v0_1 v0_5
 refine .trans (b:=G33 n33 (λv0_1 v0_5=>aS prog (aBG mR) L f33 0 [1,1,1,0,1,0,0] (bE (aM prog f33) (bU prog (aBG mR) L f33 [1,1,1,0,1] (aM prog f33)).n (bU prog (aBG mR) L f33 [1,1,1,0,1] (aM prog f33)).x) L (S33_0 a0 a1 v0_1 v0_5)) mR a0 a1) (by kernel_rfl) ?_;unfold g33 G33
 repeat' first | with_reducible refine dG ?_ ?_ | with_reducible refine dE λ_=>?_ | with_reducible refine dF λ_=>?_ | with_reducible exact hin0 _ _ | exact rfl
def w33 (mR:Y66)(L:Nat)(x:((List M9)×Int)):Option Int:=g33 mR L x.1 x.2
theorem s33 (mR:Y66)(h66:Sat prog cxT 66 (c66 mR))(m:Y33)(hm:∀ (x:((List M9)×Int)) t,m x=some t->∃ L,w33 mR L x=some t):Sat prog cxT 33 (c33 m):=
 bS bB aW (by rfl) (fn:=f33) rfl a33 n33 aV5 m (aBG mR) (aI h66 aV) aP (w33 mR) (λL x=>e33 mR L x.1 x.2) hm bA3
def aUE:Env cxT:={ Kc:=cN [],Kw:=cO [],lv:=λi=>[],xv:=λi=>none }
def G34 {B:Type}(u:Int->B)(a0:(List W2))(a1:Int):Option B:=
 bif (decide ((wrap .i64 (a1-(Nat.cast (List.length a0):Int))) < (0:Int)))then some (u (-(1:Int)))
 else some (u (wrap .i64 (a1-(Nat.cast (List.length a0):Int))))
def g34 (L:Nat)(a0:(List W2))(a1:Int):Option Int:=G34 (λx=>x) a0 a1
theorem e34 (L:Nat)(a0:(List W2))(a1:Int):eV prog aUE (bI L) f34 (a34.enc (a0,a1))=(g34 L a0 a1).map n34:=by
 refine .trans (b:=G34 n34 a0 a1) (by kernel_rfl) ?_;unfold g34 G34
 repeat' first | with_reducible refine dG ?_ ?_ | with_reducible refine dE λ_=>?_ | with_reducible refine dF λ_=>?_ | exact rfl
def w34 (L:Nat)(x:((List W2)×Int)):Option Int:=g34 L x.1 x.2
theorem s34 (m:Y34)(hm:∀ (x:((List W2)×Int)) t,m x=some t->∃ L,w34 L x=some t):Sat prog cxT 34 (c34 m):=
 bS bB aW (by rfl) (fn:=f34) rfl a34 n34 aV4 m aUE aV aP (w34) (λL x=>e34 L x.1 x.2) hm bA2
def aUD:Env cxT:={ Kc:=cN [],Kw:=cO [],lv:=λi=>[],xv:=λi=>none }
def G35 {B:Type}(u:Int->B)(a0:(List S10))(a1:Int):Option B:=
 bif (decide ((wrap .i64 (a1-(Nat.cast (List.length a0):Int))) < (0:Int)))then some (u (-(1:Int)))
 else some (u (wrap .i64 (a1-(Nat.cast (List.length a0):Int))))
def g35 (L:Nat)(a0:(List S10))(a1:Int):Option Int:=G35 (λx=>x) a0 a1
theorem e35 (L:Nat)(a0:(List S10))(a1:Int):eV prog aUD (bI L) f35 (a35.enc (a0,a1))=(g35 L a0 a1).map n35:=by
 refine .trans (b:=G35 n35 a0 a1) (by kernel_rfl) ?_;unfold g35 G35
 repeat' first | with_reducible refine dG ?_ ?_ | with_reducible refine dE λ_=>?_ | with_reducible refine dF λ_=>?_ | exact rfl
def w35 (L:Nat)(x:((List S10)×Int)):Option Int:=g35 L x.1 x.2
theorem s35 (m:Y35)(hm:∀ (x:((List S10)×Int)) t,m x=some t->∃ L,w35 L x=some t):Sat prog cxT 35 (c35 m):=
 bS bB aW (by rfl) (fn:=f35) rfl a35 n35 aV3 m aUD aV aP (w35) (λL x=>e35 L x.1 x.2) hm bA1
def aUP (yT:Y32)(yS:Y33)(yR:Y34)(yQ:Y35):Env cxT:={ Kc:=cN [(32,c32 yT),(33,c33 yS),(34,c34 yR),(35,c35 yQ)],Kw:=cO [],lv:=λi=>[],xv:=λi=>none }
def G10 {B:Type}(u:Int->B)(yT:Y32)(yS:Y33)(yR:Y34)(yQ:Y35)(a0_0:(List N10))(a0_1:(List M9))(a0_2:(List W2))(a0_3:(List S10))(a1:Int):Option B:=
 cM (yT (a0_0,a1)) (0:Int) λ(q1:Int)=>bif (decide (q1 < (0:Int)))then some (u (-(1:Int)))
  else cM (yS (a0_1,q1)) (0:Int) λ(q2:Int)=>bif (decide (q2 < (0:Int)))then some (u (-(1:Int)))
   else cM (yR (a0_2,q2)) (0:Int) λ(q3:Int)=>bif (decide (q3 < (0:Int)))then some (u (-(1:Int)))
    else cM (yQ (a0_3,q3)) (0:Int) λ(q4:Int)=>bif (decide (q4 < (0:Int)))then some (u (-(1:Int)))
     else some (u q4)
def g10 (yT:Y32)(yS:Y33)(yR:Y34)(yQ:Y35)(L:Nat)(a0_0:(List N10))(a0_1:(List M9))(a0_2:(List W2))(a0_3:(List S10))(a1:Int):Option Int:=G10 (λx=>x) yT yS yR yQ a0_0 a0_1 a0_2 a0_3 a1
theorem e10 (yT:Y32)(yS:Y33)(yR:Y34)(yQ:Y35)(L:Nat)(a0_0:(List N10))(a0_1:(List M9))(a0_2:(List W2))(a0_3:(List S10))(a1:Int):eV prog (aUP yT yS yR yQ) (bI L) f10 (a10.enc ((a0_0,a0_1,a0_2,a0_3),a1))=(g10 yT yS yR yQ L a0_0 a0_1 a0_2 a0_3 a1).map n10:=by
 refine .trans (b:=G10 n10 yT yS yR yQ a0_0 a0_1 a0_2 a0_3 a1) (by kernel_rfl) ?_;unfold g10 G10
 repeat' first | with_reducible refine dG ?_ ?_ | with_reducible refine dE λ_=>?_ | with_reducible refine dF λ_=>?_ | exact rfl
def w10 (yT:Y32)(yS:Y33)(yR:Y34)(yQ:Y35)(L:Nat)(x:(C4×Int)):Option Int:=g10 yT yS yR yQ L x.1.1 x.1.2.1 x.1.2.2.1 x.1.2.2.2 x.2
theorem s10 (yT:Y32)(yS:Y33)(yR:Y34)(yQ:Y35)(h32:Sat prog cxT 32 (c32 yT))(h33:Sat prog cxT 33 (c33 yS))(h34:Sat prog cxT 34 (c34 yR))(h35:Sat prog cxT 35 (c35 yQ))(m:Y10)(hm:∀ (x:(C4×Int)) t,m x=some t->∃ L,w10 yT yS yR yQ L x=some t):Sat prog cxT 10 (c10 m):=
 bS bB aW (by rfl) (fn:=f10) rfl a10 n10 aWl m (aUP yT yS yR yQ) (aI h32 (aI h33 (aI h34 (aI h35 aV)))) aP (w10 yT yS yR yQ) (λL x=>e10 yT yS yR yQ L x.1.1 x.1.2.1 x.1.2.2.1 x.1.2.2.2 x.2) hm bBh
end Go.Proofs.Tryz
set_option maxHeartbeats 0
set_option maxRecDepth 100000
namespace Go.Proofs.Tryz
open Go.IntKind (wrap)
open Go Go.VM Go.RowKit
def tR (m104:Y104):Env cxT:={ Kc:=cN [(104,aHu m104)],Kw:=cO [],lv:=λi=>if i=0 then[(0,[some 113]),(3,[some 102]),(4,[])]else[],xv:=λi=>if i=0 then some [(3,[some 102])]else none }
def S102_0 (a0:(List E9))(v0_3:(List E9))(v0_4:Int):St cxT.ty:={ slots:=[(.inl (.inl (ls { own:=0,nm:=0,e:=113,o:=false,xs:=a0 }))),aH,aH,(.inl (.inl (ls { own:=1,nm:=192,e:=102,o:=true,xs:=v0_3 }))),(.inl (.inl (lv (.int .i64 v0_4))))]++List.replicate 18 aH,D:=[],F:=[],ctr:=1 }
def X102_0 (a0:(List E9))(w0_3:(List E9)):St cxT.ty:={ slots:=[aH,aH,aH,(.inl (.inl (ls { own:=1,nm:=192,e:=102,o:=true,xs:=w0_3 })))]++List.replicate 19 aH,D:=[],F:=[],ctr:=1 }
def G102 {B:Type}(u:(List E9)->B)(hh0:(List E9)->Int->Option B)(m104:Y104)(a0:(List E9)):Option B:=
 bif (((decide ((0:Int)<=(Nat.cast (List.length a0):Int)))&&(decide ((Nat.cast (List.length a0):Int)<=(Nat.cast (List.length a0):Int))))&&(decide ((Nat.cast (List.length a0):Int)<=(1000000000:Int))))then hh0 (List.replicate (Int.toNat (Nat.cast (List.length a0):Int)) ((0:Int),((0:Int),((0:Int),((0:Int),((0:Int),((0:Int),((0:Int),((0:Int),(0:Int)))))))))) (0:Int)
 else none
def B102_0 {B:Type}(u:(List E9)->B)(gg:(List E9)->Int->Option B)(kk:(List E9)->Option B)(m104:Y104)(a0:(List E9))(v0_3:(List E9))(v0_4:Int):Option B:=
 bif (decide (v0_4 < (Nat.cast (List.length a0):Int)))then eF (List.getD a0 v0_4.toNat ((0:Int),((0:Int),((0:Int),((0:Int),((0:Int),((0:Int),((0:Int),((0:Int),(0:Int)))))))))) λs1_0=>bif ((decide ((0:Int)<=v0_4))&&(decide (v0_4 < (Nat.cast (List.length a0):Int))))then cM (m104 (s1_0.1,(s1_0.2.1,(s1_0.2.2.1,(s1_0.2.2.2.1,(s1_0.2.2.2.2.1,(s1_0.2.2.2.2.2.1,(s1_0.2.2.2.2.2.2.1,(s1_0.2.2.2.2.2.2.2.1,s1_0.2.2.2.2.2.2.2.2))))))))) ((0:Int),(0:Int),(0:Int),(0:Int),(0:Int),(0:Int),(0:Int),(0:Int),(0:Int)) λ(q3:E9)=>bif ((decide ((0:Int)<=v0_4))&&(decide (v0_4 < (Nat.cast (List.length v0_3):Int))))then gg (List.set v0_3 v0_4.toNat (q3.1,(q3.2.1,(q3.2.2.1,(q3.2.2.2.1,(q3.2.2.2.2.1,(q3.2.2.2.2.2.1,(q3.2.2.2.2.2.2.1,(q3.2.2.2.2.2.2.2.1,q3.2.2.2.2.2.2.2.2))))))))) (wrap .i64 (v0_4+(1:Int)))
    else none
  else none
 else kk v0_3
def A102_0 {B:Type}(u:(List E9)->B)(m104:Y104)(a0:(List E9))(w0_3:(List E9)):Option B:=
 some (u w0_3)
def uJ (m104:Y104)(L:Nat)(a0:(List E9)):Nat->(List E9)->Int->((List E9)->Option (List E9))->Option (List E9)
 | 0,_,_,_=>none
 | n+1,v0_3,v0_4,k=>B102_0 (λx=>x) (λv0_3 v0_4=>uJ m104 L a0 n v0_3 v0_4 k) k m104 a0 v0_3 v0_4
theorem aI2 (m104:Y104)(L:Nat)(a0:(List E9))(k:St cxT.ty->Option (V cxT.ty))(xk:Nat->St cxT.ty->Option (V cxT.ty))(k':(List E9)->Option (List E9))(hk:∀ (w0_3:(List E9)),k (X102_0 a0 w0_3)=(k' w0_3).map zZ):∀ (n:Nat) (v0_3:(List E9)) (v0_4:Int),aS prog (tR m104) L f102 0 [1,1,0,1,0,0] (bE (aM prog f102) k xk) n (S102_0 a0 v0_3 v0_4)=(uJ m104 L a0 n v0_3 v0_4 k').map zZ
 | 0,_,_=>rfl
 | n+1,v0_3,v0_4=>by
  rw[bF];have ih:=aI2 m104 L a0 k xk k' hk n;refine .trans (b:=B102_0 zZ (λv0_3 v0_4=>(aS prog (tR m104) L f102 0 [1,1,0,1,0,0] (bE (aM prog f102) k xk) n) (S102_0 a0 v0_3 v0_4)) (λw0_3=>k (X102_0 a0 w0_3)) m104 a0 v0_3 v0_4) (by kernel_rfl) ?_;unfold uJ B102_0
  repeat' first | with_reducible refine dG ?_ ?_ | with_reducible refine dE λ_=>?_ | with_reducible refine dF λ_=>?_ | with_reducible exact ih _ _ | with_reducible exact hk _ | exact rfl
def aKs (m104:Y104)(L:Nat)(a0:(List E9)):Option (List E9):=G102 (λx=>x) (λv0_3 v0_4=>uJ m104 L a0 L v0_3 v0_4 (λw0_3=>A102_0 (λx=>x) m104 a0 w0_3)) m104 a0
theorem bCv (m104:Y104)(L:Nat)(a0:(List E9)):eV prog (tR m104) (bI L) f102 (aXD.enc a0)=(aKs m104 L a0).map zZ:=by
 have hin0:∀ (v0_3:(List E9)) (v0_4:Int),aS prog (tR m104) L f102 0 [1,1,0,1,0,0] (bE (aM prog f102) (bU prog (tR m104) L f102 [1,1,0,1] (aM prog f102)).n (bU prog (tR m104) L f102 [1,1,0,1] (aM prog f102)).x) L (S102_0 a0 v0_3 v0_4)=((λv0_3 v0_4=>uJ m104 L a0 L v0_3 v0_4 (λw0_3=>A102_0 (λx=>x) m104 a0 w0_3)) v0_3 v0_4).map zZ:=λv0_3 v0_4=>aI2 m104 L a0 _ _ _ (λw0_3=>by refine .trans (b:=A102_0 zZ m104 a0 w0_3) (by kernel_rfl) ?_;unfold A102_0;repeat' first | with_reducible refine dG ?_ ?_ | with_reducible refine dE λ_=>?_ | with_reducible refine dF λ_=>?_ | exact rfl) L v0_3 v0_4
 refine .trans (b:=G102 zZ (λv0_3 v0_4=>aS prog (tR m104) L f102 0 [1,1,0,1,0,0] (bE (aM prog f102) (bU prog (tR m104) L f102 [1,1,0,1] (aM prog f102)).n (bU prog (tR m104) L f102 [1,1,0,1] (aM prog f102)).x) L (S102_0 a0 v0_3 v0_4)) m104 a0) (by kernel_rfl) ?_;unfold aKs G102
 repeat' first | with_reducible refine dG ?_ ?_ | with_reducible refine dE λ_=>?_ | with_reducible refine dF λ_=>?_ | with_reducible exact hin0 _ _ | exact rfl
def aN9 (m104:Y104)(L:Nat)(x:(List E9)):Option (List E9):=aKs m104 L x
theorem aZM (m104:Y104)(h104:Sat prog cxT 104 (aHu m104))(m:Y102)(hm:∀ (x:(List E9)) t,m x=some t->∃ L,aN9 m104 L x=some t):Sat prog cxT 102 (aHv m):=
 bS bB aW (by rfl) (fn:=f102) rfl aXD zZ aNI m (tR m104) (aI h104 aV) aP (aN9 m104) (λL x=>bCv m104 L x) hm aTn
def tQ:Env cxT:={ Kc:=cN [],Kw:=cO [],lv:=λi=>if i=0 then[(0,[some 2]),(3,[some 2]),(4,[])]else[],xv:=λi=>if i=0 then some [(3,[some 2])]else none }
def S103_0 (a0:(List Int))(v0_3:(List Int))(v0_4:Int):St cxT.ty:={ slots:=[(.inl (.inl (ls { own:=0,nm:=0,e:=2,o:=false,xs:=a0 }))),aH,aH,(.inl (.inl (ls { own:=1,nm:=192,e:=2,o:=true,xs:=v0_3 }))),(.inl (.inl (lv (.int .i64 v0_4))))]++List.replicate 17 aH,D:=[],F:=[],ctr:=1 }
def X103_0 (a0:(List Int))(w0_3:(List Int)):St cxT.ty:={ slots:=[aH,aH,aH,(.inl (.inl (ls { own:=1,nm:=192,e:=2,o:=true,xs:=w0_3 })))]++List.replicate 18 aH,D:=[],F:=[],ctr:=1 }
def G103 {B:Type}(u:(List Int)->B)(hh0:(List Int)->Int->Option B)(a0:(List Int)):Option B:=
 bif (((decide ((0:Int)<=(Nat.cast (List.length a0):Int)))&&(decide ((Nat.cast (List.length a0):Int)<=(Nat.cast (List.length a0):Int))))&&(decide ((Nat.cast (List.length a0):Int)<=(1000000000:Int))))then hh0 (List.replicate (Int.toNat (Nat.cast (List.length a0):Int)) (0:Int)) (0:Int)
 else none
def B103_0 {B:Type}(u:(List Int)->B)(gg:(List Int)->Int->Option B)(kk:(List Int)->Option B)(a0:(List Int))(v0_3:(List Int))(v0_4:Int):Option B:=
 bif (decide (v0_4 < (Nat.cast (List.length a0):Int)))then bif ((decide ((0:Int)<=v0_4))&&(decide (v0_4 < (Nat.cast (List.length a0):Int))))then bif ((decide ((0:Int)<=v0_4))&&(decide (v0_4 < (Nat.cast (List.length v0_3):Int))))then gg (List.set v0_3 v0_4.toNat (List.getD a0 v0_4.toNat (0:Int))) (wrap .i64 (v0_4+(1:Int)))
   else none
  else none
 else kk v0_3
def A103_0 {B:Type}(u:(List Int)->B)(a0:(List Int))(w0_3:(List Int)):Option B:=
 some (u w0_3)
def uI (L:Nat)(a0:(List Int)):Nat->(List Int)->Int->((List Int)->Option (List Int))->Option (List Int)
 | 0,_,_,_=>none
 | n+1,v0_3,v0_4,k=>B103_0 (λx=>x) (λv0_3 v0_4=>uI L a0 n v0_3 v0_4 k) k a0 v0_3 v0_4
theorem aI1 (L:Nat)(a0:(List Int))(k:St cxT.ty->Option (V cxT.ty))(xk:Nat->St cxT.ty->Option (V cxT.ty))(k':(List Int)->Option (List Int))(hk:∀ (w0_3:(List Int)),k (X103_0 a0 w0_3)=(k' w0_3).map zY):∀ (n:Nat) (v0_3:(List Int)) (v0_4:Int),aS prog tQ L f103 0 [1,1,0,1,0,0] (bE (aM prog f103) k xk) n (S103_0 a0 v0_3 v0_4)=(uI L a0 n v0_3 v0_4 k').map zY
 | 0,_,_=>rfl
 | n+1,v0_3,v0_4=>by
  rw[bF];have ih:=aI1 L a0 k xk k' hk n;refine .trans (b:=B103_0 zY (λv0_3 v0_4=>(aS prog tQ L f103 0 [1,1,0,1,0,0] (bE (aM prog f103) k xk) n) (S103_0 a0 v0_3 v0_4)) (λw0_3=>k (X103_0 a0 w0_3)) a0 v0_3 v0_4) (by kernel_rfl) ?_;unfold uI B103_0
  repeat' first | with_reducible refine dG ?_ ?_ | with_reducible refine dE λ_=>?_ | with_reducible refine dF λ_=>?_ | with_reducible exact ih _ _ | with_reducible exact hk _ | exact rfl
def aKr (L:Nat)(a0:(List Int)):Option (List Int):=G103 (λx=>x) (λv0_3 v0_4=>uI L a0 L v0_3 v0_4 (λw0_3=>A103_0 (λx=>x) a0 w0_3)) a0
theorem bCu (L:Nat)(a0:(List Int)):eV prog tQ (bI L) f103 (aXC.enc a0)=(aKr L a0).map zY:=by
 have hin0:∀ (v0_3:(List Int)) (v0_4:Int),aS prog tQ L f103 0 [1,1,0,1,0,0] (bE (aM prog f103) (bU prog tQ L f103 [1,1,0,1] (aM prog f103)).n (bU prog tQ L f103 [1,1,0,1] (aM prog f103)).x) L (S103_0 a0 v0_3 v0_4)=((λv0_3 v0_4=>uI L a0 L v0_3 v0_4 (λw0_3=>A103_0 (λx=>x) a0 w0_3)) v0_3 v0_4).map zY:=λv0_3 v0_4=>aI1 L a0 _ _ _ (λw0_3=>by refine .trans (b:=A103_0 zY a0 w0_3) (by kernel_rfl) ?_;unfold A103_0;repeat' first | with_reducible refine dG ?_ ?_ | with_reducible refine dE λ_=>?_ | with_reducible refine dF λ_=>?_ | exact rfl) L v0_3 v0_4
 refine .trans (b:=G103 zY (λv0_3 v0_4=>aS prog tQ L f103 0 [1,1,0,1,0,0] (bE (aM prog f103) (bU prog tQ L f103 [1,1,0,1] (aM prog f103)).n (bU prog tQ L f103 [1,1,0,1] (aM prog f103)).x) L (S103_0 a0 v0_3 v0_4)) a0) (by kernel_rfl) ?_;unfold aKr G103
 repeat' first | with_reducible refine dG ?_ ?_ | with_reducible refine dE λ_=>?_ | with_reducible refine dF λ_=>?_ | with_reducible exact hin0 _ _ | exact rfl
def aN8 (L:Nat)(x:(List Int)):Option (List Int):=aKr L x
theorem aZL (m:Y103)(hm:∀ (x:(List Int)) t,m x=some t->∃ L,aN8 L x=some t):Sat prog cxT 103 (aK0 m):=
 bS bB aW (by rfl) (fn:=f103) rfl aXC zY aNH m tQ aV aP (aN8) (λL x=>bCu L x) hm aTm
def aMR (m121:Y121):Env cxT:={ Kc:=cN [(121,aKT m121)],Kw:=cO [],lv:=λi=>[],xv:=λi=>none }
def G104 {B:Type}(u:E9->B)(m121:Y121)(a0_0:Int)(a0_1:Int)(a0_2:Int)(a0_3:Int)(a0_4:Int)(a0_5:Int)(a0_6:Int)(a0_7:Int)(a0_8:Int):Option B:=
 cM (m121 (a0_3,(a0_4,(a0_5,(a0_6,(a0_7,a0_8)))))) ((0:Int),(0:Int),(0:Int),(0:Int),(0:Int),(0:Int)) λ(q1:(Int×Int×Int×Int×Int×Int))=>some (u (a0_0,a0_1,a0_2,q1.1,q1.2.1,q1.2.2.1,q1.2.2.2.1,q1.2.2.2.2.1,q1.2.2.2.2.2))
def aPJ (m121:Y121)(L:Nat)(a0_0:Int)(a0_1:Int)(a0_2:Int)(a0_3:Int)(a0_4:Int)(a0_5:Int)(a0_6:Int)(a0_7:Int)(a0_8:Int):Option E9:=G104 (λx=>x) m121 a0_0 a0_1 a0_2 a0_3 a0_4 a0_5 a0_6 a0_7 a0_8
theorem bCt (m121:Y121)(L:Nat)(a0_0:Int)(a0_1:Int)(a0_2:Int)(a0_3:Int)(a0_4:Int)(a0_5:Int)(a0_6:Int)(a0_7:Int)(a0_8:Int):eV prog (aMR m121) (bI L) f104 (aXB.enc (a0_0,a0_1,a0_2,a0_3,a0_4,a0_5,a0_6,a0_7,a0_8))=(aPJ m121 L a0_0 a0_1 a0_2 a0_3 a0_4 a0_5 a0_6 a0_7 a0_8).map aHd:=by
 refine .trans (b:=G104 aHd m121 a0_0 a0_1 a0_2 a0_3 a0_4 a0_5 a0_6 a0_7 a0_8) (by kernel_rfl) ?_;unfold aPJ G104
 repeat' first | with_reducible refine dG ?_ ?_ | with_reducible refine dE λ_=>?_ | with_reducible refine dF λ_=>?_ | exact rfl
def aRv (m121:Y121)(L:Nat)(x:E9):Option E9:=aPJ m121 L x.1 x.2.1 x.2.2.1 x.2.2.2.1 x.2.2.2.2.1 x.2.2.2.2.2.1 x.2.2.2.2.2.2.1 x.2.2.2.2.2.2.2.1 x.2.2.2.2.2.2.2.2
theorem aZK (m121:Y121)(h121:Sat prog cxT 121 (aKT m121))(m:Y104)(hm:∀ (x:E9) t,m x=some t->∃ L,aRv m121 L x=some t):Sat prog cxT 104 (aHu m):=
 bS bB aW (by rfl) (fn:=f104) rfl aXB aHd aNG m (aMR m121) (aI h121 aV) aP (aRv m121) (λL x=>bCt m121 L x.1 x.2.1 x.2.2.1 x.2.2.2.1 x.2.2.2.2.1 x.2.2.2.2.2.1 x.2.2.2.2.2.2.1 x.2.2.2.2.2.2.2.1 x.2.2.2.2.2.2.2.2) hm aTl
def aUu (gR:Y102)(kJ:Y103):Env cxT:={ Kc:=cN [(102,aHv gR),(103,aK0 kJ)],Kw:=cO [],lv:=λi=>[],xv:=λi=>none }
def G72 {B:Type}(u:N10->B)(gR:Y102)(kJ:Y103)(a0_0:Int)(a0_1:Int)(a0_2:Int)(a0_3:Int)(a0_4:(List E9))(a0_5:Int)(a0_6:Int)(a0_7:(List Int))(a0_8:(List Int))(a0_9:(List Int)):Option B:=
 cM (gR a0_4) [] λ(q1:(List E9))=>cM (kJ a0_7) [] λ(q2:(List Int))=>cM (kJ a0_8) [] λ(q3:(List Int))=>cM (kJ a0_9) [] λ(q4:(List Int))=>some (u (a0_0,a0_1,a0_2,a0_3,q1,a0_5,a0_6,q2,q3,q4))
def g72 (gR:Y102)(kJ:Y103)(L:Nat)(a0_0:Int)(a0_1:Int)(a0_2:Int)(a0_3:Int)(a0_4:(List E9))(a0_5:Int)(a0_6:Int)(a0_7:(List Int))(a0_8:(List Int))(a0_9:(List Int)):Option N10:=G72 (λx=>x) gR kJ a0_0 a0_1 a0_2 a0_3 a0_4 a0_5 a0_6 a0_7 a0_8 a0_9
theorem e72 (gR:Y102)(kJ:Y103)(L:Nat)(a0_0:Int)(a0_1:Int)(a0_2:Int)(a0_3:Int)(a0_4:(List E9))(a0_5:Int)(a0_6:Int)(a0_7:(List Int))(a0_8:(List Int))(a0_9:(List Int)):eV prog (aUu gR kJ) (bI L) f72 (a72.enc (a0_0,a0_1,a0_2,a0_3,a0_4,a0_5,a0_6,a0_7,a0_8,a0_9))=(g72 gR kJ L a0_0 a0_1 a0_2 a0_3 a0_4 a0_5 a0_6 a0_7 a0_8 a0_9).map n72:=by
 refine .trans (b:=G72 n72 gR kJ a0_0 a0_1 a0_2 a0_3 a0_4 a0_5 a0_6 a0_7 a0_8 a0_9) (by kernel_rfl) ?_;unfold g72 G72
 repeat' first | with_reducible refine dG ?_ ?_ | with_reducible refine dE λ_=>?_ | with_reducible refine dF λ_=>?_ | exact rfl
def w72 (gR:Y102)(kJ:Y103)(L:Nat)(x:N10):Option N10:=g72 gR kJ L x.1 x.2.1 x.2.2.1 x.2.2.2.1 x.2.2.2.2.1 x.2.2.2.2.2.1 x.2.2.2.2.2.2.1 x.2.2.2.2.2.2.2.1 x.2.2.2.2.2.2.2.2.1 x.2.2.2.2.2.2.2.2.2
theorem s72 (gR:Y102)(kJ:Y103)(h102:Sat prog cxT 102 (aHv gR))(h103:Sat prog cxT 103 (aK0 kJ))(m:Y72)(hm:∀ (x:N10) t,m x=some t->∃ L,w72 gR kJ L x=some t):Sat prog cxT 72 (c72 m):=
 bS bB aW (by rfl) (fn:=f72) rfl a72 n72 aVz m (aUu gR kJ) (aI h102 (aI h103 aV)) aP (w72 gR kJ) (λL x=>e72 gR kJ L x.1 x.2.1 x.2.2.1 x.2.2.2.1 x.2.2.2.2.1 x.2.2.2.2.2.1 x.2.2.2.2.2.2.1 x.2.2.2.2.2.2.2.1 x.2.2.2.2.2.2.2.2.1 x.2.2.2.2.2.2.2.2.2) hm bAx
def aUt (gR:Y102):Env cxT:={ Kc:=cN [(102,aHv gR)],Kw:=cO [],lv:=λi=>[],xv:=λi=>none }
def G73 {B:Type}(u:M9->B)(gR:Y102)(a0_0:Int)(a0_1:Int)(a0_2:Int)(a0_3:Int)(a0_4:Int)(a0_5:Int)(a0_6:Int)(a0_7:Bool)(a0_8:(List E9)):Option B:=
 cM (gR a0_8) [] λ(q1:(List E9))=>some (u (a0_0,a0_1,a0_2,a0_3,a0_4,a0_5,a0_6,a0_7,q1))
def g73 (gR:Y102)(L:Nat)(a0_0:Int)(a0_1:Int)(a0_2:Int)(a0_3:Int)(a0_4:Int)(a0_5:Int)(a0_6:Int)(a0_7:Bool)(a0_8:(List E9)):Option M9:=G73 (λx=>x) gR a0_0 a0_1 a0_2 a0_3 a0_4 a0_5 a0_6 a0_7 a0_8
theorem e73 (gR:Y102)(L:Nat)(a0_0:Int)(a0_1:Int)(a0_2:Int)(a0_3:Int)(a0_4:Int)(a0_5:Int)(a0_6:Int)(a0_7:Bool)(a0_8:(List E9)):eV prog (aUt gR) (bI L) f73 (a73.enc (a0_0,a0_1,a0_2,a0_3,a0_4,a0_5,a0_6,a0_7,a0_8))=(g73 gR L a0_0 a0_1 a0_2 a0_3 a0_4 a0_5 a0_6 a0_7 a0_8).map n73:=by
 refine .trans (b:=G73 n73 gR a0_0 a0_1 a0_2 a0_3 a0_4 a0_5 a0_6 a0_7 a0_8) (by kernel_rfl) ?_;unfold g73 G73
 repeat' first | with_reducible refine dG ?_ ?_ | with_reducible refine dE λ_=>?_ | with_reducible refine dF λ_=>?_ | exact rfl
def w73 (gR:Y102)(L:Nat)(x:M9):Option M9:=g73 gR L x.1 x.2.1 x.2.2.1 x.2.2.2.1 x.2.2.2.2.1 x.2.2.2.2.2.1 x.2.2.2.2.2.2.1 x.2.2.2.2.2.2.2.1 x.2.2.2.2.2.2.2.2
theorem s73 (gR:Y102)(h102:Sat prog cxT 102 (aHv gR))(m:Y73)(hm:∀ (x:M9) t,m x=some t->∃ L,w73 gR L x=some t):Sat prog cxT 73 (c73 m):=
 bS bB aW (by rfl) (fn:=f73) rfl a73 n73 aVy m (aUt gR) (aI h102 aV) aP (w73 gR) (λL x=>e73 gR L x.1 x.2.1 x.2.2.1 x.2.2.2.1 x.2.2.2.2.1 x.2.2.2.2.2.1 x.2.2.2.2.2.2.1 x.2.2.2.2.2.2.2.1 x.2.2.2.2.2.2.2.2) hm bAw
def aUs:Env cxT:={ Kc:=cN [],Kw:=cO [],lv:=λi=>[],xv:=λi=>none }
def G74 {B:Type}(u:(Int×Int)->B)(a0_0:Int)(a0_1:Int):Option B:=
 some (u (a0_0,a0_1))
def g74 (L:Nat)(a0_0:Int)(a0_1:Int):Option (Int×Int):=G74 (λx=>x) a0_0 a0_1
theorem e74 (L:Nat)(a0_0:Int)(a0_1:Int):eV prog aUs (bI L) f74 (a74.enc (a0_0,a0_1))=(g74 L a0_0 a0_1).map n74:=by
 refine .trans (b:=G74 n74 a0_0 a0_1) (by kernel_rfl) ?_;unfold g74 G74
 repeat' first | with_reducible refine dG ?_ ?_ | with_reducible refine dE λ_=>?_ | with_reducible refine dF λ_=>?_ | exact rfl
def w74 (L:Nat)(x:(Int×Int)):Option (Int×Int):=g74 L x.1 x.2
theorem s74 (m:Y74)(hm:∀ (x:(Int×Int)) t,m x=some t->∃ L,w74 L x=some t):Sat prog cxT 74 (c74 m):=
 bS bB aW (by rfl) (fn:=f74) rfl a74 n74 aVx m aUs aV aP (w74) (λL x=>e74 L x.1 x.2) hm bAv
def aUr (m104:Y104):Env cxT:={ Kc:=cN [(104,aHu m104)],Kw:=cO [],lv:=λi=>[],xv:=λi=>none }
def G75 {B:Type}(u:S10->B)(m104:Y104)(a0_0:Int)(a0_1:Int)(a0_2:Int)(a0_3:Int)(a0_4:Int)(a0_5:Int)(a0_6:Int)(a0_7:Int)(a0_8:Int)(a0_9:Int):Option B:=
 cM (m104 (a0_1,(a0_2,(a0_3,(a0_4,(a0_5,(a0_6,(a0_7,(a0_8,a0_9))))))))) ((0:Int),(0:Int),(0:Int),(0:Int),(0:Int),(0:Int),(0:Int),(0:Int),(0:Int)) λ(q1:E9)=>some (u (a0_0,q1.1,q1.2.1,q1.2.2.1,q1.2.2.2.1,q1.2.2.2.2.1,q1.2.2.2.2.2.1,q1.2.2.2.2.2.2.1,q1.2.2.2.2.2.2.2.1,q1.2.2.2.2.2.2.2.2))
def g75 (m104:Y104)(L:Nat)(a0_0:Int)(a0_1:Int)(a0_2:Int)(a0_3:Int)(a0_4:Int)(a0_5:Int)(a0_6:Int)(a0_7:Int)(a0_8:Int)(a0_9:Int):Option S10:=G75 (λx=>x) m104 a0_0 a0_1 a0_2 a0_3 a0_4 a0_5 a0_6 a0_7 a0_8 a0_9
theorem e75 (m104:Y104)(L:Nat)(a0_0:Int)(a0_1:Int)(a0_2:Int)(a0_3:Int)(a0_4:Int)(a0_5:Int)(a0_6:Int)(a0_7:Int)(a0_8:Int)(a0_9:Int):eV prog (aUr m104) (bI L) f75 (a75.enc (a0_0,a0_1,a0_2,a0_3,a0_4,a0_5,a0_6,a0_7,a0_8,a0_9))=(g75 m104 L a0_0 a0_1 a0_2 a0_3 a0_4 a0_5 a0_6 a0_7 a0_8 a0_9).map n75:=by
 refine .trans (b:=G75 n75 m104 a0_0 a0_1 a0_2 a0_3 a0_4 a0_5 a0_6 a0_7 a0_8 a0_9) (by kernel_rfl) ?_;unfold g75 G75
 repeat' first | with_reducible refine dG ?_ ?_ | with_reducible refine dE λ_=>?_ | with_reducible refine dF λ_=>?_ | exact rfl
def w75 (m104:Y104)(L:Nat)(x:S10):Option S10:=g75 m104 L x.1 x.2.1 x.2.2.1 x.2.2.2.1 x.2.2.2.2.1 x.2.2.2.2.2.1 x.2.2.2.2.2.2.1 x.2.2.2.2.2.2.2.1 x.2.2.2.2.2.2.2.2.1 x.2.2.2.2.2.2.2.2.2
theorem s75 (m104:Y104)(h104:Sat prog cxT 104 (aHu m104))(m:Y75)(hm:∀ (x:S10) t,m x=some t->∃ L,w75 m104 L x=some t):Sat prog cxT 75 (c75 m):=
 bS bB aW (by rfl) (fn:=f75) rfl a75 n75 aVw m (aUr m104) (aI h104 aV) aP (w75 m104) (λL x=>e75 m104 L x.1 x.2.1 x.2.2.1 x.2.2.2.1 x.2.2.2.2.1 x.2.2.2.2.2.1 x.2.2.2.2.2.2.1 x.2.2.2.2.2.2.2.1 x.2.2.2.2.2.2.2.2.1 x.2.2.2.2.2.2.2.2.2) hm bAu
def aBF (mQ:Y72):Env cxT:={ Kc:=cN [(72,c72 mQ)],Kw:=cO [],lv:=λi=>if i=0 then[(0,[some 88]),(3,[some 73]),(4,[])]else[],xv:=λi=>if i=0 then some [(3,[some 73])]else none }
def S38_0 (a0:(List N10))(v0_3:(List N10))(v0_4:Int):St cxT.ty:={ slots:=[(.inl (.inl (ls { own:=0,nm:=0,e:=88,o:=false,xs:=a0 }))),aH,aH,(.inl (.inl (ls { own:=1,nm:=192,e:=73,o:=true,xs:=v0_3 }))),(.inl (.inl (lv (.int .i64 v0_4))))]++List.replicate 18 aH,D:=[],F:=[],ctr:=1 }
def X38_0 (a0:(List N10))(w0_3:(List N10)):St cxT.ty:={ slots:=[aH,aH,aH,(.inl (.inl (ls { own:=1,nm:=192,e:=73,o:=true,xs:=w0_3 })))]++List.replicate 19 aH,D:=[],F:=[],ctr:=1 }
def G38 {B:Type}(u:(List N10)->B)(hh0:(List N10)->Int->Option B)(mQ:Y72)(a0:(List N10)):Option B:=
 bif (((decide ((0:Int)<=(Nat.cast (List.length a0):Int)))&&(decide ((Nat.cast (List.length a0):Int)<=(Nat.cast (List.length a0):Int))))&&(decide ((Nat.cast (List.length a0):Int)<=(1000000000:Int))))then hh0 (List.replicate (Int.toNat (Nat.cast (List.length a0):Int)) ((0:Int),((0:Int),((0:Int),((0:Int),(([]:List E9),((0:Int),((0:Int),(([]:List (Int)),(([]:List (Int)),([]:List (Int)))))))))))) (0:Int)
 else none
def B38_0 {B:Type}(u:(List N10)->B)(gg:(List N10)->Int->Option B)(kk:(List N10)->Option B)(mQ:Y72)(a0:(List N10))(v0_3:(List N10))(v0_4:Int):Option B:=
 bif (decide (v0_4 < (Nat.cast (List.length a0):Int)))then eF (List.getD a0 v0_4.toNat ((0:Int),((0:Int),((0:Int),((0:Int),(([]:List E9),((0:Int),((0:Int),(([]:List (Int)),(([]:List (Int)),([]:List (Int)))))))))))) λs1_0=>bif ((decide ((0:Int)<=v0_4))&&(decide (v0_4 < (Nat.cast (List.length a0):Int))))then cM (mQ (s1_0.1,(s1_0.2.1,(s1_0.2.2.1,(s1_0.2.2.2.1,(s1_0.2.2.2.2.1,(s1_0.2.2.2.2.2.1,(s1_0.2.2.2.2.2.2.1,(s1_0.2.2.2.2.2.2.2.1,(s1_0.2.2.2.2.2.2.2.2.1,s1_0.2.2.2.2.2.2.2.2.2)))))))))) ((0:Int),(0:Int),(0:Int),(0:Int),[],(0:Int),(0:Int),[],[],[]) λ(q3:N10)=>bif ((decide ((0:Int)<=v0_4))&&(decide (v0_4 < (Nat.cast (List.length v0_3):Int))))then gg (List.set v0_3 v0_4.toNat (q3.1,(q3.2.1,(q3.2.2.1,(q3.2.2.2.1,(q3.2.2.2.2.1,(q3.2.2.2.2.2.1,(q3.2.2.2.2.2.2.1,(q3.2.2.2.2.2.2.2.1,(q3.2.2.2.2.2.2.2.2.1,q3.2.2.2.2.2.2.2.2.2)))))))))) (wrap .i64 (v0_4+(1:Int)))
    else none
  else none
 else kk v0_3
def A38_0 {B:Type}(u:(List N10)->B)(mQ:Y72)(a0:(List N10))(w0_3:(List N10)):Option B:=
 some (u w0_3)
def aAq (mQ:Y72)(L:Nat)(a0:(List N10)):Nat->(List N10)->Int->((List N10)->Option (List N10))->Option (List N10)
 | 0,_,_,_=>none
 | n+1,v0_3,v0_4,k=>B38_0 (λx=>x) (λv0_3 v0_4=>aAq mQ L a0 n v0_3 v0_4 k) k mQ a0 v0_3 v0_4
theorem aL7 (mQ:Y72)(L:Nat)(a0:(List N10))(k:St cxT.ty->Option (V cxT.ty))(xk:Nat->St cxT.ty->Option (V cxT.ty))(k':(List N10)->Option (List N10))(hk:∀ (w0_3:(List N10)),k (X38_0 a0 w0_3)=(k' w0_3).map n38):∀ (n:Nat) (v0_3:(List N10)) (v0_4:Int),aS prog (aBF mQ) L f38 0 [1,1,0,1,0,0] (bE (aM prog f38) k xk) n (S38_0 a0 v0_3 v0_4)=(aAq mQ L a0 n v0_3 v0_4 k').map n38
 | 0,_,_=>rfl
 | n+1,v0_3,v0_4=>by
  rw[bF];have ih:=aL7 mQ L a0 k xk k' hk n;refine .trans (b:=B38_0 n38 (λv0_3 v0_4=>(aS prog (aBF mQ) L f38 0 [1,1,0,1,0,0] (bE (aM prog f38) k xk) n) (S38_0 a0 v0_3 v0_4)) (λw0_3=>k (X38_0 a0 w0_3)) mQ a0 v0_3 v0_4) (by kernel_rfl) ?_;unfold aAq B38_0
  repeat' first | with_reducible refine dG ?_ ?_ | with_reducible refine dE λ_=>?_ | with_reducible refine dF λ_=>?_ | with_reducible exact ih _ _ | with_reducible exact hk _ | exact rfl
def g38 (mQ:Y72)(L:Nat)(a0:(List N10)):Option (List N10):=G38 (λx=>x) (λv0_3 v0_4=>aAq mQ L a0 L v0_3 v0_4 (λw0_3=>A38_0 (λx=>x) mQ a0 w0_3)) mQ a0
theorem e38 (mQ:Y72)(L:Nat)(a0:(List N10)):eV prog (aBF mQ) (bI L) f38 (a38.enc a0)=(g38 mQ L a0).map n38:=by
 have hin0:∀ (v0_3:(List N10)) (v0_4:Int),aS prog (aBF mQ) L f38 0 [1,1,0,1,0,0] (bE (aM prog f38) (bU prog (aBF mQ) L f38 [1,1,0,1] (aM prog f38)).n (bU prog (aBF mQ) L f38 [1,1,0,1] (aM prog f38)).x) L (S38_0 a0 v0_3 v0_4)=((λv0_3 v0_4=>aAq mQ L a0 L v0_3 v0_4 (λw0_3=>A38_0 (λx=>x) mQ a0 w0_3)) v0_3 v0_4).map n38:=λv0_3 v0_4=>aL7 mQ L a0 _ _ _ (λw0_3=>by refine .trans (b:=A38_0 n38 mQ a0 w0_3) (by kernel_rfl) ?_;unfold A38_0;repeat' first | with_reducible refine dG ?_ ?_ | with_reducible refine dE λ_=>?_ | with_reducible refine dF λ_=>?_ | exact rfl) L v0_3 v0_4
 refine .trans (b:=G38 n38 (λv0_3 v0_4=>aS prog (aBF mQ) L f38 0 [1,1,0,1,0,0] (bE (aM prog f38) (bU prog (aBF mQ) L f38 [1,1,0,1] (aM prog f38)).n (bU prog (aBF mQ) L f38 [1,1,0,1] (aM prog f38)).x) L (S38_0 a0 v0_3 v0_4)) mQ a0) (by kernel_rfl) ?_;unfold g38 G38
 repeat' first | with_reducible refine dG ?_ ?_ | with_reducible refine dE λ_=>?_ | with_reducible refine dF λ_=>?_ | with_reducible exact hin0 _ _ | exact rfl
def w38 (mQ:Y72)(L:Nat)(x:(List N10)):Option (List N10):=g38 mQ L x
theorem s38 (mQ:Y72)(h72:Sat prog cxT 72 (c72 mQ))(m:Y38)(hm:∀ (x:(List N10)) t,m x=some t->∃ L,w38 mQ L x=some t):Sat prog cxT 38 (c38 m):=
 bS bB aW (by rfl) (fn:=f38) rfl a38 n38 aV0 m (aBF mQ) (aI h72 aV) aP (w38 mQ) (λL x=>e38 mQ L x) hm bAY
def aBE (mP:Y73):Env cxT:={ Kc:=cN [(73,c73 mP)],Kw:=cO [],lv:=λi=>if i=0 then[(0,[some 91]),(3,[some 96]),(4,[])]else[],xv:=λi=>if i=0 then some [(3,[some 96])]else none }
def S39_0 (a0:(List M9))(v0_3:(List M9))(v0_4:Int):St cxT.ty:={ slots:=[(.inl (.inl (ls { own:=0,nm:=0,e:=91,o:=false,xs:=a0 }))),aH,aH,(.inl (.inl (ls { own:=1,nm:=192,e:=96,o:=true,xs:=v0_3 }))),(.inl (.inl (lv (.int .i64 v0_4))))]++List.replicate 18 aH,D:=[],F:=[],ctr:=1 }
def X39_0 (a0:(List M9))(w0_3:(List M9)):St cxT.ty:={ slots:=[aH,aH,aH,(.inl (.inl (ls { own:=1,nm:=192,e:=96,o:=true,xs:=w0_3 })))]++List.replicate 19 aH,D:=[],F:=[],ctr:=1 }
def G39 {B:Type}(u:(List M9)->B)(hh0:(List M9)->Int->Option B)(mP:Y73)(a0:(List M9)):Option B:=
 bif (((decide ((0:Int)<=(Nat.cast (List.length a0):Int)))&&(decide ((Nat.cast (List.length a0):Int)<=(Nat.cast (List.length a0):Int))))&&(decide ((Nat.cast (List.length a0):Int)<=(1000000000:Int))))then hh0 (List.replicate (Int.toNat (Nat.cast (List.length a0):Int)) ((0:Int),((0:Int),((0:Int),((0:Int),((0:Int),((0:Int),((0:Int),(false,[]))))))))) (0:Int)
 else none
def B39_0 {B:Type}(u:(List M9)->B)(gg:(List M9)->Int->Option B)(kk:(List M9)->Option B)(mP:Y73)(a0:(List M9))(v0_3:(List M9))(v0_4:Int):Option B:=
 bif (decide (v0_4 < (Nat.cast (List.length a0):Int)))then eF (List.getD a0 v0_4.toNat ((0:Int),((0:Int),((0:Int),((0:Int),((0:Int),((0:Int),((0:Int),(false,[]))))))))) λs1_0=>bif ((decide ((0:Int)<=v0_4))&&(decide (v0_4 < (Nat.cast (List.length a0):Int))))then cM (mP (s1_0.1,(s1_0.2.1,(s1_0.2.2.1,(s1_0.2.2.2.1,(s1_0.2.2.2.2.1,(s1_0.2.2.2.2.2.1,(s1_0.2.2.2.2.2.2.1,(s1_0.2.2.2.2.2.2.2.1,s1_0.2.2.2.2.2.2.2.2))))))))) ((0:Int),(0:Int),(0:Int),(0:Int),(0:Int),(0:Int),(0:Int),false,[]) λ(q3:M9)=>bif ((decide ((0:Int)<=v0_4))&&(decide (v0_4 < (Nat.cast (List.length v0_3):Int))))then gg (List.set v0_3 v0_4.toNat (q3.1,(q3.2.1,(q3.2.2.1,(q3.2.2.2.1,(q3.2.2.2.2.1,(q3.2.2.2.2.2.1,(q3.2.2.2.2.2.2.1,(q3.2.2.2.2.2.2.2.1,q3.2.2.2.2.2.2.2.2))))))))) (wrap .i64 (v0_4+(1:Int)))
    else none
  else none
 else kk v0_3
def A39_0 {B:Type}(u:(List M9)->B)(mP:Y73)(a0:(List M9))(w0_3:(List M9)):Option B:=
 some (u w0_3)
def aAp (mP:Y73)(L:Nat)(a0:(List M9)):Nat->(List M9)->Int->((List M9)->Option (List M9))->Option (List M9)
 | 0,_,_,_=>none
 | n+1,v0_3,v0_4,k=>B39_0 (λx=>x) (λv0_3 v0_4=>aAp mP L a0 n v0_3 v0_4 k) k mP a0 v0_3 v0_4
theorem aL6 (mP:Y73)(L:Nat)(a0:(List M9))(k:St cxT.ty->Option (V cxT.ty))(xk:Nat->St cxT.ty->Option (V cxT.ty))(k':(List M9)->Option (List M9))(hk:∀ (w0_3:(List M9)),k (X39_0 a0 w0_3)=(k' w0_3).map n39):∀ (n:Nat) (v0_3:(List M9)) (v0_4:Int),aS prog (aBE mP) L f39 0 [1,1,0,1,0,0] (bE (aM prog f39) k xk) n (S39_0 a0 v0_3 v0_4)=(aAp mP L a0 n v0_3 v0_4 k').map n39
 | 0,_,_=>rfl
 | n+1,v0_3,v0_4=>by
  rw[bF];have ih:=aL6 mP L a0 k xk k' hk n;refine .trans (b:=B39_0 n39 (λv0_3 v0_4=>(aS prog (aBE mP) L f39 0 [1,1,0,1,0,0] (bE (aM prog f39) k xk) n) (S39_0 a0 v0_3 v0_4)) (λw0_3=>k (X39_0 a0 w0_3)) mP a0 v0_3 v0_4) (by kernel_rfl) ?_;unfold aAp B39_0
  repeat' first | with_reducible refine dG ?_ ?_ | with_reducible refine dE λ_=>?_ | with_reducible refine dF λ_=>?_ | with_reducible exact ih _ _ | with_reducible exact hk _ | exact rfl
def g39 (mP:Y73)(L:Nat)(a0:(List M9)):Option (List M9):=G39 (λx=>x) (λv0_3 v0_4=>aAp mP L a0 L v0_3 v0_4 (λw0_3=>A39_0 (λx=>x) mP a0 w0_3)) mP a0
theorem e39 (mP:Y73)(L:Nat)(a0:(List M9)):eV prog (aBE mP) (bI L) f39 (a39.enc a0)=(g39 mP L a0).map n39:=by
 have hin0:∀ (v0_3:(List M9)) (v0_4:Int),aS prog (aBE mP) L f39 0 [1,1,0,1,0,0] (bE (aM prog f39) (bU prog (aBE mP) L f39 [1,1,0,1] (aM prog f39)).n (bU prog (aBE mP) L f39 [1,1,0,1] (aM prog f39)).x) L (S39_0 a0 v0_3 v0_4)=((λv0_3 v0_4=>aAp mP L a0 L v0_3 v0_4 (λw0_3=>A39_0 (λx=>x) mP a0 w0_3)) v0_3 v0_4).map n39:=λv0_3 v0_4=>aL6 mP L a0 _ _ _ (λw0_3=>by refine .trans (b:=A39_0 n39 mP a0 w0_3) (by kernel_rfl) ?_;unfold A39_0;repeat' first | with_reducible refine dG ?_ ?_ | with_reducible refine dE λ_=>?_ | with_reducible refine dF λ_=>?_ | exact rfl) L v0_3 v0_4
 refine .trans (b:=G39 n39 (λv0_3 v0_4=>aS prog (aBE mP) L f39 0 [1,1,0,1,0,0] (bE (aM prog f39) (bU prog (aBE mP) L f39 [1,1,0,1] (aM prog f39)).n (bU prog (aBE mP) L f39 [1,1,0,1] (aM prog f39)).x) L (S39_0 a0 v0_3 v0_4)) mP a0) (by kernel_rfl) ?_;unfold g39 G39
 repeat' first | with_reducible refine dG ?_ ?_ | with_reducible refine dE λ_=>?_ | with_reducible refine dF λ_=>?_ | with_reducible exact hin0 _ _ | exact rfl
def w39 (mP:Y73)(L:Nat)(x:(List M9)):Option (List M9):=g39 mP L x
theorem s39 (mP:Y73)(h73:Sat prog cxT 73 (c73 mP))(m:Y39)(hm:∀ (x:(List M9)) t,m x=some t->∃ L,w39 mP L x=some t):Sat prog cxT 39 (c39 m):=
 bS bB aW (by rfl) (fn:=f39) rfl a39 n39 aVZ m (aBE mP) (aI h73 aV) aP (w39 mP) (λL x=>e39 mP L x) hm bAX
def aBD (nK:Y74):Env cxT:={ Kc:=cN [(74,c74 nK)],Kw:=cO [],lv:=λi=>if i=0 then[(0,[some 109]),(3,[some 64]),(4,[])]else[],xv:=λi=>if i=0 then some [(3,[some 64])]else none }
def S40_0 (a0:(List W2))(v0_3:(List W2))(v0_4:Int):St cxT.ty:={ slots:=[(.inl (.inl (ls { own:=0,nm:=0,e:=109,o:=false,xs:=a0 }))),aH,aH,(.inl (.inl (ls { own:=1,nm:=192,e:=64,o:=true,xs:=v0_3 }))),(.inl (.inl (lv (.int .i64 v0_4))))]++List.replicate 18 aH,D:=[],F:=[],ctr:=1 }
def X40_0 (a0:(List W2))(w0_3:(List W2)):St cxT.ty:={ slots:=[aH,aH,aH,(.inl (.inl (ls { own:=1,nm:=192,e:=64,o:=true,xs:=w0_3 })))]++List.replicate 19 aH,D:=[],F:=[],ctr:=1 }
def G40 {B:Type}(u:(List W2)->B)(hh0:(List W2)->Int->Option B)(nK:Y74)(a0:(List W2)):Option B:=
 bif (((decide ((0:Int)<=(Nat.cast (List.length a0):Int)))&&(decide ((Nat.cast (List.length a0):Int)<=(Nat.cast (List.length a0):Int))))&&(decide ((Nat.cast (List.length a0):Int)<=(1000000000:Int))))then hh0 (List.replicate (Int.toNat (Nat.cast (List.length a0):Int)) ((0:Int),(0:Int))) (0:Int)
 else none
def B40_0 {B:Type}(u:(List W2)->B)(gg:(List W2)->Int->Option B)(kk:(List W2)->Option B)(nK:Y74)(a0:(List W2))(v0_3:(List W2))(v0_4:Int):Option B:=
 bif (decide (v0_4 < (Nat.cast (List.length a0):Int)))then eF (List.getD a0 v0_4.toNat ((0:Int),(0:Int))) λs1_0=>bif ((decide ((0:Int)<=v0_4))&&(decide (v0_4 < (Nat.cast (List.length a0):Int))))then cM (nK (s1_0.1,s1_0.2)) ((0:Int),(0:Int)) λ(q3:(Int×Int))=>bif ((decide ((0:Int)<=v0_4))&&(decide (v0_4 < (Nat.cast (List.length v0_3):Int))))then gg (List.set v0_3 v0_4.toNat (q3.1,q3.2)) (wrap .i64 (v0_4+(1:Int)))
    else none
  else none
 else kk v0_3
def A40_0 {B:Type}(u:(List W2)->B)(nK:Y74)(a0:(List W2))(w0_3:(List W2)):Option B:=
 some (u w0_3)
def aAo (nK:Y74)(L:Nat)(a0:(List W2)):Nat->(List W2)->Int->((List W2)->Option (List W2))->Option (List W2)
 | 0,_,_,_=>none
 | n+1,v0_3,v0_4,k=>B40_0 (λx=>x) (λv0_3 v0_4=>aAo nK L a0 n v0_3 v0_4 k) k nK a0 v0_3 v0_4
theorem aL5 (nK:Y74)(L:Nat)(a0:(List W2))(k:St cxT.ty->Option (V cxT.ty))(xk:Nat->St cxT.ty->Option (V cxT.ty))(k':(List W2)->Option (List W2))(hk:∀ (w0_3:(List W2)),k (X40_0 a0 w0_3)=(k' w0_3).map n40):∀ (n:Nat) (v0_3:(List W2)) (v0_4:Int),aS prog (aBD nK) L f40 0 [1,1,0,1,0,0] (bE (aM prog f40) k xk) n (S40_0 a0 v0_3 v0_4)=(aAo nK L a0 n v0_3 v0_4 k').map n40
 | 0,_,_=>rfl
 | n+1,v0_3,v0_4=>by
  rw[bF];have ih:=aL5 nK L a0 k xk k' hk n;refine .trans (b:=B40_0 n40 (λv0_3 v0_4=>(aS prog (aBD nK) L f40 0 [1,1,0,1,0,0] (bE (aM prog f40) k xk) n) (S40_0 a0 v0_3 v0_4)) (λw0_3=>k (X40_0 a0 w0_3)) nK a0 v0_3 v0_4) (by kernel_rfl) ?_;unfold aAo B40_0
  repeat' first | with_reducible refine dG ?_ ?_ | with_reducible refine dE λ_=>?_ | with_reducible refine dF λ_=>?_ | with_reducible exact ih _ _ | with_reducible exact hk _ | exact rfl
def g40 (nK:Y74)(L:Nat)(a0:(List W2)):Option (List W2):=G40 (λx=>x) (λv0_3 v0_4=>aAo nK L a0 L v0_3 v0_4 (λw0_3=>A40_0 (λx=>x) nK a0 w0_3)) nK a0
theorem e40 (nK:Y74)(L:Nat)(a0:(List W2)):eV prog (aBD nK) (bI L) f40 (a40.enc a0)=(g40 nK L a0).map n40:=by
 have hin0:∀ (v0_3:(List W2)) (v0_4:Int),aS prog (aBD nK) L f40 0 [1,1,0,1,0,0] (bE (aM prog f40) (bU prog (aBD nK) L f40 [1,1,0,1] (aM prog f40)).n (bU prog (aBD nK) L f40 [1,1,0,1] (aM prog f40)).x) L (S40_0 a0 v0_3 v0_4)=((λv0_3 v0_4=>aAo nK L a0 L v0_3 v0_4 (λw0_3=>A40_0 (λx=>x) nK a0 w0_3)) v0_3 v0_4).map n40:=λv0_3 v0_4=>aL5 nK L a0 _ _ _ (λw0_3=>by refine .trans (b:=A40_0 n40 nK a0 w0_3) (by kernel_rfl) ?_;unfold A40_0;repeat' first | with_reducible refine dG ?_ ?_ | with_reducible refine dE λ_=>?_ | with_reducible refine dF λ_=>?_ | exact rfl) L v0_3 v0_4
 refine .trans (b:=G40 n40 (λv0_3 v0_4=>aS prog (aBD nK) L f40 0 [1,1,0,1,0,0] (bE (aM prog f40) (bU prog (aBD nK) L f40 [1,1,0,1] (aM prog f40)).n (bU prog (aBD nK) L f40 [1,1,0,1] (aM prog f40)).x) L (S40_0 a0 v0_3 v0_4)) nK a0) (by kernel_rfl) ?_;unfold g40 G40
 repeat' first | with_reducible refine dG ?_ ?_ | with_reducible refine dE λ_=>?_ | with_reducible refine dF λ_=>?_ | with_reducible exact hin0 _ _ | exact rfl
def w40 (nK:Y74)(L:Nat)(x:(List W2)):Option (List W2):=g40 nK L x
theorem s40 (nK:Y74)(h74:Sat prog cxT 74 (c74 nK))(m:Y40)(hm:∀ (x:(List W2)) t,m x=some t->∃ L,w40 nK L x=some t):Sat prog cxT 40 (c40 m):=
 bS bB aW (by rfl) (fn:=f40) rfl a40 n40 aVY m (aBD nK) (aI h74 aV) aP (w40 nK) (λL x=>e40 nK L x) hm bAW
def aBC (nJ:Y75):Env cxT:={ Kc:=cN [(75,c75 nJ)],Kw:=cO [],lv:=λi=>if i=0 then[(0,[some 115]),(3,[some 104]),(4,[])]else[],xv:=λi=>if i=0 then some [(3,[some 104])]else none }
def S41_0 (a0:(List S10))(v0_3:(List S10))(v0_4:Int):St cxT.ty:={ slots:=[(.inl (.inl (ls { own:=0,nm:=0,e:=115,o:=false,xs:=a0 }))),aH,aH,(.inl (.inl (ls { own:=1,nm:=192,e:=104,o:=true,xs:=v0_3 }))),(.inl (.inl (lv (.int .i64 v0_4))))]++List.replicate 18 aH,D:=[],F:=[],ctr:=1 }
def X41_0 (a0:(List S10))(w0_3:(List S10)):St cxT.ty:={ slots:=[aH,aH,aH,(.inl (.inl (ls { own:=1,nm:=192,e:=104,o:=true,xs:=w0_3 })))]++List.replicate 19 aH,D:=[],F:=[],ctr:=1 }
def G41 {B:Type}(u:(List S10)->B)(hh0:(List S10)->Int->Option B)(nJ:Y75)(a0:(List S10)):Option B:=
 bif (((decide ((0:Int)<=(Nat.cast (List.length a0):Int)))&&(decide ((Nat.cast (List.length a0):Int)<=(Nat.cast (List.length a0):Int))))&&(decide ((Nat.cast (List.length a0):Int)<=(1000000000:Int))))then hh0 (List.replicate (Int.toNat (Nat.cast (List.length a0):Int)) ((0:Int),((0:Int),((0:Int),((0:Int),((0:Int),((0:Int),((0:Int),((0:Int),((0:Int),(0:Int))))))))))) (0:Int)
 else none
def B41_0 {B:Type}(u:(List S10)->B)(gg:(List S10)->Int->Option B)(kk:(List S10)->Option B)(nJ:Y75)(a0:(List S10))(v0_3:(List S10))(v0_4:Int):Option B:=
 bif (decide (v0_4 < (Nat.cast (List.length a0):Int)))then eF (List.getD a0 v0_4.toNat ((0:Int),((0:Int),((0:Int),((0:Int),((0:Int),((0:Int),((0:Int),((0:Int),((0:Int),(0:Int))))))))))) λs1_0=>bif ((decide ((0:Int)<=v0_4))&&(decide (v0_4 < (Nat.cast (List.length a0):Int))))then cM (nJ (s1_0.1,(s1_0.2.1,(s1_0.2.2.1,(s1_0.2.2.2.1,(s1_0.2.2.2.2.1,(s1_0.2.2.2.2.2.1,(s1_0.2.2.2.2.2.2.1,(s1_0.2.2.2.2.2.2.2.1,(s1_0.2.2.2.2.2.2.2.2.1,s1_0.2.2.2.2.2.2.2.2.2)))))))))) ((0:Int),(0:Int),(0:Int),(0:Int),(0:Int),(0:Int),(0:Int),(0:Int),(0:Int),(0:Int)) λ(q3:S10)=>bif ((decide ((0:Int)<=v0_4))&&(decide (v0_4 < (Nat.cast (List.length v0_3):Int))))then gg (List.set v0_3 v0_4.toNat (q3.1,(q3.2.1,(q3.2.2.1,(q3.2.2.2.1,(q3.2.2.2.2.1,(q3.2.2.2.2.2.1,(q3.2.2.2.2.2.2.1,(q3.2.2.2.2.2.2.2.1,(q3.2.2.2.2.2.2.2.2.1,q3.2.2.2.2.2.2.2.2.2)))))))))) (wrap .i64 (v0_4+(1:Int)))
    else none
  else none
 else kk v0_3
def A41_0 {B:Type}(u:(List S10)->B)(nJ:Y75)(a0:(List S10))(w0_3:(List S10)):Option B:=
 some (u w0_3)
def aAn (nJ:Y75)(L:Nat)(a0:(List S10)):Nat->(List S10)->Int->((List S10)->Option (List S10))->Option (List S10)
 | 0,_,_,_=>none
 | n+1,v0_3,v0_4,k=>B41_0 (λx=>x) (λv0_3 v0_4=>aAn nJ L a0 n v0_3 v0_4 k) k nJ a0 v0_3 v0_4
theorem aL4 (nJ:Y75)(L:Nat)(a0:(List S10))(k:St cxT.ty->Option (V cxT.ty))(xk:Nat->St cxT.ty->Option (V cxT.ty))(k':(List S10)->Option (List S10))(hk:∀ (w0_3:(List S10)),k (X41_0 a0 w0_3)=(k' w0_3).map n41):∀ (n:Nat) (v0_3:(List S10)) (v0_4:Int),aS prog (aBC nJ) L f41 0 [1,1,0,1,0,0] (bE (aM prog f41) k xk) n (S41_0 a0 v0_3 v0_4)=(aAn nJ L a0 n v0_3 v0_4 k').map n41
 | 0,_,_=>rfl
 | n+1,v0_3,v0_4=>by
  rw[bF];have ih:=aL4 nJ L a0 k xk k' hk n;refine .trans (b:=B41_0 n41 (λv0_3 v0_4=>(aS prog (aBC nJ) L f41 0 [1,1,0,1,0,0] (bE (aM prog f41) k xk) n) (S41_0 a0 v0_3 v0_4)) (λw0_3=>k (X41_0 a0 w0_3)) nJ a0 v0_3 v0_4) (by kernel_rfl) ?_;unfold aAn B41_0
  repeat' first | with_reducible refine dG ?_ ?_ | with_reducible refine dE λ_=>?_ | with_reducible refine dF λ_=>?_ | with_reducible exact ih _ _ | with_reducible exact hk _ | exact rfl
def g41 (nJ:Y75)(L:Nat)(a0:(List S10)):Option (List S10):=G41 (λx=>x) (λv0_3 v0_4=>aAn nJ L a0 L v0_3 v0_4 (λw0_3=>A41_0 (λx=>x) nJ a0 w0_3)) nJ a0
theorem e41 (nJ:Y75)(L:Nat)(a0:(List S10)):eV prog (aBC nJ) (bI L) f41 (a41.enc a0)=(g41 nJ L a0).map n41:=by
 have hin0:∀ (v0_3:(List S10)) (v0_4:Int),aS prog (aBC nJ) L f41 0 [1,1,0,1,0,0] (bE (aM prog f41) (bU prog (aBC nJ) L f41 [1,1,0,1] (aM prog f41)).n (bU prog (aBC nJ) L f41 [1,1,0,1] (aM prog f41)).x) L (S41_0 a0 v0_3 v0_4)=((λv0_3 v0_4=>aAn nJ L a0 L v0_3 v0_4 (λw0_3=>A41_0 (λx=>x) nJ a0 w0_3)) v0_3 v0_4).map n41:=λv0_3 v0_4=>aL4 nJ L a0 _ _ _ (λw0_3=>by refine .trans (b:=A41_0 n41 nJ a0 w0_3) (by kernel_rfl) ?_;unfold A41_0;repeat' first | with_reducible refine dG ?_ ?_ | with_reducible refine dE λ_=>?_ | with_reducible refine dF λ_=>?_ | exact rfl) L v0_3 v0_4
 refine .trans (b:=G41 n41 (λv0_3 v0_4=>aS prog (aBC nJ) L f41 0 [1,1,0,1,0,0] (bE (aM prog f41) (bU prog (aBC nJ) L f41 [1,1,0,1] (aM prog f41)).n (bU prog (aBC nJ) L f41 [1,1,0,1] (aM prog f41)).x) L (S41_0 a0 v0_3 v0_4)) nJ a0) (by kernel_rfl) ?_;unfold g41 G41
 repeat' first | with_reducible refine dG ?_ ?_ | with_reducible refine dE λ_=>?_ | with_reducible refine dF λ_=>?_ | with_reducible exact hin0 _ _ | exact rfl
def w41 (nJ:Y75)(L:Nat)(x:(List S10)):Option (List S10):=g41 nJ L x
theorem s41 (nJ:Y75)(h75:Sat prog cxT 75 (c75 nJ))(m:Y41)(hm:∀ (x:(List S10)) t,m x=some t->∃ L,w41 nJ L x=some t):Sat prog cxT 41 (c41 m):=
 bS bB aW (by rfl) (fn:=f41) rfl a41 n41 aVX m (aBC nJ) (aI h75 aV) aP (w41 nJ) (λL x=>e41 nJ L x) hm bAV
def aUN (yP:Y38)(yO:Y39)(yN:Y40)(yM:Y41):Env cxT:={ Kc:=cN [(38,c38 yP),(39,c39 yO),(40,c40 yN),(41,c41 yM)],Kw:=cO [],lv:=λi=>[],xv:=λi=>none }
def G12 {B:Type}(u:C4->B)(yP:Y38)(yO:Y39)(yN:Y40)(yM:Y41)(a0_0:(List N10))(a0_1:(List M9))(a0_2:(List W2))(a0_3:(List S10)):Option B:=
 cM (yP a0_0) [] λ(q1:(List N10))=>cM (yO a0_1) [] λ(q2:(List M9))=>cM (yN a0_2) [] λ(q3:(List W2))=>cM (yM a0_3) [] λ(q4:(List S10))=>some (u (q1,q2,q3,q4))
def g12 (yP:Y38)(yO:Y39)(yN:Y40)(yM:Y41)(L:Nat)(a0_0:(List N10))(a0_1:(List M9))(a0_2:(List W2))(a0_3:(List S10)):Option C4:=G12 (λx=>x) yP yO yN yM a0_0 a0_1 a0_2 a0_3
theorem e12 (yP:Y38)(yO:Y39)(yN:Y40)(yM:Y41)(L:Nat)(a0_0:(List N10))(a0_1:(List M9))(a0_2:(List W2))(a0_3:(List S10)):eV prog (aUN yP yO yN yM) (bI L) f12 (a12.enc (a0_0,a0_1,a0_2,a0_3))=(g12 yP yO yN yM L a0_0 a0_1 a0_2 a0_3).map n12:=by
 refine .trans (b:=G12 n12 yP yO yN yM a0_0 a0_1 a0_2 a0_3) (by kernel_rfl) ?_;unfold g12 G12
 repeat' first | with_reducible refine dG ?_ ?_ | with_reducible refine dE λ_=>?_ | with_reducible refine dF λ_=>?_ | exact rfl
def w12 (yP:Y38)(yO:Y39)(yN:Y40)(yM:Y41)(L:Nat)(x:C4):Option C4:=g12 yP yO yN yM L x.1 x.2.1 x.2.2.1 x.2.2.2
theorem s12 (yP:Y38)(yO:Y39)(yN:Y40)(yM:Y41)(h38:Sat prog cxT 38 (c38 yP))(h39:Sat prog cxT 39 (c39 yO))(h40:Sat prog cxT 40 (c40 yN))(h41:Sat prog cxT 41 (c41 yM))(m:Y12)(hm:∀ (x:C4) t,m x=some t->∃ L,w12 yP yO yN yM L x=some t):Sat prog cxT 12 (c12 m):=
 bS bB aW (by rfl) (fn:=f12) rfl a12 n12 aWi m (aUN yP yO yN yM) (aI h38 (aI h39 (aI h40 (aI h41 aV)))) aP (w12 yP yO yN yM) (λL x=>e12 yP yO yN yM L x.1 x.2.1 x.2.2.1 x.2.2.2) hm bBf
end Go.Proofs.Tryz
set_option maxHeartbeats 0
set_option maxRecDepth 100000
namespace Go.Proofs.Tryz
open Go.IntKind (wrap)
open Go Go.VM Go.RowKit
def aMD:Env cxT:={ Kc:=cN [],Kw:=cO [],lv:=λi=>[],xv:=λi=>none }
def G121 {B:Type}(u:(Int×Int×Int×Int×Int×Int)->B)(a0_0:Int)(a0_1:Int)(a0_2:Int)(a0_3:Int)(a0_4:Int)(a0_5:Int):Option B:=
 some (u (a0_0,a0_1,a0_2,a0_3,a0_4,a0_5))
def aPB (L:Nat)(a0_0:Int)(a0_1:Int)(a0_2:Int)(a0_3:Int)(a0_4:Int)(a0_5:Int):Option (Int×Int×Int×Int×Int×Int):=G121 (λx=>x) a0_0 a0_1 a0_2 a0_3 a0_4 a0_5
theorem bCc (L:Nat)(a0_0:Int)(a0_1:Int)(a0_2:Int)(a0_3:Int)(a0_4:Int)(a0_5:Int):eV prog aMD (bI L) f121 (aXk.enc (a0_0,a0_1,a0_2,a0_3,a0_4,a0_5))=(aPB L a0_0 a0_1 a0_2 a0_3 a0_4 a0_5).map aGZ:=by
 refine .trans (b:=G121 aGZ a0_0 a0_1 a0_2 a0_3 a0_4 a0_5) (by kernel_rfl) ?_;unfold aPB G121
 repeat' first | with_reducible refine dG ?_ ?_ | with_reducible refine dE λ_=>?_ | with_reducible refine dF λ_=>?_ | exact rfl
def aRk (L:Nat)(x:(Int×Int×Int×Int×Int×Int)):Option (Int×Int×Int×Int×Int×Int):=aPB L x.1 x.2.1 x.2.2.1 x.2.2.2.1 x.2.2.2.2.1 x.2.2.2.2.2
theorem aZt (m:Y121)(hm:∀ (x:(Int×Int×Int×Int×Int×Int)) t,m x=some t->∃ L,aRk L x=some t):Sat prog cxT 121 (aKT m):=
 bS bB aW (by rfl) (fn:=f121) rfl aXk aGZ aNp m aMD aV aP (aRk) (λL x=>bCc L x.1 x.2.1 x.2.2.1 x.2.2.2.1 x.2.2.2.2.1 x.2.2.2.2.2) hm aS4
end Go.Proofs.Tryz
