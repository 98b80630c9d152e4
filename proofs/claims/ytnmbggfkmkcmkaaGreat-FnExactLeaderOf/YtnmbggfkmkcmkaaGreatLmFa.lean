/- A part of the proof of FnExactLeaderOf: LmFa, LmFb, LmFj. -/
import Derived.Test.YtnmbggfkmkcmkaaGreatLmBase
set_option linter.unusedSimpArgs false
set_option linter.unusedVariables false
set_option maxHeartbeats 0
set_option maxRecDepth 100000
namespace Go.Proofs.Tryz
open Go.IntKind (wrap)
open Go Go.VM Go.RowKit
def aTl:Env cxT:={ Kc:=cR [],Kw:=cQ [],lv:=λi=>[],xv:=λi=>none }
def G94 {B:Type}(u:Int->B)(a0:(List E9))(a1:Int):Option B:=
 bif (decide ((wrap .i64 (a1-(Nat.cast (List.length a0):Int))) < (0:Int)))then some (u (-(1:Int)))
 else some (u (wrap .i64 (a1-(Nat.cast (List.length a0):Int))))
def g94 (L:Nat)(a0:(List E9))(a1:Int):Option Int:=G94 (λx=>x) a0 a1
theorem e94 (L:Nat)(a0:(List E9))(a1:Int):fP prog aTl (bJ L) f94 (a94.enc (a0,a1))=(g94 L a0 a1).map n94:=by
 refine .trans (b:=G94 n94 a0 a1) (by kernel_rfl) ?_;unfold g94 G94
 repeat' first | with_reducible refine dP ?_ ?_ | with_reducible refine dL λ_=>?_ | with_reducible refine dO λ_=>?_ | exact rfl
def w94 (L:Nat)(x:((List E9)×Int)):Option Int:=g94 L x.1 x.2
theorem s94 (m:Y94)(hm:∀ (x:((List E9)×Int)) t,m x=some t->∃ L,w94 L x=some t):Sat prog cxT 94 (c94 m):=
 cF bC aX (by rfl) (fn:=f94) rfl a94 n94 aUg m aTl aW aQ (w94) (λL x=>e94 L x.1 x.2) hm aY8
def aTk:Env cxT:={ Kc:=cR [],Kw:=cQ [],lv:=λi=>[],xv:=λi=>none }
def G95 {B:Type}(u:Int->B)(a0:(List Int))(a1:Int):Option B:=
 bif (decide ((wrap .i64 (a1-(Nat.cast (List.length a0):Int))) < (0:Int)))then some (u (-(1:Int)))
 else some (u (wrap .i64 (a1-(Nat.cast (List.length a0):Int))))
def g95 (L:Nat)(a0:(List Int))(a1:Int):Option Int:=G95 (λx=>x) a0 a1
theorem e95 (L:Nat)(a0:(List Int))(a1:Int):fP prog aTk (bJ L) f95 (a95.enc (a0,a1))=(g95 L a0 a1).map n95:=by
 refine .trans (b:=G95 n95 a0 a1) (by kernel_rfl) ?_;unfold g95 G95
 repeat' first | with_reducible refine dP ?_ ?_ | with_reducible refine dL λ_=>?_ | with_reducible refine dO λ_=>?_ | exact rfl
def w95 (L:Nat)(x:((List Int)×Int)):Option Int:=g95 L x.1 x.2
theorem s95 (m:Y95)(hm:∀ (x:((List Int)×Int)) t,m x=some t->∃ L,w95 L x=some t):Sat prog cxT 95 (c95 m):=
 cF bC aX (by rfl) (fn:=f95) rfl a95 n95 aUf m aTk aW aQ (w95) (λL x=>e95 L x.1 x.2) hm aY7
def aTF (mZ:Y94)(vK:Y95):Env cxT:={ Kc:=cR [(94,c94 mZ),(95,c95 vK)],Kw:=cQ [],lv:=λi=>[],xv:=λi=>none }
def G65 {B:Type}(u:Int->B)(mZ:Y94)(vK:Y95)(a0_0:Int)(a0_1:Int)(a0_2:Int)(a0_3:Int)(a0_4:(List E9))(a0_5:Int)(a0_6:Int)(a0_7:(List Int))(a0_8:(List Int))(a0_9:(List Int))(a1:Int):Option B:=
 cU (mZ (a0_4,a1)) (0:Int) λ(q1:Int)=>bif (decide (q1 < (0:Int)))then some (u (-(1:Int)))
  else cU (vK (a0_7,q1)) (0:Int) λ(q2:Int)=>bif (decide (q2 < (0:Int)))then some (u (-(1:Int)))
   else cU (vK (a0_8,q2)) (0:Int) λ(q3:Int)=>bif (decide (q3 < (0:Int)))then some (u (-(1:Int)))
    else cU (vK (a0_9,q3)) (0:Int) λ(q4:Int)=>bif (decide (q4 < (0:Int)))then some (u (-(1:Int)))
     else some (u q4)
def g65 (mZ:Y94)(vK:Y95)(L:Nat)(a0_0:Int)(a0_1:Int)(a0_2:Int)(a0_3:Int)(a0_4:(List E9))(a0_5:Int)(a0_6:Int)(a0_7:(List Int))(a0_8:(List Int))(a0_9:(List Int))(a1:Int):Option Int:=G65 (λx=>x) mZ vK a0_0 a0_1 a0_2 a0_3 a0_4 a0_5 a0_6 a0_7 a0_8 a0_9 a1
theorem e65 (mZ:Y94)(vK:Y95)(L:Nat)(a0_0:Int)(a0_1:Int)(a0_2:Int)(a0_3:Int)(a0_4:(List E9))(a0_5:Int)(a0_6:Int)(a0_7:(List Int))(a0_8:(List Int))(a0_9:(List Int))(a1:Int):fP prog (aTF mZ vK) (bJ L) f65 (a65.enc ((a0_0,a0_1,a0_2,a0_3,a0_4,a0_5,a0_6,a0_7,a0_8,a0_9),a1))=(g65 mZ vK L a0_0 a0_1 a0_2 a0_3 a0_4 a0_5 a0_6 a0_7 a0_8 a0_9 a1).map n65:=by
 refine .trans (b:=G65 n65 mZ vK a0_0 a0_1 a0_2 a0_3 a0_4 a0_5 a0_6 a0_7 a0_8 a0_9 a1) (by kernel_rfl) ?_;unfold g65 G65
 repeat' first | with_reducible refine dP ?_ ?_ | with_reducible refine dL λ_=>?_ | with_reducible refine dO λ_=>?_ | exact rfl
def w65 (mZ:Y94)(vK:Y95)(L:Nat)(x:(N10×Int)):Option Int:=g65 mZ vK L x.1.1 x.1.2.1 x.1.2.2.1 x.1.2.2.2.1 x.1.2.2.2.2.1 x.1.2.2.2.2.2.1 x.1.2.2.2.2.2.2.1 x.1.2.2.2.2.2.2.2.1 x.1.2.2.2.2.2.2.2.2.1 x.1.2.2.2.2.2.2.2.2.2 x.2
theorem s65 (mZ:Y94)(vK:Y95)(h94:Sat prog cxT 94 (c94 mZ))(h95:Sat prog cxT 95 (c95 vK))(m:Y65)(hm:∀ (x:(N10×Int)) t,m x=some t->∃ L,w65 mZ vK L x=some t):Sat prog cxT 65 (c65 m):=
 cF bC aX (by rfl) (fn:=f65) rfl a65 n65 aUF m (aTF mZ vK) (aL h94 (aL h95 aW)) aQ (w65 mZ vK) (λL x=>e65 mZ vK L x.1.1 x.1.2.1 x.1.2.2.1 x.1.2.2.2.1 x.1.2.2.2.2.1 x.1.2.2.2.2.2.1 x.1.2.2.2.2.2.2.1 x.1.2.2.2.2.2.2.2.1 x.1.2.2.2.2.2.2.2.2.1 x.1.2.2.2.2.2.2.2.2.2 x.2) hm aZx
def aTE (mZ:Y94):Env cxT:={ Kc:=cR [(94,c94 mZ)],Kw:=cQ [],lv:=λi=>[],xv:=λi=>none }
def G66 {B:Type}(u:Int->B)(mZ:Y94)(a0_0:Int)(a0_1:Int)(a0_2:Int)(a0_3:Int)(a0_4:Int)(a0_5:Int)(a0_6:Int)(a0_7:Bool)(a0_8:(List E9))(a1:Int):Option B:=
 cU (mZ (a0_8,a1)) (0:Int) λ(q1:Int)=>bif (decide (q1 < (0:Int)))then some (u (-(1:Int)))
  else some (u q1)
def g66 (mZ:Y94)(L:Nat)(a0_0:Int)(a0_1:Int)(a0_2:Int)(a0_3:Int)(a0_4:Int)(a0_5:Int)(a0_6:Int)(a0_7:Bool)(a0_8:(List E9))(a1:Int):Option Int:=G66 (λx=>x) mZ a0_0 a0_1 a0_2 a0_3 a0_4 a0_5 a0_6 a0_7 a0_8 a1
theorem e66 (mZ:Y94)(L:Nat)(a0_0:Int)(a0_1:Int)(a0_2:Int)(a0_3:Int)(a0_4:Int)(a0_5:Int)(a0_6:Int)(a0_7:Bool)(a0_8:(List E9))(a1:Int):fP prog (aTE mZ) (bJ L) f66 (a66.enc ((a0_0,a0_1,a0_2,a0_3,a0_4,a0_5,a0_6,a0_7,a0_8),a1))=(g66 mZ L a0_0 a0_1 a0_2 a0_3 a0_4 a0_5 a0_6 a0_7 a0_8 a1).map n66:=by
 refine .trans (b:=G66 n66 mZ a0_0 a0_1 a0_2 a0_3 a0_4 a0_5 a0_6 a0_7 a0_8 a1) (by kernel_rfl) ?_;unfold g66 G66
 repeat' first | with_reducible refine dP ?_ ?_ | with_reducible refine dL λ_=>?_ | with_reducible refine dO λ_=>?_ | exact rfl
def w66 (mZ:Y94)(L:Nat)(x:(M9×Int)):Option Int:=g66 mZ L x.1.1 x.1.2.1 x.1.2.2.1 x.1.2.2.2.1 x.1.2.2.2.2.1 x.1.2.2.2.2.2.1 x.1.2.2.2.2.2.2.1 x.1.2.2.2.2.2.2.2.1 x.1.2.2.2.2.2.2.2.2 x.2
theorem s66 (mZ:Y94)(h94:Sat prog cxT 94 (c94 mZ))(m:Y66)(hm:∀ (x:(M9×Int)) t,m x=some t->∃ L,w66 mZ L x=some t):Sat prog cxT 66 (c66 m):=
 cF bC aX (by rfl) (fn:=f66) rfl a66 n66 aUE m (aTE mZ) (aL h94 aW) aQ (w66 mZ) (λL x=>e66 mZ L x.1.1 x.1.2.1 x.1.2.2.1 x.1.2.2.2.1 x.1.2.2.2.2.1 x.1.2.2.2.2.2.1 x.1.2.2.2.2.2.2.1 x.1.2.2.2.2.2.2.2.1 x.1.2.2.2.2.2.2.2.2 x.2) hm aZw
def aBI (mM:Y65):Env cxT:={ Kc:=cR [(65,c65 mM)],Kw:=cQ [],lv:=λi=>if i=0 then[(0,[some 88]),(1,[]),(5,[])]else[],xv:=λi=>if i=0 then some [(1,[])]else none }
def S32_0 (a0:(List N10))(a1:Int)(v0_1:Int)(v0_5:Int):St cxT.ty:={ slots:=[(.inl (.inl (ls { own:=0,nm:=0,e:=88,o:=false,xs:=a0 }))),(.inl (.inl (lv (.int .i64 v0_1)))),aJ,aJ,aJ,(.inl (.inl (lv (.int .i64 v0_5))))]++List.replicate 21 aJ,D:=[],F:=[],ctr:=1 }
def X32_0 (a0:(List N10))(a1:Int)(w0_1:Int):St cxT.ty:={ slots:=[aJ,(.inl (.inl (lv (.int .i64 w0_1))))]++List.replicate 25 aJ,D:=[],F:=[],ctr:=1 }
def G32 {B:Type}(u:Int->B)(hh0:Int->Int->Option B)(mM:Y65)(a0:(List N10))(a1:Int):Option B:=
 bif (decide ((wrap .i64 (a1-(Nat.cast (List.length a0):Int))) < (0:Int)))then some (u (-(1:Int)))
 else hh0 (wrap .i64 (a1-(Nat.cast (List.length a0):Int))) (0:Int)
def B32_0 {B:Type}(u:Int->B)(gg:Int->Int->Option B)(kk:Int->Option B)(mM:Y65)(a0:(List N10))(a1:Int)(v0_1:Int)(v0_5:Int):Option B:=
 bif (decide (v0_5 < (Nat.cast (List.length a0):Int)))then dX (List.getD a0 v0_5.toNat ((0:Int),((0:Int),((0:Int),((0:Int),(([]:List E9),((0:Int),((0:Int),(([]:List (Int)),(([]:List (Int)),([]:List (Int)))))))))))) λs1_0=>bif ((decide ((0:Int)<=v0_5))&&(decide (v0_5 < (Nat.cast (List.length a0):Int))))then cU (mM ((s1_0.1,(s1_0.2.1,(s1_0.2.2.1,(s1_0.2.2.2.1,(s1_0.2.2.2.2.1,(s1_0.2.2.2.2.2.1,(s1_0.2.2.2.2.2.2.1,(s1_0.2.2.2.2.2.2.2.1,(s1_0.2.2.2.2.2.2.2.2.1,s1_0.2.2.2.2.2.2.2.2.2))))))))),v0_1)) (0:Int) λ(q3:Int)=>bif (decide (q3 < (0:Int)))then some (u (-(1:Int)))
    else gg q3 (wrap .i64 (v0_5+(1:Int)))
  else none
 else kk v0_1
def A32_0 {B:Type}(u:Int->B)(mM:Y65)(a0:(List N10))(a1:Int)(w0_1:Int):Option B:=
 some (u w0_1)
def aAp (mM:Y65)(L:Nat)(a0:(List N10))(a1:Int):Nat->Int->Int->(Int->Option Int)->Option Int
 | 0,_,_,_=>none
 | n+1,v0_1,v0_5,k=>B32_0 (λx=>x) (λv0_1 v0_5=>aAp mM L a0 a1 n v0_1 v0_5 k) k mM a0 a1 v0_1 v0_5
theorem aLV (mM:Y65)(L:Nat)(a0:(List N10))(a1:Int)(k:St cxT.ty->Option (V cxT.ty))(xk:Nat->St cxT.ty->Option (V cxT.ty))(k':Int->Option Int)(hk:∀ (w0_1:Int),k (X32_0 a0 a1 w0_1)=(k' w0_1).map n32):∀ (n:Nat) (v0_1:Int) (v0_5:Int),bA prog (aBI mM) L f32 0 [1,1,1,0,1,0,0] (cB (aY prog f32) k xk) n (S32_0 a0 a1 v0_1 v0_5)=(aAp mM L a0 a1 n v0_1 v0_5 k').map n32
 | 0,_,_=>rfl
 | n+1,v0_1,v0_5=>by
  rw[bQ];have ih:=aLV mM L a0 a1 k xk k' hk n;refine .trans (b:=B32_0 n32 (λv0_1 v0_5=>(bA prog (aBI mM) L f32 0 [1,1,1,0,1,0,0] (cB (aY prog f32) k xk) n) (S32_0 a0 a1 v0_1 v0_5)) (λw0_1=>k (X32_0 a0 a1 w0_1)) mM a0 a1 v0_1 v0_5) (by kernel_rfl) ?_;unfold aAp B32_0
  repeat' first | with_reducible refine dP ?_ ?_ | with_reducible refine dL λ_=>?_ | with_reducible refine dO λ_=>?_ | with_reducible exact ih _ _ | with_reducible exact hk _ | exact rfl
def g32 (mM:Y65)(L:Nat)(a0:(List N10))(a1:Int):Option Int:=G32 (λx=>x) (λv0_1 v0_5=>aAp mM L a0 a1 L v0_1 v0_5 (λw0_1=>A32_0 (λx=>x) mM a0 a1 w0_1)) mM a0 a1
theorem e32 (mM:Y65)(L:Nat)(a0:(List N10))(a1:Int):fP prog (aBI mM) (bJ L) f32 (a32.enc (a0,a1))=(g32 mM L a0 a1).map n32:=by
 have hin0:∀ (v0_1:Int) (v0_5:Int),bA prog (aBI mM) L f32 0 [1,1,1,0,1,0,0] (cB (aY prog f32) (cA prog (aBI mM) L f32 [1,1,1,0,1] (aY prog f32)).n (cA prog (aBI mM) L f32 [1,1,1,0,1] (aY prog f32)).x) L (S32_0 a0 a1 v0_1 v0_5)=((λv0_1 v0_5=>aAp mM L a0 a1 L v0_1 v0_5 (λw0_1=>A32_0 (λx=>x) mM a0 a1 w0_1)) v0_1 v0_5).map n32:=λv0_1 v0_5=>aLV mM L a0 a1 _ _ _ (λw0_1=>by refine .trans (b:=A32_0 n32 mM a0 a1 w0_1) (by kernel_rfl) ?_;unfold A32_0;repeat' first | with_reducible refine dP ?_ ?_ | with_reducible refine dL λ_=>?_ | with_reducible refine dO λ_=>?_ | exact rfl) L v0_1 v0_5
 refine .trans (b:=G32 n32 (λv0_1 v0_5=>bA prog (aBI mM) L f32 0 [1,1,1,0,1,0,0] (cB (aY prog f32) (cA prog (aBI mM) L f32 [1,1,1,0,1] (aY prog f32)).n (cA prog (aBI mM) L f32 [1,1,1,0,1] (aY prog f32)).x) L (S32_0 a0 a1 v0_1 v0_5)) mM a0 a1) (by kernel_rfl) ?_;unfold g32 G32
 repeat' first | with_reducible refine dP ?_ ?_ | with_reducible refine dL λ_=>?_ | with_reducible refine dO λ_=>?_ | with_reducible exact hin0 _ _ | exact rfl
def w32 (mM:Y65)(L:Nat)(x:((List N10)×Int)):Option Int:=g32 mM L x.1 x.2
theorem s32 (mM:Y65)(h65:Sat prog cxT 65 (c65 mM))(m:Y32)(hm:∀ (x:((List N10)×Int)) t,m x=some t->∃ L,w32 mM L x=some t):Sat prog cxT 32 (c32 m):=
 cF bC aX (by rfl) (fn:=f32) rfl a32 n32 aU1 m (aBI mM) (aL h65 aW) aQ (w32 mM) (λL x=>e32 mM L x.1 x.2) hm aZU
def aBH (mK:Y66):Env cxT:={ Kc:=cR [(66,c66 mK)],Kw:=cQ [],lv:=λi=>if i=0 then[(0,[some 91]),(1,[]),(5,[])]else[],xv:=λi=>if i=0 then some [(1,[])]else none }
def S33_0 (a0:(List M9))(a1:Int)(v0_1:Int)(v0_5:Int):St cxT.ty:={ slots:=[(.inl (.inl (ls { own:=0,nm:=0,e:=91,o:=false,xs:=a0 }))),(.inl (.inl (lv (.int .i64 v0_1)))),aJ,aJ,aJ,(.inl (.inl (lv (.int .i64 v0_5))))]++List.replicate 21 aJ,D:=[],F:=[],ctr:=1 }
def X33_0 (a0:(List M9))(a1:Int)(w0_1:Int):St cxT.ty:={ slots:=[aJ,(.inl (.inl (lv (.int .i64 w0_1))))]++List.replicate 25 aJ,D:=[],F:=[],ctr:=1 }
def G33 {B:Type}(u:Int->B)(hh0:Int->Int->Option B)(mK:Y66)(a0:(List M9))(a1:Int):Option B:=
 bif (decide ((wrap .i64 (a1-(Nat.cast (List.length a0):Int))) < (0:Int)))then some (u (-(1:Int)))
 else hh0 (wrap .i64 (a1-(Nat.cast (List.length a0):Int))) (0:Int)
def B33_0 {B:Type}(u:Int->B)(gg:Int->Int->Option B)(kk:Int->Option B)(mK:Y66)(a0:(List M9))(a1:Int)(v0_1:Int)(v0_5:Int):Option B:=
 bif (decide (v0_5 < (Nat.cast (List.length a0):Int)))then dX (List.getD a0 v0_5.toNat ((0:Int),((0:Int),((0:Int),((0:Int),((0:Int),((0:Int),((0:Int),(false,[]))))))))) λs1_0=>bif ((decide ((0:Int)<=v0_5))&&(decide (v0_5 < (Nat.cast (List.length a0):Int))))then cU (mK ((s1_0.1,(s1_0.2.1,(s1_0.2.2.1,(s1_0.2.2.2.1,(s1_0.2.2.2.2.1,(s1_0.2.2.2.2.2.1,(s1_0.2.2.2.2.2.2.1,(s1_0.2.2.2.2.2.2.2.1,s1_0.2.2.2.2.2.2.2.2)))))))),v0_1)) (0:Int) λ(q3:Int)=>bif (decide (q3 < (0:Int)))then some (u (-(1:Int)))
    else gg q3 (wrap .i64 (v0_5+(1:Int)))
  else none
 else kk v0_1
def A33_0 {B:Type}(u:Int->B)(mK:Y66)(a0:(List M9))(a1:Int)(w0_1:Int):Option B:=
 some (u w0_1)
def aAo (mK:Y66)(L:Nat)(a0:(List M9))(a1:Int):Nat->Int->Int->(Int->Option Int)->Option Int
 | 0,_,_,_=>none
 | n+1,v0_1,v0_5,k=>B33_0 (λx=>x) (λv0_1 v0_5=>aAo mK L a0 a1 n v0_1 v0_5 k) k mK a0 a1 v0_1 v0_5
theorem aLU (mK:Y66)(L:Nat)(a0:(List M9))(a1:Int)(k:St cxT.ty->Option (V cxT.ty))(xk:Nat->St cxT.ty->Option (V cxT.ty))(k':Int->Option Int)(hk:∀ (w0_1:Int),k (X33_0 a0 a1 w0_1)=(k' w0_1).map n33):∀ (n:Nat) (v0_1:Int) (v0_5:Int),bA prog (aBH mK) L f33 0 [1,1,1,0,1,0,0] (cB (aY prog f33) k xk) n (S33_0 a0 a1 v0_1 v0_5)=(aAo mK L a0 a1 n v0_1 v0_5 k').map n33
 | 0,_,_=>rfl
 | n+1,v0_1,v0_5=>by
  rw[bQ];have ih:=aLU mK L a0 a1 k xk k' hk n;refine .trans (b:=B33_0 n33 (λv0_1 v0_5=>(bA prog (aBH mK) L f33 0 [1,1,1,0,1,0,0] (cB (aY prog f33) k xk) n) (S33_0 a0 a1 v0_1 v0_5)) (λw0_1=>k (X33_0 a0 a1 w0_1)) mK a0 a1 v0_1 v0_5) (by kernel_rfl) ?_;unfold aAo B33_0
  repeat' first | with_reducible refine dP ?_ ?_ | with_reducible refine dL λ_=>?_ | with_reducible refine dO λ_=>?_ | with_reducible exact ih _ _ | with_reducible exact hk _ | exact rfl
def g33 (mK:Y66)(L:Nat)(a0:(List M9))(a1:Int):Option Int:=G33 (λx=>x) (λv0_1 v0_5=>aAo mK L a0 a1 L v0_1 v0_5 (λw0_1=>A33_0 (λx=>x) mK a0 a1 w0_1)) mK a0 a1
theorem e33 (mK:Y66)(L:Nat)(a0:(List M9))(a1:Int):fP prog (aBH mK) (bJ L) f33 (a33.enc (a0,a1))=(g33 mK L a0 a1).map n33:=by
 have hin0:∀ (v0_1:Int) (v0_5:Int),bA prog (aBH mK) L f33 0 [1,1,1,0,1,0,0] (cB (aY prog f33) (cA prog (aBH mK) L f33 [1,1,1,0,1] (aY prog f33)).n (cA prog (aBH mK) L f33 [1,1,1,0,1] (aY prog f33)).x) L (S33_0 a0 a1 v0_1 v0_5)=((λv0_1 v0_5=>aAo mK L a0 a1 L v0_1 v0_5 (λw0_1=>A33_0 (λx=>x) mK a0 a1 w0_1)) v0_1 v0_5).map n33:=λv0_1 v0_5=>aLU mK L a0 a1 _ _ _ (λw0_1=>by refine .trans (b:=A33_0 n33 mK a0 a1 w0_1) (by kernel_rfl) ?_;unfold A33_0;repeat' first | with_reducible refine dP ?_ ?_ | with_reducible refine dL λ_=>?_ | with_reducible refine dO λ_=>?_ | exact rfl) L v0_1 v0_5
 refine .trans (b:=G33 n33 (λv0_1 v0_5=>bA prog (aBH mK) L f33 0 [1,1,1,0,1,0,0] (cB (aY prog f33) (cA prog (aBH mK) L f33 [1,1,1,0,1] (aY prog f33)).n (cA prog (aBH mK) L f33 [1,1,1,0,1] (aY prog f33)).x) L (S33_0 a0 a1 v0_1 v0_5)) mK a0 a1) (by kernel_rfl) ?_;unfold g33 G33
 repeat' first | with_reducible refine dP ?_ ?_ | with_reducible refine dL λ_=>?_ | with_reducible refine dO λ_=>?_ | with_reducible exact hin0 _ _ | exact rfl
def w33 (mK:Y66)(L:Nat)(x:((List M9)×Int)):Option Int:=g33 mK L x.1 x.2
theorem s33 (mK:Y66)(h66:Sat prog cxT 66 (c66 mK))(m:Y33)(hm:∀ (x:((List M9)×Int)) t,m x=some t->∃ L,w33 mK L x=some t):Sat prog cxT 33 (c33 m):=
 cF bC aX (by rfl) (fn:=f33) rfl a33 n33 aU0 m (aBH mK) (aL h66 aW) aQ (w33 mK) (λL x=>e33 mK L x.1 x.2) hm aZT
def aTH:Env cxT:={ Kc:=cR [],Kw:=cQ [],lv:=λi=>[],xv:=λi=>none }
def G34 {B:Type}(u:Int->B)(a0:(List W2))(a1:Int):Option B:=
 bif (decide ((wrap .i64 (a1-(Nat.cast (List.length a0):Int))) < (0:Int)))then some (u (-(1:Int)))
 else some (u (wrap .i64 (a1-(Nat.cast (List.length a0):Int))))
def g34 (L:Nat)(a0:(List W2))(a1:Int):Option Int:=G34 (λx=>x) a0 a1
theorem e34 (L:Nat)(a0:(List W2))(a1:Int):fP prog aTH (bJ L) f34 (a34.enc (a0,a1))=(g34 L a0 a1).map n34:=by
 refine .trans (b:=G34 n34 a0 a1) (by kernel_rfl) ?_;unfold g34 G34
 repeat' first | with_reducible refine dP ?_ ?_ | with_reducible refine dL λ_=>?_ | with_reducible refine dO λ_=>?_ | exact rfl
def w34 (L:Nat)(x:((List W2)×Int)):Option Int:=g34 L x.1 x.2
theorem s34 (m:Y34)(hm:∀ (x:((List W2)×Int)) t,m x=some t->∃ L,w34 L x=some t):Sat prog cxT 34 (c34 m):=
 cF bC aX (by rfl) (fn:=f34) rfl a34 n34 aUZ m aTH aW aQ (w34) (λL x=>e34 L x.1 x.2) hm aZS
def aTG:Env cxT:={ Kc:=cR [],Kw:=cQ [],lv:=λi=>[],xv:=λi=>none }
def G35 {B:Type}(u:Int->B)(a0:(List S10))(a1:Int):Option B:=
 bif (decide ((wrap .i64 (a1-(Nat.cast (List.length a0):Int))) < (0:Int)))then some (u (-(1:Int)))
 else some (u (wrap .i64 (a1-(Nat.cast (List.length a0):Int))))
def g35 (L:Nat)(a0:(List S10))(a1:Int):Option Int:=G35 (λx=>x) a0 a1
theorem e35 (L:Nat)(a0:(List S10))(a1:Int):fP prog aTG (bJ L) f35 (a35.enc (a0,a1))=(g35 L a0 a1).map n35:=by
 refine .trans (b:=G35 n35 a0 a1) (by kernel_rfl) ?_;unfold g35 G35
 repeat' first | with_reducible refine dP ?_ ?_ | with_reducible refine dL λ_=>?_ | with_reducible refine dO λ_=>?_ | exact rfl
def w35 (L:Nat)(x:((List S10)×Int)):Option Int:=g35 L x.1 x.2
theorem s35 (m:Y35)(hm:∀ (x:((List S10)×Int)) t,m x=some t->∃ L,w35 L x=some t):Sat prog cxT 35 (c35 m):=
 cF bC aX (by rfl) (fn:=f35) rfl a35 n35 aUY m aTG aW aQ (w35) (λL x=>e35 L x.1 x.2) hm aZR
def aTR (yS:Y32)(yR:Y33)(yQ:Y34)(yP:Y35):Env cxT:={ Kc:=cR [(32,c32 yS),(33,c33 yR),(34,c34 yQ),(35,c35 yP)],Kw:=cQ [],lv:=λi=>[],xv:=λi=>none }
def G10 {B:Type}(u:Int->B)(yS:Y32)(yR:Y33)(yQ:Y34)(yP:Y35)(a0_0:(List N10))(a0_1:(List M9))(a0_2:(List W2))(a0_3:(List S10))(a1:Int):Option B:=
 cU (yS (a0_0,a1)) (0:Int) λ(q1:Int)=>bif (decide (q1 < (0:Int)))then some (u (-(1:Int)))
  else cU (yR (a0_1,q1)) (0:Int) λ(q2:Int)=>bif (decide (q2 < (0:Int)))then some (u (-(1:Int)))
   else cU (yQ (a0_2,q2)) (0:Int) λ(q3:Int)=>bif (decide (q3 < (0:Int)))then some (u (-(1:Int)))
    else cU (yP (a0_3,q3)) (0:Int) λ(q4:Int)=>bif (decide (q4 < (0:Int)))then some (u (-(1:Int)))
     else some (u q4)
def g10 (yS:Y32)(yR:Y33)(yQ:Y34)(yP:Y35)(L:Nat)(a0_0:(List N10))(a0_1:(List M9))(a0_2:(List W2))(a0_3:(List S10))(a1:Int):Option Int:=G10 (λx=>x) yS yR yQ yP a0_0 a0_1 a0_2 a0_3 a1
theorem e10 (yS:Y32)(yR:Y33)(yQ:Y34)(yP:Y35)(L:Nat)(a0_0:(List N10))(a0_1:(List M9))(a0_2:(List W2))(a0_3:(List S10))(a1:Int):fP prog (aTR yS yR yQ yP) (bJ L) f10 (a10.enc ((a0_0,a0_1,a0_2,a0_3),a1))=(g10 yS yR yQ yP L a0_0 a0_1 a0_2 a0_3 a1).map n10:=by
 refine .trans (b:=G10 n10 yS yR yQ yP a0_0 a0_1 a0_2 a0_3 a1) (by kernel_rfl) ?_;unfold g10 G10
 repeat' first | with_reducible refine dP ?_ ?_ | with_reducible refine dL λ_=>?_ | with_reducible refine dO λ_=>?_ | exact rfl
def w10 (yS:Y32)(yR:Y33)(yQ:Y34)(yP:Y35)(L:Nat)(x:(C4×Int)):Option Int:=g10 yS yR yQ yP L x.1.1 x.1.2.1 x.1.2.2.1 x.1.2.2.2 x.2
theorem s10 (yS:Y32)(yR:Y33)(yQ:Y34)(yP:Y35)(h32:Sat prog cxT 32 (c32 yS))(h33:Sat prog cxT 33 (c33 yR))(h34:Sat prog cxT 34 (c34 yQ))(h35:Sat prog cxT 35 (c35 yP))(m:Y10)(hm:∀ (x:(C4×Int)) t,m x=some t->∃ L,w10 yS yR yQ yP L x=some t):Sat prog cxT 10 (c10 m):=
 cF bC aX (by rfl) (fn:=f10) rfl a10 n10 aVe m (aTR yS yR yQ yP) (aL h32 (aL h33 (aL h34 (aL h35 aW)))) aQ (w10 yS yR yQ yP) (λL x=>e10 yS yR yQ yP L x.1.1 x.1.2.1 x.1.2.2.1 x.1.2.2.2 x.2) hm aZ5
end Go.Proofs.Tryz
set_option maxHeartbeats 0
set_option maxRecDepth 100000
namespace Go.Proofs.Tryz
open Go.IntKind (wrap)
open Go Go.VM Go.RowKit
def sZ (m104:Y104):Env cxT:={ Kc:=cR [(104,aHe m104)],Kw:=cQ [],lv:=λi=>if i=0 then[(0,[some 113]),(3,[some 102]),(4,[])]else[],xv:=λi=>if i=0 then some [(3,[some 102])]else none }
def S102_0 (a0:(List E9))(v0_3:(List E9))(v0_4:Int):St cxT.ty:={ slots:=[(.inl (.inl (ls { own:=0,nm:=0,e:=113,o:=false,xs:=a0 }))),aJ,aJ,(.inl (.inl (ls { own:=1,nm:=192,e:=102,o:=true,xs:=v0_3 }))),(.inl (.inl (lv (.int .i64 v0_4))))]++List.replicate 18 aJ,D:=[],F:=[],ctr:=1 }
def X102_0 (a0:(List E9))(w0_3:(List E9)):St cxT.ty:={ slots:=[aJ,aJ,aJ,(.inl (.inl (ls { own:=1,nm:=192,e:=102,o:=true,xs:=w0_3 })))]++List.replicate 19 aJ,D:=[],F:=[],ctr:=1 }
def G102 {B:Type}(u:(List E9)->B)(hh0:(List E9)->Int->Option B)(m104:Y104)(a0:(List E9)):Option B:=
 bif (((decide ((0:Int)<=(Nat.cast (List.length a0):Int)))&&(decide ((Nat.cast (List.length a0):Int)<=(Nat.cast (List.length a0):Int))))&&(decide ((Nat.cast (List.length a0):Int)<=(1000000000:Int))))then hh0 (List.replicate (Int.toNat (Nat.cast (List.length a0):Int)) ((0:Int),((0:Int),((0:Int),((0:Int),((0:Int),((0:Int),((0:Int),((0:Int),(0:Int)))))))))) (0:Int)
 else none
def B102_0 {B:Type}(u:(List E9)->B)(gg:(List E9)->Int->Option B)(kk:(List E9)->Option B)(m104:Y104)(a0:(List E9))(v0_3:(List E9))(v0_4:Int):Option B:=
 bif (decide (v0_4 < (Nat.cast (List.length a0):Int)))then dX (List.getD a0 v0_4.toNat ((0:Int),((0:Int),((0:Int),((0:Int),((0:Int),((0:Int),((0:Int),((0:Int),(0:Int)))))))))) λs1_0=>bif ((decide ((0:Int)<=v0_4))&&(decide (v0_4 < (Nat.cast (List.length a0):Int))))then cU (m104 (s1_0.1,(s1_0.2.1,(s1_0.2.2.1,(s1_0.2.2.2.1,(s1_0.2.2.2.2.1,(s1_0.2.2.2.2.2.1,(s1_0.2.2.2.2.2.2.1,(s1_0.2.2.2.2.2.2.2.1,s1_0.2.2.2.2.2.2.2.2))))))))) ((0:Int),(0:Int),(0:Int),(0:Int),(0:Int),(0:Int),(0:Int),(0:Int),(0:Int)) λ(q3:E9)=>bif ((decide ((0:Int)<=v0_4))&&(decide (v0_4 < (Nat.cast (List.length v0_3):Int))))then gg (List.set v0_3 v0_4.toNat (q3.1,(q3.2.1,(q3.2.2.1,(q3.2.2.2.1,(q3.2.2.2.2.1,(q3.2.2.2.2.2.1,(q3.2.2.2.2.2.2.1,(q3.2.2.2.2.2.2.2.1,q3.2.2.2.2.2.2.2.2))))))))) (wrap .i64 (v0_4+(1:Int)))
    else none
  else none
 else kk v0_3
def A102_0 {B:Type}(u:(List E9)->B)(m104:Y104)(a0:(List E9))(w0_3:(List E9)):Option B:=
 some (u w0_3)
def tT (m104:Y104)(L:Nat)(a0:(List E9)):Nat->(List E9)->Int->((List E9)->Option (List E9))->Option (List E9)
 | 0,_,_,_=>none
 | n+1,v0_3,v0_4,k=>B102_0 (λx=>x) (λv0_3 v0_4=>tT m104 L a0 n v0_3 v0_4 k) k m104 a0 v0_3 v0_4
theorem aIE (m104:Y104)(L:Nat)(a0:(List E9))(k:St cxT.ty->Option (V cxT.ty))(xk:Nat->St cxT.ty->Option (V cxT.ty))(k':(List E9)->Option (List E9))(hk:∀ (w0_3:(List E9)),k (X102_0 a0 w0_3)=(k' w0_3).map zX):∀ (n:Nat) (v0_3:(List E9)) (v0_4:Int),bA prog (sZ m104) L f102 0 [1,1,0,1,0,0] (cB (aY prog f102) k xk) n (S102_0 a0 v0_3 v0_4)=(tT m104 L a0 n v0_3 v0_4 k').map zX
 | 0,_,_=>rfl
 | n+1,v0_3,v0_4=>by
  rw[bQ];have ih:=aIE m104 L a0 k xk k' hk n;refine .trans (b:=B102_0 zX (λv0_3 v0_4=>(bA prog (sZ m104) L f102 0 [1,1,0,1,0,0] (cB (aY prog f102) k xk) n) (S102_0 a0 v0_3 v0_4)) (λw0_3=>k (X102_0 a0 w0_3)) m104 a0 v0_3 v0_4) (by kernel_rfl) ?_;unfold tT B102_0
  repeat' first | with_reducible refine dP ?_ ?_ | with_reducible refine dL λ_=>?_ | with_reducible refine dO λ_=>?_ | with_reducible exact ih _ _ | with_reducible exact hk _ | exact rfl
def aKm (m104:Y104)(L:Nat)(a0:(List E9)):Option (List E9):=G102 (λx=>x) (λv0_3 v0_4=>tT m104 L a0 L v0_3 v0_4 (λw0_3=>A102_0 (λx=>x) m104 a0 w0_3)) m104 a0
theorem bBl (m104:Y104)(L:Nat)(a0:(List E9)):fP prog (sZ m104) (bJ L) f102 (aWw.enc a0)=(aKm m104 L a0).map zX:=by
 have hin0:∀ (v0_3:(List E9)) (v0_4:Int),bA prog (sZ m104) L f102 0 [1,1,0,1,0,0] (cB (aY prog f102) (cA prog (sZ m104) L f102 [1,1,0,1] (aY prog f102)).n (cA prog (sZ m104) L f102 [1,1,0,1] (aY prog f102)).x) L (S102_0 a0 v0_3 v0_4)=((λv0_3 v0_4=>tT m104 L a0 L v0_3 v0_4 (λw0_3=>A102_0 (λx=>x) m104 a0 w0_3)) v0_3 v0_4).map zX:=λv0_3 v0_4=>aIE m104 L a0 _ _ _ (λw0_3=>by refine .trans (b:=A102_0 zX m104 a0 w0_3) (by kernel_rfl) ?_;unfold A102_0;repeat' first | with_reducible refine dP ?_ ?_ | with_reducible refine dL λ_=>?_ | with_reducible refine dO λ_=>?_ | exact rfl) L v0_3 v0_4
 refine .trans (b:=G102 zX (λv0_3 v0_4=>bA prog (sZ m104) L f102 0 [1,1,0,1,0,0] (cB (aY prog f102) (cA prog (sZ m104) L f102 [1,1,0,1] (aY prog f102)).n (cA prog (sZ m104) L f102 [1,1,0,1] (aY prog f102)).x) L (S102_0 a0 v0_3 v0_4)) m104 a0) (by kernel_rfl) ?_;unfold aKm G102
 repeat' first | with_reducible refine dP ?_ ?_ | with_reducible refine dL λ_=>?_ | with_reducible refine dO λ_=>?_ | with_reducible exact hin0 _ _ | exact rfl
def aNI (m104:Y104)(L:Nat)(x:(List E9)):Option (List E9):=aKm m104 L x
theorem aYF (m104:Y104)(h104:Sat prog cxT 104 (aHe m104))(m:Y102)(hm:∀ (x:(List E9)) t,m x=some t->∃ L,aNI m104 L x=some t):Sat prog cxT 102 (aHf m):=
 cF bC aX (by rfl) (fn:=f102) rfl aWw zX aNj m (sZ m104) (aL h104 aW) aQ (aNI m104) (λL x=>bBl m104 L x) hm aSy
def sY:Env cxT:={ Kc:=cR [],Kw:=cQ [],lv:=λi=>if i=0 then[(0,[some 2]),(3,[some 2]),(4,[])]else[],xv:=λi=>if i=0 then some [(3,[some 2])]else none }
def S103_0 (a0:(List Int))(v0_3:(List Int))(v0_4:Int):St cxT.ty:={ slots:=[(.inl (.inl (ls { own:=0,nm:=0,e:=2,o:=false,xs:=a0 }))),aJ,aJ,(.inl (.inl (ls { own:=1,nm:=192,e:=2,o:=true,xs:=v0_3 }))),(.inl (.inl (lv (.int .i64 v0_4))))]++List.replicate 17 aJ,D:=[],F:=[],ctr:=1 }
def X103_0 (a0:(List Int))(w0_3:(List Int)):St cxT.ty:={ slots:=[aJ,aJ,aJ,(.inl (.inl (ls { own:=1,nm:=192,e:=2,o:=true,xs:=w0_3 })))]++List.replicate 18 aJ,D:=[],F:=[],ctr:=1 }
def G103 {B:Type}(u:(List Int)->B)(hh0:(List Int)->Int->Option B)(a0:(List Int)):Option B:=
 bif (((decide ((0:Int)<=(Nat.cast (List.length a0):Int)))&&(decide ((Nat.cast (List.length a0):Int)<=(Nat.cast (List.length a0):Int))))&&(decide ((Nat.cast (List.length a0):Int)<=(1000000000:Int))))then hh0 (List.replicate (Int.toNat (Nat.cast (List.length a0):Int)) (0:Int)) (0:Int)
 else none
def B103_0 {B:Type}(u:(List Int)->B)(gg:(List Int)->Int->Option B)(kk:(List Int)->Option B)(a0:(List Int))(v0_3:(List Int))(v0_4:Int):Option B:=
 bif (decide (v0_4 < (Nat.cast (List.length a0):Int)))then bif ((decide ((0:Int)<=v0_4))&&(decide (v0_4 < (Nat.cast (List.length a0):Int))))then bif ((decide ((0:Int)<=v0_4))&&(decide (v0_4 < (Nat.cast (List.length v0_3):Int))))then gg (List.set v0_3 v0_4.toNat (List.getD a0 v0_4.toNat (0:Int))) (wrap .i64 (v0_4+(1:Int)))
   else none
  else none
 else kk v0_3
def A103_0 {B:Type}(u:(List Int)->B)(a0:(List Int))(w0_3:(List Int)):Option B:=
 some (u w0_3)
def tS (L:Nat)(a0:(List Int)):Nat->(List Int)->Int->((List Int)->Option (List Int))->Option (List Int)
 | 0,_,_,_=>none
 | n+1,v0_3,v0_4,k=>B103_0 (λx=>x) (λv0_3 v0_4=>tS L a0 n v0_3 v0_4 k) k a0 v0_3 v0_4
theorem aID (L:Nat)(a0:(List Int))(k:St cxT.ty->Option (V cxT.ty))(xk:Nat->St cxT.ty->Option (V cxT.ty))(k':(List Int)->Option (List Int))(hk:∀ (w0_3:(List Int)),k (X103_0 a0 w0_3)=(k' w0_3).map zW):∀ (n:Nat) (v0_3:(List Int)) (v0_4:Int),bA prog sY L f103 0 [1,1,0,1,0,0] (cB (aY prog f103) k xk) n (S103_0 a0 v0_3 v0_4)=(tS L a0 n v0_3 v0_4 k').map zW
 | 0,_,_=>rfl
 | n+1,v0_3,v0_4=>by
  rw[bQ];have ih:=aID L a0 k xk k' hk n;refine .trans (b:=B103_0 zW (λv0_3 v0_4=>(bA prog sY L f103 0 [1,1,0,1,0,0] (cB (aY prog f103) k xk) n) (S103_0 a0 v0_3 v0_4)) (λw0_3=>k (X103_0 a0 w0_3)) a0 v0_3 v0_4) (by kernel_rfl) ?_;unfold tS B103_0
  repeat' first | with_reducible refine dP ?_ ?_ | with_reducible refine dL λ_=>?_ | with_reducible refine dO λ_=>?_ | with_reducible exact ih _ _ | with_reducible exact hk _ | exact rfl
def aKl (L:Nat)(a0:(List Int)):Option (List Int):=G103 (λx=>x) (λv0_3 v0_4=>tS L a0 L v0_3 v0_4 (λw0_3=>A103_0 (λx=>x) a0 w0_3)) a0
theorem bBk (L:Nat)(a0:(List Int)):fP prog sY (bJ L) f103 (aWv.enc a0)=(aKl L a0).map zW:=by
 have hin0:∀ (v0_3:(List Int)) (v0_4:Int),bA prog sY L f103 0 [1,1,0,1,0,0] (cB (aY prog f103) (cA prog sY L f103 [1,1,0,1] (aY prog f103)).n (cA prog sY L f103 [1,1,0,1] (aY prog f103)).x) L (S103_0 a0 v0_3 v0_4)=((λv0_3 v0_4=>tS L a0 L v0_3 v0_4 (λw0_3=>A103_0 (λx=>x) a0 w0_3)) v0_3 v0_4).map zW:=λv0_3 v0_4=>aID L a0 _ _ _ (λw0_3=>by refine .trans (b:=A103_0 zW a0 w0_3) (by kernel_rfl) ?_;unfold A103_0;repeat' first | with_reducible refine dP ?_ ?_ | with_reducible refine dL λ_=>?_ | with_reducible refine dO λ_=>?_ | exact rfl) L v0_3 v0_4
 refine .trans (b:=G103 zW (λv0_3 v0_4=>bA prog sY L f103 0 [1,1,0,1,0,0] (cB (aY prog f103) (cA prog sY L f103 [1,1,0,1] (aY prog f103)).n (cA prog sY L f103 [1,1,0,1] (aY prog f103)).x) L (S103_0 a0 v0_3 v0_4)) a0) (by kernel_rfl) ?_;unfold aKl G103
 repeat' first | with_reducible refine dP ?_ ?_ | with_reducible refine dL λ_=>?_ | with_reducible refine dO λ_=>?_ | with_reducible exact hin0 _ _ | exact rfl
def aNH (L:Nat)(x:(List Int)):Option (List Int):=aKl L x
theorem aYE (m:Y103)(hm:∀ (x:(List Int)) t,m x=some t->∃ L,aNH L x=some t):Sat prog cxT 103 (aKT m):=
 cF bC aX (by rfl) (fn:=f103) rfl aWv zW aNi m sY aW aQ (aNH) (λL x=>bBk L x) hm aSx
def aMv (m121:Y121):Env cxT:={ Kc:=cR [(121,aKO m121)],Kw:=cQ [],lv:=λi=>[],xv:=λi=>none }
def G104 {B:Type}(u:E9->B)(m121:Y121)(a0_0:Int)(a0_1:Int)(a0_2:Int)(a0_3:Int)(a0_4:Int)(a0_5:Int)(a0_6:Int)(a0_7:Int)(a0_8:Int):Option B:=
 cU (m121 (a0_3,(a0_4,(a0_5,(a0_6,(a0_7,a0_8)))))) ((0:Int),(0:Int),(0:Int),(0:Int),(0:Int),(0:Int)) λ(q1:(Int×Int×Int×Int×Int×Int))=>some (u (a0_0,a0_1,a0_2,q1.1,q1.2.1,q1.2.2.1,q1.2.2.2.1,q1.2.2.2.2.1,q1.2.2.2.2.2))
def aPi (m121:Y121)(L:Nat)(a0_0:Int)(a0_1:Int)(a0_2:Int)(a0_3:Int)(a0_4:Int)(a0_5:Int)(a0_6:Int)(a0_7:Int)(a0_8:Int):Option E9:=G104 (λx=>x) m121 a0_0 a0_1 a0_2 a0_3 a0_4 a0_5 a0_6 a0_7 a0_8
theorem bBj (m121:Y121)(L:Nat)(a0_0:Int)(a0_1:Int)(a0_2:Int)(a0_3:Int)(a0_4:Int)(a0_5:Int)(a0_6:Int)(a0_7:Int)(a0_8:Int):fP prog (aMv m121) (bJ L) f104 (aWu.enc (a0_0,a0_1,a0_2,a0_3,a0_4,a0_5,a0_6,a0_7,a0_8))=(aPi m121 L a0_0 a0_1 a0_2 a0_3 a0_4 a0_5 a0_6 a0_7 a0_8).map aGV:=by
 refine .trans (b:=G104 aGV m121 a0_0 a0_1 a0_2 a0_3 a0_4 a0_5 a0_6 a0_7 a0_8) (by kernel_rfl) ?_;unfold aPi G104
 repeat' first | with_reducible refine dP ?_ ?_ | with_reducible refine dL λ_=>?_ | with_reducible refine dO λ_=>?_ | exact rfl
def aQH (m121:Y121)(L:Nat)(x:E9):Option E9:=aPi m121 L x.1 x.2.1 x.2.2.1 x.2.2.2.1 x.2.2.2.2.1 x.2.2.2.2.2.1 x.2.2.2.2.2.2.1 x.2.2.2.2.2.2.2.1 x.2.2.2.2.2.2.2.2
theorem aYD (m121:Y121)(h121:Sat prog cxT 121 (aKO m121))(m:Y104)(hm:∀ (x:E9) t,m x=some t->∃ L,aQH m121 L x=some t):Sat prog cxT 104 (aHe m):=
 cF bC aX (by rfl) (fn:=f104) rfl aWu aGV aNh m (aMv m121) (aL h121 aW) aQ (aQH m121) (λL x=>bBj m121 L x.1 x.2.1 x.2.2.1 x.2.2.2.1 x.2.2.2.2.1 x.2.2.2.2.2.1 x.2.2.2.2.2.2.1 x.2.2.2.2.2.2.2.1 x.2.2.2.2.2.2.2.2) hm aSw
def aTz (gS:Y102)(kF:Y103):Env cxT:={ Kc:=cR [(102,aHf gS),(103,aKT kF)],Kw:=cQ [],lv:=λi=>[],xv:=λi=>none }
def G72 {B:Type}(u:N10->B)(gS:Y102)(kF:Y103)(a0_0:Int)(a0_1:Int)(a0_2:Int)(a0_3:Int)(a0_4:(List E9))(a0_5:Int)(a0_6:Int)(a0_7:(List Int))(a0_8:(List Int))(a0_9:(List Int)):Option B:=
 cU (gS a0_4) [] λ(q1:(List E9))=>cU (kF a0_7) [] λ(q2:(List Int))=>cU (kF a0_8) [] λ(q3:(List Int))=>cU (kF a0_9) [] λ(q4:(List Int))=>some (u (a0_0,a0_1,a0_2,a0_3,q1,a0_5,a0_6,q2,q3,q4))
def g72 (gS:Y102)(kF:Y103)(L:Nat)(a0_0:Int)(a0_1:Int)(a0_2:Int)(a0_3:Int)(a0_4:(List E9))(a0_5:Int)(a0_6:Int)(a0_7:(List Int))(a0_8:(List Int))(a0_9:(List Int)):Option N10:=G72 (λx=>x) gS kF a0_0 a0_1 a0_2 a0_3 a0_4 a0_5 a0_6 a0_7 a0_8 a0_9
theorem e72 (gS:Y102)(kF:Y103)(L:Nat)(a0_0:Int)(a0_1:Int)(a0_2:Int)(a0_3:Int)(a0_4:(List E9))(a0_5:Int)(a0_6:Int)(a0_7:(List Int))(a0_8:(List Int))(a0_9:(List Int)):fP prog (aTz gS kF) (bJ L) f72 (a72.enc (a0_0,a0_1,a0_2,a0_3,a0_4,a0_5,a0_6,a0_7,a0_8,a0_9))=(g72 gS kF L a0_0 a0_1 a0_2 a0_3 a0_4 a0_5 a0_6 a0_7 a0_8 a0_9).map n72:=by
 refine .trans (b:=G72 n72 gS kF a0_0 a0_1 a0_2 a0_3 a0_4 a0_5 a0_6 a0_7 a0_8 a0_9) (by kernel_rfl) ?_;unfold g72 G72
 repeat' first | with_reducible refine dP ?_ ?_ | with_reducible refine dL λ_=>?_ | with_reducible refine dO λ_=>?_ | exact rfl
def w72 (gS:Y102)(kF:Y103)(L:Nat)(x:N10):Option N10:=g72 gS kF L x.1 x.2.1 x.2.2.1 x.2.2.2.1 x.2.2.2.2.1 x.2.2.2.2.2.1 x.2.2.2.2.2.2.1 x.2.2.2.2.2.2.2.1 x.2.2.2.2.2.2.2.2.1 x.2.2.2.2.2.2.2.2.2
theorem s72 (gS:Y102)(kF:Y103)(h102:Sat prog cxT 102 (aHf gS))(h103:Sat prog cxT 103 (aKT kF))(m:Y72)(hm:∀ (x:N10) t,m x=some t->∃ L,w72 gS kF L x=some t):Sat prog cxT 72 (c72 m):=
 cF bC aX (by rfl) (fn:=f72) rfl a72 n72 aUy m (aTz gS kF) (aL h102 (aL h103 aW)) aQ (w72 gS kF) (λL x=>e72 gS kF L x.1 x.2.1 x.2.2.1 x.2.2.2.1 x.2.2.2.2.1 x.2.2.2.2.2.1 x.2.2.2.2.2.2.1 x.2.2.2.2.2.2.2.1 x.2.2.2.2.2.2.2.2.1 x.2.2.2.2.2.2.2.2.2) hm aZq
def aTy (gS:Y102):Env cxT:={ Kc:=cR [(102,aHf gS)],Kw:=cQ [],lv:=λi=>[],xv:=λi=>none }
def G73 {B:Type}(u:M9->B)(gS:Y102)(a0_0:Int)(a0_1:Int)(a0_2:Int)(a0_3:Int)(a0_4:Int)(a0_5:Int)(a0_6:Int)(a0_7:Bool)(a0_8:(List E9)):Option B:=
 cU (gS a0_8) [] λ(q1:(List E9))=>some (u (a0_0,a0_1,a0_2,a0_3,a0_4,a0_5,a0_6,a0_7,q1))
def g73 (gS:Y102)(L:Nat)(a0_0:Int)(a0_1:Int)(a0_2:Int)(a0_3:Int)(a0_4:Int)(a0_5:Int)(a0_6:Int)(a0_7:Bool)(a0_8:(List E9)):Option M9:=G73 (λx=>x) gS a0_0 a0_1 a0_2 a0_3 a0_4 a0_5 a0_6 a0_7 a0_8
theorem e73 (gS:Y102)(L:Nat)(a0_0:Int)(a0_1:Int)(a0_2:Int)(a0_3:Int)(a0_4:Int)(a0_5:Int)(a0_6:Int)(a0_7:Bool)(a0_8:(List E9)):fP prog (aTy gS) (bJ L) f73 (a73.enc (a0_0,a0_1,a0_2,a0_3,a0_4,a0_5,a0_6,a0_7,a0_8))=(g73 gS L a0_0 a0_1 a0_2 a0_3 a0_4 a0_5 a0_6 a0_7 a0_8).map n73:=by
 refine .trans (b:=G73 n73 gS a0_0 a0_1 a0_2 a0_3 a0_4 a0_5 a0_6 a0_7 a0_8) (by kernel_rfl) ?_;unfold g73 G73
 repeat' first | with_reducible refine dP ?_ ?_ | with_reducible refine dL λ_=>?_ | with_reducible refine dO λ_=>?_ | exact rfl
def w73 (gS:Y102)(L:Nat)(x:M9):Option M9:=g73 gS L x.1 x.2.1 x.2.2.1 x.2.2.2.1 x.2.2.2.2.1 x.2.2.2.2.2.1 x.2.2.2.2.2.2.1 x.2.2.2.2.2.2.2.1 x.2.2.2.2.2.2.2.2
theorem s73 (gS:Y102)(h102:Sat prog cxT 102 (aHf gS))(m:Y73)(hm:∀ (x:M9) t,m x=some t->∃ L,w73 gS L x=some t):Sat prog cxT 73 (c73 m):=
 cF bC aX (by rfl) (fn:=f73) rfl a73 n73 aUx m (aTy gS) (aL h102 aW) aQ (w73 gS) (λL x=>e73 gS L x.1 x.2.1 x.2.2.1 x.2.2.2.1 x.2.2.2.2.1 x.2.2.2.2.2.1 x.2.2.2.2.2.2.1 x.2.2.2.2.2.2.2.1 x.2.2.2.2.2.2.2.2) hm aZp
def aTx:Env cxT:={ Kc:=cR [],Kw:=cQ [],lv:=λi=>[],xv:=λi=>none }
def G74 {B:Type}(u:(Int×Int)->B)(a0_0:Int)(a0_1:Int):Option B:=
 some (u (a0_0,a0_1))
def g74 (L:Nat)(a0_0:Int)(a0_1:Int):Option (Int×Int):=G74 (λx=>x) a0_0 a0_1
theorem e74 (L:Nat)(a0_0:Int)(a0_1:Int):fP prog aTx (bJ L) f74 (a74.enc (a0_0,a0_1))=(g74 L a0_0 a0_1).map n74:=by
 refine .trans (b:=G74 n74 a0_0 a0_1) (by kernel_rfl) ?_;unfold g74 G74
 repeat' first | with_reducible refine dP ?_ ?_ | with_reducible refine dL λ_=>?_ | with_reducible refine dO λ_=>?_ | exact rfl
def w74 (L:Nat)(x:(Int×Int)):Option (Int×Int):=g74 L x.1 x.2
theorem s74 (m:Y74)(hm:∀ (x:(Int×Int)) t,m x=some t->∃ L,w74 L x=some t):Sat prog cxT 74 (c74 m):=
 cF bC aX (by rfl) (fn:=f74) rfl a74 n74 aUw m aTx aW aQ (w74) (λL x=>e74 L x.1 x.2) hm aZo
def aTw (m104:Y104):Env cxT:={ Kc:=cR [(104,aHe m104)],Kw:=cQ [],lv:=λi=>[],xv:=λi=>none }
def G75 {B:Type}(u:S10->B)(m104:Y104)(a0_0:Int)(a0_1:Int)(a0_2:Int)(a0_3:Int)(a0_4:Int)(a0_5:Int)(a0_6:Int)(a0_7:Int)(a0_8:Int)(a0_9:Int):Option B:=
 cU (m104 (a0_1,(a0_2,(a0_3,(a0_4,(a0_5,(a0_6,(a0_7,(a0_8,a0_9))))))))) ((0:Int),(0:Int),(0:Int),(0:Int),(0:Int),(0:Int),(0:Int),(0:Int),(0:Int)) λ(q1:E9)=>some (u (a0_0,q1.1,q1.2.1,q1.2.2.1,q1.2.2.2.1,q1.2.2.2.2.1,q1.2.2.2.2.2.1,q1.2.2.2.2.2.2.1,q1.2.2.2.2.2.2.2.1,q1.2.2.2.2.2.2.2.2))
def g75 (m104:Y104)(L:Nat)(a0_0:Int)(a0_1:Int)(a0_2:Int)(a0_3:Int)(a0_4:Int)(a0_5:Int)(a0_6:Int)(a0_7:Int)(a0_8:Int)(a0_9:Int):Option S10:=G75 (λx=>x) m104 a0_0 a0_1 a0_2 a0_3 a0_4 a0_5 a0_6 a0_7 a0_8 a0_9
theorem e75 (m104:Y104)(L:Nat)(a0_0:Int)(a0_1:Int)(a0_2:Int)(a0_3:Int)(a0_4:Int)(a0_5:Int)(a0_6:Int)(a0_7:Int)(a0_8:Int)(a0_9:Int):fP prog (aTw m104) (bJ L) f75 (a75.enc (a0_0,a0_1,a0_2,a0_3,a0_4,a0_5,a0_6,a0_7,a0_8,a0_9))=(g75 m104 L a0_0 a0_1 a0_2 a0_3 a0_4 a0_5 a0_6 a0_7 a0_8 a0_9).map n75:=by
 refine .trans (b:=G75 n75 m104 a0_0 a0_1 a0_2 a0_3 a0_4 a0_5 a0_6 a0_7 a0_8 a0_9) (by kernel_rfl) ?_;unfold g75 G75
 repeat' first | with_reducible refine dP ?_ ?_ | with_reducible refine dL λ_=>?_ | with_reducible refine dO λ_=>?_ | exact rfl
def w75 (m104:Y104)(L:Nat)(x:S10):Option S10:=g75 m104 L x.1 x.2.1 x.2.2.1 x.2.2.2.1 x.2.2.2.2.1 x.2.2.2.2.2.1 x.2.2.2.2.2.2.1 x.2.2.2.2.2.2.2.1 x.2.2.2.2.2.2.2.2.1 x.2.2.2.2.2.2.2.2.2
theorem s75 (m104:Y104)(h104:Sat prog cxT 104 (aHe m104))(m:Y75)(hm:∀ (x:S10) t,m x=some t->∃ L,w75 m104 L x=some t):Sat prog cxT 75 (c75 m):=
 cF bC aX (by rfl) (fn:=f75) rfl a75 n75 aUv m (aTw m104) (aL h104 aW) aQ (w75 m104) (λL x=>e75 m104 L x.1 x.2.1 x.2.2.1 x.2.2.2.1 x.2.2.2.2.1 x.2.2.2.2.2.1 x.2.2.2.2.2.2.1 x.2.2.2.2.2.2.2.1 x.2.2.2.2.2.2.2.2.1 x.2.2.2.2.2.2.2.2.2) hm aZn
def aBG (mJ:Y72):Env cxT:={ Kc:=cR [(72,c72 mJ)],Kw:=cQ [],lv:=λi=>if i=0 then[(0,[some 88]),(3,[some 73]),(4,[])]else[],xv:=λi=>if i=0 then some [(3,[some 73])]else none }
def S38_0 (a0:(List N10))(v0_3:(List N10))(v0_4:Int):St cxT.ty:={ slots:=[(.inl (.inl (ls { own:=0,nm:=0,e:=88,o:=false,xs:=a0 }))),aJ,aJ,(.inl (.inl (ls { own:=1,nm:=192,e:=73,o:=true,xs:=v0_3 }))),(.inl (.inl (lv (.int .i64 v0_4))))]++List.replicate 18 aJ,D:=[],F:=[],ctr:=1 }
def X38_0 (a0:(List N10))(w0_3:(List N10)):St cxT.ty:={ slots:=[aJ,aJ,aJ,(.inl (.inl (ls { own:=1,nm:=192,e:=73,o:=true,xs:=w0_3 })))]++List.replicate 19 aJ,D:=[],F:=[],ctr:=1 }
def G38 {B:Type}(u:(List N10)->B)(hh0:(List N10)->Int->Option B)(mJ:Y72)(a0:(List N10)):Option B:=
 bif (((decide ((0:Int)<=(Nat.cast (List.length a0):Int)))&&(decide ((Nat.cast (List.length a0):Int)<=(Nat.cast (List.length a0):Int))))&&(decide ((Nat.cast (List.length a0):Int)<=(1000000000:Int))))then hh0 (List.replicate (Int.toNat (Nat.cast (List.length a0):Int)) ((0:Int),((0:Int),((0:Int),((0:Int),(([]:List E9),((0:Int),((0:Int),(([]:List (Int)),(([]:List (Int)),([]:List (Int)))))))))))) (0:Int)
 else none
def B38_0 {B:Type}(u:(List N10)->B)(gg:(List N10)->Int->Option B)(kk:(List N10)->Option B)(mJ:Y72)(a0:(List N10))(v0_3:(List N10))(v0_4:Int):Option B:=
 bif (decide (v0_4 < (Nat.cast (List.length a0):Int)))then dX (List.getD a0 v0_4.toNat ((0:Int),((0:Int),((0:Int),((0:Int),(([]:List E9),((0:Int),((0:Int),(([]:List (Int)),(([]:List (Int)),([]:List (Int)))))))))))) λs1_0=>bif ((decide ((0:Int)<=v0_4))&&(decide (v0_4 < (Nat.cast (List.length a0):Int))))then cU (mJ (s1_0.1,(s1_0.2.1,(s1_0.2.2.1,(s1_0.2.2.2.1,(s1_0.2.2.2.2.1,(s1_0.2.2.2.2.2.1,(s1_0.2.2.2.2.2.2.1,(s1_0.2.2.2.2.2.2.2.1,(s1_0.2.2.2.2.2.2.2.2.1,s1_0.2.2.2.2.2.2.2.2.2)))))))))) ((0:Int),(0:Int),(0:Int),(0:Int),[],(0:Int),(0:Int),[],[],[]) λ(q3:N10)=>bif ((decide ((0:Int)<=v0_4))&&(decide (v0_4 < (Nat.cast (List.length v0_3):Int))))then gg (List.set v0_3 v0_4.toNat (q3.1,(q3.2.1,(q3.2.2.1,(q3.2.2.2.1,(q3.2.2.2.2.1,(q3.2.2.2.2.2.1,(q3.2.2.2.2.2.2.1,(q3.2.2.2.2.2.2.2.1,(q3.2.2.2.2.2.2.2.2.1,q3.2.2.2.2.2.2.2.2.2)))))))))) (wrap .i64 (v0_4+(1:Int)))
    else none
  else none
 else kk v0_3
def A38_0 {B:Type}(u:(List N10)->B)(mJ:Y72)(a0:(List N10))(w0_3:(List N10)):Option B:=
 some (u w0_3)
def aAn (mJ:Y72)(L:Nat)(a0:(List N10)):Nat->(List N10)->Int->((List N10)->Option (List N10))->Option (List N10)
 | 0,_,_,_=>none
 | n+1,v0_3,v0_4,k=>B38_0 (λx=>x) (λv0_3 v0_4=>aAn mJ L a0 n v0_3 v0_4 k) k mJ a0 v0_3 v0_4
theorem aLP (mJ:Y72)(L:Nat)(a0:(List N10))(k:St cxT.ty->Option (V cxT.ty))(xk:Nat->St cxT.ty->Option (V cxT.ty))(k':(List N10)->Option (List N10))(hk:∀ (w0_3:(List N10)),k (X38_0 a0 w0_3)=(k' w0_3).map n38):∀ (n:Nat) (v0_3:(List N10)) (v0_4:Int),bA prog (aBG mJ) L f38 0 [1,1,0,1,0,0] (cB (aY prog f38) k xk) n (S38_0 a0 v0_3 v0_4)=(aAn mJ L a0 n v0_3 v0_4 k').map n38
 | 0,_,_=>rfl
 | n+1,v0_3,v0_4=>by
  rw[bQ];have ih:=aLP mJ L a0 k xk k' hk n;refine .trans (b:=B38_0 n38 (λv0_3 v0_4=>(bA prog (aBG mJ) L f38 0 [1,1,0,1,0,0] (cB (aY prog f38) k xk) n) (S38_0 a0 v0_3 v0_4)) (λw0_3=>k (X38_0 a0 w0_3)) mJ a0 v0_3 v0_4) (by kernel_rfl) ?_;unfold aAn B38_0
  repeat' first | with_reducible refine dP ?_ ?_ | with_reducible refine dL λ_=>?_ | with_reducible refine dO λ_=>?_ | with_reducible exact ih _ _ | with_reducible exact hk _ | exact rfl
def g38 (mJ:Y72)(L:Nat)(a0:(List N10)):Option (List N10):=G38 (λx=>x) (λv0_3 v0_4=>aAn mJ L a0 L v0_3 v0_4 (λw0_3=>A38_0 (λx=>x) mJ a0 w0_3)) mJ a0
theorem e38 (mJ:Y72)(L:Nat)(a0:(List N10)):fP prog (aBG mJ) (bJ L) f38 (a38.enc a0)=(g38 mJ L a0).map n38:=by
 have hin0:∀ (v0_3:(List N10)) (v0_4:Int),bA prog (aBG mJ) L f38 0 [1,1,0,1,0,0] (cB (aY prog f38) (cA prog (aBG mJ) L f38 [1,1,0,1] (aY prog f38)).n (cA prog (aBG mJ) L f38 [1,1,0,1] (aY prog f38)).x) L (S38_0 a0 v0_3 v0_4)=((λv0_3 v0_4=>aAn mJ L a0 L v0_3 v0_4 (λw0_3=>A38_0 (λx=>x) mJ a0 w0_3)) v0_3 v0_4).map n38:=λv0_3 v0_4=>aLP mJ L a0 _ _ _ (λw0_3=>by refine .trans (b:=A38_0 n38 mJ a0 w0_3) (by kernel_rfl) ?_;unfold A38_0;repeat' first | with_reducible refine dP ?_ ?_ | with_reducible refine dL λ_=>?_ | with_reducible refine dO λ_=>?_ | exact rfl) L v0_3 v0_4
 refine .trans (b:=G38 n38 (λv0_3 v0_4=>bA prog (aBG mJ) L f38 0 [1,1,0,1,0,0] (cB (aY prog f38) (cA prog (aBG mJ) L f38 [1,1,0,1] (aY prog f38)).n (cA prog (aBG mJ) L f38 [1,1,0,1] (aY prog f38)).x) L (S38_0 a0 v0_3 v0_4)) mJ a0) (by kernel_rfl) ?_;unfold g38 G38
 repeat' first | with_reducible refine dP ?_ ?_ | with_reducible refine dL λ_=>?_ | with_reducible refine dO λ_=>?_ | with_reducible exact hin0 _ _ | exact rfl
def w38 (mJ:Y72)(L:Nat)(x:(List N10)):Option (List N10):=g38 mJ L x
theorem s38 (mJ:Y72)(h72:Sat prog cxT 72 (c72 mJ))(m:Y38)(hm:∀ (x:(List N10)) t,m x=some t->∃ L,w38 mJ L x=some t):Sat prog cxT 38 (c38 m):=
 cF bC aX (by rfl) (fn:=f38) rfl a38 n38 aUW m (aBG mJ) (aL h72 aW) aQ (w38 mJ) (λL x=>e38 mJ L x) hm aZP
def aBF (mI:Y73):Env cxT:={ Kc:=cR [(73,c73 mI)],Kw:=cQ [],lv:=λi=>if i=0 then[(0,[some 91]),(3,[some 96]),(4,[])]else[],xv:=λi=>if i=0 then some [(3,[some 96])]else none }
def S39_0 (a0:(List M9))(v0_3:(List M9))(v0_4:Int):St cxT.ty:={ slots:=[(.inl (.inl (ls { own:=0,nm:=0,e:=91,o:=false,xs:=a0 }))),aJ,aJ,(.inl (.inl (ls { own:=1,nm:=192,e:=96,o:=true,xs:=v0_3 }))),(.inl (.inl (lv (.int .i64 v0_4))))]++List.replicate 18 aJ,D:=[],F:=[],ctr:=1 }
def X39_0 (a0:(List M9))(w0_3:(List M9)):St cxT.ty:={ slots:=[aJ,aJ,aJ,(.inl (.inl (ls { own:=1,nm:=192,e:=96,o:=true,xs:=w0_3 })))]++List.replicate 19 aJ,D:=[],F:=[],ctr:=1 }
def G39 {B:Type}(u:(List M9)->B)(hh0:(List M9)->Int->Option B)(mI:Y73)(a0:(List M9)):Option B:=
 bif (((decide ((0:Int)<=(Nat.cast (List.length a0):Int)))&&(decide ((Nat.cast (List.length a0):Int)<=(Nat.cast (List.length a0):Int))))&&(decide ((Nat.cast (List.length a0):Int)<=(1000000000:Int))))then hh0 (List.replicate (Int.toNat (Nat.cast (List.length a0):Int)) ((0:Int),((0:Int),((0:Int),((0:Int),((0:Int),((0:Int),((0:Int),(false,[]))))))))) (0:Int)
 else none
def B39_0 {B:Type}(u:(List M9)->B)(gg:(List M9)->Int->Option B)(kk:(List M9)->Option B)(mI:Y73)(a0:(List M9))(v0_3:(List M9))(v0_4:Int):Option B:=
 bif (decide (v0_4 < (Nat.cast (List.length a0):Int)))then dX (List.getD a0 v0_4.toNat ((0:Int),((0:Int),((0:Int),((0:Int),((0:Int),((0:Int),((0:Int),(false,[]))))))))) λs1_0=>bif ((decide ((0:Int)<=v0_4))&&(decide (v0_4 < (Nat.cast (List.length a0):Int))))then cU (mI (s1_0.1,(s1_0.2.1,(s1_0.2.2.1,(s1_0.2.2.2.1,(s1_0.2.2.2.2.1,(s1_0.2.2.2.2.2.1,(s1_0.2.2.2.2.2.2.1,(s1_0.2.2.2.2.2.2.2.1,s1_0.2.2.2.2.2.2.2.2))))))))) ((0:Int),(0:Int),(0:Int),(0:Int),(0:Int),(0:Int),(0:Int),false,[]) λ(q3:M9)=>bif ((decide ((0:Int)<=v0_4))&&(decide (v0_4 < (Nat.cast (List.length v0_3):Int))))then gg (List.set v0_3 v0_4.toNat (q3.1,(q3.2.1,(q3.2.2.1,(q3.2.2.2.1,(q3.2.2.2.2.1,(q3.2.2.2.2.2.1,(q3.2.2.2.2.2.2.1,(q3.2.2.2.2.2.2.2.1,q3.2.2.2.2.2.2.2.2))))))))) (wrap .i64 (v0_4+(1:Int)))
    else none
  else none
 else kk v0_3
def A39_0 {B:Type}(u:(List M9)->B)(mI:Y73)(a0:(List M9))(w0_3:(List M9)):Option B:=
 some (u w0_3)
def aAm (mI:Y73)(L:Nat)(a0:(List M9)):Nat->(List M9)->Int->((List M9)->Option (List M9))->Option (List M9)
 | 0,_,_,_=>none
 | n+1,v0_3,v0_4,k=>B39_0 (λx=>x) (λv0_3 v0_4=>aAm mI L a0 n v0_3 v0_4 k) k mI a0 v0_3 v0_4
theorem aLO (mI:Y73)(L:Nat)(a0:(List M9))(k:St cxT.ty->Option (V cxT.ty))(xk:Nat->St cxT.ty->Option (V cxT.ty))(k':(List M9)->Option (List M9))(hk:∀ (w0_3:(List M9)),k (X39_0 a0 w0_3)=(k' w0_3).map n39):∀ (n:Nat) (v0_3:(List M9)) (v0_4:Int),bA prog (aBF mI) L f39 0 [1,1,0,1,0,0] (cB (aY prog f39) k xk) n (S39_0 a0 v0_3 v0_4)=(aAm mI L a0 n v0_3 v0_4 k').map n39
 | 0,_,_=>rfl
 | n+1,v0_3,v0_4=>by
  rw[bQ];have ih:=aLO mI L a0 k xk k' hk n;refine .trans (b:=B39_0 n39 (λv0_3 v0_4=>(bA prog (aBF mI) L f39 0 [1,1,0,1,0,0] (cB (aY prog f39) k xk) n) (S39_0 a0 v0_3 v0_4)) (λw0_3=>k (X39_0 a0 w0_3)) mI a0 v0_3 v0_4) (by kernel_rfl) ?_;unfold aAm B39_0
  repeat' first | with_reducible refine dP ?_ ?_ | with_reducible refine dL λ_=>?_ | with_reducible refine dO λ_=>?_ | with_reducible exact ih _ _ | with_reducible exact hk _ | exact rfl
def g39 (mI:Y73)(L:Nat)(a0:(List M9)):Option (List M9):=G39 (λx=>x) (λv0_3 v0_4=>aAm mI L a0 L v0_3 v0_4 (λw0_3=>A39_0 (λx=>x) mI a0 w0_3)) mI a0
theorem e39 (mI:Y73)(L:Nat)(a0:(List M9)):fP prog (aBF mI) (bJ L) f39 (a39.enc a0)=(g39 mI L a0).map n39:=by
 have hin0:∀ (v0_3:(List M9)) (v0_4:Int),bA prog (aBF mI) L f39 0 [1,1,0,1,0,0] (cB (aY prog f39) (cA prog (aBF mI) L f39 [1,1,0,1] (aY prog f39)).n (cA prog (aBF mI) L f39 [1,1,0,1] (aY prog f39)).x) L (S39_0 a0 v0_3 v0_4)=((λv0_3 v0_4=>aAm mI L a0 L v0_3 v0_4 (λw0_3=>A39_0 (λx=>x) mI a0 w0_3)) v0_3 v0_4).map n39:=λv0_3 v0_4=>aLO mI L a0 _ _ _ (λw0_3=>by refine .trans (b:=A39_0 n39 mI a0 w0_3) (by kernel_rfl) ?_;unfold A39_0;repeat' first | with_reducible refine dP ?_ ?_ | with_reducible refine dL λ_=>?_ | with_reducible refine dO λ_=>?_ | exact rfl) L v0_3 v0_4
 refine .trans (b:=G39 n39 (λv0_3 v0_4=>bA prog (aBF mI) L f39 0 [1,1,0,1,0,0] (cB (aY prog f39) (cA prog (aBF mI) L f39 [1,1,0,1] (aY prog f39)).n (cA prog (aBF mI) L f39 [1,1,0,1] (aY prog f39)).x) L (S39_0 a0 v0_3 v0_4)) mI a0) (by kernel_rfl) ?_;unfold g39 G39
 repeat' first | with_reducible refine dP ?_ ?_ | with_reducible refine dL λ_=>?_ | with_reducible refine dO λ_=>?_ | with_reducible exact hin0 _ _ | exact rfl
def w39 (mI:Y73)(L:Nat)(x:(List M9)):Option (List M9):=g39 mI L x
theorem s39 (mI:Y73)(h73:Sat prog cxT 73 (c73 mI))(m:Y39)(hm:∀ (x:(List M9)) t,m x=some t->∃ L,w39 mI L x=some t):Sat prog cxT 39 (c39 m):=
 cF bC aX (by rfl) (fn:=f39) rfl a39 n39 aUV m (aBF mI) (aL h73 aW) aQ (w39 mI) (λL x=>e39 mI L x) hm aZO
def aBE (mY:Y74):Env cxT:={ Kc:=cR [(74,c74 mY)],Kw:=cQ [],lv:=λi=>if i=0 then[(0,[some 109]),(3,[some 64]),(4,[])]else[],xv:=λi=>if i=0 then some [(3,[some 64])]else none }
def S40_0 (a0:(List W2))(v0_3:(List W2))(v0_4:Int):St cxT.ty:={ slots:=[(.inl (.inl (ls { own:=0,nm:=0,e:=109,o:=false,xs:=a0 }))),aJ,aJ,(.inl (.inl (ls { own:=1,nm:=192,e:=64,o:=true,xs:=v0_3 }))),(.inl (.inl (lv (.int .i64 v0_4))))]++List.replicate 18 aJ,D:=[],F:=[],ctr:=1 }
def X40_0 (a0:(List W2))(w0_3:(List W2)):St cxT.ty:={ slots:=[aJ,aJ,aJ,(.inl (.inl (ls { own:=1,nm:=192,e:=64,o:=true,xs:=w0_3 })))]++List.replicate 19 aJ,D:=[],F:=[],ctr:=1 }
def G40 {B:Type}(u:(List W2)->B)(hh0:(List W2)->Int->Option B)(mY:Y74)(a0:(List W2)):Option B:=
 bif (((decide ((0:Int)<=(Nat.cast (List.length a0):Int)))&&(decide ((Nat.cast (List.length a0):Int)<=(Nat.cast (List.length a0):Int))))&&(decide ((Nat.cast (List.length a0):Int)<=(1000000000:Int))))then hh0 (List.replicate (Int.toNat (Nat.cast (List.length a0):Int)) ((0:Int),(0:Int))) (0:Int)
 else none
def B40_0 {B:Type}(u:(List W2)->B)(gg:(List W2)->Int->Option B)(kk:(List W2)->Option B)(mY:Y74)(a0:(List W2))(v0_3:(List W2))(v0_4:Int):Option B:=
 bif (decide (v0_4 < (Nat.cast (List.length a0):Int)))then dX (List.getD a0 v0_4.toNat ((0:Int),(0:Int))) λs1_0=>bif ((decide ((0:Int)<=v0_4))&&(decide (v0_4 < (Nat.cast (List.length a0):Int))))then cU (mY (s1_0.1,s1_0.2)) ((0:Int),(0:Int)) λ(q3:(Int×Int))=>bif ((decide ((0:Int)<=v0_4))&&(decide (v0_4 < (Nat.cast (List.length v0_3):Int))))then gg (List.set v0_3 v0_4.toNat (q3.1,q3.2)) (wrap .i64 (v0_4+(1:Int)))
    else none
  else none
 else kk v0_3
def A40_0 {B:Type}(u:(List W2)->B)(mY:Y74)(a0:(List W2))(w0_3:(List W2)):Option B:=
 some (u w0_3)
def aAl (mY:Y74)(L:Nat)(a0:(List W2)):Nat->(List W2)->Int->((List W2)->Option (List W2))->Option (List W2)
 | 0,_,_,_=>none
 | n+1,v0_3,v0_4,k=>B40_0 (λx=>x) (λv0_3 v0_4=>aAl mY L a0 n v0_3 v0_4 k) k mY a0 v0_3 v0_4
theorem aLN (mY:Y74)(L:Nat)(a0:(List W2))(k:St cxT.ty->Option (V cxT.ty))(xk:Nat->St cxT.ty->Option (V cxT.ty))(k':(List W2)->Option (List W2))(hk:∀ (w0_3:(List W2)),k (X40_0 a0 w0_3)=(k' w0_3).map n40):∀ (n:Nat) (v0_3:(List W2)) (v0_4:Int),bA prog (aBE mY) L f40 0 [1,1,0,1,0,0] (cB (aY prog f40) k xk) n (S40_0 a0 v0_3 v0_4)=(aAl mY L a0 n v0_3 v0_4 k').map n40
 | 0,_,_=>rfl
 | n+1,v0_3,v0_4=>by
  rw[bQ];have ih:=aLN mY L a0 k xk k' hk n;refine .trans (b:=B40_0 n40 (λv0_3 v0_4=>(bA prog (aBE mY) L f40 0 [1,1,0,1,0,0] (cB (aY prog f40) k xk) n) (S40_0 a0 v0_3 v0_4)) (λw0_3=>k (X40_0 a0 w0_3)) mY a0 v0_3 v0_4) (by kernel_rfl) ?_;unfold aAl B40_0
  repeat' first | with_reducible refine dP ?_ ?_ | with_reducible refine dL λ_=>?_ | with_reducible refine dO λ_=>?_ | with_reducible exact ih _ _ | with_reducible exact hk _ | exact rfl
def g40 (mY:Y74)(L:Nat)(a0:(List W2)):Option (List W2):=G40 (λx=>x) (λv0_3 v0_4=>aAl mY L a0 L v0_3 v0_4 (λw0_3=>A40_0 (λx=>x) mY a0 w0_3)) mY a0
theorem e40 (mY:Y74)(L:Nat)(a0:(List W2)):fP prog (aBE mY) (bJ L) f40 (a40.enc a0)=(g40 mY L a0).map n40:=by
 have hin0:∀ (v0_3:(List W2)) (v0_4:Int),bA prog (aBE mY) L f40 0 [1,1,0,1,0,0] (cB (aY prog f40) (cA prog (aBE mY) L f40 [1,1,0,1] (aY prog f40)).n (cA prog (aBE mY) L f40 [1,1,0,1] (aY prog f40)).x) L (S40_0 a0 v0_3 v0_4)=((λv0_3 v0_4=>aAl mY L a0 L v0_3 v0_4 (λw0_3=>A40_0 (λx=>x) mY a0 w0_3)) v0_3 v0_4).map n40:=λv0_3 v0_4=>aLN mY L a0 _ _ _ (λw0_3=>by refine .trans (b:=A40_0 n40 mY a0 w0_3) (by kernel_rfl) ?_;unfold A40_0;repeat' first | with_reducible refine dP ?_ ?_ | with_reducible refine dL λ_=>?_ | with_reducible refine dO λ_=>?_ | exact rfl) L v0_3 v0_4
 refine .trans (b:=G40 n40 (λv0_3 v0_4=>bA prog (aBE mY) L f40 0 [1,1,0,1,0,0] (cB (aY prog f40) (cA prog (aBE mY) L f40 [1,1,0,1] (aY prog f40)).n (cA prog (aBE mY) L f40 [1,1,0,1] (aY prog f40)).x) L (S40_0 a0 v0_3 v0_4)) mY a0) (by kernel_rfl) ?_;unfold g40 G40
 repeat' first | with_reducible refine dP ?_ ?_ | with_reducible refine dL λ_=>?_ | with_reducible refine dO λ_=>?_ | with_reducible exact hin0 _ _ | exact rfl
def w40 (mY:Y74)(L:Nat)(x:(List W2)):Option (List W2):=g40 mY L x
theorem s40 (mY:Y74)(h74:Sat prog cxT 74 (c74 mY))(m:Y40)(hm:∀ (x:(List W2)) t,m x=some t->∃ L,w40 mY L x=some t):Sat prog cxT 40 (c40 m):=
 cF bC aX (by rfl) (fn:=f40) rfl a40 n40 aUU m (aBE mY) (aL h74 aW) aQ (w40 mY) (λL x=>e40 mY L x) hm aZN
def aBD (mX:Y75):Env cxT:={ Kc:=cR [(75,c75 mX)],Kw:=cQ [],lv:=λi=>if i=0 then[(0,[some 115]),(3,[some 104]),(4,[])]else[],xv:=λi=>if i=0 then some [(3,[some 104])]else none }
def S41_0 (a0:(List S10))(v0_3:(List S10))(v0_4:Int):St cxT.ty:={ slots:=[(.inl (.inl (ls { own:=0,nm:=0,e:=115,o:=false,xs:=a0 }))),aJ,aJ,(.inl (.inl (ls { own:=1,nm:=192,e:=104,o:=true,xs:=v0_3 }))),(.inl (.inl (lv (.int .i64 v0_4))))]++List.replicate 18 aJ,D:=[],F:=[],ctr:=1 }
def X41_0 (a0:(List S10))(w0_3:(List S10)):St cxT.ty:={ slots:=[aJ,aJ,aJ,(.inl (.inl (ls { own:=1,nm:=192,e:=104,o:=true,xs:=w0_3 })))]++List.replicate 19 aJ,D:=[],F:=[],ctr:=1 }
def G41 {B:Type}(u:(List S10)->B)(hh0:(List S10)->Int->Option B)(mX:Y75)(a0:(List S10)):Option B:=
 bif (((decide ((0:Int)<=(Nat.cast (List.length a0):Int)))&&(decide ((Nat.cast (List.length a0):Int)<=(Nat.cast (List.length a0):Int))))&&(decide ((Nat.cast (List.length a0):Int)<=(1000000000:Int))))then hh0 (List.replicate (Int.toNat (Nat.cast (List.length a0):Int)) ((0:Int),((0:Int),((0:Int),((0:Int),((0:Int),((0:Int),((0:Int),((0:Int),((0:Int),(0:Int))))))))))) (0:Int)
 else none
def B41_0 {B:Type}(u:(List S10)->B)(gg:(List S10)->Int->Option B)(kk:(List S10)->Option B)(mX:Y75)(a0:(List S10))(v0_3:(List S10))(v0_4:Int):Option B:=
 bif (decide (v0_4 < (Nat.cast (List.length a0):Int)))then dX (List.getD a0 v0_4.toNat ((0:Int),((0:Int),((0:Int),((0:Int),((0:Int),((0:Int),((0:Int),((0:Int),((0:Int),(0:Int))))))))))) λs1_0=>bif ((decide ((0:Int)<=v0_4))&&(decide (v0_4 < (Nat.cast (List.length a0):Int))))then cU (mX (s1_0.1,(s1_0.2.1,(s1_0.2.2.1,(s1_0.2.2.2.1,(s1_0.2.2.2.2.1,(s1_0.2.2.2.2.2.1,(s1_0.2.2.2.2.2.2.1,(s1_0.2.2.2.2.2.2.2.1,(s1_0.2.2.2.2.2.2.2.2.1,s1_0.2.2.2.2.2.2.2.2.2)))))))))) ((0:Int),(0:Int),(0:Int),(0:Int),(0:Int),(0:Int),(0:Int),(0:Int),(0:Int),(0:Int)) λ(q3:S10)=>bif ((decide ((0:Int)<=v0_4))&&(decide (v0_4 < (Nat.cast (List.length v0_3):Int))))then gg (List.set v0_3 v0_4.toNat (q3.1,(q3.2.1,(q3.2.2.1,(q3.2.2.2.1,(q3.2.2.2.2.1,(q3.2.2.2.2.2.1,(q3.2.2.2.2.2.2.1,(q3.2.2.2.2.2.2.2.1,(q3.2.2.2.2.2.2.2.2.1,q3.2.2.2.2.2.2.2.2.2)))))))))) (wrap .i64 (v0_4+(1:Int)))
    else none
  else none
 else kk v0_3
def A41_0 {B:Type}(u:(List S10)->B)(mX:Y75)(a0:(List S10))(w0_3:(List S10)):Option B:=
 some (u w0_3)
def aAk (mX:Y75)(L:Nat)(a0:(List S10)):Nat->(List S10)->Int->((List S10)->Option (List S10))->Option (List S10)
 | 0,_,_,_=>none
 | n+1,v0_3,v0_4,k=>B41_0 (λx=>x) (λv0_3 v0_4=>aAk mX L a0 n v0_3 v0_4 k) k mX a0 v0_3 v0_4
theorem aLM (mX:Y75)(L:Nat)(a0:(List S10))(k:St cxT.ty->Option (V cxT.ty))(xk:Nat->St cxT.ty->Option (V cxT.ty))(k':(List S10)->Option (List S10))(hk:∀ (w0_3:(List S10)),k (X41_0 a0 w0_3)=(k' w0_3).map n41):∀ (n:Nat) (v0_3:(List S10)) (v0_4:Int),bA prog (aBD mX) L f41 0 [1,1,0,1,0,0] (cB (aY prog f41) k xk) n (S41_0 a0 v0_3 v0_4)=(aAk mX L a0 n v0_3 v0_4 k').map n41
 | 0,_,_=>rfl
 | n+1,v0_3,v0_4=>by
  rw[bQ];have ih:=aLM mX L a0 k xk k' hk n;refine .trans (b:=B41_0 n41 (λv0_3 v0_4=>(bA prog (aBD mX) L f41 0 [1,1,0,1,0,0] (cB (aY prog f41) k xk) n) (S41_0 a0 v0_3 v0_4)) (λw0_3=>k (X41_0 a0 w0_3)) mX a0 v0_3 v0_4) (by kernel_rfl) ?_;unfold aAk B41_0
  repeat' first | with_reducible refine dP ?_ ?_ | with_reducible refine dL λ_=>?_ | with_reducible refine dO λ_=>?_ | with_reducible exact ih _ _ | with_reducible exact hk _ | exact rfl
def g41 (mX:Y75)(L:Nat)(a0:(List S10)):Option (List S10):=G41 (λx=>x) (λv0_3 v0_4=>aAk mX L a0 L v0_3 v0_4 (λw0_3=>A41_0 (λx=>x) mX a0 w0_3)) mX a0
theorem e41 (mX:Y75)(L:Nat)(a0:(List S10)):fP prog (aBD mX) (bJ L) f41 (a41.enc a0)=(g41 mX L a0).map n41:=by
 have hin0:∀ (v0_3:(List S10)) (v0_4:Int),bA prog (aBD mX) L f41 0 [1,1,0,1,0,0] (cB (aY prog f41) (cA prog (aBD mX) L f41 [1,1,0,1] (aY prog f41)).n (cA prog (aBD mX) L f41 [1,1,0,1] (aY prog f41)).x) L (S41_0 a0 v0_3 v0_4)=((λv0_3 v0_4=>aAk mX L a0 L v0_3 v0_4 (λw0_3=>A41_0 (λx=>x) mX a0 w0_3)) v0_3 v0_4).map n41:=λv0_3 v0_4=>aLM mX L a0 _ _ _ (λw0_3=>by refine .trans (b:=A41_0 n41 mX a0 w0_3) (by kernel_rfl) ?_;unfold A41_0;repeat' first | with_reducible refine dP ?_ ?_ | with_reducible refine dL λ_=>?_ | with_reducible refine dO λ_=>?_ | exact rfl) L v0_3 v0_4
 refine .trans (b:=G41 n41 (λv0_3 v0_4=>bA prog (aBD mX) L f41 0 [1,1,0,1,0,0] (cB (aY prog f41) (cA prog (aBD mX) L f41 [1,1,0,1] (aY prog f41)).n (cA prog (aBD mX) L f41 [1,1,0,1] (aY prog f41)).x) L (S41_0 a0 v0_3 v0_4)) mX a0) (by kernel_rfl) ?_;unfold g41 G41
 repeat' first | with_reducible refine dP ?_ ?_ | with_reducible refine dL λ_=>?_ | with_reducible refine dO λ_=>?_ | with_reducible exact hin0 _ _ | exact rfl
def w41 (mX:Y75)(L:Nat)(x:(List S10)):Option (List S10):=g41 mX L x
theorem s41 (mX:Y75)(h75:Sat prog cxT 75 (c75 mX))(m:Y41)(hm:∀ (x:(List S10)) t,m x=some t->∃ L,w41 mX L x=some t):Sat prog cxT 41 (c41 m):=
 cF bC aX (by rfl) (fn:=f41) rfl a41 n41 aUT m (aBD mX) (aL h75 aW) aQ (w41 mX) (λL x=>e41 mX L x) hm aZM
def aTQ (yO:Y38)(yN:Y39)(yM:Y40)(yL:Y41):Env cxT:={ Kc:=cR [(38,c38 yO),(39,c39 yN),(40,c40 yM),(41,c41 yL)],Kw:=cQ [],lv:=λi=>[],xv:=λi=>none }
def G12 {B:Type}(u:C4->B)(yO:Y38)(yN:Y39)(yM:Y40)(yL:Y41)(a0_0:(List N10))(a0_1:(List M9))(a0_2:(List W2))(a0_3:(List S10)):Option B:=
 cU (yO a0_0) [] λ(q1:(List N10))=>cU (yN a0_1) [] λ(q2:(List M9))=>cU (yM a0_2) [] λ(q3:(List W2))=>cU (yL a0_3) [] λ(q4:(List S10))=>some (u (q1,q2,q3,q4))
def g12 (yO:Y38)(yN:Y39)(yM:Y40)(yL:Y41)(L:Nat)(a0_0:(List N10))(a0_1:(List M9))(a0_2:(List W2))(a0_3:(List S10)):Option C4:=G12 (λx=>x) yO yN yM yL a0_0 a0_1 a0_2 a0_3
theorem e12 (yO:Y38)(yN:Y39)(yM:Y40)(yL:Y41)(L:Nat)(a0_0:(List N10))(a0_1:(List M9))(a0_2:(List W2))(a0_3:(List S10)):fP prog (aTQ yO yN yM yL) (bJ L) f12 (a12.enc (a0_0,a0_1,a0_2,a0_3))=(g12 yO yN yM yL L a0_0 a0_1 a0_2 a0_3).map n12:=by
 refine .trans (b:=G12 n12 yO yN yM yL a0_0 a0_1 a0_2 a0_3) (by kernel_rfl) ?_;unfold g12 G12
 repeat' first | with_reducible refine dP ?_ ?_ | with_reducible refine dL λ_=>?_ | with_reducible refine dO λ_=>?_ | exact rfl
def w12 (yO:Y38)(yN:Y39)(yM:Y40)(yL:Y41)(L:Nat)(x:C4):Option C4:=g12 yO yN yM yL L x.1 x.2.1 x.2.2.1 x.2.2.2
theorem s12 (yO:Y38)(yN:Y39)(yM:Y40)(yL:Y41)(h38:Sat prog cxT 38 (c38 yO))(h39:Sat prog cxT 39 (c39 yN))(h40:Sat prog cxT 40 (c40 yM))(h41:Sat prog cxT 41 (c41 yL))(m:Y12)(hm:∀ (x:C4) t,m x=some t->∃ L,w12 yO yN yM yL L x=some t):Sat prog cxT 12 (c12 m):=
 cF bC aX (by rfl) (fn:=f12) rfl a12 n12 aVc m (aTQ yO yN yM yL) (aL h38 (aL h39 (aL h40 (aL h41 aW)))) aQ (w12 yO yN yM yL) (λL x=>e12 yO yN yM yL L x.1 x.2.1 x.2.2.1 x.2.2.2) hm aZ4
end Go.Proofs.Tryz
set_option maxHeartbeats 0
set_option maxRecDepth 100000
namespace Go.Proofs.Tryz
open Go.IntKind (wrap)
open Go Go.VM Go.RowKit
def aMi:Env cxT:={ Kc:=cR [],Kw:=cQ [],lv:=λi=>[],xv:=λi=>none }
def G121 {B:Type}(u:(Int×Int×Int×Int×Int×Int)->B)(a0_0:Int)(a0_1:Int)(a0_2:Int)(a0_3:Int)(a0_4:Int)(a0_5:Int):Option B:=
 some (u (a0_0,a0_1,a0_2,a0_3,a0_4,a0_5))
def aPb (L:Nat)(a0_0:Int)(a0_1:Int)(a0_2:Int)(a0_3:Int)(a0_4:Int)(a0_5:Int):Option (Int×Int×Int×Int×Int×Int):=G121 (λx=>x) a0_0 a0_1 a0_2 a0_3 a0_4 a0_5
theorem bA4 (L:Nat)(a0_0:Int)(a0_1:Int)(a0_2:Int)(a0_3:Int)(a0_4:Int)(a0_5:Int):fP prog aMi (bJ L) f121 (aWf.enc (a0_0,a0_1,a0_2,a0_3,a0_4,a0_5))=(aPb L a0_0 a0_1 a0_2 a0_3 a0_4 a0_5).map aGI:=by
 refine .trans (b:=G121 aGI a0_0 a0_1 a0_2 a0_3 a0_4 a0_5) (by kernel_rfl) ?_;unfold aPb G121
 repeat' first | with_reducible refine dP ?_ ?_ | with_reducible refine dL λ_=>?_ | with_reducible refine dO λ_=>?_ | exact rfl
def aQx (L:Nat)(x:(Int×Int×Int×Int×Int×Int)):Option (Int×Int×Int×Int×Int×Int):=aPb L x.1 x.2.1 x.2.2.1 x.2.2.2.1 x.2.2.2.2.1 x.2.2.2.2.2
theorem aYo (m:Y121)(hm:∀ (x:(Int×Int×Int×Int×Int×Int)) t,m x=some t->∃ L,aQx L x=some t):Sat prog cxT 121 (aKO m):=
 cF bC aX (by rfl) (fn:=f121) rfl aWf aGI aM2 m aMi aW aQ (aQx) (λL x=>bA4 L x.1 x.2.1 x.2.2.1 x.2.2.2.1 x.2.2.2.2.1 x.2.2.2.2.2) hm aSh
end Go.Proofs.Tryz
