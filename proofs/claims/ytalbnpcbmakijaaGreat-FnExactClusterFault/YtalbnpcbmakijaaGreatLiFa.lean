/- A part of the proof of FnExactClusterFault: LiFa, LiFb, LiFj. -/
import Derived.Test.YtalbnpcbmakijaaGreatLiBase
set_option linter.unusedSimpArgs false
set_option linter.unusedVariables false
set_option maxHeartbeats 0
set_option maxRecDepth 100000
namespace Go.Proofs.Tryz
open Go.IntKind (wrap)
open Go Go.VM Go.RowKit
def aKo:Env cxT:={ Kc:=dD [],Kw:=dF [],lv:=λi=>[],xv:=λi=>none }
def G133 {B:Type}(u:Int->B)(a0:(List E9))(a1:Int):Option B:=
 bif (decide ((wrap .i64 (a1-(Nat.cast (List.length a0):Int))) < (0:Int)))then some (u (-(1:Int)))
 else some (u (wrap .i64 (a1-(Nat.cast (List.length a0):Int))))
def aNv (L:Nat)(a0:(List E9))(a1:Int):Option Int:=G133 (λx=>x) a0 a1
theorem aXH (L:Nat)(a0:(List E9))(a1:Int):fP prog aKo (bO L) f133 (aTE.enc (a0,a1))=(aNv L a0 a1).map aFu:=by
 refine .trans (b:=G133 aFu a0 a1) (by kernel_rfl) ?_;unfold aNv G133
 repeat' first | with_reducible refine eC ?_ ?_ | with_reducible refine eA λ_=>?_ | with_reducible refine eB λ_=>?_ | exact rfl
def aOH (L:Nat)(x:((List E9)×Int)):Option Int:=aNv L x.1 x.2
theorem aVv (m:Y133)(hm:∀ (x:((List E9)×Int)) t,m x=some t->∃ L,aOH L x=some t):Sat prog cxT 133 (aFQ m):=
 cF bD aZ (by rfl) (fn:=f133) rfl aTE aFu aLm m aKo aY aR (aOH) (λL x=>aXH L x.1 x.2) hm aQs
def aKn:Env cxT:={ Kc:=dD [],Kw:=dF [],lv:=λi=>[],xv:=λi=>none }
def G134 {B:Type}(u:Int->B)(a0:(List Int))(a1:Int):Option B:=
 bif (decide ((wrap .i64 (a1-(Nat.cast (List.length a0):Int))) < (0:Int)))then some (u (-(1:Int)))
 else some (u (wrap .i64 (a1-(Nat.cast (List.length a0):Int))))
def aNu (L:Nat)(a0:(List Int))(a1:Int):Option Int:=G134 (λx=>x) a0 a1
theorem aXG (L:Nat)(a0:(List Int))(a1:Int):fP prog aKn (bO L) f134 (aTD.enc (a0,a1))=(aNu L a0 a1).map aFt:=by
 refine .trans (b:=G134 aFt a0 a1) (by kernel_rfl) ?_;unfold aNu G134
 repeat' first | with_reducible refine eC ?_ ?_ | with_reducible refine eA λ_=>?_ | with_reducible refine eB λ_=>?_ | exact rfl
def aOG (L:Nat)(x:((List Int)×Int)):Option Int:=aNu L x.1 x.2
theorem aVu (m:Y134)(hm:∀ (x:((List Int)×Int)) t,m x=some t->∃ L,aOG L x=some t):Sat prog cxT 134 (aI6 m):=
 cF bD aZ (by rfl) (fn:=f134) rfl aTD aFt aLl m aKn aY aR (aOG) (λL x=>aXG L x.1 x.2) hm aQr
def aRa (gG:Y133)(jT:Y134):Env cxT:={ Kc:=dD [(133,aFQ gG),(134,aI6 jT)],Kw:=dF [],lv:=λi=>[],xv:=λi=>none }
def G83 {B:Type}(u:Int->B)(gG:Y133)(jT:Y134)(a0_0:Int)(a0_1:Int)(a0_2:Int)(a0_3:Int)(a0_4:(List E9))(a0_5:Int)(a0_6:Int)(a0_7:(List Int))(a0_8:(List Int))(a0_9:(List Int))(a1:Int):Option B:=
 dL (gG (a0_4,a1)) (0:Int) λ(q1:Int)=>bif (decide (q1 < (0:Int)))then some (u (-(1:Int)))
  else dL (jT (a0_7,q1)) (0:Int) λ(q2:Int)=>bif (decide (q2 < (0:Int)))then some (u (-(1:Int)))
   else dL (jT (a0_8,q2)) (0:Int) λ(q3:Int)=>bif (decide (q3 < (0:Int)))then some (u (-(1:Int)))
    else dL (jT (a0_9,q3)) (0:Int) λ(q4:Int)=>bif (decide (q4 < (0:Int)))then some (u (-(1:Int)))
     else some (u q4)
def g83 (gG:Y133)(jT:Y134)(L:Nat)(a0_0:Int)(a0_1:Int)(a0_2:Int)(a0_3:Int)(a0_4:(List E9))(a0_5:Int)(a0_6:Int)(a0_7:(List Int))(a0_8:(List Int))(a0_9:(List Int))(a1:Int):Option Int:=G83 (λx=>x) gG jT a0_0 a0_1 a0_2 a0_3 a0_4 a0_5 a0_6 a0_7 a0_8 a0_9 a1
theorem e83 (gG:Y133)(jT:Y134)(L:Nat)(a0_0:Int)(a0_1:Int)(a0_2:Int)(a0_3:Int)(a0_4:(List E9))(a0_5:Int)(a0_6:Int)(a0_7:(List Int))(a0_8:(List Int))(a0_9:(List Int))(a1:Int):fP prog (aRa gG jT) (bO L) f83 (a83.enc ((a0_0,a0_1,a0_2,a0_3,a0_4,a0_5,a0_6,a0_7,a0_8,a0_9),a1))=(g83 gG jT L a0_0 a0_1 a0_2 a0_3 a0_4 a0_5 a0_6 a0_7 a0_8 a0_9 a1).map n83:=by
 refine .trans (b:=G83 n83 gG jT a0_0 a0_1 a0_2 a0_3 a0_4 a0_5 a0_6 a0_7 a0_8 a0_9 a1) (by kernel_rfl) ?_;unfold g83 G83
 repeat' first | with_reducible refine eC ?_ ?_ | with_reducible refine eA λ_=>?_ | with_reducible refine eB λ_=>?_ | exact rfl
def w83 (gG:Y133)(jT:Y134)(L:Nat)(x:(N10×Int)):Option Int:=g83 gG jT L x.1.1 x.1.2.1 x.1.2.2.1 x.1.2.2.2.1 x.1.2.2.2.2.1 x.1.2.2.2.2.2.1 x.1.2.2.2.2.2.2.1 x.1.2.2.2.2.2.2.2.1 x.1.2.2.2.2.2.2.2.2.1 x.1.2.2.2.2.2.2.2.2.2 x.2
theorem s83 (gG:Y133)(jT:Y134)(h133:Sat prog cxT 133 (aFQ gG))(h134:Sat prog cxT 134 (aI6 jT))(m:Y83)(hm:∀ (x:(N10×Int)) t,m x=some t->∃ L,w83 gG jT L x=some t):Sat prog cxT 83 (c83 m):=
 cF bD aZ (by rfl) (fn:=f83) rfl a83 n83 aRO m (aRa gG jT) (aN h133 (aN h134 aY)) aR (w83 gG jT) (λL x=>e83 gG jT L x.1.1 x.1.2.1 x.1.2.2.1 x.1.2.2.2.1 x.1.2.2.2.2.1 x.1.2.2.2.2.2.1 x.1.2.2.2.2.2.2.1 x.1.2.2.2.2.2.2.2.1 x.1.2.2.2.2.2.2.2.2.1 x.1.2.2.2.2.2.2.2.2.2 x.2) hm aV9
def aQ9 (gG:Y133):Env cxT:={ Kc:=dD [(133,aFQ gG)],Kw:=dF [],lv:=λi=>[],xv:=λi=>none }
def G84 {B:Type}(u:Int->B)(gG:Y133)(a0_0:Int)(a0_1:Int)(a0_2:Int)(a0_3:Int)(a0_4:Int)(a0_5:Int)(a0_6:Int)(a0_7:Bool)(a0_8:(List E9))(a1:Int):Option B:=
 dL (gG (a0_8,a1)) (0:Int) λ(q1:Int)=>bif (decide (q1 < (0:Int)))then some (u (-(1:Int)))
  else some (u q1)
def g84 (gG:Y133)(L:Nat)(a0_0:Int)(a0_1:Int)(a0_2:Int)(a0_3:Int)(a0_4:Int)(a0_5:Int)(a0_6:Int)(a0_7:Bool)(a0_8:(List E9))(a1:Int):Option Int:=G84 (λx=>x) gG a0_0 a0_1 a0_2 a0_3 a0_4 a0_5 a0_6 a0_7 a0_8 a1
theorem e84 (gG:Y133)(L:Nat)(a0_0:Int)(a0_1:Int)(a0_2:Int)(a0_3:Int)(a0_4:Int)(a0_5:Int)(a0_6:Int)(a0_7:Bool)(a0_8:(List E9))(a1:Int):fP prog (aQ9 gG) (bO L) f84 (a84.enc ((a0_0,a0_1,a0_2,a0_3,a0_4,a0_5,a0_6,a0_7,a0_8),a1))=(g84 gG L a0_0 a0_1 a0_2 a0_3 a0_4 a0_5 a0_6 a0_7 a0_8 a1).map n84:=by
 refine .trans (b:=G84 n84 gG a0_0 a0_1 a0_2 a0_3 a0_4 a0_5 a0_6 a0_7 a0_8 a1) (by kernel_rfl) ?_;unfold g84 G84
 repeat' first | with_reducible refine eC ?_ ?_ | with_reducible refine eA λ_=>?_ | with_reducible refine eB λ_=>?_ | exact rfl
def w84 (gG:Y133)(L:Nat)(x:(M9×Int)):Option Int:=g84 gG L x.1.1 x.1.2.1 x.1.2.2.1 x.1.2.2.2.1 x.1.2.2.2.2.1 x.1.2.2.2.2.2.1 x.1.2.2.2.2.2.2.1 x.1.2.2.2.2.2.2.2.1 x.1.2.2.2.2.2.2.2.2 x.2
theorem s84 (gG:Y133)(h133:Sat prog cxT 133 (aFQ gG))(m:Y84)(hm:∀ (x:(M9×Int)) t,m x=some t->∃ L,w84 gG L x=some t):Sat prog cxT 84 (c84 m):=
 cF bD aZ (by rfl) (fn:=f84) rfl a84 n84 aRN m (aQ9 gG) (aN h133 aY) aR (w84 gG) (λL x=>e84 gG L x.1.1 x.1.2.1 x.1.2.2.1 x.1.2.2.2.1 x.1.2.2.2.2.1 x.1.2.2.2.2.2.1 x.1.2.2.2.2.2.2.1 x.1.2.2.2.2.2.2.2.1 x.1.2.2.2.2.2.2.2.2 x.2) hm aV8
def aAn (lY:Y83):Env cxT:={ Kc:=dD [(83,c83 lY)],Kw:=dF [],lv:=λi=>if i=0 then[(0,[some 108]),(1,[]),(5,[])]else[],xv:=λi=>if i=0 then some [(1,[])]else none }
def S35_0 (a0:(List N10))(a1:Int)(v0_1:Int)(v0_5:Int):St cxT.ty:={ slots:=[(.inl (.inl (ls { own:=0,nm:=0,e:=108,o:=false,xs:=a0 }))),(.inl (.inl (lv (.int .i64 v0_1)))),aK,aK,aK,(.inl (.inl (lv (.int .i64 v0_5))))]++List.replicate 21 aK,D:=[],F:=[],ctr:=1 }
def X35_0 (a0:(List N10))(a1:Int)(w0_1:Int):St cxT.ty:={ slots:=[aK,(.inl (.inl (lv (.int .i64 w0_1))))]++List.replicate 25 aK,D:=[],F:=[],ctr:=1 }
def G35 {B:Type}(u:Int->B)(hh0:Int->Int->Option B)(lY:Y83)(a0:(List N10))(a1:Int):Option B:=
 bif (decide ((wrap .i64 (a1-(Nat.cast (List.length a0):Int))) < (0:Int)))then some (u (-(1:Int)))
 else hh0 (wrap .i64 (a1-(Nat.cast (List.length a0):Int))) (0:Int)
def B35_0 {B:Type}(u:Int->B)(gg:Int->Int->Option B)(kk:Int->Option B)(lY:Y83)(a0:(List N10))(a1:Int)(v0_1:Int)(v0_5:Int):Option B:=
 bif (decide (v0_5 < (Nat.cast (List.length a0):Int)))then fB (List.getD a0 v0_5.toNat ((0:Int),((0:Int),((0:Int),((0:Int),(([]:List E9),((0:Int),((0:Int),(([]:List (Int)),(([]:List (Int)),([]:List (Int)))))))))))) λs1_0=>bif ((decide ((0:Int)<=v0_5))&&(decide (v0_5 < (Nat.cast (List.length a0):Int))))then dL (lY ((s1_0.1,(s1_0.2.1,(s1_0.2.2.1,(s1_0.2.2.2.1,(s1_0.2.2.2.2.1,(s1_0.2.2.2.2.2.1,(s1_0.2.2.2.2.2.2.1,(s1_0.2.2.2.2.2.2.2.1,(s1_0.2.2.2.2.2.2.2.2.1,s1_0.2.2.2.2.2.2.2.2.2))))))))),v0_1)) (0:Int) λ(q3:Int)=>bif (decide (q3 < (0:Int)))then some (u (-(1:Int)))
    else gg q3 (wrap .i64 (v0_5+(1:Int)))
  else none
 else kk v0_1
def A35_0 {B:Type}(u:Int->B)(lY:Y83)(a0:(List N10))(a1:Int)(w0_1:Int):Option B:=
 some (u w0_1)
def yC (lY:Y83)(L:Nat)(a0:(List N10))(a1:Int):Nat->Int->Int->(Int->Option Int)->Option Int
 | 0,_,_,_=>none
 | n+1,v0_1,v0_5,k=>B35_0 (λx=>x) (λv0_1 v0_5=>yC lY L a0 a1 n v0_1 v0_5 k) k lY a0 a1 v0_1 v0_5
theorem aJM (lY:Y83)(L:Nat)(a0:(List N10))(a1:Int)(k:St cxT.ty->Option (V cxT.ty))(xk:Nat->St cxT.ty->Option (V cxT.ty))(k':Int->Option Int)(hk:∀ (w0_1:Int),k (X35_0 a0 a1 w0_1)=(k' w0_1).map n35):∀ (n:Nat) (v0_1:Int) (v0_5:Int),bL prog (aAn lY) L f35 0 [1,1,1,0,1,0,0] (cQ (aX prog f35) k xk) n (S35_0 a0 a1 v0_1 v0_5)=(yC lY L a0 a1 n v0_1 v0_5 k').map n35
 | 0,_,_=>rfl
 | n+1,v0_1,v0_5=>by
  rw[cG];have ih:=aJM lY L a0 a1 k xk k' hk n;refine .trans (b:=B35_0 n35 (λv0_1 v0_5=>(bL prog (aAn lY) L f35 0 [1,1,1,0,1,0,0] (cQ (aX prog f35) k xk) n) (S35_0 a0 a1 v0_1 v0_5)) (λw0_1=>k (X35_0 a0 a1 w0_1)) lY a0 a1 v0_1 v0_5) (by kernel_rfl) ?_;unfold yC B35_0
  repeat' first | with_reducible refine eC ?_ ?_ | with_reducible refine eA λ_=>?_ | with_reducible refine eB λ_=>?_ | with_reducible exact ih _ _ | with_reducible exact hk _ | exact rfl
def g35 (lY:Y83)(L:Nat)(a0:(List N10))(a1:Int):Option Int:=G35 (λx=>x) (λv0_1 v0_5=>yC lY L a0 a1 L v0_1 v0_5 (λw0_1=>A35_0 (λx=>x) lY a0 a1 w0_1)) lY a0 a1
theorem e35 (lY:Y83)(L:Nat)(a0:(List N10))(a1:Int):fP prog (aAn lY) (bO L) f35 (a35.enc (a0,a1))=(g35 lY L a0 a1).map n35:=by
 have hin0:∀ (v0_1:Int) (v0_5:Int),bL prog (aAn lY) L f35 0 [1,1,1,0,1,0,0] (cQ (aX prog f35) (cO prog (aAn lY) L f35 [1,1,1,0,1] (aX prog f35)).n (cO prog (aAn lY) L f35 [1,1,1,0,1] (aX prog f35)).x) L (S35_0 a0 a1 v0_1 v0_5)=((λv0_1 v0_5=>yC lY L a0 a1 L v0_1 v0_5 (λw0_1=>A35_0 (λx=>x) lY a0 a1 w0_1)) v0_1 v0_5).map n35:=λv0_1 v0_5=>aJM lY L a0 a1 _ _ _ (λw0_1=>by refine .trans (b:=A35_0 n35 lY a0 a1 w0_1) (by kernel_rfl) ?_;unfold A35_0;repeat' first | with_reducible refine eC ?_ ?_ | with_reducible refine eA λ_=>?_ | with_reducible refine eB λ_=>?_ | exact rfl) L v0_1 v0_5
 refine .trans (b:=G35 n35 (λv0_1 v0_5=>bL prog (aAn lY) L f35 0 [1,1,1,0,1,0,0] (cQ (aX prog f35) (cO prog (aAn lY) L f35 [1,1,1,0,1] (aX prog f35)).n (cO prog (aAn lY) L f35 [1,1,1,0,1] (aX prog f35)).x) L (S35_0 a0 a1 v0_1 v0_5)) lY a0 a1) (by kernel_rfl) ?_;unfold g35 G35
 repeat' first | with_reducible refine eC ?_ ?_ | with_reducible refine eA λ_=>?_ | with_reducible refine eB λ_=>?_ | with_reducible exact hin0 _ _ | exact rfl
def w35 (lY:Y83)(L:Nat)(x:((List N10)×Int)):Option Int:=g35 lY L x.1 x.2
theorem s35 (lY:Y83)(h83:Sat prog cxT 83 (c83 lY))(m:Y35)(hm:∀ (x:((List N10)×Int)) t,m x=some t->∃ L,w35 lY L x=some t):Sat prog cxT 35 (c35 m):=
 cF bD aZ (by rfl) (fn:=f35) rfl a35 n35 aR7 m (aAn lY) (aN h83 aY) aR (w35 lY) (λL x=>e35 lY L x.1 x.2) hm aWs
def aAm (lX:Y84):Env cxT:={ Kc:=dD [(84,c84 lX)],Kw:=dF [],lv:=λi=>if i=0 then[(0,[some 111]),(1,[]),(5,[])]else[],xv:=λi=>if i=0 then some [(1,[])]else none }
def S36_0 (a0:(List M9))(a1:Int)(v0_1:Int)(v0_5:Int):St cxT.ty:={ slots:=[(.inl (.inl (ls { own:=0,nm:=0,e:=111,o:=false,xs:=a0 }))),(.inl (.inl (lv (.int .i64 v0_1)))),aK,aK,aK,(.inl (.inl (lv (.int .i64 v0_5))))]++List.replicate 21 aK,D:=[],F:=[],ctr:=1 }
def X36_0 (a0:(List M9))(a1:Int)(w0_1:Int):St cxT.ty:={ slots:=[aK,(.inl (.inl (lv (.int .i64 w0_1))))]++List.replicate 25 aK,D:=[],F:=[],ctr:=1 }
def G36 {B:Type}(u:Int->B)(hh0:Int->Int->Option B)(lX:Y84)(a0:(List M9))(a1:Int):Option B:=
 bif (decide ((wrap .i64 (a1-(Nat.cast (List.length a0):Int))) < (0:Int)))then some (u (-(1:Int)))
 else hh0 (wrap .i64 (a1-(Nat.cast (List.length a0):Int))) (0:Int)
def B36_0 {B:Type}(u:Int->B)(gg:Int->Int->Option B)(kk:Int->Option B)(lX:Y84)(a0:(List M9))(a1:Int)(v0_1:Int)(v0_5:Int):Option B:=
 bif (decide (v0_5 < (Nat.cast (List.length a0):Int)))then fB (List.getD a0 v0_5.toNat ((0:Int),((0:Int),((0:Int),((0:Int),((0:Int),((0:Int),((0:Int),(false,[]))))))))) λs1_0=>bif ((decide ((0:Int)<=v0_5))&&(decide (v0_5 < (Nat.cast (List.length a0):Int))))then dL (lX ((s1_0.1,(s1_0.2.1,(s1_0.2.2.1,(s1_0.2.2.2.1,(s1_0.2.2.2.2.1,(s1_0.2.2.2.2.2.1,(s1_0.2.2.2.2.2.2.1,(s1_0.2.2.2.2.2.2.2.1,s1_0.2.2.2.2.2.2.2.2)))))))),v0_1)) (0:Int) λ(q3:Int)=>bif (decide (q3 < (0:Int)))then some (u (-(1:Int)))
    else gg q3 (wrap .i64 (v0_5+(1:Int)))
  else none
 else kk v0_1
def A36_0 {B:Type}(u:Int->B)(lX:Y84)(a0:(List M9))(a1:Int)(w0_1:Int):Option B:=
 some (u w0_1)
def yB (lX:Y84)(L:Nat)(a0:(List M9))(a1:Int):Nat->Int->Int->(Int->Option Int)->Option Int
 | 0,_,_,_=>none
 | n+1,v0_1,v0_5,k=>B36_0 (λx=>x) (λv0_1 v0_5=>yB lX L a0 a1 n v0_1 v0_5 k) k lX a0 a1 v0_1 v0_5
theorem aJL (lX:Y84)(L:Nat)(a0:(List M9))(a1:Int)(k:St cxT.ty->Option (V cxT.ty))(xk:Nat->St cxT.ty->Option (V cxT.ty))(k':Int->Option Int)(hk:∀ (w0_1:Int),k (X36_0 a0 a1 w0_1)=(k' w0_1).map n36):∀ (n:Nat) (v0_1:Int) (v0_5:Int),bL prog (aAm lX) L f36 0 [1,1,1,0,1,0,0] (cQ (aX prog f36) k xk) n (S36_0 a0 a1 v0_1 v0_5)=(yB lX L a0 a1 n v0_1 v0_5 k').map n36
 | 0,_,_=>rfl
 | n+1,v0_1,v0_5=>by
  rw[cG];have ih:=aJL lX L a0 a1 k xk k' hk n;refine .trans (b:=B36_0 n36 (λv0_1 v0_5=>(bL prog (aAm lX) L f36 0 [1,1,1,0,1,0,0] (cQ (aX prog f36) k xk) n) (S36_0 a0 a1 v0_1 v0_5)) (λw0_1=>k (X36_0 a0 a1 w0_1)) lX a0 a1 v0_1 v0_5) (by kernel_rfl) ?_;unfold yB B36_0
  repeat' first | with_reducible refine eC ?_ ?_ | with_reducible refine eA λ_=>?_ | with_reducible refine eB λ_=>?_ | with_reducible exact ih _ _ | with_reducible exact hk _ | exact rfl
def g36 (lX:Y84)(L:Nat)(a0:(List M9))(a1:Int):Option Int:=G36 (λx=>x) (λv0_1 v0_5=>yB lX L a0 a1 L v0_1 v0_5 (λw0_1=>A36_0 (λx=>x) lX a0 a1 w0_1)) lX a0 a1
theorem e36 (lX:Y84)(L:Nat)(a0:(List M9))(a1:Int):fP prog (aAm lX) (bO L) f36 (a36.enc (a0,a1))=(g36 lX L a0 a1).map n36:=by
 have hin0:∀ (v0_1:Int) (v0_5:Int),bL prog (aAm lX) L f36 0 [1,1,1,0,1,0,0] (cQ (aX prog f36) (cO prog (aAm lX) L f36 [1,1,1,0,1] (aX prog f36)).n (cO prog (aAm lX) L f36 [1,1,1,0,1] (aX prog f36)).x) L (S36_0 a0 a1 v0_1 v0_5)=((λv0_1 v0_5=>yB lX L a0 a1 L v0_1 v0_5 (λw0_1=>A36_0 (λx=>x) lX a0 a1 w0_1)) v0_1 v0_5).map n36:=λv0_1 v0_5=>aJL lX L a0 a1 _ _ _ (λw0_1=>by refine .trans (b:=A36_0 n36 lX a0 a1 w0_1) (by kernel_rfl) ?_;unfold A36_0;repeat' first | with_reducible refine eC ?_ ?_ | with_reducible refine eA λ_=>?_ | with_reducible refine eB λ_=>?_ | exact rfl) L v0_1 v0_5
 refine .trans (b:=G36 n36 (λv0_1 v0_5=>bL prog (aAm lX) L f36 0 [1,1,1,0,1,0,0] (cQ (aX prog f36) (cO prog (aAm lX) L f36 [1,1,1,0,1] (aX prog f36)).n (cO prog (aAm lX) L f36 [1,1,1,0,1] (aX prog f36)).x) L (S36_0 a0 a1 v0_1 v0_5)) lX a0 a1) (by kernel_rfl) ?_;unfold g36 G36
 repeat' first | with_reducible refine eC ?_ ?_ | with_reducible refine eA λ_=>?_ | with_reducible refine eB λ_=>?_ | with_reducible exact hin0 _ _ | exact rfl
def w36 (lX:Y84)(L:Nat)(x:((List M9)×Int)):Option Int:=g36 lX L x.1 x.2
theorem s36 (lX:Y84)(h84:Sat prog cxT 84 (c84 lX))(m:Y36)(hm:∀ (x:((List M9)×Int)) t,m x=some t->∃ L,w36 lX L x=some t):Sat prog cxT 36 (c36 m):=
 cF bD aZ (by rfl) (fn:=f36) rfl a36 n36 aR6 m (aAm lX) (aN h84 aY) aR (w36 lX) (λL x=>e36 lX L x.1 x.2) hm aWr
def aRf:Env cxT:={ Kc:=dD [],Kw:=dF [],lv:=λi=>[],xv:=λi=>none }
def G37 {B:Type}(u:Int->B)(a0:(List W2))(a1:Int):Option B:=
 bif (decide ((wrap .i64 (a1-(Nat.cast (List.length a0):Int))) < (0:Int)))then some (u (-(1:Int)))
 else some (u (wrap .i64 (a1-(Nat.cast (List.length a0):Int))))
def g37 (L:Nat)(a0:(List W2))(a1:Int):Option Int:=G37 (λx=>x) a0 a1
theorem e37 (L:Nat)(a0:(List W2))(a1:Int):fP prog aRf (bO L) f37 (a37.enc (a0,a1))=(g37 L a0 a1).map n37:=by
 refine .trans (b:=G37 n37 a0 a1) (by kernel_rfl) ?_;unfold g37 G37
 repeat' first | with_reducible refine eC ?_ ?_ | with_reducible refine eA λ_=>?_ | with_reducible refine eB λ_=>?_ | exact rfl
def w37 (L:Nat)(x:((List W2)×Int)):Option Int:=g37 L x.1 x.2
theorem s37 (m:Y37)(hm:∀ (x:((List W2)×Int)) t,m x=some t->∃ L,w37 L x=some t):Sat prog cxT 37 (c37 m):=
 cF bD aZ (by rfl) (fn:=f37) rfl a37 n37 aR5 m aRf aY aR (w37) (λL x=>e37 L x.1 x.2) hm aWq
def aRe:Env cxT:={ Kc:=dD [],Kw:=dF [],lv:=λi=>[],xv:=λi=>none }
def G38 {B:Type}(u:Int->B)(a0:(List S10))(a1:Int):Option B:=
 bif (decide ((wrap .i64 (a1-(Nat.cast (List.length a0):Int))) < (0:Int)))then some (u (-(1:Int)))
 else some (u (wrap .i64 (a1-(Nat.cast (List.length a0):Int))))
def g38 (L:Nat)(a0:(List S10))(a1:Int):Option Int:=G38 (λx=>x) a0 a1
theorem e38 (L:Nat)(a0:(List S10))(a1:Int):fP prog aRe (bO L) f38 (a38.enc (a0,a1))=(g38 L a0 a1).map n38:=by
 refine .trans (b:=G38 n38 a0 a1) (by kernel_rfl) ?_;unfold g38 G38
 repeat' first | with_reducible refine eC ?_ ?_ | with_reducible refine eA λ_=>?_ | with_reducible refine eB λ_=>?_ | exact rfl
def w38 (L:Nat)(x:((List S10)×Int)):Option Int:=g38 L x.1 x.2
theorem s38 (m:Y38)(hm:∀ (x:((List S10)×Int)) t,m x=some t->∃ L,w38 L x=some t):Sat prog cxT 38 (c38 m):=
 cF bD aZ (by rfl) (fn:=f38) rfl a38 n38 aR4 m aRe aY aR (w38) (λL x=>e38 L x.1 x.2) hm aWp
def aRk (wG:Y35)(wF:Y36)(wE:Y37)(wB:Y38):Env cxT:={ Kc:=dD [(35,c35 wG),(36,c36 wF),(37,c37 wE),(38,c38 wB)],Kw:=dF [],lv:=λi=>[],xv:=λi=>none }
def G11 {B:Type}(u:Int->B)(wG:Y35)(wF:Y36)(wE:Y37)(wB:Y38)(a0_0:(List N10))(a0_1:(List M9))(a0_2:(List W2))(a0_3:(List S10))(a1:Int):Option B:=
 dL (wG (a0_0,a1)) (0:Int) λ(q1:Int)=>bif (decide (q1 < (0:Int)))then some (u (-(1:Int)))
  else dL (wF (a0_1,q1)) (0:Int) λ(q2:Int)=>bif (decide (q2 < (0:Int)))then some (u (-(1:Int)))
   else dL (wE (a0_2,q2)) (0:Int) λ(q3:Int)=>bif (decide (q3 < (0:Int)))then some (u (-(1:Int)))
    else dL (wB (a0_3,q3)) (0:Int) λ(q4:Int)=>bif (decide (q4 < (0:Int)))then some (u (-(1:Int)))
     else some (u q4)
def g11 (wG:Y35)(wF:Y36)(wE:Y37)(wB:Y38)(L:Nat)(a0_0:(List N10))(a0_1:(List M9))(a0_2:(List W2))(a0_3:(List S10))(a1:Int):Option Int:=G11 (λx=>x) wG wF wE wB a0_0 a0_1 a0_2 a0_3 a1
theorem e11 (wG:Y35)(wF:Y36)(wE:Y37)(wB:Y38)(L:Nat)(a0_0:(List N10))(a0_1:(List M9))(a0_2:(List W2))(a0_3:(List S10))(a1:Int):fP prog (aRk wG wF wE wB) (bO L) f11 (a11.enc ((a0_0,a0_1,a0_2,a0_3),a1))=(g11 wG wF wE wB L a0_0 a0_1 a0_2 a0_3 a1).map n11:=by
 refine .trans (b:=G11 n11 wG wF wE wB a0_0 a0_1 a0_2 a0_3 a1) (by kernel_rfl) ?_;unfold g11 G11
 repeat' first | with_reducible refine eC ?_ ?_ | with_reducible refine eA λ_=>?_ | with_reducible refine eB λ_=>?_ | exact rfl
def w11 (wG:Y35)(wF:Y36)(wE:Y37)(wB:Y38)(L:Nat)(x:(C4×Int)):Option Int:=g11 wG wF wE wB L x.1.1 x.1.2.1 x.1.2.2.1 x.1.2.2.2 x.2
theorem s11 (wG:Y35)(wF:Y36)(wE:Y37)(wB:Y38)(h35:Sat prog cxT 35 (c35 wG))(h36:Sat prog cxT 36 (c36 wF))(h37:Sat prog cxT 37 (c37 wE))(h38:Sat prog cxT 38 (c38 wB))(m:Y11)(hm:∀ (x:(C4×Int)) t,m x=some t->∃ L,w11 wG wF wE wB L x=some t):Sat prog cxT 11 (c11 m):=
 cF bD aZ (by rfl) (fn:=f11) rfl a11 n11 aSf m (aRk wG wF wE wB) (aN h35 (aN h36 (aN h37 (aN h38 aY)))) aR (w11 wG wF wE wB) (λL x=>e11 wG wF wE wB L x.1.1 x.1.2.1 x.1.2.2.1 x.1.2.2.2 x.2) hm aWy
end Go.Proofs.Tryz
set_option maxHeartbeats 0
set_option maxRecDepth 100000
namespace Go.Proofs.Tryz
open Go.IntKind (wrap)
open Go Go.VM Go.RowKit
def rP (m142:Y142):Env cxT:={ Kc:=dD [(142,aFN m142)],Kw:=dF [],lv:=λi=>if i=0 then[(0,[some 126]),(3,[some 102]),(4,[])]else[],xv:=λi=>if i=0 then some [(3,[some 102])]else none }
def S140_0 (a0:(List E9))(v0_3:(List E9))(v0_4:Int):St cxT.ty:={ slots:=[(.inl (.inl (ls { own:=0,nm:=0,e:=126,o:=false,xs:=a0 }))),aK,aK,(.inl (.inl (ls { own:=1,nm:=192,e:=102,o:=true,xs:=v0_3 }))),(.inl (.inl (lv (.int .i64 v0_4))))]++List.replicate 18 aK,D:=[],F:=[],ctr:=1 }
def X140_0 (a0:(List E9))(w0_3:(List E9)):St cxT.ty:={ slots:=[aK,aK,aK,(.inl (.inl (ls { own:=1,nm:=192,e:=102,o:=true,xs:=w0_3 })))]++List.replicate 19 aK,D:=[],F:=[],ctr:=1 }
def G140 {B:Type}(u:(List E9)->B)(hh0:(List E9)->Int->Option B)(m142:Y142)(a0:(List E9)):Option B:=
 bif (((decide ((0:Int)<=(Nat.cast (List.length a0):Int)))&&(decide ((Nat.cast (List.length a0):Int)<=(Nat.cast (List.length a0):Int))))&&(decide ((Nat.cast (List.length a0):Int)<=(1000000000:Int))))then hh0 (List.replicate (Int.toNat (Nat.cast (List.length a0):Int)) ((0:Int),((0:Int),((0:Int),((0:Int),((0:Int),((0:Int),((0:Int),((0:Int),(0:Int)))))))))) (0:Int)
 else none
def B140_0 {B:Type}(u:(List E9)->B)(gg:(List E9)->Int->Option B)(kk:(List E9)->Option B)(m142:Y142)(a0:(List E9))(v0_3:(List E9))(v0_4:Int):Option B:=
 bif (decide (v0_4 < (Nat.cast (List.length a0):Int)))then fB (List.getD a0 v0_4.toNat ((0:Int),((0:Int),((0:Int),((0:Int),((0:Int),((0:Int),((0:Int),((0:Int),(0:Int)))))))))) λs1_0=>bif ((decide ((0:Int)<=v0_4))&&(decide (v0_4 < (Nat.cast (List.length a0):Int))))then dL (m142 (s1_0.1,(s1_0.2.1,(s1_0.2.2.1,(s1_0.2.2.2.1,(s1_0.2.2.2.2.1,(s1_0.2.2.2.2.2.1,(s1_0.2.2.2.2.2.2.1,(s1_0.2.2.2.2.2.2.2.1,s1_0.2.2.2.2.2.2.2.2))))))))) ((0:Int),(0:Int),(0:Int),(0:Int),(0:Int),(0:Int),(0:Int),(0:Int),(0:Int)) λ(q3:E9)=>bif ((decide ((0:Int)<=v0_4))&&(decide (v0_4 < (Nat.cast (List.length v0_3):Int))))then gg (List.set v0_3 v0_4.toNat (q3.1,(q3.2.1,(q3.2.2.1,(q3.2.2.2.1,(q3.2.2.2.2.1,(q3.2.2.2.2.2.1,(q3.2.2.2.2.2.2.1,(q3.2.2.2.2.2.2.2.1,q3.2.2.2.2.2.2.2.2))))))))) (wrap .i64 (v0_4+(1:Int)))
    else none
  else none
 else kk v0_3
def A140_0 {B:Type}(u:(List E9)->B)(m142:Y142)(a0:(List E9))(w0_3:(List E9)):Option B:=
 some (u w0_3)
def sJ (m142:Y142)(L:Nat)(a0:(List E9)):Nat->(List E9)->Int->((List E9)->Option (List E9))->Option (List E9)
 | 0,_,_,_=>none
 | n+1,v0_3,v0_4,k=>B140_0 (λx=>x) (λv0_3 v0_4=>sJ m142 L a0 n v0_3 v0_4 k) k m142 a0 v0_3 v0_4
theorem aG6 (m142:Y142)(L:Nat)(a0:(List E9))(k:St cxT.ty->Option (V cxT.ty))(xk:Nat->St cxT.ty->Option (V cxT.ty))(k':(List E9)->Option (List E9))(hk:∀ (w0_3:(List E9)),k (X140_0 a0 w0_3)=(k' w0_3).map xN):∀ (n:Nat) (v0_3:(List E9)) (v0_4:Int),bL prog (rP m142) L f140 0 [1,1,0,1,0,0] (cQ (aX prog f140) k xk) n (S140_0 a0 v0_3 v0_4)=(sJ m142 L a0 n v0_3 v0_4 k').map xN
 | 0,_,_=>rfl
 | n+1,v0_3,v0_4=>by
  rw[cG];have ih:=aG6 m142 L a0 k xk k' hk n;refine .trans (b:=B140_0 xN (λv0_3 v0_4=>(bL prog (rP m142) L f140 0 [1,1,0,1,0,0] (cQ (aX prog f140) k xk) n) (S140_0 a0 v0_3 v0_4)) (λw0_3=>k (X140_0 a0 w0_3)) m142 a0 v0_3 v0_4) (by kernel_rfl) ?_;unfold sJ B140_0
  repeat' first | with_reducible refine eC ?_ ?_ | with_reducible refine eA λ_=>?_ | with_reducible refine eB λ_=>?_ | with_reducible exact ih _ _ | with_reducible exact hk _ | exact rfl
def aIu (m142:Y142)(L:Nat)(a0:(List E9)):Option (List E9):=G140 (λx=>x) (λv0_3 v0_4=>sJ m142 L a0 L v0_3 v0_4 (λw0_3=>A140_0 (λx=>x) m142 a0 w0_3)) m142 a0
theorem aXB (m142:Y142)(L:Nat)(a0:(List E9)):fP prog (rP m142) (bO L) f140 (aTy.enc a0)=(aIu m142 L a0).map xN:=by
 have hin0:∀ (v0_3:(List E9)) (v0_4:Int),bL prog (rP m142) L f140 0 [1,1,0,1,0,0] (cQ (aX prog f140) (cO prog (rP m142) L f140 [1,1,0,1] (aX prog f140)).n (cO prog (rP m142) L f140 [1,1,0,1] (aX prog f140)).x) L (S140_0 a0 v0_3 v0_4)=((λv0_3 v0_4=>sJ m142 L a0 L v0_3 v0_4 (λw0_3=>A140_0 (λx=>x) m142 a0 w0_3)) v0_3 v0_4).map xN:=λv0_3 v0_4=>aG6 m142 L a0 _ _ _ (λw0_3=>by refine .trans (b:=A140_0 xN m142 a0 w0_3) (by kernel_rfl) ?_;unfold A140_0;repeat' first | with_reducible refine eC ?_ ?_ | with_reducible refine eA λ_=>?_ | with_reducible refine eB λ_=>?_ | exact rfl) L v0_3 v0_4
 refine .trans (b:=G140 xN (λv0_3 v0_4=>bL prog (rP m142) L f140 0 [1,1,0,1,0,0] (cQ (aX prog f140) (cO prog (rP m142) L f140 [1,1,0,1] (aX prog f140)).n (cO prog (rP m142) L f140 [1,1,0,1] (aX prog f140)).x) L (S140_0 a0 v0_3 v0_4)) m142 a0) (by kernel_rfl) ?_;unfold aIu G140
 repeat' first | with_reducible refine eC ?_ ?_ | with_reducible refine eA λ_=>?_ | with_reducible refine eB λ_=>?_ | with_reducible exact hin0 _ _ | exact rfl
def aLO (m142:Y142)(L:Nat)(x:(List E9)):Option (List E9):=aIu m142 L x
theorem aVp (m142:Y142)(h142:Sat prog cxT 142 (aFN m142))(m:Y140)(hm:∀ (x:(List E9)) t,m x=some t->∃ L,aLO m142 L x=some t):Sat prog cxT 140 (aFO m):=
 cF bD aZ (by rfl) (fn:=f140) rfl aTy xN aLg m (rP m142) (aN h142 aY) aR (aLO m142) (λL x=>aXB m142 L x) hm aQm
def rO:Env cxT:={ Kc:=dD [],Kw:=dF [],lv:=λi=>if i=0 then[(0,[some 2]),(3,[some 2]),(4,[])]else[],xv:=λi=>if i=0 then some [(3,[some 2])]else none }
def S141_0 (a0:(List Int))(v0_3:(List Int))(v0_4:Int):St cxT.ty:={ slots:=[(.inl (.inl (ls { own:=0,nm:=0,e:=2,o:=false,xs:=a0 }))),aK,aK,(.inl (.inl (ls { own:=1,nm:=192,e:=2,o:=true,xs:=v0_3 }))),(.inl (.inl (lv (.int .i64 v0_4))))]++List.replicate 17 aK,D:=[],F:=[],ctr:=1 }
def X141_0 (a0:(List Int))(w0_3:(List Int)):St cxT.ty:={ slots:=[aK,aK,aK,(.inl (.inl (ls { own:=1,nm:=192,e:=2,o:=true,xs:=w0_3 })))]++List.replicate 18 aK,D:=[],F:=[],ctr:=1 }
def G141 {B:Type}(u:(List Int)->B)(hh0:(List Int)->Int->Option B)(a0:(List Int)):Option B:=
 bif (((decide ((0:Int)<=(Nat.cast (List.length a0):Int)))&&(decide ((Nat.cast (List.length a0):Int)<=(Nat.cast (List.length a0):Int))))&&(decide ((Nat.cast (List.length a0):Int)<=(1000000000:Int))))then hh0 (List.replicate (Int.toNat (Nat.cast (List.length a0):Int)) (0:Int)) (0:Int)
 else none
def B141_0 {B:Type}(u:(List Int)->B)(gg:(List Int)->Int->Option B)(kk:(List Int)->Option B)(a0:(List Int))(v0_3:(List Int))(v0_4:Int):Option B:=
 bif (decide (v0_4 < (Nat.cast (List.length a0):Int)))then bif ((decide ((0:Int)<=v0_4))&&(decide (v0_4 < (Nat.cast (List.length a0):Int))))then bif ((decide ((0:Int)<=v0_4))&&(decide (v0_4 < (Nat.cast (List.length v0_3):Int))))then gg (List.set v0_3 v0_4.toNat (List.getD a0 v0_4.toNat (0:Int))) (wrap .i64 (v0_4+(1:Int)))
   else none
  else none
 else kk v0_3
def A141_0 {B:Type}(u:(List Int)->B)(a0:(List Int))(w0_3:(List Int)):Option B:=
 some (u w0_3)
def sI (L:Nat)(a0:(List Int)):Nat->(List Int)->Int->((List Int)->Option (List Int))->Option (List Int)
 | 0,_,_,_=>none
 | n+1,v0_3,v0_4,k=>B141_0 (λx=>x) (λv0_3 v0_4=>sI L a0 n v0_3 v0_4 k) k a0 v0_3 v0_4
theorem aG5 (L:Nat)(a0:(List Int))(k:St cxT.ty->Option (V cxT.ty))(xk:Nat->St cxT.ty->Option (V cxT.ty))(k':(List Int)->Option (List Int))(hk:∀ (w0_3:(List Int)),k (X141_0 a0 w0_3)=(k' w0_3).map xM):∀ (n:Nat) (v0_3:(List Int)) (v0_4:Int),bL prog rO L f141 0 [1,1,0,1,0,0] (cQ (aX prog f141) k xk) n (S141_0 a0 v0_3 v0_4)=(sI L a0 n v0_3 v0_4 k').map xM
 | 0,_,_=>rfl
 | n+1,v0_3,v0_4=>by
  rw[cG];have ih:=aG5 L a0 k xk k' hk n;refine .trans (b:=B141_0 xM (λv0_3 v0_4=>(bL prog rO L f141 0 [1,1,0,1,0,0] (cQ (aX prog f141) k xk) n) (S141_0 a0 v0_3 v0_4)) (λw0_3=>k (X141_0 a0 w0_3)) a0 v0_3 v0_4) (by kernel_rfl) ?_;unfold sI B141_0
  repeat' first | with_reducible refine eC ?_ ?_ | with_reducible refine eA λ_=>?_ | with_reducible refine eB λ_=>?_ | with_reducible exact ih _ _ | with_reducible exact hk _ | exact rfl
def aIt (L:Nat)(a0:(List Int)):Option (List Int):=G141 (λx=>x) (λv0_3 v0_4=>sI L a0 L v0_3 v0_4 (λw0_3=>A141_0 (λx=>x) a0 w0_3)) a0
theorem aXA (L:Nat)(a0:(List Int)):fP prog rO (bO L) f141 (aTx.enc a0)=(aIt L a0).map xM:=by
 have hin0:∀ (v0_3:(List Int)) (v0_4:Int),bL prog rO L f141 0 [1,1,0,1,0,0] (cQ (aX prog f141) (cO prog rO L f141 [1,1,0,1] (aX prog f141)).n (cO prog rO L f141 [1,1,0,1] (aX prog f141)).x) L (S141_0 a0 v0_3 v0_4)=((λv0_3 v0_4=>sI L a0 L v0_3 v0_4 (λw0_3=>A141_0 (λx=>x) a0 w0_3)) v0_3 v0_4).map xM:=λv0_3 v0_4=>aG5 L a0 _ _ _ (λw0_3=>by refine .trans (b:=A141_0 xM a0 w0_3) (by kernel_rfl) ?_;unfold A141_0;repeat' first | with_reducible refine eC ?_ ?_ | with_reducible refine eA λ_=>?_ | with_reducible refine eB λ_=>?_ | exact rfl) L v0_3 v0_4
 refine .trans (b:=G141 xM (λv0_3 v0_4=>bL prog rO L f141 0 [1,1,0,1,0,0] (cQ (aX prog f141) (cO prog rO L f141 [1,1,0,1] (aX prog f141)).n (cO prog rO L f141 [1,1,0,1] (aX prog f141)).x) L (S141_0 a0 v0_3 v0_4)) a0) (by kernel_rfl) ?_;unfold aIt G141
 repeat' first | with_reducible refine eC ?_ ?_ | with_reducible refine eA λ_=>?_ | with_reducible refine eB λ_=>?_ | with_reducible exact hin0 _ _ | exact rfl
def aLN (L:Nat)(x:(List Int)):Option (List Int):=aIt L x
theorem aVo (m:Y141)(hm:∀ (x:(List Int)) t,m x=some t->∃ L,aLN L x=some t):Sat prog cxT 141 (aI3 m):=
 cF bD aZ (by rfl) (fn:=f141) rfl aTx xM aLf m rO aY aR (aLN) (λL x=>aXA L x) hm aQl
def aKk (m31:Y31):Env cxT:={ Kc:=dD [(31,c31 m31)],Kw:=dF [],lv:=λi=>[],xv:=λi=>none }
def G142 {B:Type}(u:E9->B)(m31:Y31)(a0_0:Int)(a0_1:Int)(a0_2:Int)(a0_3:Int)(a0_4:Int)(a0_5:Int)(a0_6:Int)(a0_7:Int)(a0_8:Int):Option B:=
 dL (m31 (a0_3,(a0_4,(a0_5,(a0_6,(a0_7,a0_8)))))) ((0:Int),(0:Int),(0:Int),(0:Int),(0:Int),(0:Int)) λ(q1:(Int×Int×Int×Int×Int×Int))=>some (u (a0_0,a0_1,a0_2,q1.1,q1.2.1,q1.2.2.1,q1.2.2.2.1,q1.2.2.2.2.1,q1.2.2.2.2.2))
def aNr (m31:Y31)(L:Nat)(a0_0:Int)(a0_1:Int)(a0_2:Int)(a0_3:Int)(a0_4:Int)(a0_5:Int)(a0_6:Int)(a0_7:Int)(a0_8:Int):Option E9:=G142 (λx=>x) m31 a0_0 a0_1 a0_2 a0_3 a0_4 a0_5 a0_6 a0_7 a0_8
theorem aXz (m31:Y31)(L:Nat)(a0_0:Int)(a0_1:Int)(a0_2:Int)(a0_3:Int)(a0_4:Int)(a0_5:Int)(a0_6:Int)(a0_7:Int)(a0_8:Int):fP prog (aKk m31) (bO L) f142 (aTw.enc (a0_0,a0_1,a0_2,a0_3,a0_4,a0_5,a0_6,a0_7,a0_8))=(aNr m31 L a0_0 a0_1 a0_2 a0_3 a0_4 a0_5 a0_6 a0_7 a0_8).map aFq:=by
 refine .trans (b:=G142 aFq m31 a0_0 a0_1 a0_2 a0_3 a0_4 a0_5 a0_6 a0_7 a0_8) (by kernel_rfl) ?_;unfold aNr G142
 repeat' first | with_reducible refine eC ?_ ?_ | with_reducible refine eA λ_=>?_ | with_reducible refine eB λ_=>?_ | exact rfl
def aOD (m31:Y31)(L:Nat)(x:E9):Option E9:=aNr m31 L x.1 x.2.1 x.2.2.1 x.2.2.2.1 x.2.2.2.2.1 x.2.2.2.2.2.1 x.2.2.2.2.2.2.1 x.2.2.2.2.2.2.2.1 x.2.2.2.2.2.2.2.2
theorem aVn (m31:Y31)(h31:Sat prog cxT 31 (c31 m31))(m:Y142)(hm:∀ (x:E9) t,m x=some t->∃ L,aOD m31 L x=some t):Sat prog cxT 142 (aFN m):=
 cF bD aZ (by rfl) (fn:=f142) rfl aTw aFq aLe m (aKk m31) (aN h31 aY) aR (aOD m31) (λL x=>aXz m31 L x.1 x.2.1 x.2.2.1 x.2.2.2.1 x.2.2.2.2.1 x.2.2.2.2.2.1 x.2.2.2.2.2.2.1 x.2.2.2.2.2.2.2.1 x.2.2.2.2.2.2.2.2) hm aQk
def aQ4 (gF:Y140)(jS:Y141):Env cxT:={ Kc:=dD [(140,aFO gF),(141,aI3 jS)],Kw:=dF [],lv:=λi=>[],xv:=λi=>none }
def G90 {B:Type}(u:N10->B)(gF:Y140)(jS:Y141)(a0_0:Int)(a0_1:Int)(a0_2:Int)(a0_3:Int)(a0_4:(List E9))(a0_5:Int)(a0_6:Int)(a0_7:(List Int))(a0_8:(List Int))(a0_9:(List Int)):Option B:=
 dL (gF a0_4) [] λ(q1:(List E9))=>dL (jS a0_7) [] λ(q2:(List Int))=>dL (jS a0_8) [] λ(q3:(List Int))=>dL (jS a0_9) [] λ(q4:(List Int))=>some (u (a0_0,a0_1,a0_2,a0_3,q1,a0_5,a0_6,q2,q3,q4))
def g90 (gF:Y140)(jS:Y141)(L:Nat)(a0_0:Int)(a0_1:Int)(a0_2:Int)(a0_3:Int)(a0_4:(List E9))(a0_5:Int)(a0_6:Int)(a0_7:(List Int))(a0_8:(List Int))(a0_9:(List Int)):Option N10:=G90 (λx=>x) gF jS a0_0 a0_1 a0_2 a0_3 a0_4 a0_5 a0_6 a0_7 a0_8 a0_9
theorem e90 (gF:Y140)(jS:Y141)(L:Nat)(a0_0:Int)(a0_1:Int)(a0_2:Int)(a0_3:Int)(a0_4:(List E9))(a0_5:Int)(a0_6:Int)(a0_7:(List Int))(a0_8:(List Int))(a0_9:(List Int)):fP prog (aQ4 gF jS) (bO L) f90 (a90.enc (a0_0,a0_1,a0_2,a0_3,a0_4,a0_5,a0_6,a0_7,a0_8,a0_9))=(g90 gF jS L a0_0 a0_1 a0_2 a0_3 a0_4 a0_5 a0_6 a0_7 a0_8 a0_9).map n90:=by
 refine .trans (b:=G90 n90 gF jS a0_0 a0_1 a0_2 a0_3 a0_4 a0_5 a0_6 a0_7 a0_8 a0_9) (by kernel_rfl) ?_;unfold g90 G90
 repeat' first | with_reducible refine eC ?_ ?_ | with_reducible refine eA λ_=>?_ | with_reducible refine eB λ_=>?_ | exact rfl
def w90 (gF:Y140)(jS:Y141)(L:Nat)(x:N10):Option N10:=g90 gF jS L x.1 x.2.1 x.2.2.1 x.2.2.2.1 x.2.2.2.2.1 x.2.2.2.2.2.1 x.2.2.2.2.2.2.1 x.2.2.2.2.2.2.2.1 x.2.2.2.2.2.2.2.2.1 x.2.2.2.2.2.2.2.2.2
theorem s90 (gF:Y140)(jS:Y141)(h140:Sat prog cxT 140 (aFO gF))(h141:Sat prog cxT 141 (aI3 jS))(m:Y90)(hm:∀ (x:N10) t,m x=some t->∃ L,w90 gF jS L x=some t):Sat prog cxT 90 (c90 m):=
 cF bD aZ (by rfl) (fn:=f90) rfl a90 n90 aRH m (aQ4 gF jS) (aN h140 (aN h141 aY)) aR (w90 gF jS) (λL x=>e90 gF jS L x.1 x.2.1 x.2.2.1 x.2.2.2.1 x.2.2.2.2.1 x.2.2.2.2.2.1 x.2.2.2.2.2.2.1 x.2.2.2.2.2.2.2.1 x.2.2.2.2.2.2.2.2.1 x.2.2.2.2.2.2.2.2.2) hm aV2
def aQ3 (gF:Y140):Env cxT:={ Kc:=dD [(140,aFO gF)],Kw:=dF [],lv:=λi=>[],xv:=λi=>none }
def G91 {B:Type}(u:M9->B)(gF:Y140)(a0_0:Int)(a0_1:Int)(a0_2:Int)(a0_3:Int)(a0_4:Int)(a0_5:Int)(a0_6:Int)(a0_7:Bool)(a0_8:(List E9)):Option B:=
 dL (gF a0_8) [] λ(q1:(List E9))=>some (u (a0_0,a0_1,a0_2,a0_3,a0_4,a0_5,a0_6,a0_7,q1))
def g91 (gF:Y140)(L:Nat)(a0_0:Int)(a0_1:Int)(a0_2:Int)(a0_3:Int)(a0_4:Int)(a0_5:Int)(a0_6:Int)(a0_7:Bool)(a0_8:(List E9)):Option M9:=G91 (λx=>x) gF a0_0 a0_1 a0_2 a0_3 a0_4 a0_5 a0_6 a0_7 a0_8
theorem e91 (gF:Y140)(L:Nat)(a0_0:Int)(a0_1:Int)(a0_2:Int)(a0_3:Int)(a0_4:Int)(a0_5:Int)(a0_6:Int)(a0_7:Bool)(a0_8:(List E9)):fP prog (aQ3 gF) (bO L) f91 (a91.enc (a0_0,a0_1,a0_2,a0_3,a0_4,a0_5,a0_6,a0_7,a0_8))=(g91 gF L a0_0 a0_1 a0_2 a0_3 a0_4 a0_5 a0_6 a0_7 a0_8).map n91:=by
 refine .trans (b:=G91 n91 gF a0_0 a0_1 a0_2 a0_3 a0_4 a0_5 a0_6 a0_7 a0_8) (by kernel_rfl) ?_;unfold g91 G91
 repeat' first | with_reducible refine eC ?_ ?_ | with_reducible refine eA λ_=>?_ | with_reducible refine eB λ_=>?_ | exact rfl
def w91 (gF:Y140)(L:Nat)(x:M9):Option M9:=g91 gF L x.1 x.2.1 x.2.2.1 x.2.2.2.1 x.2.2.2.2.1 x.2.2.2.2.2.1 x.2.2.2.2.2.2.1 x.2.2.2.2.2.2.2.1 x.2.2.2.2.2.2.2.2
theorem s91 (gF:Y140)(h140:Sat prog cxT 140 (aFO gF))(m:Y91)(hm:∀ (x:M9) t,m x=some t->∃ L,w91 gF L x=some t):Sat prog cxT 91 (c91 m):=
 cF bD aZ (by rfl) (fn:=f91) rfl a91 n91 aRG m (aQ3 gF) (aN h140 aY) aR (w91 gF) (λL x=>e91 gF L x.1 x.2.1 x.2.2.1 x.2.2.2.1 x.2.2.2.2.1 x.2.2.2.2.2.1 x.2.2.2.2.2.2.1 x.2.2.2.2.2.2.2.1 x.2.2.2.2.2.2.2.2) hm aV1
def aQ2:Env cxT:={ Kc:=dD [],Kw:=dF [],lv:=λi=>[],xv:=λi=>none }
def G92 {B:Type}(u:(Int×Int)->B)(a0_0:Int)(a0_1:Int):Option B:=
 some (u (a0_0,a0_1))
def g92 (L:Nat)(a0_0:Int)(a0_1:Int):Option (Int×Int):=G92 (λx=>x) a0_0 a0_1
theorem e92 (L:Nat)(a0_0:Int)(a0_1:Int):fP prog aQ2 (bO L) f92 (a92.enc (a0_0,a0_1))=(g92 L a0_0 a0_1).map n92:=by
 refine .trans (b:=G92 n92 a0_0 a0_1) (by kernel_rfl) ?_;unfold g92 G92
 repeat' first | with_reducible refine eC ?_ ?_ | with_reducible refine eA λ_=>?_ | with_reducible refine eB λ_=>?_ | exact rfl
def w92 (L:Nat)(x:(Int×Int)):Option (Int×Int):=g92 L x.1 x.2
theorem s92 (m:Y92)(hm:∀ (x:(Int×Int)) t,m x=some t->∃ L,w92 L x=some t):Sat prog cxT 92 (c92 m):=
 cF bD aZ (by rfl) (fn:=f92) rfl a92 n92 aRF m aQ2 aY aR (w92) (λL x=>e92 L x.1 x.2) hm aV0
def aQ1 (m142:Y142):Env cxT:={ Kc:=dD [(142,aFN m142)],Kw:=dF [],lv:=λi=>[],xv:=λi=>none }
def G93 {B:Type}(u:S10->B)(m142:Y142)(a0_0:Int)(a0_1:Int)(a0_2:Int)(a0_3:Int)(a0_4:Int)(a0_5:Int)(a0_6:Int)(a0_7:Int)(a0_8:Int)(a0_9:Int):Option B:=
 dL (m142 (a0_1,(a0_2,(a0_3,(a0_4,(a0_5,(a0_6,(a0_7,(a0_8,a0_9))))))))) ((0:Int),(0:Int),(0:Int),(0:Int),(0:Int),(0:Int),(0:Int),(0:Int),(0:Int)) λ(q1:E9)=>some (u (a0_0,q1.1,q1.2.1,q1.2.2.1,q1.2.2.2.1,q1.2.2.2.2.1,q1.2.2.2.2.2.1,q1.2.2.2.2.2.2.1,q1.2.2.2.2.2.2.2.1,q1.2.2.2.2.2.2.2.2))
def g93 (m142:Y142)(L:Nat)(a0_0:Int)(a0_1:Int)(a0_2:Int)(a0_3:Int)(a0_4:Int)(a0_5:Int)(a0_6:Int)(a0_7:Int)(a0_8:Int)(a0_9:Int):Option S10:=G93 (λx=>x) m142 a0_0 a0_1 a0_2 a0_3 a0_4 a0_5 a0_6 a0_7 a0_8 a0_9
theorem e93 (m142:Y142)(L:Nat)(a0_0:Int)(a0_1:Int)(a0_2:Int)(a0_3:Int)(a0_4:Int)(a0_5:Int)(a0_6:Int)(a0_7:Int)(a0_8:Int)(a0_9:Int):fP prog (aQ1 m142) (bO L) f93 (a93.enc (a0_0,a0_1,a0_2,a0_3,a0_4,a0_5,a0_6,a0_7,a0_8,a0_9))=(g93 m142 L a0_0 a0_1 a0_2 a0_3 a0_4 a0_5 a0_6 a0_7 a0_8 a0_9).map n93:=by
 refine .trans (b:=G93 n93 m142 a0_0 a0_1 a0_2 a0_3 a0_4 a0_5 a0_6 a0_7 a0_8 a0_9) (by kernel_rfl) ?_;unfold g93 G93
 repeat' first | with_reducible refine eC ?_ ?_ | with_reducible refine eA λ_=>?_ | with_reducible refine eB λ_=>?_ | exact rfl
def w93 (m142:Y142)(L:Nat)(x:S10):Option S10:=g93 m142 L x.1 x.2.1 x.2.2.1 x.2.2.2.1 x.2.2.2.2.1 x.2.2.2.2.2.1 x.2.2.2.2.2.2.1 x.2.2.2.2.2.2.2.1 x.2.2.2.2.2.2.2.2.1 x.2.2.2.2.2.2.2.2.2
theorem s93 (m142:Y142)(h142:Sat prog cxT 142 (aFN m142))(m:Y93)(hm:∀ (x:S10) t,m x=some t->∃ L,w93 m142 L x=some t):Sat prog cxT 93 (c93 m):=
 cF bD aZ (by rfl) (fn:=f93) rfl a93 n93 aRE m (aQ1 m142) (aN h142 aY) aR (w93 m142) (λL x=>e93 m142 L x.1 x.2.1 x.2.2.1 x.2.2.2.1 x.2.2.2.2.1 x.2.2.2.2.2.1 x.2.2.2.2.2.2.1 x.2.2.2.2.2.2.2.1 x.2.2.2.2.2.2.2.2.1 x.2.2.2.2.2.2.2.2.2) hm aVZ
def aAl (lW:Y90):Env cxT:={ Kc:=dD [(90,c90 lW)],Kw:=dF [],lv:=λi=>if i=0 then[(0,[some 108]),(3,[some 96]),(4,[])]else[],xv:=λi=>if i=0 then some [(3,[some 96])]else none }
def S40_0 (a0:(List N10))(v0_3:(List N10))(v0_4:Int):St cxT.ty:={ slots:=[(.inl (.inl (ls { own:=0,nm:=0,e:=108,o:=false,xs:=a0 }))),aK,aK,(.inl (.inl (ls { own:=1,nm:=192,e:=96,o:=true,xs:=v0_3 }))),(.inl (.inl (lv (.int .i64 v0_4))))]++List.replicate 18 aK,D:=[],F:=[],ctr:=1 }
def X40_0 (a0:(List N10))(w0_3:(List N10)):St cxT.ty:={ slots:=[aK,aK,aK,(.inl (.inl (ls { own:=1,nm:=192,e:=96,o:=true,xs:=w0_3 })))]++List.replicate 19 aK,D:=[],F:=[],ctr:=1 }
def G40 {B:Type}(u:(List N10)->B)(hh0:(List N10)->Int->Option B)(lW:Y90)(a0:(List N10)):Option B:=
 bif (((decide ((0:Int)<=(Nat.cast (List.length a0):Int)))&&(decide ((Nat.cast (List.length a0):Int)<=(Nat.cast (List.length a0):Int))))&&(decide ((Nat.cast (List.length a0):Int)<=(1000000000:Int))))then hh0 (List.replicate (Int.toNat (Nat.cast (List.length a0):Int)) ((0:Int),((0:Int),((0:Int),((0:Int),(([]:List E9),((0:Int),((0:Int),(([]:List (Int)),(([]:List (Int)),([]:List (Int)))))))))))) (0:Int)
 else none
def B40_0 {B:Type}(u:(List N10)->B)(gg:(List N10)->Int->Option B)(kk:(List N10)->Option B)(lW:Y90)(a0:(List N10))(v0_3:(List N10))(v0_4:Int):Option B:=
 bif (decide (v0_4 < (Nat.cast (List.length a0):Int)))then fB (List.getD a0 v0_4.toNat ((0:Int),((0:Int),((0:Int),((0:Int),(([]:List E9),((0:Int),((0:Int),(([]:List (Int)),(([]:List (Int)),([]:List (Int)))))))))))) λs1_0=>bif ((decide ((0:Int)<=v0_4))&&(decide (v0_4 < (Nat.cast (List.length a0):Int))))then dL (lW (s1_0.1,(s1_0.2.1,(s1_0.2.2.1,(s1_0.2.2.2.1,(s1_0.2.2.2.2.1,(s1_0.2.2.2.2.2.1,(s1_0.2.2.2.2.2.2.1,(s1_0.2.2.2.2.2.2.2.1,(s1_0.2.2.2.2.2.2.2.2.1,s1_0.2.2.2.2.2.2.2.2.2)))))))))) ((0:Int),(0:Int),(0:Int),(0:Int),[],(0:Int),(0:Int),[],[],[]) λ(q3:N10)=>bif ((decide ((0:Int)<=v0_4))&&(decide (v0_4 < (Nat.cast (List.length v0_3):Int))))then gg (List.set v0_3 v0_4.toNat (q3.1,(q3.2.1,(q3.2.2.1,(q3.2.2.2.1,(q3.2.2.2.2.1,(q3.2.2.2.2.2.1,(q3.2.2.2.2.2.2.1,(q3.2.2.2.2.2.2.2.1,(q3.2.2.2.2.2.2.2.2.1,q3.2.2.2.2.2.2.2.2.2)))))))))) (wrap .i64 (v0_4+(1:Int)))
    else none
  else none
 else kk v0_3
def A40_0 {B:Type}(u:(List N10)->B)(lW:Y90)(a0:(List N10))(w0_3:(List N10)):Option B:=
 some (u w0_3)
def yA (lW:Y90)(L:Nat)(a0:(List N10)):Nat->(List N10)->Int->((List N10)->Option (List N10))->Option (List N10)
 | 0,_,_,_=>none
 | n+1,v0_3,v0_4,k=>B40_0 (λx=>x) (λv0_3 v0_4=>yA lW L a0 n v0_3 v0_4 k) k lW a0 v0_3 v0_4
theorem aJG (lW:Y90)(L:Nat)(a0:(List N10))(k:St cxT.ty->Option (V cxT.ty))(xk:Nat->St cxT.ty->Option (V cxT.ty))(k':(List N10)->Option (List N10))(hk:∀ (w0_3:(List N10)),k (X40_0 a0 w0_3)=(k' w0_3).map n40):∀ (n:Nat) (v0_3:(List N10)) (v0_4:Int),bL prog (aAl lW) L f40 0 [1,1,0,1,0,0] (cQ (aX prog f40) k xk) n (S40_0 a0 v0_3 v0_4)=(yA lW L a0 n v0_3 v0_4 k').map n40
 | 0,_,_=>rfl
 | n+1,v0_3,v0_4=>by
  rw[cG];have ih:=aJG lW L a0 k xk k' hk n;refine .trans (b:=B40_0 n40 (λv0_3 v0_4=>(bL prog (aAl lW) L f40 0 [1,1,0,1,0,0] (cQ (aX prog f40) k xk) n) (S40_0 a0 v0_3 v0_4)) (λw0_3=>k (X40_0 a0 w0_3)) lW a0 v0_3 v0_4) (by kernel_rfl) ?_;unfold yA B40_0
  repeat' first | with_reducible refine eC ?_ ?_ | with_reducible refine eA λ_=>?_ | with_reducible refine eB λ_=>?_ | with_reducible exact ih _ _ | with_reducible exact hk _ | exact rfl
def g40 (lW:Y90)(L:Nat)(a0:(List N10)):Option (List N10):=G40 (λx=>x) (λv0_3 v0_4=>yA lW L a0 L v0_3 v0_4 (λw0_3=>A40_0 (λx=>x) lW a0 w0_3)) lW a0
theorem e40 (lW:Y90)(L:Nat)(a0:(List N10)):fP prog (aAl lW) (bO L) f40 (a40.enc a0)=(g40 lW L a0).map n40:=by
 have hin0:∀ (v0_3:(List N10)) (v0_4:Int),bL prog (aAl lW) L f40 0 [1,1,0,1,0,0] (cQ (aX prog f40) (cO prog (aAl lW) L f40 [1,1,0,1] (aX prog f40)).n (cO prog (aAl lW) L f40 [1,1,0,1] (aX prog f40)).x) L (S40_0 a0 v0_3 v0_4)=((λv0_3 v0_4=>yA lW L a0 L v0_3 v0_4 (λw0_3=>A40_0 (λx=>x) lW a0 w0_3)) v0_3 v0_4).map n40:=λv0_3 v0_4=>aJG lW L a0 _ _ _ (λw0_3=>by refine .trans (b:=A40_0 n40 lW a0 w0_3) (by kernel_rfl) ?_;unfold A40_0;repeat' first | with_reducible refine eC ?_ ?_ | with_reducible refine eA λ_=>?_ | with_reducible refine eB λ_=>?_ | exact rfl) L v0_3 v0_4
 refine .trans (b:=G40 n40 (λv0_3 v0_4=>bL prog (aAl lW) L f40 0 [1,1,0,1,0,0] (cQ (aX prog f40) (cO prog (aAl lW) L f40 [1,1,0,1] (aX prog f40)).n (cO prog (aAl lW) L f40 [1,1,0,1] (aX prog f40)).x) L (S40_0 a0 v0_3 v0_4)) lW a0) (by kernel_rfl) ?_;unfold g40 G40
 repeat' first | with_reducible refine eC ?_ ?_ | with_reducible refine eA λ_=>?_ | with_reducible refine eB λ_=>?_ | with_reducible exact hin0 _ _ | exact rfl
def w40 (lW:Y90)(L:Nat)(x:(List N10)):Option (List N10):=g40 lW L x
theorem s40 (lW:Y90)(h90:Sat prog cxT 90 (c90 lW))(m:Y40)(hm:∀ (x:(List N10)) t,m x=some t->∃ L,w40 lW L x=some t):Sat prog cxT 40 (c40 m):=
 cF bD aZ (by rfl) (fn:=f40) rfl a40 n40 aR2 m (aAl lW) (aN h90 aY) aR (w40 lW) (λL x=>e40 lW L x) hm aWn
def aAk (lV:Y91):Env cxT:={ Kc:=dD [(91,c91 lV)],Kw:=dF [],lv:=λi=>if i=0 then[(0,[some 111]),(3,[some 78]),(4,[])]else[],xv:=λi=>if i=0 then some [(3,[some 78])]else none }
def S41_0 (a0:(List M9))(v0_3:(List M9))(v0_4:Int):St cxT.ty:={ slots:=[(.inl (.inl (ls { own:=0,nm:=0,e:=111,o:=false,xs:=a0 }))),aK,aK,(.inl (.inl (ls { own:=1,nm:=192,e:=78,o:=true,xs:=v0_3 }))),(.inl (.inl (lv (.int .i64 v0_4))))]++List.replicate 18 aK,D:=[],F:=[],ctr:=1 }
def X41_0 (a0:(List M9))(w0_3:(List M9)):St cxT.ty:={ slots:=[aK,aK,aK,(.inl (.inl (ls { own:=1,nm:=192,e:=78,o:=true,xs:=w0_3 })))]++List.replicate 19 aK,D:=[],F:=[],ctr:=1 }
def G41 {B:Type}(u:(List M9)->B)(hh0:(List M9)->Int->Option B)(lV:Y91)(a0:(List M9)):Option B:=
 bif (((decide ((0:Int)<=(Nat.cast (List.length a0):Int)))&&(decide ((Nat.cast (List.length a0):Int)<=(Nat.cast (List.length a0):Int))))&&(decide ((Nat.cast (List.length a0):Int)<=(1000000000:Int))))then hh0 (List.replicate (Int.toNat (Nat.cast (List.length a0):Int)) ((0:Int),((0:Int),((0:Int),((0:Int),((0:Int),((0:Int),((0:Int),(false,[]))))))))) (0:Int)
 else none
def B41_0 {B:Type}(u:(List M9)->B)(gg:(List M9)->Int->Option B)(kk:(List M9)->Option B)(lV:Y91)(a0:(List M9))(v0_3:(List M9))(v0_4:Int):Option B:=
 bif (decide (v0_4 < (Nat.cast (List.length a0):Int)))then fB (List.getD a0 v0_4.toNat ((0:Int),((0:Int),((0:Int),((0:Int),((0:Int),((0:Int),((0:Int),(false,[]))))))))) λs1_0=>bif ((decide ((0:Int)<=v0_4))&&(decide (v0_4 < (Nat.cast (List.length a0):Int))))then dL (lV (s1_0.1,(s1_0.2.1,(s1_0.2.2.1,(s1_0.2.2.2.1,(s1_0.2.2.2.2.1,(s1_0.2.2.2.2.2.1,(s1_0.2.2.2.2.2.2.1,(s1_0.2.2.2.2.2.2.2.1,s1_0.2.2.2.2.2.2.2.2))))))))) ((0:Int),(0:Int),(0:Int),(0:Int),(0:Int),(0:Int),(0:Int),false,[]) λ(q3:M9)=>bif ((decide ((0:Int)<=v0_4))&&(decide (v0_4 < (Nat.cast (List.length v0_3):Int))))then gg (List.set v0_3 v0_4.toNat (q3.1,(q3.2.1,(q3.2.2.1,(q3.2.2.2.1,(q3.2.2.2.2.1,(q3.2.2.2.2.2.1,(q3.2.2.2.2.2.2.1,(q3.2.2.2.2.2.2.2.1,q3.2.2.2.2.2.2.2.2))))))))) (wrap .i64 (v0_4+(1:Int)))
    else none
  else none
 else kk v0_3
def A41_0 {B:Type}(u:(List M9)->B)(lV:Y91)(a0:(List M9))(w0_3:(List M9)):Option B:=
 some (u w0_3)
def xZ (lV:Y91)(L:Nat)(a0:(List M9)):Nat->(List M9)->Int->((List M9)->Option (List M9))->Option (List M9)
 | 0,_,_,_=>none
 | n+1,v0_3,v0_4,k=>B41_0 (λx=>x) (λv0_3 v0_4=>xZ lV L a0 n v0_3 v0_4 k) k lV a0 v0_3 v0_4
theorem aJF (lV:Y91)(L:Nat)(a0:(List M9))(k:St cxT.ty->Option (V cxT.ty))(xk:Nat->St cxT.ty->Option (V cxT.ty))(k':(List M9)->Option (List M9))(hk:∀ (w0_3:(List M9)),k (X41_0 a0 w0_3)=(k' w0_3).map n41):∀ (n:Nat) (v0_3:(List M9)) (v0_4:Int),bL prog (aAk lV) L f41 0 [1,1,0,1,0,0] (cQ (aX prog f41) k xk) n (S41_0 a0 v0_3 v0_4)=(xZ lV L a0 n v0_3 v0_4 k').map n41
 | 0,_,_=>rfl
 | n+1,v0_3,v0_4=>by
  rw[cG];have ih:=aJF lV L a0 k xk k' hk n;refine .trans (b:=B41_0 n41 (λv0_3 v0_4=>(bL prog (aAk lV) L f41 0 [1,1,0,1,0,0] (cQ (aX prog f41) k xk) n) (S41_0 a0 v0_3 v0_4)) (λw0_3=>k (X41_0 a0 w0_3)) lV a0 v0_3 v0_4) (by kernel_rfl) ?_;unfold xZ B41_0
  repeat' first | with_reducible refine eC ?_ ?_ | with_reducible refine eA λ_=>?_ | with_reducible refine eB λ_=>?_ | with_reducible exact ih _ _ | with_reducible exact hk _ | exact rfl
def g41 (lV:Y91)(L:Nat)(a0:(List M9)):Option (List M9):=G41 (λx=>x) (λv0_3 v0_4=>xZ lV L a0 L v0_3 v0_4 (λw0_3=>A41_0 (λx=>x) lV a0 w0_3)) lV a0
theorem e41 (lV:Y91)(L:Nat)(a0:(List M9)):fP prog (aAk lV) (bO L) f41 (a41.enc a0)=(g41 lV L a0).map n41:=by
 have hin0:∀ (v0_3:(List M9)) (v0_4:Int),bL prog (aAk lV) L f41 0 [1,1,0,1,0,0] (cQ (aX prog f41) (cO prog (aAk lV) L f41 [1,1,0,1] (aX prog f41)).n (cO prog (aAk lV) L f41 [1,1,0,1] (aX prog f41)).x) L (S41_0 a0 v0_3 v0_4)=((λv0_3 v0_4=>xZ lV L a0 L v0_3 v0_4 (λw0_3=>A41_0 (λx=>x) lV a0 w0_3)) v0_3 v0_4).map n41:=λv0_3 v0_4=>aJF lV L a0 _ _ _ (λw0_3=>by refine .trans (b:=A41_0 n41 lV a0 w0_3) (by kernel_rfl) ?_;unfold A41_0;repeat' first | with_reducible refine eC ?_ ?_ | with_reducible refine eA λ_=>?_ | with_reducible refine eB λ_=>?_ | exact rfl) L v0_3 v0_4
 refine .trans (b:=G41 n41 (λv0_3 v0_4=>bL prog (aAk lV) L f41 0 [1,1,0,1,0,0] (cQ (aX prog f41) (cO prog (aAk lV) L f41 [1,1,0,1] (aX prog f41)).n (cO prog (aAk lV) L f41 [1,1,0,1] (aX prog f41)).x) L (S41_0 a0 v0_3 v0_4)) lV a0) (by kernel_rfl) ?_;unfold g41 G41
 repeat' first | with_reducible refine eC ?_ ?_ | with_reducible refine eA λ_=>?_ | with_reducible refine eB λ_=>?_ | with_reducible exact hin0 _ _ | exact rfl
def w41 (lV:Y91)(L:Nat)(x:(List M9)):Option (List M9):=g41 lV L x
theorem s41 (lV:Y91)(h91:Sat prog cxT 91 (c91 lV))(m:Y41)(hm:∀ (x:(List M9)) t,m x=some t->∃ L,w41 lV L x=some t):Sat prog cxT 41 (c41 m):=
 cF bD aZ (by rfl) (fn:=f41) rfl a41 n41 aR1 m (aAk lV) (aN h91 aY) aR (w41 lV) (λL x=>e41 lV L x) hm aWm
def aAj (mJ:Y92):Env cxT:={ Kc:=dD [(92,c92 mJ)],Kw:=dF [],lv:=λi=>if i=0 then[(0,[some 123]),(3,[some 66]),(4,[])]else[],xv:=λi=>if i=0 then some [(3,[some 66])]else none }
def S42_0 (a0:(List W2))(v0_3:(List W2))(v0_4:Int):St cxT.ty:={ slots:=[(.inl (.inl (ls { own:=0,nm:=0,e:=123,o:=false,xs:=a0 }))),aK,aK,(.inl (.inl (ls { own:=1,nm:=192,e:=66,o:=true,xs:=v0_3 }))),(.inl (.inl (lv (.int .i64 v0_4))))]++List.replicate 18 aK,D:=[],F:=[],ctr:=1 }
def X42_0 (a0:(List W2))(w0_3:(List W2)):St cxT.ty:={ slots:=[aK,aK,aK,(.inl (.inl (ls { own:=1,nm:=192,e:=66,o:=true,xs:=w0_3 })))]++List.replicate 19 aK,D:=[],F:=[],ctr:=1 }
def G42 {B:Type}(u:(List W2)->B)(hh0:(List W2)->Int->Option B)(mJ:Y92)(a0:(List W2)):Option B:=
 bif (((decide ((0:Int)<=(Nat.cast (List.length a0):Int)))&&(decide ((Nat.cast (List.length a0):Int)<=(Nat.cast (List.length a0):Int))))&&(decide ((Nat.cast (List.length a0):Int)<=(1000000000:Int))))then hh0 (List.replicate (Int.toNat (Nat.cast (List.length a0):Int)) ((0:Int),(0:Int))) (0:Int)
 else none
def B42_0 {B:Type}(u:(List W2)->B)(gg:(List W2)->Int->Option B)(kk:(List W2)->Option B)(mJ:Y92)(a0:(List W2))(v0_3:(List W2))(v0_4:Int):Option B:=
 bif (decide (v0_4 < (Nat.cast (List.length a0):Int)))then fB (List.getD a0 v0_4.toNat ((0:Int),(0:Int))) λs1_0=>bif ((decide ((0:Int)<=v0_4))&&(decide (v0_4 < (Nat.cast (List.length a0):Int))))then dL (mJ (s1_0.1,s1_0.2)) ((0:Int),(0:Int)) λ(q3:(Int×Int))=>bif ((decide ((0:Int)<=v0_4))&&(decide (v0_4 < (Nat.cast (List.length v0_3):Int))))then gg (List.set v0_3 v0_4.toNat (q3.1,q3.2)) (wrap .i64 (v0_4+(1:Int)))
    else none
  else none
 else kk v0_3
def A42_0 {B:Type}(u:(List W2)->B)(mJ:Y92)(a0:(List W2))(w0_3:(List W2)):Option B:=
 some (u w0_3)
def xY (mJ:Y92)(L:Nat)(a0:(List W2)):Nat->(List W2)->Int->((List W2)->Option (List W2))->Option (List W2)
 | 0,_,_,_=>none
 | n+1,v0_3,v0_4,k=>B42_0 (λx=>x) (λv0_3 v0_4=>xY mJ L a0 n v0_3 v0_4 k) k mJ a0 v0_3 v0_4
theorem aJE (mJ:Y92)(L:Nat)(a0:(List W2))(k:St cxT.ty->Option (V cxT.ty))(xk:Nat->St cxT.ty->Option (V cxT.ty))(k':(List W2)->Option (List W2))(hk:∀ (w0_3:(List W2)),k (X42_0 a0 w0_3)=(k' w0_3).map n42):∀ (n:Nat) (v0_3:(List W2)) (v0_4:Int),bL prog (aAj mJ) L f42 0 [1,1,0,1,0,0] (cQ (aX prog f42) k xk) n (S42_0 a0 v0_3 v0_4)=(xY mJ L a0 n v0_3 v0_4 k').map n42
 | 0,_,_=>rfl
 | n+1,v0_3,v0_4=>by
  rw[cG];have ih:=aJE mJ L a0 k xk k' hk n;refine .trans (b:=B42_0 n42 (λv0_3 v0_4=>(bL prog (aAj mJ) L f42 0 [1,1,0,1,0,0] (cQ (aX prog f42) k xk) n) (S42_0 a0 v0_3 v0_4)) (λw0_3=>k (X42_0 a0 w0_3)) mJ a0 v0_3 v0_4) (by kernel_rfl) ?_;unfold xY B42_0
  repeat' first | with_reducible refine eC ?_ ?_ | with_reducible refine eA λ_=>?_ | with_reducible refine eB λ_=>?_ | with_reducible exact ih _ _ | with_reducible exact hk _ | exact rfl
def g42 (mJ:Y92)(L:Nat)(a0:(List W2)):Option (List W2):=G42 (λx=>x) (λv0_3 v0_4=>xY mJ L a0 L v0_3 v0_4 (λw0_3=>A42_0 (λx=>x) mJ a0 w0_3)) mJ a0
theorem e42 (mJ:Y92)(L:Nat)(a0:(List W2)):fP prog (aAj mJ) (bO L) f42 (a42.enc a0)=(g42 mJ L a0).map n42:=by
 have hin0:∀ (v0_3:(List W2)) (v0_4:Int),bL prog (aAj mJ) L f42 0 [1,1,0,1,0,0] (cQ (aX prog f42) (cO prog (aAj mJ) L f42 [1,1,0,1] (aX prog f42)).n (cO prog (aAj mJ) L f42 [1,1,0,1] (aX prog f42)).x) L (S42_0 a0 v0_3 v0_4)=((λv0_3 v0_4=>xY mJ L a0 L v0_3 v0_4 (λw0_3=>A42_0 (λx=>x) mJ a0 w0_3)) v0_3 v0_4).map n42:=λv0_3 v0_4=>aJE mJ L a0 _ _ _ (λw0_3=>by refine .trans (b:=A42_0 n42 mJ a0 w0_3) (by kernel_rfl) ?_;unfold A42_0;repeat' first | with_reducible refine eC ?_ ?_ | with_reducible refine eA λ_=>?_ | with_reducible refine eB λ_=>?_ | exact rfl) L v0_3 v0_4
 refine .trans (b:=G42 n42 (λv0_3 v0_4=>bL prog (aAj mJ) L f42 0 [1,1,0,1,0,0] (cQ (aX prog f42) (cO prog (aAj mJ) L f42 [1,1,0,1] (aX prog f42)).n (cO prog (aAj mJ) L f42 [1,1,0,1] (aX prog f42)).x) L (S42_0 a0 v0_3 v0_4)) mJ a0) (by kernel_rfl) ?_;unfold g42 G42
 repeat' first | with_reducible refine eC ?_ ?_ | with_reducible refine eA λ_=>?_ | with_reducible refine eB λ_=>?_ | with_reducible exact hin0 _ _ | exact rfl
def w42 (mJ:Y92)(L:Nat)(x:(List W2)):Option (List W2):=g42 mJ L x
theorem s42 (mJ:Y92)(h92:Sat prog cxT 92 (c92 mJ))(m:Y42)(hm:∀ (x:(List W2)) t,m x=some t->∃ L,w42 mJ L x=some t):Sat prog cxT 42 (c42 m):=
 cF bD aZ (by rfl) (fn:=f42) rfl a42 n42 aR0 m (aAj mJ) (aN h92 aY) aR (w42 mJ) (λL x=>e42 mJ L x) hm aWl
def aAi (mI:Y93):Env cxT:={ Kc:=dD [(93,c93 mI)],Kw:=dF [],lv:=λi=>if i=0 then[(0,[some 128]),(3,[some 118]),(4,[])]else[],xv:=λi=>if i=0 then some [(3,[some 118])]else none }
def S43_0 (a0:(List S10))(v0_3:(List S10))(v0_4:Int):St cxT.ty:={ slots:=[(.inl (.inl (ls { own:=0,nm:=0,e:=128,o:=false,xs:=a0 }))),aK,aK,(.inl (.inl (ls { own:=1,nm:=192,e:=118,o:=true,xs:=v0_3 }))),(.inl (.inl (lv (.int .i64 v0_4))))]++List.replicate 18 aK,D:=[],F:=[],ctr:=1 }
def X43_0 (a0:(List S10))(w0_3:(List S10)):St cxT.ty:={ slots:=[aK,aK,aK,(.inl (.inl (ls { own:=1,nm:=192,e:=118,o:=true,xs:=w0_3 })))]++List.replicate 19 aK,D:=[],F:=[],ctr:=1 }
def G43 {B:Type}(u:(List S10)->B)(hh0:(List S10)->Int->Option B)(mI:Y93)(a0:(List S10)):Option B:=
 bif (((decide ((0:Int)<=(Nat.cast (List.length a0):Int)))&&(decide ((Nat.cast (List.length a0):Int)<=(Nat.cast (List.length a0):Int))))&&(decide ((Nat.cast (List.length a0):Int)<=(1000000000:Int))))then hh0 (List.replicate (Int.toNat (Nat.cast (List.length a0):Int)) ((0:Int),((0:Int),((0:Int),((0:Int),((0:Int),((0:Int),((0:Int),((0:Int),((0:Int),(0:Int))))))))))) (0:Int)
 else none
def B43_0 {B:Type}(u:(List S10)->B)(gg:(List S10)->Int->Option B)(kk:(List S10)->Option B)(mI:Y93)(a0:(List S10))(v0_3:(List S10))(v0_4:Int):Option B:=
 bif (decide (v0_4 < (Nat.cast (List.length a0):Int)))then fB (List.getD a0 v0_4.toNat ((0:Int),((0:Int),((0:Int),((0:Int),((0:Int),((0:Int),((0:Int),((0:Int),((0:Int),(0:Int))))))))))) λs1_0=>bif ((decide ((0:Int)<=v0_4))&&(decide (v0_4 < (Nat.cast (List.length a0):Int))))then dL (mI (s1_0.1,(s1_0.2.1,(s1_0.2.2.1,(s1_0.2.2.2.1,(s1_0.2.2.2.2.1,(s1_0.2.2.2.2.2.1,(s1_0.2.2.2.2.2.2.1,(s1_0.2.2.2.2.2.2.2.1,(s1_0.2.2.2.2.2.2.2.2.1,s1_0.2.2.2.2.2.2.2.2.2)))))))))) ((0:Int),(0:Int),(0:Int),(0:Int),(0:Int),(0:Int),(0:Int),(0:Int),(0:Int),(0:Int)) λ(q3:S10)=>bif ((decide ((0:Int)<=v0_4))&&(decide (v0_4 < (Nat.cast (List.length v0_3):Int))))then gg (List.set v0_3 v0_4.toNat (q3.1,(q3.2.1,(q3.2.2.1,(q3.2.2.2.1,(q3.2.2.2.2.1,(q3.2.2.2.2.2.1,(q3.2.2.2.2.2.2.1,(q3.2.2.2.2.2.2.2.1,(q3.2.2.2.2.2.2.2.2.1,q3.2.2.2.2.2.2.2.2.2)))))))))) (wrap .i64 (v0_4+(1:Int)))
    else none
  else none
 else kk v0_3
def A43_0 {B:Type}(u:(List S10)->B)(mI:Y93)(a0:(List S10))(w0_3:(List S10)):Option B:=
 some (u w0_3)
def xX (mI:Y93)(L:Nat)(a0:(List S10)):Nat->(List S10)->Int->((List S10)->Option (List S10))->Option (List S10)
 | 0,_,_,_=>none
 | n+1,v0_3,v0_4,k=>B43_0 (λx=>x) (λv0_3 v0_4=>xX mI L a0 n v0_3 v0_4 k) k mI a0 v0_3 v0_4
theorem aJD (mI:Y93)(L:Nat)(a0:(List S10))(k:St cxT.ty->Option (V cxT.ty))(xk:Nat->St cxT.ty->Option (V cxT.ty))(k':(List S10)->Option (List S10))(hk:∀ (w0_3:(List S10)),k (X43_0 a0 w0_3)=(k' w0_3).map n43):∀ (n:Nat) (v0_3:(List S10)) (v0_4:Int),bL prog (aAi mI) L f43 0 [1,1,0,1,0,0] (cQ (aX prog f43) k xk) n (S43_0 a0 v0_3 v0_4)=(xX mI L a0 n v0_3 v0_4 k').map n43
 | 0,_,_=>rfl
 | n+1,v0_3,v0_4=>by
  rw[cG];have ih:=aJD mI L a0 k xk k' hk n;refine .trans (b:=B43_0 n43 (λv0_3 v0_4=>(bL prog (aAi mI) L f43 0 [1,1,0,1,0,0] (cQ (aX prog f43) k xk) n) (S43_0 a0 v0_3 v0_4)) (λw0_3=>k (X43_0 a0 w0_3)) mI a0 v0_3 v0_4) (by kernel_rfl) ?_;unfold xX B43_0
  repeat' first | with_reducible refine eC ?_ ?_ | with_reducible refine eA λ_=>?_ | with_reducible refine eB λ_=>?_ | with_reducible exact ih _ _ | with_reducible exact hk _ | exact rfl
def g43 (mI:Y93)(L:Nat)(a0:(List S10)):Option (List S10):=G43 (λx=>x) (λv0_3 v0_4=>xX mI L a0 L v0_3 v0_4 (λw0_3=>A43_0 (λx=>x) mI a0 w0_3)) mI a0
theorem e43 (mI:Y93)(L:Nat)(a0:(List S10)):fP prog (aAi mI) (bO L) f43 (a43.enc a0)=(g43 mI L a0).map n43:=by
 have hin0:∀ (v0_3:(List S10)) (v0_4:Int),bL prog (aAi mI) L f43 0 [1,1,0,1,0,0] (cQ (aX prog f43) (cO prog (aAi mI) L f43 [1,1,0,1] (aX prog f43)).n (cO prog (aAi mI) L f43 [1,1,0,1] (aX prog f43)).x) L (S43_0 a0 v0_3 v0_4)=((λv0_3 v0_4=>xX mI L a0 L v0_3 v0_4 (λw0_3=>A43_0 (λx=>x) mI a0 w0_3)) v0_3 v0_4).map n43:=λv0_3 v0_4=>aJD mI L a0 _ _ _ (λw0_3=>by refine .trans (b:=A43_0 n43 mI a0 w0_3) (by kernel_rfl) ?_;unfold A43_0;repeat' first | with_reducible refine eC ?_ ?_ | with_reducible refine eA λ_=>?_ | with_reducible refine eB λ_=>?_ | exact rfl) L v0_3 v0_4
 refine .trans (b:=G43 n43 (λv0_3 v0_4=>bL prog (aAi mI) L f43 0 [1,1,0,1,0,0] (cQ (aX prog f43) (cO prog (aAi mI) L f43 [1,1,0,1] (aX prog f43)).n (cO prog (aAi mI) L f43 [1,1,0,1] (aX prog f43)).x) L (S43_0 a0 v0_3 v0_4)) mI a0) (by kernel_rfl) ?_;unfold g43 G43
 repeat' first | with_reducible refine eC ?_ ?_ | with_reducible refine eA λ_=>?_ | with_reducible refine eB λ_=>?_ | with_reducible exact hin0 _ _ | exact rfl
def w43 (mI:Y93)(L:Nat)(x:(List S10)):Option (List S10):=g43 mI L x
theorem s43 (mI:Y93)(h93:Sat prog cxT 93 (c93 mI))(m:Y43)(hm:∀ (x:(List S10)) t,m x=some t->∃ L,w43 mI L x=some t):Sat prog cxT 43 (c43 m):=
 cF bD aZ (by rfl) (fn:=f43) rfl a43 n43 aRZ m (aAi mI) (aN h93 aY) aR (w43 mI) (λL x=>e43 mI L x) hm aWk
def aRi (wA:Y40)(vZ:Y41)(vY:Y42)(vX:Y43):Env cxT:={ Kc:=dD [(40,c40 wA),(41,c41 vZ),(42,c42 vY),(43,c43 vX)],Kw:=dF [],lv:=λi=>[],xv:=λi=>none }
def G13 {B:Type}(u:C4->B)(wA:Y40)(vZ:Y41)(vY:Y42)(vX:Y43)(a0_0:(List N10))(a0_1:(List M9))(a0_2:(List W2))(a0_3:(List S10)):Option B:=
 dL (wA a0_0) [] λ(q1:(List N10))=>dL (vZ a0_1) [] λ(q2:(List M9))=>dL (vY a0_2) [] λ(q3:(List W2))=>dL (vX a0_3) [] λ(q4:(List S10))=>some (u (q1,q2,q3,q4))
def g13 (wA:Y40)(vZ:Y41)(vY:Y42)(vX:Y43)(L:Nat)(a0_0:(List N10))(a0_1:(List M9))(a0_2:(List W2))(a0_3:(List S10)):Option C4:=G13 (λx=>x) wA vZ vY vX a0_0 a0_1 a0_2 a0_3
theorem e13 (wA:Y40)(vZ:Y41)(vY:Y42)(vX:Y43)(L:Nat)(a0_0:(List N10))(a0_1:(List M9))(a0_2:(List W2))(a0_3:(List S10)):fP prog (aRi wA vZ vY vX) (bO L) f13 (a13.enc (a0_0,a0_1,a0_2,a0_3))=(g13 wA vZ vY vX L a0_0 a0_1 a0_2 a0_3).map n13:=by
 refine .trans (b:=G13 n13 wA vZ vY vX a0_0 a0_1 a0_2 a0_3) (by kernel_rfl) ?_;unfold g13 G13
 repeat' first | with_reducible refine eC ?_ ?_ | with_reducible refine eA λ_=>?_ | with_reducible refine eB λ_=>?_ | exact rfl
def w13 (wA:Y40)(vZ:Y41)(vY:Y42)(vX:Y43)(L:Nat)(x:C4):Option C4:=g13 wA vZ vY vX L x.1 x.2.1 x.2.2.1 x.2.2.2
theorem s13 (wA:Y40)(vZ:Y41)(vY:Y42)(vX:Y43)(h40:Sat prog cxT 40 (c40 wA))(h41:Sat prog cxT 41 (c41 vZ))(h42:Sat prog cxT 42 (c42 vY))(h43:Sat prog cxT 43 (c43 vX))(m:Y13)(hm:∀ (x:C4) t,m x=some t->∃ L,w13 wA vZ vY vX L x=some t):Sat prog cxT 13 (c13 m):=
 cF bD aZ (by rfl) (fn:=f13) rfl a13 n13 aSd m (aRi wA vZ vY vX) (aN h40 (aN h41 (aN h42 (aN h43 aY)))) aR (w13 wA vZ vY vX) (λL x=>e13 wA vZ vY vX L x.1 x.2.1 x.2.2.1 x.2.2.2) hm aWw
end Go.Proofs.Tryz
set_option maxHeartbeats 0
set_option maxRecDepth 100000
namespace Go.Proofs.Tryz
open Go.IntKind (wrap)
open Go Go.VM Go.RowKit
def aRg:Env cxT:={ Kc:=dD [],Kw:=dF [],lv:=λi=>[],xv:=λi=>none }
def G31 {B:Type}(u:(Int×Int×Int×Int×Int×Int)->B)(a0_0:Int)(a0_1:Int)(a0_2:Int)(a0_3:Int)(a0_4:Int)(a0_5:Int):Option B:=
 some (u (a0_0,a0_1,a0_2,a0_3,a0_4,a0_5))
def g31 (L:Nat)(a0_0:Int)(a0_1:Int)(a0_2:Int)(a0_3:Int)(a0_4:Int)(a0_5:Int):Option (Int×Int×Int×Int×Int×Int):=G31 (λx=>x) a0_0 a0_1 a0_2 a0_3 a0_4 a0_5
theorem e31 (L:Nat)(a0_0:Int)(a0_1:Int)(a0_2:Int)(a0_3:Int)(a0_4:Int)(a0_5:Int):fP prog aRg (bO L) f31 (a31.enc (a0_0,a0_1,a0_2,a0_3,a0_4,a0_5))=(g31 L a0_0 a0_1 a0_2 a0_3 a0_4 a0_5).map n31:=by
 refine .trans (b:=G31 n31 a0_0 a0_1 a0_2 a0_3 a0_4 a0_5) (by kernel_rfl) ?_;unfold g31 G31
 repeat' first | with_reducible refine eC ?_ ?_ | with_reducible refine eA λ_=>?_ | with_reducible refine eB λ_=>?_ | exact rfl
def w31 (L:Nat)(x:(Int×Int×Int×Int×Int×Int)):Option (Int×Int×Int×Int×Int×Int):=g31 L x.1 x.2.1 x.2.2.1 x.2.2.2.1 x.2.2.2.2.1 x.2.2.2.2.2
theorem s31 (m:Y31)(hm:∀ (x:(Int×Int×Int×Int×Int×Int)) t,m x=some t->∃ L,w31 L x=some t):Sat prog cxT 31 (c31 m):=
 cF bD aZ (by rfl) (fn:=f31) rfl a31 n31 aR8 m aRg aY aR (w31) (λL x=>e31 L x.1 x.2.1 x.2.2.1 x.2.2.2.1 x.2.2.2.2.1 x.2.2.2.2.2) hm aWt
end Go.Proofs.Tryz
