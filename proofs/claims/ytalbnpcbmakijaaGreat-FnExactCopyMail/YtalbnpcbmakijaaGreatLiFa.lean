/- A part of the proof of FnExactCopyMail: LiFa, LiFb, LiFj. -/
import Derived.Test.YtalbnpcbmakijaaGreatLiBase
set_option linter.unusedSimpArgs false
set_option linter.unusedVariables false
set_option maxHeartbeats 0
set_option maxRecDepth 100000
namespace Go.Proofs.Tryz
open Go.IntKind (wrap)
open Go Go.VM Go.RowKit
def aOq:Env cxT:={ Kc:=cS [],Kw:=cR [],lv:=λi=>[],xv:=λi=>none }
def G133 {B:Type}(u:Int->B)(a0:(List E9))(a1:Int):Option B:=
 bif (decide ((wrap .i64 (a1-(Nat.cast (List.length a0):Int))) < (0:Int)))then some (u (-(1:Int)))
 else some (u (wrap .i64 (a1-(Nat.cast (List.length a0):Int))))
def aSc (L:Nat)(a0:(List E9))(a1:Int):Option Int:=G133 (λx=>x) a0 a1
theorem bE5 (L:Nat)(a0:(List E9))(a1:Int):fK prog aOq (bJ L) f133 (aZT.enc (a0,a1))=(aSc L a0 a1).map aIc:=by
 refine .trans (b:=G133 aIc a0 a1) (by kernel_rfl) ?_;unfold aSc G133
 repeat' first | with_reducible refine dP ?_ ?_ | with_reducible refine dL λ_=>?_ | with_reducible refine dO λ_=>?_ | exact rfl
def aTF (L:Nat)(x:((List E9)×Int)):Option Int:=aSc L x.1 x.2
theorem bCb (m:Y133)(hm:∀ (x:((List E9)×Int)) t,m x=some t->∃ L,aTF L x=some t):Sat prog cxT 133 (aIC m):=
 cD bA aW (by rfl) (fn:=f133) rfl aZT aIc aPt m aOq aV aP (aTF) (λL x=>bE5 L x.1 x.2) hm aVR
def aOp:Env cxT:={ Kc:=cS [],Kw:=cR [],lv:=λi=>[],xv:=λi=>none }
def G134 {B:Type}(u:Int->B)(a0:(List Int))(a1:Int):Option B:=
 bif (decide ((wrap .i64 (a1-(Nat.cast (List.length a0):Int))) < (0:Int)))then some (u (-(1:Int)))
 else some (u (wrap .i64 (a1-(Nat.cast (List.length a0):Int))))
def aSb (L:Nat)(a0:(List Int))(a1:Int):Option Int:=G134 (λx=>x) a0 a1
theorem bE4 (L:Nat)(a0:(List Int))(a1:Int):fK prog aOp (bJ L) f134 (aZS.enc (a0,a1))=(aSb L a0 a1).map aIb:=by
 refine .trans (b:=G134 aIb a0 a1) (by kernel_rfl) ?_;unfold aSb G134
 repeat' first | with_reducible refine dP ?_ ?_ | with_reducible refine dL λ_=>?_ | with_reducible refine dO λ_=>?_ | exact rfl
def aTE (L:Nat)(x:((List Int)×Int)):Option Int:=aSb L x.1 x.2
theorem bCa (m:Y134)(hm:∀ (x:((List Int)×Int)) t,m x=some t->∃ L,aTE L x=some t):Sat prog cxT 134 (aMU m):=
 cD bA aW (by rfl) (fn:=f134) rfl aZS aIb aPs m aOp aV aP (aTE) (λL x=>bE4 L x.1 x.2) hm aVQ
def aWV (hI:Y133)(lD:Y134):Env cxT:={ Kc:=cS [(133,aIC hI),(134,aMU lD)],Kw:=cR [],lv:=λi=>[],xv:=λi=>none }
def G83 {B:Type}(u:Int->B)(hI:Y133)(lD:Y134)(a0_0:Int)(a0_1:Int)(a0_2:Int)(a0_3:Int)(a0_4:(List E9))(a0_5:Int)(a0_6:Int)(a0_7:(List Int))(a0_8:(List Int))(a0_9:(List Int))(a1:Int):Option B:=
 dB (hI (a0_4,a1)) (0:Int) λ(q1:Int)=>bif (decide (q1 < (0:Int)))then some (u (-(1:Int)))
  else dB (lD (a0_7,q1)) (0:Int) λ(q2:Int)=>bif (decide (q2 < (0:Int)))then some (u (-(1:Int)))
   else dB (lD (a0_8,q2)) (0:Int) λ(q3:Int)=>bif (decide (q3 < (0:Int)))then some (u (-(1:Int)))
    else dB (lD (a0_9,q3)) (0:Int) λ(q4:Int)=>bif (decide (q4 < (0:Int)))then some (u (-(1:Int)))
     else some (u q4)
def g83 (hI:Y133)(lD:Y134)(L:Nat)(a0_0:Int)(a0_1:Int)(a0_2:Int)(a0_3:Int)(a0_4:(List E9))(a0_5:Int)(a0_6:Int)(a0_7:(List Int))(a0_8:(List Int))(a0_9:(List Int))(a1:Int):Option Int:=G83 (λx=>x) hI lD a0_0 a0_1 a0_2 a0_3 a0_4 a0_5 a0_6 a0_7 a0_8 a0_9 a1
theorem e83 (hI:Y133)(lD:Y134)(L:Nat)(a0_0:Int)(a0_1:Int)(a0_2:Int)(a0_3:Int)(a0_4:(List E9))(a0_5:Int)(a0_6:Int)(a0_7:(List Int))(a0_8:(List Int))(a0_9:(List Int))(a1:Int):fK prog (aWV hI lD) (bJ L) f83 (a83.enc ((a0_0,a0_1,a0_2,a0_3,a0_4,a0_5,a0_6,a0_7,a0_8,a0_9),a1))=(g83 hI lD L a0_0 a0_1 a0_2 a0_3 a0_4 a0_5 a0_6 a0_7 a0_8 a0_9 a1).map n83:=by
 refine .trans (b:=G83 n83 hI lD a0_0 a0_1 a0_2 a0_3 a0_4 a0_5 a0_6 a0_7 a0_8 a0_9 a1) (by kernel_rfl) ?_;unfold g83 G83
 repeat' first | with_reducible refine dP ?_ ?_ | with_reducible refine dL λ_=>?_ | with_reducible refine dO λ_=>?_ | exact rfl
def w83 (hI:Y133)(lD:Y134)(L:Nat)(x:(N10×Int)):Option Int:=g83 hI lD L x.1.1 x.1.2.1 x.1.2.2.1 x.1.2.2.2.1 x.1.2.2.2.2.1 x.1.2.2.2.2.2.1 x.1.2.2.2.2.2.2.1 x.1.2.2.2.2.2.2.2.1 x.1.2.2.2.2.2.2.2.2.1 x.1.2.2.2.2.2.2.2.2.2 x.2
theorem s83 (hI:Y133)(lD:Y134)(h133:Sat prog cxT 133 (aIC hI))(h134:Sat prog cxT 134 (aMU lD))(m:Y83)(hm:∀ (x:(N10×Int)) t,m x=some t->∃ L,w83 hI lD L x=some t):Sat prog cxT 83 (c83 m):=
 cD bA aW (by rfl) (fn:=f83) rfl a83 n83 aXJ m (aWV hI lD) (aL h133 (aL h134 aV)) aP (w83 hI lD) (λL x=>e83 hI lD L x.1.1 x.1.2.1 x.1.2.2.1 x.1.2.2.2.1 x.1.2.2.2.2.1 x.1.2.2.2.2.2.1 x.1.2.2.2.2.2.2.1 x.1.2.2.2.2.2.2.2.1 x.1.2.2.2.2.2.2.2.2.1 x.1.2.2.2.2.2.2.2.2.2 x.2) hm bCZ
def aWU (hI:Y133):Env cxT:={ Kc:=cS [(133,aIC hI)],Kw:=cR [],lv:=λi=>[],xv:=λi=>none }
def G84 {B:Type}(u:Int->B)(hI:Y133)(a0_0:Int)(a0_1:Int)(a0_2:Int)(a0_3:Int)(a0_4:Int)(a0_5:Int)(a0_6:Int)(a0_7:Bool)(a0_8:(List E9))(a1:Int):Option B:=
 dB (hI (a0_8,a1)) (0:Int) λ(q1:Int)=>bif (decide (q1 < (0:Int)))then some (u (-(1:Int)))
  else some (u q1)
def g84 (hI:Y133)(L:Nat)(a0_0:Int)(a0_1:Int)(a0_2:Int)(a0_3:Int)(a0_4:Int)(a0_5:Int)(a0_6:Int)(a0_7:Bool)(a0_8:(List E9))(a1:Int):Option Int:=G84 (λx=>x) hI a0_0 a0_1 a0_2 a0_3 a0_4 a0_5 a0_6 a0_7 a0_8 a1
theorem e84 (hI:Y133)(L:Nat)(a0_0:Int)(a0_1:Int)(a0_2:Int)(a0_3:Int)(a0_4:Int)(a0_5:Int)(a0_6:Int)(a0_7:Bool)(a0_8:(List E9))(a1:Int):fK prog (aWU hI) (bJ L) f84 (a84.enc ((a0_0,a0_1,a0_2,a0_3,a0_4,a0_5,a0_6,a0_7,a0_8),a1))=(g84 hI L a0_0 a0_1 a0_2 a0_3 a0_4 a0_5 a0_6 a0_7 a0_8 a1).map n84:=by
 refine .trans (b:=G84 n84 hI a0_0 a0_1 a0_2 a0_3 a0_4 a0_5 a0_6 a0_7 a0_8 a1) (by kernel_rfl) ?_;unfold g84 G84
 repeat' first | with_reducible refine dP ?_ ?_ | with_reducible refine dL λ_=>?_ | with_reducible refine dO λ_=>?_ | exact rfl
def w84 (hI:Y133)(L:Nat)(x:(M9×Int)):Option Int:=g84 hI L x.1.1 x.1.2.1 x.1.2.2.1 x.1.2.2.2.1 x.1.2.2.2.2.1 x.1.2.2.2.2.2.1 x.1.2.2.2.2.2.2.1 x.1.2.2.2.2.2.2.2.1 x.1.2.2.2.2.2.2.2.2 x.2
theorem s84 (hI:Y133)(h133:Sat prog cxT 133 (aIC hI))(m:Y84)(hm:∀ (x:(M9×Int)) t,m x=some t->∃ L,w84 hI L x=some t):Sat prog cxT 84 (c84 m):=
 cD bA aW (by rfl) (fn:=f84) rfl a84 n84 aXI m (aWU hI) (aL h133 aV) aP (w84 hI) (λL x=>e84 hI L x.1.1 x.1.2.1 x.1.2.2.1 x.1.2.2.2.1 x.1.2.2.2.2.1 x.1.2.2.2.2.2.1 x.1.2.2.2.2.2.2.1 x.1.2.2.2.2.2.2.2.1 x.1.2.2.2.2.2.2.2.2 x.2) hm bCY
def aCC (nV:Y83):Env cxT:={ Kc:=cS [(83,c83 nV)],Kw:=cR [],lv:=λi=>if i=0 then[(0,[some 108]),(1,[]),(5,[])]else[],xv:=λi=>if i=0 then some [(1,[])]else none }
def S35_0 (a0:(List N10))(a1:Int)(v0_1:Int)(v0_5:Int):St cxT.ty:={ slots:=[(.inl (.inl (ls { own:=0,nm:=0,e:=108,o:=false,xs:=a0 }))),(.inl (.inl (lv (.int .i64 v0_1)))),aK,aK,aK,(.inl (.inl (lv (.int .i64 v0_5))))]++List.replicate 21 aK,D:=[],F:=[],ctr:=1 }
def X35_0 (a0:(List N10))(a1:Int)(w0_1:Int):St cxT.ty:={ slots:=[aK,(.inl (.inl (lv (.int .i64 w0_1))))]++List.replicate 25 aK,D:=[],F:=[],ctr:=1 }
def G35 {B:Type}(u:Int->B)(hh0:Int->Int->Option B)(nV:Y83)(a0:(List N10))(a1:Int):Option B:=
 bif (decide ((wrap .i64 (a1-(Nat.cast (List.length a0):Int))) < (0:Int)))then some (u (-(1:Int)))
 else hh0 (wrap .i64 (a1-(Nat.cast (List.length a0):Int))) (0:Int)
def B35_0 {B:Type}(u:Int->B)(gg:Int->Int->Option B)(kk:Int->Option B)(nV:Y83)(a0:(List N10))(a1:Int)(v0_1:Int)(v0_5:Int):Option B:=
 bif (decide (v0_5 < (Nat.cast (List.length a0):Int)))then dY (List.getD a0 v0_5.toNat ((0:Int),((0:Int),((0:Int),((0:Int),(([]:List E9),((0:Int),((0:Int),(([]:List (Int)),(([]:List (Int)),([]:List (Int)))))))))))) λs1_0=>bif ((decide ((0:Int)<=v0_5))&&(decide (v0_5 < (Nat.cast (List.length a0):Int))))then dB (nV ((s1_0.1,(s1_0.2.1,(s1_0.2.2.1,(s1_0.2.2.2.1,(s1_0.2.2.2.2.1,(s1_0.2.2.2.2.2.1,(s1_0.2.2.2.2.2.2.1,(s1_0.2.2.2.2.2.2.2.1,(s1_0.2.2.2.2.2.2.2.2.1,s1_0.2.2.2.2.2.2.2.2.2))))))))),v0_1)) (0:Int) λ(q3:Int)=>bif (decide (q3 < (0:Int)))then some (u (-(1:Int)))
    else gg q3 (wrap .i64 (v0_5+(1:Int)))
  else none
 else kk v0_1
def A35_0 {B:Type}(u:Int->B)(nV:Y83)(a0:(List N10))(a1:Int)(w0_1:Int):Option B:=
 some (u w0_1)
def aBk (nV:Y83)(L:Nat)(a0:(List N10))(a1:Int):Nat->Int->Int->(Int->Option Int)->Option Int
 | 0,_,_,_=>none
 | n+1,v0_1,v0_5,k=>B35_0 (λx=>x) (λv0_1 v0_5=>aBk nV L a0 a1 n v0_1 v0_5 k) k nV a0 a1 v0_1 v0_5
theorem aNO (nV:Y83)(L:Nat)(a0:(List N10))(a1:Int)(k:St cxT.ty->Option (V cxT.ty))(xk:Nat->St cxT.ty->Option (V cxT.ty))(k':Int->Option Int)(hk:∀ (w0_1:Int),k (X35_0 a0 a1 w0_1)=(k' w0_1).map n35):∀ (n:Nat) (v0_1:Int) (v0_5:Int),bE prog (aCC nV) L f35 0 [1,1,1,0,1,0,0] (bW (aX prog f35) k xk) n (S35_0 a0 a1 v0_1 v0_5)=(aBk nV L a0 a1 n v0_1 v0_5 k').map n35
 | 0,_,_=>rfl
 | n+1,v0_1,v0_5=>by
  rw[bP];have ih:=aNO nV L a0 a1 k xk k' hk n;refine .trans (b:=B35_0 n35 (λv0_1 v0_5=>(bE prog (aCC nV) L f35 0 [1,1,1,0,1,0,0] (bW (aX prog f35) k xk) n) (S35_0 a0 a1 v0_1 v0_5)) (λw0_1=>k (X35_0 a0 a1 w0_1)) nV a0 a1 v0_1 v0_5) (by kernel_rfl) ?_;unfold aBk B35_0
  repeat' first | with_reducible refine dP ?_ ?_ | with_reducible refine dL λ_=>?_ | with_reducible refine dO λ_=>?_ | with_reducible exact ih _ _ | with_reducible exact hk _ | exact rfl
def g35 (nV:Y83)(L:Nat)(a0:(List N10))(a1:Int):Option Int:=G35 (λx=>x) (λv0_1 v0_5=>aBk nV L a0 a1 L v0_1 v0_5 (λw0_1=>A35_0 (λx=>x) nV a0 a1 w0_1)) nV a0 a1
theorem e35 (nV:Y83)(L:Nat)(a0:(List N10))(a1:Int):fK prog (aCC nV) (bJ L) f35 (a35.enc (a0,a1))=(g35 nV L a0 a1).map n35:=by
 have hin0:∀ (v0_1:Int) (v0_5:Int),bE prog (aCC nV) L f35 0 [1,1,1,0,1,0,0] (bW (aX prog f35) (bV prog (aCC nV) L f35 [1,1,1,0,1] (aX prog f35)).n (bV prog (aCC nV) L f35 [1,1,1,0,1] (aX prog f35)).x) L (S35_0 a0 a1 v0_1 v0_5)=((λv0_1 v0_5=>aBk nV L a0 a1 L v0_1 v0_5 (λw0_1=>A35_0 (λx=>x) nV a0 a1 w0_1)) v0_1 v0_5).map n35:=λv0_1 v0_5=>aNO nV L a0 a1 _ _ _ (λw0_1=>by refine .trans (b:=A35_0 n35 nV a0 a1 w0_1) (by kernel_rfl) ?_;unfold A35_0;repeat' first | with_reducible refine dP ?_ ?_ | with_reducible refine dL λ_=>?_ | with_reducible refine dO λ_=>?_ | exact rfl) L v0_1 v0_5
 refine .trans (b:=G35 n35 (λv0_1 v0_5=>bE prog (aCC nV) L f35 0 [1,1,1,0,1,0,0] (bW (aX prog f35) (bV prog (aCC nV) L f35 [1,1,1,0,1] (aX prog f35)).n (bV prog (aCC nV) L f35 [1,1,1,0,1] (aX prog f35)).x) L (S35_0 a0 a1 v0_1 v0_5)) nV a0 a1) (by kernel_rfl) ?_;unfold g35 G35
 repeat' first | with_reducible refine dP ?_ ?_ | with_reducible refine dL λ_=>?_ | with_reducible refine dO λ_=>?_ | with_reducible exact hin0 _ _ | exact rfl
def w35 (nV:Y83)(L:Nat)(x:((List N10)×Int)):Option Int:=g35 nV L x.1 x.2
theorem s35 (nV:Y83)(h83:Sat prog cxT 83 (c83 nV))(m:Y35)(hm:∀ (x:((List N10)×Int)) t,m x=some t->∃ L,w35 nV L x=some t):Sat prog cxT 35 (c35 m):=
 cD bA aW (by rfl) (fn:=f35) rfl a35 n35 aYe m (aCC nV) (aL h83 aV) aP (w35 nV) (λL x=>e35 nV L x.1 x.2) hm bDt
def aCB (nU:Y84):Env cxT:={ Kc:=cS [(84,c84 nU)],Kw:=cR [],lv:=λi=>if i=0 then[(0,[some 111]),(1,[]),(5,[])]else[],xv:=λi=>if i=0 then some [(1,[])]else none }
def S36_0 (a0:(List M9))(a1:Int)(v0_1:Int)(v0_5:Int):St cxT.ty:={ slots:=[(.inl (.inl (ls { own:=0,nm:=0,e:=111,o:=false,xs:=a0 }))),(.inl (.inl (lv (.int .i64 v0_1)))),aK,aK,aK,(.inl (.inl (lv (.int .i64 v0_5))))]++List.replicate 21 aK,D:=[],F:=[],ctr:=1 }
def X36_0 (a0:(List M9))(a1:Int)(w0_1:Int):St cxT.ty:={ slots:=[aK,(.inl (.inl (lv (.int .i64 w0_1))))]++List.replicate 25 aK,D:=[],F:=[],ctr:=1 }
def G36 {B:Type}(u:Int->B)(hh0:Int->Int->Option B)(nU:Y84)(a0:(List M9))(a1:Int):Option B:=
 bif (decide ((wrap .i64 (a1-(Nat.cast (List.length a0):Int))) < (0:Int)))then some (u (-(1:Int)))
 else hh0 (wrap .i64 (a1-(Nat.cast (List.length a0):Int))) (0:Int)
def B36_0 {B:Type}(u:Int->B)(gg:Int->Int->Option B)(kk:Int->Option B)(nU:Y84)(a0:(List M9))(a1:Int)(v0_1:Int)(v0_5:Int):Option B:=
 bif (decide (v0_5 < (Nat.cast (List.length a0):Int)))then dY (List.getD a0 v0_5.toNat ((0:Int),((0:Int),((0:Int),((0:Int),((0:Int),((0:Int),((0:Int),(false,[]))))))))) λs1_0=>bif ((decide ((0:Int)<=v0_5))&&(decide (v0_5 < (Nat.cast (List.length a0):Int))))then dB (nU ((s1_0.1,(s1_0.2.1,(s1_0.2.2.1,(s1_0.2.2.2.1,(s1_0.2.2.2.2.1,(s1_0.2.2.2.2.2.1,(s1_0.2.2.2.2.2.2.1,(s1_0.2.2.2.2.2.2.2.1,s1_0.2.2.2.2.2.2.2.2)))))))),v0_1)) (0:Int) λ(q3:Int)=>bif (decide (q3 < (0:Int)))then some (u (-(1:Int)))
    else gg q3 (wrap .i64 (v0_5+(1:Int)))
  else none
 else kk v0_1
def A36_0 {B:Type}(u:Int->B)(nU:Y84)(a0:(List M9))(a1:Int)(w0_1:Int):Option B:=
 some (u w0_1)
def aBj (nU:Y84)(L:Nat)(a0:(List M9))(a1:Int):Nat->Int->Int->(Int->Option Int)->Option Int
 | 0,_,_,_=>none
 | n+1,v0_1,v0_5,k=>B36_0 (λx=>x) (λv0_1 v0_5=>aBj nU L a0 a1 n v0_1 v0_5 k) k nU a0 a1 v0_1 v0_5
theorem aNN (nU:Y84)(L:Nat)(a0:(List M9))(a1:Int)(k:St cxT.ty->Option (V cxT.ty))(xk:Nat->St cxT.ty->Option (V cxT.ty))(k':Int->Option Int)(hk:∀ (w0_1:Int),k (X36_0 a0 a1 w0_1)=(k' w0_1).map n36):∀ (n:Nat) (v0_1:Int) (v0_5:Int),bE prog (aCB nU) L f36 0 [1,1,1,0,1,0,0] (bW (aX prog f36) k xk) n (S36_0 a0 a1 v0_1 v0_5)=(aBj nU L a0 a1 n v0_1 v0_5 k').map n36
 | 0,_,_=>rfl
 | n+1,v0_1,v0_5=>by
  rw[bP];have ih:=aNN nU L a0 a1 k xk k' hk n;refine .trans (b:=B36_0 n36 (λv0_1 v0_5=>(bE prog (aCB nU) L f36 0 [1,1,1,0,1,0,0] (bW (aX prog f36) k xk) n) (S36_0 a0 a1 v0_1 v0_5)) (λw0_1=>k (X36_0 a0 a1 w0_1)) nU a0 a1 v0_1 v0_5) (by kernel_rfl) ?_;unfold aBj B36_0
  repeat' first | with_reducible refine dP ?_ ?_ | with_reducible refine dL λ_=>?_ | with_reducible refine dO λ_=>?_ | with_reducible exact ih _ _ | with_reducible exact hk _ | exact rfl
def g36 (nU:Y84)(L:Nat)(a0:(List M9))(a1:Int):Option Int:=G36 (λx=>x) (λv0_1 v0_5=>aBj nU L a0 a1 L v0_1 v0_5 (λw0_1=>A36_0 (λx=>x) nU a0 a1 w0_1)) nU a0 a1
theorem e36 (nU:Y84)(L:Nat)(a0:(List M9))(a1:Int):fK prog (aCB nU) (bJ L) f36 (a36.enc (a0,a1))=(g36 nU L a0 a1).map n36:=by
 have hin0:∀ (v0_1:Int) (v0_5:Int),bE prog (aCB nU) L f36 0 [1,1,1,0,1,0,0] (bW (aX prog f36) (bV prog (aCB nU) L f36 [1,1,1,0,1] (aX prog f36)).n (bV prog (aCB nU) L f36 [1,1,1,0,1] (aX prog f36)).x) L (S36_0 a0 a1 v0_1 v0_5)=((λv0_1 v0_5=>aBj nU L a0 a1 L v0_1 v0_5 (λw0_1=>A36_0 (λx=>x) nU a0 a1 w0_1)) v0_1 v0_5).map n36:=λv0_1 v0_5=>aNN nU L a0 a1 _ _ _ (λw0_1=>by refine .trans (b:=A36_0 n36 nU a0 a1 w0_1) (by kernel_rfl) ?_;unfold A36_0;repeat' first | with_reducible refine dP ?_ ?_ | with_reducible refine dL λ_=>?_ | with_reducible refine dO λ_=>?_ | exact rfl) L v0_1 v0_5
 refine .trans (b:=G36 n36 (λv0_1 v0_5=>bE prog (aCB nU) L f36 0 [1,1,1,0,1,0,0] (bW (aX prog f36) (bV prog (aCB nU) L f36 [1,1,1,0,1] (aX prog f36)).n (bV prog (aCB nU) L f36 [1,1,1,0,1] (aX prog f36)).x) L (S36_0 a0 a1 v0_1 v0_5)) nU a0 a1) (by kernel_rfl) ?_;unfold g36 G36
 repeat' first | with_reducible refine dP ?_ ?_ | with_reducible refine dL λ_=>?_ | with_reducible refine dO λ_=>?_ | with_reducible exact hin0 _ _ | exact rfl
def w36 (nU:Y84)(L:Nat)(x:((List M9)×Int)):Option Int:=g36 nU L x.1 x.2
theorem s36 (nU:Y84)(h84:Sat prog cxT 84 (c84 nU))(m:Y36)(hm:∀ (x:((List M9)×Int)) t,m x=some t->∃ L,w36 nU L x=some t):Sat prog cxT 36 (c36 m):=
 cD bA aW (by rfl) (fn:=f36) rfl a36 n36 aYd m (aCB nU) (aL h84 aV) aP (w36 nU) (λL x=>e36 nU L x.1 x.2) hm bDs
def aW5:Env cxT:={ Kc:=cS [],Kw:=cR [],lv:=λi=>[],xv:=λi=>none }
def G37 {B:Type}(u:Int->B)(a0:(List W2))(a1:Int):Option B:=
 bif (decide ((wrap .i64 (a1-(Nat.cast (List.length a0):Int))) < (0:Int)))then some (u (-(1:Int)))
 else some (u (wrap .i64 (a1-(Nat.cast (List.length a0):Int))))
def g37 (L:Nat)(a0:(List W2))(a1:Int):Option Int:=G37 (λx=>x) a0 a1
theorem e37 (L:Nat)(a0:(List W2))(a1:Int):fK prog aW5 (bJ L) f37 (a37.enc (a0,a1))=(g37 L a0 a1).map n37:=by
 refine .trans (b:=G37 n37 a0 a1) (by kernel_rfl) ?_;unfold g37 G37
 repeat' first | with_reducible refine dP ?_ ?_ | with_reducible refine dL λ_=>?_ | with_reducible refine dO λ_=>?_ | exact rfl
def w37 (L:Nat)(x:((List W2)×Int)):Option Int:=g37 L x.1 x.2
theorem s37 (m:Y37)(hm:∀ (x:((List W2)×Int)) t,m x=some t->∃ L,w37 L x=some t):Sat prog cxT 37 (c37 m):=
 cD bA aW (by rfl) (fn:=f37) rfl a37 n37 aYc m aW5 aV aP (w37) (λL x=>e37 L x.1 x.2) hm bDr
def aW4:Env cxT:={ Kc:=cS [],Kw:=cR [],lv:=λi=>[],xv:=λi=>none }
def G38 {B:Type}(u:Int->B)(a0:(List S10))(a1:Int):Option B:=
 bif (decide ((wrap .i64 (a1-(Nat.cast (List.length a0):Int))) < (0:Int)))then some (u (-(1:Int)))
 else some (u (wrap .i64 (a1-(Nat.cast (List.length a0):Int))))
def g38 (L:Nat)(a0:(List S10))(a1:Int):Option Int:=G38 (λx=>x) a0 a1
theorem e38 (L:Nat)(a0:(List S10))(a1:Int):fK prog aW4 (bJ L) f38 (a38.enc (a0,a1))=(g38 L a0 a1).map n38:=by
 refine .trans (b:=G38 n38 a0 a1) (by kernel_rfl) ?_;unfold g38 G38
 repeat' first | with_reducible refine dP ?_ ?_ | with_reducible refine dL λ_=>?_ | with_reducible refine dO λ_=>?_ | exact rfl
def w38 (L:Nat)(x:((List S10)×Int)):Option Int:=g38 L x.1 x.2
theorem s38 (m:Y38)(hm:∀ (x:((List S10)×Int)) t,m x=some t->∃ L,w38 L x=some t):Sat prog cxT 38 (c38 m):=
 cD bA aW (by rfl) (fn:=f38) rfl a38 n38 aYb m aW4 aV aP (w38) (λL x=>e38 L x.1 x.2) hm bDq
def aXf (m35:Y35)(m36:Y36)(m37:Y37)(m38:Y38):Env cxT:={ Kc:=cS [(35,c35 m35),(36,c36 m36),(37,c37 m37),(38,c38 m38)],Kw:=cR [],lv:=λi=>[],xv:=λi=>none }
def G11 {B:Type}(u:Int->B)(m35:Y35)(m36:Y36)(m37:Y37)(m38:Y38)(a0_0:(List N10))(a0_1:(List M9))(a0_2:(List W2))(a0_3:(List S10))(a1:Int):Option B:=
 dB (m35 (a0_0,a1)) (0:Int) λ(q1:Int)=>bif (decide (q1 < (0:Int)))then some (u (-(1:Int)))
  else dB (m36 (a0_1,q1)) (0:Int) λ(q2:Int)=>bif (decide (q2 < (0:Int)))then some (u (-(1:Int)))
   else dB (m37 (a0_2,q2)) (0:Int) λ(q3:Int)=>bif (decide (q3 < (0:Int)))then some (u (-(1:Int)))
    else dB (m38 (a0_3,q3)) (0:Int) λ(q4:Int)=>bif (decide (q4 < (0:Int)))then some (u (-(1:Int)))
     else some (u q4)
def g11 (m35:Y35)(m36:Y36)(m37:Y37)(m38:Y38)(L:Nat)(a0_0:(List N10))(a0_1:(List M9))(a0_2:(List W2))(a0_3:(List S10))(a1:Int):Option Int:=G11 (λx=>x) m35 m36 m37 m38 a0_0 a0_1 a0_2 a0_3 a1
theorem e11 (m35:Y35)(m36:Y36)(m37:Y37)(m38:Y38)(L:Nat)(a0_0:(List N10))(a0_1:(List M9))(a0_2:(List W2))(a0_3:(List S10))(a1:Int):fK prog (aXf m35 m36 m37 m38) (bJ L) f11 (a11.enc ((a0_0,a0_1,a0_2,a0_3),a1))=(g11 m35 m36 m37 m38 L a0_0 a0_1 a0_2 a0_3 a1).map n11:=by
 refine .trans (b:=G11 n11 m35 m36 m37 m38 a0_0 a0_1 a0_2 a0_3 a1) (by kernel_rfl) ?_;unfold g11 G11
 repeat' first | with_reducible refine dP ?_ ?_ | with_reducible refine dL λ_=>?_ | with_reducible refine dO λ_=>?_ | exact rfl
def w11 (m35:Y35)(m36:Y36)(m37:Y37)(m38:Y38)(L:Nat)(x:(C4×Int)):Option Int:=g11 m35 m36 m37 m38 L x.1.1 x.1.2.1 x.1.2.2.1 x.1.2.2.2 x.2
theorem s11 (m35:Y35)(m36:Y36)(m37:Y37)(m38:Y38)(h35:Sat prog cxT 35 (c35 m35))(h36:Sat prog cxT 36 (c36 m36))(h37:Sat prog cxT 37 (c37 m37))(h38:Sat prog cxT 38 (c38 m38))(m:Y11)(hm:∀ (x:(C4×Int)) t,m x=some t->∃ L,w11 m35 m36 m37 m38 L x=some t):Sat prog cxT 11 (c11 m):=
 cD bA aW (by rfl) (fn:=f11) rfl a11 n11 aYr m (aXf m35 m36 m37 m38) (aL h35 (aL h36 (aL h37 (aL h38 aV)))) aP (w11 m35 m36 m37 m38) (λL x=>e11 m35 m36 m37 m38 L x.1.1 x.1.2.1 x.1.2.2.1 x.1.2.2.2 x.2) hm bDE
end Go.Proofs.Tryz
set_option maxHeartbeats 0
set_option maxRecDepth 100000
namespace Go.Proofs.Tryz
open Go.IntKind (wrap)
open Go Go.VM Go.RowKit
def uH (m142:Y142):Env cxT:={ Kc:=cS [(142,aIz m142)],Kw:=cR [],lv:=λi=>if i=0 then[(0,[some 126]),(3,[some 102]),(4,[])]else[],xv:=λi=>if i=0 then some [(3,[some 102])]else none }
def S140_0 (a0:(List E9))(v0_3:(List E9))(v0_4:Int):St cxT.ty:={ slots:=[(.inl (.inl (ls { own:=0,nm:=0,e:=126,o:=false,xs:=a0 }))),aK,aK,(.inl (.inl (ls { own:=1,nm:=192,e:=102,o:=true,xs:=v0_3 }))),(.inl (.inl (lv (.int .i64 v0_4))))]++List.replicate 18 aK,D:=[],F:=[],ctr:=1 }
def X140_0 (a0:(List E9))(w0_3:(List E9)):St cxT.ty:={ slots:=[aK,aK,aK,(.inl (.inl (ls { own:=1,nm:=192,e:=102,o:=true,xs:=w0_3 })))]++List.replicate 19 aK,D:=[],F:=[],ctr:=1 }
def G140 {B:Type}(u:(List E9)->B)(hh0:(List E9)->Int->Option B)(m142:Y142)(a0:(List E9)):Option B:=
 bif (((decide ((0:Int)<=(Nat.cast (List.length a0):Int)))&&(decide ((Nat.cast (List.length a0):Int)<=(Nat.cast (List.length a0):Int))))&&(decide ((Nat.cast (List.length a0):Int)<=(1000000000:Int))))then hh0 (List.replicate (Int.toNat (Nat.cast (List.length a0):Int)) ((0:Int),((0:Int),((0:Int),((0:Int),((0:Int),((0:Int),((0:Int),((0:Int),(0:Int)))))))))) (0:Int)
 else none
def B140_0 {B:Type}(u:(List E9)->B)(gg:(List E9)->Int->Option B)(kk:(List E9)->Option B)(m142:Y142)(a0:(List E9))(v0_3:(List E9))(v0_4:Int):Option B:=
 bif (decide (v0_4 < (Nat.cast (List.length a0):Int)))then dY (List.getD a0 v0_4.toNat ((0:Int),((0:Int),((0:Int),((0:Int),((0:Int),((0:Int),((0:Int),((0:Int),(0:Int)))))))))) λs1_0=>bif ((decide ((0:Int)<=v0_4))&&(decide (v0_4 < (Nat.cast (List.length a0):Int))))then dB (m142 (s1_0.1,(s1_0.2.1,(s1_0.2.2.1,(s1_0.2.2.2.1,(s1_0.2.2.2.2.1,(s1_0.2.2.2.2.2.1,(s1_0.2.2.2.2.2.2.1,(s1_0.2.2.2.2.2.2.2.1,s1_0.2.2.2.2.2.2.2.2))))))))) ((0:Int),(0:Int),(0:Int),(0:Int),(0:Int),(0:Int),(0:Int),(0:Int),(0:Int)) λ(q3:E9)=>bif ((decide ((0:Int)<=v0_4))&&(decide (v0_4 < (Nat.cast (List.length v0_3):Int))))then gg (List.set v0_3 v0_4.toNat (q3.1,(q3.2.1,(q3.2.2.1,(q3.2.2.2.1,(q3.2.2.2.2.1,(q3.2.2.2.2.2.1,(q3.2.2.2.2.2.2.1,(q3.2.2.2.2.2.2.2.1,q3.2.2.2.2.2.2.2.2))))))))) (wrap .i64 (v0_4+(1:Int)))
    else none
  else none
 else kk v0_3
def A140_0 {B:Type}(u:(List E9)->B)(m142:Y142)(a0:(List E9))(w0_3:(List E9)):Option B:=
 some (u w0_3)
def vK (m142:Y142)(L:Nat)(a0:(List E9)):Nat->(List E9)->Int->((List E9)->Option (List E9))->Option (List E9)
 | 0,_,_,_=>none
 | n+1,v0_3,v0_4,k=>B140_0 (λx=>x) (λv0_3 v0_4=>vK m142 L a0 n v0_3 v0_4 k) k m142 a0 v0_3 v0_4
theorem aKb (m142:Y142)(L:Nat)(a0:(List E9))(k:St cxT.ty->Option (V cxT.ty))(xk:Nat->St cxT.ty->Option (V cxT.ty))(k':(List E9)->Option (List E9))(hk:∀ (w0_3:(List E9)),k (X140_0 a0 w0_3)=(k' w0_3).map aAZ):∀ (n:Nat) (v0_3:(List E9)) (v0_4:Int),bE prog (uH m142) L f140 0 [1,1,0,1,0,0] (bW (aX prog f140) k xk) n (S140_0 a0 v0_3 v0_4)=(vK m142 L a0 n v0_3 v0_4 k').map aAZ
 | 0,_,_=>rfl
 | n+1,v0_3,v0_4=>by
  rw[bP];have ih:=aKb m142 L a0 k xk k' hk n;refine .trans (b:=B140_0 aAZ (λv0_3 v0_4=>(bE prog (uH m142) L f140 0 [1,1,0,1,0,0] (bW (aX prog f140) k xk) n) (S140_0 a0 v0_3 v0_4)) (λw0_3=>k (X140_0 a0 w0_3)) m142 a0 v0_3 v0_4) (by kernel_rfl) ?_;unfold vK B140_0
  repeat' first | with_reducible refine dP ?_ ?_ | with_reducible refine dL λ_=>?_ | with_reducible refine dO λ_=>?_ | with_reducible exact ih _ _ | with_reducible exact hk _ | exact rfl
def aMf (m142:Y142)(L:Nat)(a0:(List E9)):Option (List E9):=G140 (λx=>x) (λv0_3 v0_4=>vK m142 L a0 L v0_3 v0_4 (λw0_3=>A140_0 (λx=>x) m142 a0 w0_3)) m142 a0
theorem bEZ (m142:Y142)(L:Nat)(a0:(List E9)):fK prog (uH m142) (bJ L) f140 (aZN.enc a0)=(aMf m142 L a0).map aAZ:=by
 have hin0:∀ (v0_3:(List E9)) (v0_4:Int),bE prog (uH m142) L f140 0 [1,1,0,1,0,0] (bW (aX prog f140) (bV prog (uH m142) L f140 [1,1,0,1] (aX prog f140)).n (bV prog (uH m142) L f140 [1,1,0,1] (aX prog f140)).x) L (S140_0 a0 v0_3 v0_4)=((λv0_3 v0_4=>vK m142 L a0 L v0_3 v0_4 (λw0_3=>A140_0 (λx=>x) m142 a0 w0_3)) v0_3 v0_4).map aAZ:=λv0_3 v0_4=>aKb m142 L a0 _ _ _ (λw0_3=>by refine .trans (b:=A140_0 aAZ m142 a0 w0_3) (by kernel_rfl) ?_;unfold A140_0;repeat' first | with_reducible refine dP ?_ ?_ | with_reducible refine dL λ_=>?_ | with_reducible refine dO λ_=>?_ | exact rfl) L v0_3 v0_4
 refine .trans (b:=G140 aAZ (λv0_3 v0_4=>bE prog (uH m142) L f140 0 [1,1,0,1,0,0] (bW (aX prog f140) (bV prog (uH m142) L f140 [1,1,0,1] (aX prog f140)).n (bV prog (uH m142) L f140 [1,1,0,1] (aX prog f140)).x) L (S140_0 a0 v0_3 v0_4)) m142 a0) (by kernel_rfl) ?_;unfold aMf G140
 repeat' first | with_reducible refine dP ?_ ?_ | with_reducible refine dL λ_=>?_ | with_reducible refine dO λ_=>?_ | with_reducible exact hin0 _ _ | exact rfl
def aP9 (m142:Y142)(L:Nat)(x:(List E9)):Option (List E9):=aMf m142 L x
theorem bB5 (m142:Y142)(h142:Sat prog cxT 142 (aIz m142))(m:Y140)(hm:∀ (x:(List E9)) t,m x=some t->∃ L,aP9 m142 L x=some t):Sat prog cxT 140 (aIA m):=
 cD bA aW (by rfl) (fn:=f140) rfl aZN aAZ aPn m (uH m142) (aL h142 aV) aP (aP9 m142) (λL x=>bEZ m142 L x) hm aVL
def uG:Env cxT:={ Kc:=cS [],Kw:=cR [],lv:=λi=>if i=0 then[(0,[some 2]),(3,[some 2]),(4,[])]else[],xv:=λi=>if i=0 then some [(3,[some 2])]else none }
def S141_0 (a0:(List Int))(v0_3:(List Int))(v0_4:Int):St cxT.ty:={ slots:=[(.inl (.inl (ls { own:=0,nm:=0,e:=2,o:=false,xs:=a0 }))),aK,aK,(.inl (.inl (ls { own:=1,nm:=192,e:=2,o:=true,xs:=v0_3 }))),(.inl (.inl (lv (.int .i64 v0_4))))]++List.replicate 17 aK,D:=[],F:=[],ctr:=1 }
def X141_0 (a0:(List Int))(w0_3:(List Int)):St cxT.ty:={ slots:=[aK,aK,aK,(.inl (.inl (ls { own:=1,nm:=192,e:=2,o:=true,xs:=w0_3 })))]++List.replicate 18 aK,D:=[],F:=[],ctr:=1 }
def G141 {B:Type}(u:(List Int)->B)(hh0:(List Int)->Int->Option B)(a0:(List Int)):Option B:=
 bif (((decide ((0:Int)<=(Nat.cast (List.length a0):Int)))&&(decide ((Nat.cast (List.length a0):Int)<=(Nat.cast (List.length a0):Int))))&&(decide ((Nat.cast (List.length a0):Int)<=(1000000000:Int))))then hh0 (List.replicate (Int.toNat (Nat.cast (List.length a0):Int)) (0:Int)) (0:Int)
 else none
def B141_0 {B:Type}(u:(List Int)->B)(gg:(List Int)->Int->Option B)(kk:(List Int)->Option B)(a0:(List Int))(v0_3:(List Int))(v0_4:Int):Option B:=
 bif (decide (v0_4 < (Nat.cast (List.length a0):Int)))then bif ((decide ((0:Int)<=v0_4))&&(decide (v0_4 < (Nat.cast (List.length a0):Int))))then bif ((decide ((0:Int)<=v0_4))&&(decide (v0_4 < (Nat.cast (List.length v0_3):Int))))then gg (List.set v0_3 v0_4.toNat (List.getD a0 v0_4.toNat (0:Int))) (wrap .i64 (v0_4+(1:Int)))
   else none
  else none
 else kk v0_3
def A141_0 {B:Type}(u:(List Int)->B)(a0:(List Int))(w0_3:(List Int)):Option B:=
 some (u w0_3)
def vJ (L:Nat)(a0:(List Int)):Nat->(List Int)->Int->((List Int)->Option (List Int))->Option (List Int)
 | 0,_,_,_=>none
 | n+1,v0_3,v0_4,k=>B141_0 (λx=>x) (λv0_3 v0_4=>vJ L a0 n v0_3 v0_4 k) k a0 v0_3 v0_4
theorem aKa (L:Nat)(a0:(List Int))(k:St cxT.ty->Option (V cxT.ty))(xk:Nat->St cxT.ty->Option (V cxT.ty))(k':(List Int)->Option (List Int))(hk:∀ (w0_3:(List Int)),k (X141_0 a0 w0_3)=(k' w0_3).map aAY):∀ (n:Nat) (v0_3:(List Int)) (v0_4:Int),bE prog uG L f141 0 [1,1,0,1,0,0] (bW (aX prog f141) k xk) n (S141_0 a0 v0_3 v0_4)=(vJ L a0 n v0_3 v0_4 k').map aAY
 | 0,_,_=>rfl
 | n+1,v0_3,v0_4=>by
  rw[bP];have ih:=aKa L a0 k xk k' hk n;refine .trans (b:=B141_0 aAY (λv0_3 v0_4=>(bE prog uG L f141 0 [1,1,0,1,0,0] (bW (aX prog f141) k xk) n) (S141_0 a0 v0_3 v0_4)) (λw0_3=>k (X141_0 a0 w0_3)) a0 v0_3 v0_4) (by kernel_rfl) ?_;unfold vJ B141_0
  repeat' first | with_reducible refine dP ?_ ?_ | with_reducible refine dL λ_=>?_ | with_reducible refine dO λ_=>?_ | with_reducible exact ih _ _ | with_reducible exact hk _ | exact rfl
def aMe (L:Nat)(a0:(List Int)):Option (List Int):=G141 (λx=>x) (λv0_3 v0_4=>vJ L a0 L v0_3 v0_4 (λw0_3=>A141_0 (λx=>x) a0 w0_3)) a0
theorem bEY (L:Nat)(a0:(List Int)):fK prog uG (bJ L) f141 (aZM.enc a0)=(aMe L a0).map aAY:=by
 have hin0:∀ (v0_3:(List Int)) (v0_4:Int),bE prog uG L f141 0 [1,1,0,1,0,0] (bW (aX prog f141) (bV prog uG L f141 [1,1,0,1] (aX prog f141)).n (bV prog uG L f141 [1,1,0,1] (aX prog f141)).x) L (S141_0 a0 v0_3 v0_4)=((λv0_3 v0_4=>vJ L a0 L v0_3 v0_4 (λw0_3=>A141_0 (λx=>x) a0 w0_3)) v0_3 v0_4).map aAY:=λv0_3 v0_4=>aKa L a0 _ _ _ (λw0_3=>by refine .trans (b:=A141_0 aAY a0 w0_3) (by kernel_rfl) ?_;unfold A141_0;repeat' first | with_reducible refine dP ?_ ?_ | with_reducible refine dL λ_=>?_ | with_reducible refine dO λ_=>?_ | exact rfl) L v0_3 v0_4
 refine .trans (b:=G141 aAY (λv0_3 v0_4=>bE prog uG L f141 0 [1,1,0,1,0,0] (bW (aX prog f141) (bV prog uG L f141 [1,1,0,1] (aX prog f141)).n (bV prog uG L f141 [1,1,0,1] (aX prog f141)).x) L (S141_0 a0 v0_3 v0_4)) a0) (by kernel_rfl) ?_;unfold aMe G141
 repeat' first | with_reducible refine dP ?_ ?_ | with_reducible refine dL λ_=>?_ | with_reducible refine dO λ_=>?_ | with_reducible exact hin0 _ _ | exact rfl
def aP8 (L:Nat)(x:(List Int)):Option (List Int):=aMe L x
theorem bB4 (m:Y141)(hm:∀ (x:(List Int)) t,m x=some t->∃ L,aP8 L x=some t):Sat prog cxT 141 (aMR m):=
 cD bA aW (by rfl) (fn:=f141) rfl aZM aAY aPm m uG aV aP (aP8) (λL x=>bEY L x) hm aVK
def aOm (m31:Y31):Env cxT:={ Kc:=cS [(31,c31 m31)],Kw:=cR [],lv:=λi=>[],xv:=λi=>none }
def G142 {B:Type}(u:E9->B)(m31:Y31)(a0_0:Int)(a0_1:Int)(a0_2:Int)(a0_3:Int)(a0_4:Int)(a0_5:Int)(a0_6:Int)(a0_7:Int)(a0_8:Int):Option B:=
 dB (m31 (a0_3,(a0_4,(a0_5,(a0_6,(a0_7,a0_8)))))) ((0:Int),(0:Int),(0:Int),(0:Int),(0:Int),(0:Int)) λ(q1:(Int×Int×Int×Int×Int×Int))=>some (u (a0_0,a0_1,a0_2,q1.1,q1.2.1,q1.2.2.1,q1.2.2.2.1,q1.2.2.2.2.1,q1.2.2.2.2.2))
def aR8 (m31:Y31)(L:Nat)(a0_0:Int)(a0_1:Int)(a0_2:Int)(a0_3:Int)(a0_4:Int)(a0_5:Int)(a0_6:Int)(a0_7:Int)(a0_8:Int):Option E9:=G142 (λx=>x) m31 a0_0 a0_1 a0_2 a0_3 a0_4 a0_5 a0_6 a0_7 a0_8
theorem bEX (m31:Y31)(L:Nat)(a0_0:Int)(a0_1:Int)(a0_2:Int)(a0_3:Int)(a0_4:Int)(a0_5:Int)(a0_6:Int)(a0_7:Int)(a0_8:Int):fK prog (aOm m31) (bJ L) f142 (aZL.enc (a0_0,a0_1,a0_2,a0_3,a0_4,a0_5,a0_6,a0_7,a0_8))=(aR8 m31 L a0_0 a0_1 a0_2 a0_3 a0_4 a0_5 a0_6 a0_7 a0_8).map aH8:=by
 refine .trans (b:=G142 aH8 m31 a0_0 a0_1 a0_2 a0_3 a0_4 a0_5 a0_6 a0_7 a0_8) (by kernel_rfl) ?_;unfold aR8 G142
 repeat' first | with_reducible refine dP ?_ ?_ | with_reducible refine dL λ_=>?_ | with_reducible refine dO λ_=>?_ | exact rfl
def aTB (m31:Y31)(L:Nat)(x:E9):Option E9:=aR8 m31 L x.1 x.2.1 x.2.2.1 x.2.2.2.1 x.2.2.2.2.1 x.2.2.2.2.2.1 x.2.2.2.2.2.2.1 x.2.2.2.2.2.2.2.1 x.2.2.2.2.2.2.2.2
theorem bB3 (m31:Y31)(h31:Sat prog cxT 31 (c31 m31))(m:Y142)(hm:∀ (x:E9) t,m x=some t->∃ L,aTB m31 L x=some t):Sat prog cxT 142 (aIz m):=
 cD bA aW (by rfl) (fn:=f142) rfl aZL aH8 aPl m (aOm m31) (aL h31 aV) aP (aTB m31) (λL x=>bEX m31 L x.1 x.2.1 x.2.2.1 x.2.2.2.1 x.2.2.2.2.1 x.2.2.2.2.2.1 x.2.2.2.2.2.2.1 x.2.2.2.2.2.2.2.1 x.2.2.2.2.2.2.2.2) hm aVJ
def aWP (hH:Y140)(lC:Y141):Env cxT:={ Kc:=cS [(140,aIA hH),(141,aMR lC)],Kw:=cR [],lv:=λi=>[],xv:=λi=>none }
def G90 {B:Type}(u:N10->B)(hH:Y140)(lC:Y141)(a0_0:Int)(a0_1:Int)(a0_2:Int)(a0_3:Int)(a0_4:(List E9))(a0_5:Int)(a0_6:Int)(a0_7:(List Int))(a0_8:(List Int))(a0_9:(List Int)):Option B:=
 dB (hH a0_4) [] λ(q1:(List E9))=>dB (lC a0_7) [] λ(q2:(List Int))=>dB (lC a0_8) [] λ(q3:(List Int))=>dB (lC a0_9) [] λ(q4:(List Int))=>some (u (a0_0,a0_1,a0_2,a0_3,q1,a0_5,a0_6,q2,q3,q4))
def g90 (hH:Y140)(lC:Y141)(L:Nat)(a0_0:Int)(a0_1:Int)(a0_2:Int)(a0_3:Int)(a0_4:(List E9))(a0_5:Int)(a0_6:Int)(a0_7:(List Int))(a0_8:(List Int))(a0_9:(List Int)):Option N10:=G90 (λx=>x) hH lC a0_0 a0_1 a0_2 a0_3 a0_4 a0_5 a0_6 a0_7 a0_8 a0_9
theorem e90 (hH:Y140)(lC:Y141)(L:Nat)(a0_0:Int)(a0_1:Int)(a0_2:Int)(a0_3:Int)(a0_4:(List E9))(a0_5:Int)(a0_6:Int)(a0_7:(List Int))(a0_8:(List Int))(a0_9:(List Int)):fK prog (aWP hH lC) (bJ L) f90 (a90.enc (a0_0,a0_1,a0_2,a0_3,a0_4,a0_5,a0_6,a0_7,a0_8,a0_9))=(g90 hH lC L a0_0 a0_1 a0_2 a0_3 a0_4 a0_5 a0_6 a0_7 a0_8 a0_9).map n90:=by
 refine .trans (b:=G90 n90 hH lC a0_0 a0_1 a0_2 a0_3 a0_4 a0_5 a0_6 a0_7 a0_8 a0_9) (by kernel_rfl) ?_;unfold g90 G90
 repeat' first | with_reducible refine dP ?_ ?_ | with_reducible refine dL λ_=>?_ | with_reducible refine dO λ_=>?_ | exact rfl
def w90 (hH:Y140)(lC:Y141)(L:Nat)(x:N10):Option N10:=g90 hH lC L x.1 x.2.1 x.2.2.1 x.2.2.2.1 x.2.2.2.2.1 x.2.2.2.2.2.1 x.2.2.2.2.2.2.1 x.2.2.2.2.2.2.2.1 x.2.2.2.2.2.2.2.2.1 x.2.2.2.2.2.2.2.2.2
theorem s90 (hH:Y140)(lC:Y141)(h140:Sat prog cxT 140 (aIA hH))(h141:Sat prog cxT 141 (aMR lC))(m:Y90)(hm:∀ (x:N10) t,m x=some t->∃ L,w90 hH lC L x=some t):Sat prog cxT 90 (c90 m):=
 cD bA aW (by rfl) (fn:=f90) rfl a90 n90 aXC m (aWP hH lC) (aL h140 (aL h141 aV)) aP (w90 hH lC) (λL x=>e90 hH lC L x.1 x.2.1 x.2.2.1 x.2.2.2.1 x.2.2.2.2.1 x.2.2.2.2.2.1 x.2.2.2.2.2.2.1 x.2.2.2.2.2.2.2.1 x.2.2.2.2.2.2.2.2.1 x.2.2.2.2.2.2.2.2.2) hm bCS
def aWO (hH:Y140):Env cxT:={ Kc:=cS [(140,aIA hH)],Kw:=cR [],lv:=λi=>[],xv:=λi=>none }
def G91 {B:Type}(u:M9->B)(hH:Y140)(a0_0:Int)(a0_1:Int)(a0_2:Int)(a0_3:Int)(a0_4:Int)(a0_5:Int)(a0_6:Int)(a0_7:Bool)(a0_8:(List E9)):Option B:=
 dB (hH a0_8) [] λ(q1:(List E9))=>some (u (a0_0,a0_1,a0_2,a0_3,a0_4,a0_5,a0_6,a0_7,q1))
def g91 (hH:Y140)(L:Nat)(a0_0:Int)(a0_1:Int)(a0_2:Int)(a0_3:Int)(a0_4:Int)(a0_5:Int)(a0_6:Int)(a0_7:Bool)(a0_8:(List E9)):Option M9:=G91 (λx=>x) hH a0_0 a0_1 a0_2 a0_3 a0_4 a0_5 a0_6 a0_7 a0_8
theorem e91 (hH:Y140)(L:Nat)(a0_0:Int)(a0_1:Int)(a0_2:Int)(a0_3:Int)(a0_4:Int)(a0_5:Int)(a0_6:Int)(a0_7:Bool)(a0_8:(List E9)):fK prog (aWO hH) (bJ L) f91 (a91.enc (a0_0,a0_1,a0_2,a0_3,a0_4,a0_5,a0_6,a0_7,a0_8))=(g91 hH L a0_0 a0_1 a0_2 a0_3 a0_4 a0_5 a0_6 a0_7 a0_8).map n91:=by
 refine .trans (b:=G91 n91 hH a0_0 a0_1 a0_2 a0_3 a0_4 a0_5 a0_6 a0_7 a0_8) (by kernel_rfl) ?_;unfold g91 G91
 repeat' first | with_reducible refine dP ?_ ?_ | with_reducible refine dL λ_=>?_ | with_reducible refine dO λ_=>?_ | exact rfl
def w91 (hH:Y140)(L:Nat)(x:M9):Option M9:=g91 hH L x.1 x.2.1 x.2.2.1 x.2.2.2.1 x.2.2.2.2.1 x.2.2.2.2.2.1 x.2.2.2.2.2.2.1 x.2.2.2.2.2.2.2.1 x.2.2.2.2.2.2.2.2
theorem s91 (hH:Y140)(h140:Sat prog cxT 140 (aIA hH))(m:Y91)(hm:∀ (x:M9) t,m x=some t->∃ L,w91 hH L x=some t):Sat prog cxT 91 (c91 m):=
 cD bA aW (by rfl) (fn:=f91) rfl a91 n91 aXB m (aWO hH) (aL h140 aV) aP (w91 hH) (λL x=>e91 hH L x.1 x.2.1 x.2.2.1 x.2.2.2.1 x.2.2.2.2.1 x.2.2.2.2.2.1 x.2.2.2.2.2.2.1 x.2.2.2.2.2.2.2.1 x.2.2.2.2.2.2.2.2) hm bCR
def aWN:Env cxT:={ Kc:=cS [],Kw:=cR [],lv:=λi=>[],xv:=λi=>none }
def G92 {B:Type}(u:(Int×Int)->B)(a0_0:Int)(a0_1:Int):Option B:=
 some (u (a0_0,a0_1))
def g92 (L:Nat)(a0_0:Int)(a0_1:Int):Option (Int×Int):=G92 (λx=>x) a0_0 a0_1
theorem e92 (L:Nat)(a0_0:Int)(a0_1:Int):fK prog aWN (bJ L) f92 (a92.enc (a0_0,a0_1))=(g92 L a0_0 a0_1).map n92:=by
 refine .trans (b:=G92 n92 a0_0 a0_1) (by kernel_rfl) ?_;unfold g92 G92
 repeat' first | with_reducible refine dP ?_ ?_ | with_reducible refine dL λ_=>?_ | with_reducible refine dO λ_=>?_ | exact rfl
def w92 (L:Nat)(x:(Int×Int)):Option (Int×Int):=g92 L x.1 x.2
theorem s92 (m:Y92)(hm:∀ (x:(Int×Int)) t,m x=some t->∃ L,w92 L x=some t):Sat prog cxT 92 (c92 m):=
 cD bA aW (by rfl) (fn:=f92) rfl a92 n92 aXA m aWN aV aP (w92) (λL x=>e92 L x.1 x.2) hm bCQ
def aWM (m142:Y142):Env cxT:={ Kc:=cS [(142,aIz m142)],Kw:=cR [],lv:=λi=>[],xv:=λi=>none }
def G93 {B:Type}(u:S10->B)(m142:Y142)(a0_0:Int)(a0_1:Int)(a0_2:Int)(a0_3:Int)(a0_4:Int)(a0_5:Int)(a0_6:Int)(a0_7:Int)(a0_8:Int)(a0_9:Int):Option B:=
 dB (m142 (a0_1,(a0_2,(a0_3,(a0_4,(a0_5,(a0_6,(a0_7,(a0_8,a0_9))))))))) ((0:Int),(0:Int),(0:Int),(0:Int),(0:Int),(0:Int),(0:Int),(0:Int),(0:Int)) λ(q1:E9)=>some (u (a0_0,q1.1,q1.2.1,q1.2.2.1,q1.2.2.2.1,q1.2.2.2.2.1,q1.2.2.2.2.2.1,q1.2.2.2.2.2.2.1,q1.2.2.2.2.2.2.2.1,q1.2.2.2.2.2.2.2.2))
def g93 (m142:Y142)(L:Nat)(a0_0:Int)(a0_1:Int)(a0_2:Int)(a0_3:Int)(a0_4:Int)(a0_5:Int)(a0_6:Int)(a0_7:Int)(a0_8:Int)(a0_9:Int):Option S10:=G93 (λx=>x) m142 a0_0 a0_1 a0_2 a0_3 a0_4 a0_5 a0_6 a0_7 a0_8 a0_9
theorem e93 (m142:Y142)(L:Nat)(a0_0:Int)(a0_1:Int)(a0_2:Int)(a0_3:Int)(a0_4:Int)(a0_5:Int)(a0_6:Int)(a0_7:Int)(a0_8:Int)(a0_9:Int):fK prog (aWM m142) (bJ L) f93 (a93.enc (a0_0,a0_1,a0_2,a0_3,a0_4,a0_5,a0_6,a0_7,a0_8,a0_9))=(g93 m142 L a0_0 a0_1 a0_2 a0_3 a0_4 a0_5 a0_6 a0_7 a0_8 a0_9).map n93:=by
 refine .trans (b:=G93 n93 m142 a0_0 a0_1 a0_2 a0_3 a0_4 a0_5 a0_6 a0_7 a0_8 a0_9) (by kernel_rfl) ?_;unfold g93 G93
 repeat' first | with_reducible refine dP ?_ ?_ | with_reducible refine dL λ_=>?_ | with_reducible refine dO λ_=>?_ | exact rfl
def w93 (m142:Y142)(L:Nat)(x:S10):Option S10:=g93 m142 L x.1 x.2.1 x.2.2.1 x.2.2.2.1 x.2.2.2.2.1 x.2.2.2.2.2.1 x.2.2.2.2.2.2.1 x.2.2.2.2.2.2.2.1 x.2.2.2.2.2.2.2.2.1 x.2.2.2.2.2.2.2.2.2
theorem s93 (m142:Y142)(h142:Sat prog cxT 142 (aIz m142))(m:Y93)(hm:∀ (x:S10) t,m x=some t->∃ L,w93 m142 L x=some t):Sat prog cxT 93 (c93 m):=
 cD bA aW (by rfl) (fn:=f93) rfl a93 n93 aXz m (aWM m142) (aL h142 aV) aP (w93 m142) (λL x=>e93 m142 L x.1 x.2.1 x.2.2.1 x.2.2.2.1 x.2.2.2.2.1 x.2.2.2.2.2.1 x.2.2.2.2.2.2.1 x.2.2.2.2.2.2.2.1 x.2.2.2.2.2.2.2.2.1 x.2.2.2.2.2.2.2.2.2) hm bCP
def aCA (nT:Y90):Env cxT:={ Kc:=cS [(90,c90 nT)],Kw:=cR [],lv:=λi=>if i=0 then[(0,[some 108]),(3,[some 96]),(4,[])]else[],xv:=λi=>if i=0 then some [(3,[some 96])]else none }
def S40_0 (a0:(List N10))(v0_3:(List N10))(v0_4:Int):St cxT.ty:={ slots:=[(.inl (.inl (ls { own:=0,nm:=0,e:=108,o:=false,xs:=a0 }))),aK,aK,(.inl (.inl (ls { own:=1,nm:=192,e:=96,o:=true,xs:=v0_3 }))),(.inl (.inl (lv (.int .i64 v0_4))))]++List.replicate 18 aK,D:=[],F:=[],ctr:=1 }
def X40_0 (a0:(List N10))(w0_3:(List N10)):St cxT.ty:={ slots:=[aK,aK,aK,(.inl (.inl (ls { own:=1,nm:=192,e:=96,o:=true,xs:=w0_3 })))]++List.replicate 19 aK,D:=[],F:=[],ctr:=1 }
def G40 {B:Type}(u:(List N10)->B)(hh0:(List N10)->Int->Option B)(nT:Y90)(a0:(List N10)):Option B:=
 bif (((decide ((0:Int)<=(Nat.cast (List.length a0):Int)))&&(decide ((Nat.cast (List.length a0):Int)<=(Nat.cast (List.length a0):Int))))&&(decide ((Nat.cast (List.length a0):Int)<=(1000000000:Int))))then hh0 (List.replicate (Int.toNat (Nat.cast (List.length a0):Int)) ((0:Int),((0:Int),((0:Int),((0:Int),(([]:List E9),((0:Int),((0:Int),(([]:List (Int)),(([]:List (Int)),([]:List (Int)))))))))))) (0:Int)
 else none
def B40_0 {B:Type}(u:(List N10)->B)(gg:(List N10)->Int->Option B)(kk:(List N10)->Option B)(nT:Y90)(a0:(List N10))(v0_3:(List N10))(v0_4:Int):Option B:=
 bif (decide (v0_4 < (Nat.cast (List.length a0):Int)))then dY (List.getD a0 v0_4.toNat ((0:Int),((0:Int),((0:Int),((0:Int),(([]:List E9),((0:Int),((0:Int),(([]:List (Int)),(([]:List (Int)),([]:List (Int)))))))))))) λs1_0=>bif ((decide ((0:Int)<=v0_4))&&(decide (v0_4 < (Nat.cast (List.length a0):Int))))then dB (nT (s1_0.1,(s1_0.2.1,(s1_0.2.2.1,(s1_0.2.2.2.1,(s1_0.2.2.2.2.1,(s1_0.2.2.2.2.2.1,(s1_0.2.2.2.2.2.2.1,(s1_0.2.2.2.2.2.2.2.1,(s1_0.2.2.2.2.2.2.2.2.1,s1_0.2.2.2.2.2.2.2.2.2)))))))))) ((0:Int),(0:Int),(0:Int),(0:Int),[],(0:Int),(0:Int),[],[],[]) λ(q3:N10)=>bif ((decide ((0:Int)<=v0_4))&&(decide (v0_4 < (Nat.cast (List.length v0_3):Int))))then gg (List.set v0_3 v0_4.toNat (q3.1,(q3.2.1,(q3.2.2.1,(q3.2.2.2.1,(q3.2.2.2.2.1,(q3.2.2.2.2.2.1,(q3.2.2.2.2.2.2.1,(q3.2.2.2.2.2.2.2.1,(q3.2.2.2.2.2.2.2.2.1,q3.2.2.2.2.2.2.2.2.2)))))))))) (wrap .i64 (v0_4+(1:Int)))
    else none
  else none
 else kk v0_3
def A40_0 {B:Type}(u:(List N10)->B)(nT:Y90)(a0:(List N10))(w0_3:(List N10)):Option B:=
 some (u w0_3)
def aBi (nT:Y90)(L:Nat)(a0:(List N10)):Nat->(List N10)->Int->((List N10)->Option (List N10))->Option (List N10)
 | 0,_,_,_=>none
 | n+1,v0_3,v0_4,k=>B40_0 (λx=>x) (λv0_3 v0_4=>aBi nT L a0 n v0_3 v0_4 k) k nT a0 v0_3 v0_4
theorem aNI (nT:Y90)(L:Nat)(a0:(List N10))(k:St cxT.ty->Option (V cxT.ty))(xk:Nat->St cxT.ty->Option (V cxT.ty))(k':(List N10)->Option (List N10))(hk:∀ (w0_3:(List N10)),k (X40_0 a0 w0_3)=(k' w0_3).map n40):∀ (n:Nat) (v0_3:(List N10)) (v0_4:Int),bE prog (aCA nT) L f40 0 [1,1,0,1,0,0] (bW (aX prog f40) k xk) n (S40_0 a0 v0_3 v0_4)=(aBi nT L a0 n v0_3 v0_4 k').map n40
 | 0,_,_=>rfl
 | n+1,v0_3,v0_4=>by
  rw[bP];have ih:=aNI nT L a0 k xk k' hk n;refine .trans (b:=B40_0 n40 (λv0_3 v0_4=>(bE prog (aCA nT) L f40 0 [1,1,0,1,0,0] (bW (aX prog f40) k xk) n) (S40_0 a0 v0_3 v0_4)) (λw0_3=>k (X40_0 a0 w0_3)) nT a0 v0_3 v0_4) (by kernel_rfl) ?_;unfold aBi B40_0
  repeat' first | with_reducible refine dP ?_ ?_ | with_reducible refine dL λ_=>?_ | with_reducible refine dO λ_=>?_ | with_reducible exact ih _ _ | with_reducible exact hk _ | exact rfl
def g40 (nT:Y90)(L:Nat)(a0:(List N10)):Option (List N10):=G40 (λx=>x) (λv0_3 v0_4=>aBi nT L a0 L v0_3 v0_4 (λw0_3=>A40_0 (λx=>x) nT a0 w0_3)) nT a0
theorem e40 (nT:Y90)(L:Nat)(a0:(List N10)):fK prog (aCA nT) (bJ L) f40 (a40.enc a0)=(g40 nT L a0).map n40:=by
 have hin0:∀ (v0_3:(List N10)) (v0_4:Int),bE prog (aCA nT) L f40 0 [1,1,0,1,0,0] (bW (aX prog f40) (bV prog (aCA nT) L f40 [1,1,0,1] (aX prog f40)).n (bV prog (aCA nT) L f40 [1,1,0,1] (aX prog f40)).x) L (S40_0 a0 v0_3 v0_4)=((λv0_3 v0_4=>aBi nT L a0 L v0_3 v0_4 (λw0_3=>A40_0 (λx=>x) nT a0 w0_3)) v0_3 v0_4).map n40:=λv0_3 v0_4=>aNI nT L a0 _ _ _ (λw0_3=>by refine .trans (b:=A40_0 n40 nT a0 w0_3) (by kernel_rfl) ?_;unfold A40_0;repeat' first | with_reducible refine dP ?_ ?_ | with_reducible refine dL λ_=>?_ | with_reducible refine dO λ_=>?_ | exact rfl) L v0_3 v0_4
 refine .trans (b:=G40 n40 (λv0_3 v0_4=>bE prog (aCA nT) L f40 0 [1,1,0,1,0,0] (bW (aX prog f40) (bV prog (aCA nT) L f40 [1,1,0,1] (aX prog f40)).n (bV prog (aCA nT) L f40 [1,1,0,1] (aX prog f40)).x) L (S40_0 a0 v0_3 v0_4)) nT a0) (by kernel_rfl) ?_;unfold g40 G40
 repeat' first | with_reducible refine dP ?_ ?_ | with_reducible refine dL λ_=>?_ | with_reducible refine dO λ_=>?_ | with_reducible exact hin0 _ _ | exact rfl
def w40 (nT:Y90)(L:Nat)(x:(List N10)):Option (List N10):=g40 nT L x
theorem s40 (nT:Y90)(h90:Sat prog cxT 90 (c90 nT))(m:Y40)(hm:∀ (x:(List N10)) t,m x=some t->∃ L,w40 nT L x=some t):Sat prog cxT 40 (c40 m):=
 cD bA aW (by rfl) (fn:=f40) rfl a40 n40 aX9 m (aCA nT) (aL h90 aV) aP (w40 nT) (λL x=>e40 nT L x) hm bDo
def aCz (nS:Y91):Env cxT:={ Kc:=cS [(91,c91 nS)],Kw:=cR [],lv:=λi=>if i=0 then[(0,[some 111]),(3,[some 78]),(4,[])]else[],xv:=λi=>if i=0 then some [(3,[some 78])]else none }
def S41_0 (a0:(List M9))(v0_3:(List M9))(v0_4:Int):St cxT.ty:={ slots:=[(.inl (.inl (ls { own:=0,nm:=0,e:=111,o:=false,xs:=a0 }))),aK,aK,(.inl (.inl (ls { own:=1,nm:=192,e:=78,o:=true,xs:=v0_3 }))),(.inl (.inl (lv (.int .i64 v0_4))))]++List.replicate 18 aK,D:=[],F:=[],ctr:=1 }
def X41_0 (a0:(List M9))(w0_3:(List M9)):St cxT.ty:={ slots:=[aK,aK,aK,(.inl (.inl (ls { own:=1,nm:=192,e:=78,o:=true,xs:=w0_3 })))]++List.replicate 19 aK,D:=[],F:=[],ctr:=1 }
def G41 {B:Type}(u:(List M9)->B)(hh0:(List M9)->Int->Option B)(nS:Y91)(a0:(List M9)):Option B:=
 bif (((decide ((0:Int)<=(Nat.cast (List.length a0):Int)))&&(decide ((Nat.cast (List.length a0):Int)<=(Nat.cast (List.length a0):Int))))&&(decide ((Nat.cast (List.length a0):Int)<=(1000000000:Int))))then hh0 (List.replicate (Int.toNat (Nat.cast (List.length a0):Int)) ((0:Int),((0:Int),((0:Int),((0:Int),((0:Int),((0:Int),((0:Int),(false,[]))))))))) (0:Int)
 else none
def B41_0 {B:Type}(u:(List M9)->B)(gg:(List M9)->Int->Option B)(kk:(List M9)->Option B)(nS:Y91)(a0:(List M9))(v0_3:(List M9))(v0_4:Int):Option B:=
 bif (decide (v0_4 < (Nat.cast (List.length a0):Int)))then dY (List.getD a0 v0_4.toNat ((0:Int),((0:Int),((0:Int),((0:Int),((0:Int),((0:Int),((0:Int),(false,[]))))))))) λs1_0=>bif ((decide ((0:Int)<=v0_4))&&(decide (v0_4 < (Nat.cast (List.length a0):Int))))then dB (nS (s1_0.1,(s1_0.2.1,(s1_0.2.2.1,(s1_0.2.2.2.1,(s1_0.2.2.2.2.1,(s1_0.2.2.2.2.2.1,(s1_0.2.2.2.2.2.2.1,(s1_0.2.2.2.2.2.2.2.1,s1_0.2.2.2.2.2.2.2.2))))))))) ((0:Int),(0:Int),(0:Int),(0:Int),(0:Int),(0:Int),(0:Int),false,[]) λ(q3:M9)=>bif ((decide ((0:Int)<=v0_4))&&(decide (v0_4 < (Nat.cast (List.length v0_3):Int))))then gg (List.set v0_3 v0_4.toNat (q3.1,(q3.2.1,(q3.2.2.1,(q3.2.2.2.1,(q3.2.2.2.2.1,(q3.2.2.2.2.2.1,(q3.2.2.2.2.2.2.1,(q3.2.2.2.2.2.2.2.1,q3.2.2.2.2.2.2.2.2))))))))) (wrap .i64 (v0_4+(1:Int)))
    else none
  else none
 else kk v0_3
def A41_0 {B:Type}(u:(List M9)->B)(nS:Y91)(a0:(List M9))(w0_3:(List M9)):Option B:=
 some (u w0_3)
def aBh (nS:Y91)(L:Nat)(a0:(List M9)):Nat->(List M9)->Int->((List M9)->Option (List M9))->Option (List M9)
 | 0,_,_,_=>none
 | n+1,v0_3,v0_4,k=>B41_0 (λx=>x) (λv0_3 v0_4=>aBh nS L a0 n v0_3 v0_4 k) k nS a0 v0_3 v0_4
theorem aNH (nS:Y91)(L:Nat)(a0:(List M9))(k:St cxT.ty->Option (V cxT.ty))(xk:Nat->St cxT.ty->Option (V cxT.ty))(k':(List M9)->Option (List M9))(hk:∀ (w0_3:(List M9)),k (X41_0 a0 w0_3)=(k' w0_3).map n41):∀ (n:Nat) (v0_3:(List M9)) (v0_4:Int),bE prog (aCz nS) L f41 0 [1,1,0,1,0,0] (bW (aX prog f41) k xk) n (S41_0 a0 v0_3 v0_4)=(aBh nS L a0 n v0_3 v0_4 k').map n41
 | 0,_,_=>rfl
 | n+1,v0_3,v0_4=>by
  rw[bP];have ih:=aNH nS L a0 k xk k' hk n;refine .trans (b:=B41_0 n41 (λv0_3 v0_4=>(bE prog (aCz nS) L f41 0 [1,1,0,1,0,0] (bW (aX prog f41) k xk) n) (S41_0 a0 v0_3 v0_4)) (λw0_3=>k (X41_0 a0 w0_3)) nS a0 v0_3 v0_4) (by kernel_rfl) ?_;unfold aBh B41_0
  repeat' first | with_reducible refine dP ?_ ?_ | with_reducible refine dL λ_=>?_ | with_reducible refine dO λ_=>?_ | with_reducible exact ih _ _ | with_reducible exact hk _ | exact rfl
def g41 (nS:Y91)(L:Nat)(a0:(List M9)):Option (List M9):=G41 (λx=>x) (λv0_3 v0_4=>aBh nS L a0 L v0_3 v0_4 (λw0_3=>A41_0 (λx=>x) nS a0 w0_3)) nS a0
theorem e41 (nS:Y91)(L:Nat)(a0:(List M9)):fK prog (aCz nS) (bJ L) f41 (a41.enc a0)=(g41 nS L a0).map n41:=by
 have hin0:∀ (v0_3:(List M9)) (v0_4:Int),bE prog (aCz nS) L f41 0 [1,1,0,1,0,0] (bW (aX prog f41) (bV prog (aCz nS) L f41 [1,1,0,1] (aX prog f41)).n (bV prog (aCz nS) L f41 [1,1,0,1] (aX prog f41)).x) L (S41_0 a0 v0_3 v0_4)=((λv0_3 v0_4=>aBh nS L a0 L v0_3 v0_4 (λw0_3=>A41_0 (λx=>x) nS a0 w0_3)) v0_3 v0_4).map n41:=λv0_3 v0_4=>aNH nS L a0 _ _ _ (λw0_3=>by refine .trans (b:=A41_0 n41 nS a0 w0_3) (by kernel_rfl) ?_;unfold A41_0;repeat' first | with_reducible refine dP ?_ ?_ | with_reducible refine dL λ_=>?_ | with_reducible refine dO λ_=>?_ | exact rfl) L v0_3 v0_4
 refine .trans (b:=G41 n41 (λv0_3 v0_4=>bE prog (aCz nS) L f41 0 [1,1,0,1,0,0] (bW (aX prog f41) (bV prog (aCz nS) L f41 [1,1,0,1] (aX prog f41)).n (bV prog (aCz nS) L f41 [1,1,0,1] (aX prog f41)).x) L (S41_0 a0 v0_3 v0_4)) nS a0) (by kernel_rfl) ?_;unfold g41 G41
 repeat' first | with_reducible refine dP ?_ ?_ | with_reducible refine dL λ_=>?_ | with_reducible refine dO λ_=>?_ | with_reducible exact hin0 _ _ | exact rfl
def w41 (nS:Y91)(L:Nat)(x:(List M9)):Option (List M9):=g41 nS L x
theorem s41 (nS:Y91)(h91:Sat prog cxT 91 (c91 nS))(m:Y41)(hm:∀ (x:(List M9)) t,m x=some t->∃ L,w41 nS L x=some t):Sat prog cxT 41 (c41 m):=
 cD bA aW (by rfl) (fn:=f41) rfl a41 n41 aX8 m (aCz nS) (aL h91 aV) aP (w41 nS) (λL x=>e41 nS L x) hm bDn
def aCy (oR:Y92):Env cxT:={ Kc:=cS [(92,c92 oR)],Kw:=cR [],lv:=λi=>if i=0 then[(0,[some 123]),(3,[some 66]),(4,[])]else[],xv:=λi=>if i=0 then some [(3,[some 66])]else none }
def S42_0 (a0:(List W2))(v0_3:(List W2))(v0_4:Int):St cxT.ty:={ slots:=[(.inl (.inl (ls { own:=0,nm:=0,e:=123,o:=false,xs:=a0 }))),aK,aK,(.inl (.inl (ls { own:=1,nm:=192,e:=66,o:=true,xs:=v0_3 }))),(.inl (.inl (lv (.int .i64 v0_4))))]++List.replicate 18 aK,D:=[],F:=[],ctr:=1 }
def X42_0 (a0:(List W2))(w0_3:(List W2)):St cxT.ty:={ slots:=[aK,aK,aK,(.inl (.inl (ls { own:=1,nm:=192,e:=66,o:=true,xs:=w0_3 })))]++List.replicate 19 aK,D:=[],F:=[],ctr:=1 }
def G42 {B:Type}(u:(List W2)->B)(hh0:(List W2)->Int->Option B)(oR:Y92)(a0:(List W2)):Option B:=
 bif (((decide ((0:Int)<=(Nat.cast (List.length a0):Int)))&&(decide ((Nat.cast (List.length a0):Int)<=(Nat.cast (List.length a0):Int))))&&(decide ((Nat.cast (List.length a0):Int)<=(1000000000:Int))))then hh0 (List.replicate (Int.toNat (Nat.cast (List.length a0):Int)) ((0:Int),(0:Int))) (0:Int)
 else none
def B42_0 {B:Type}(u:(List W2)->B)(gg:(List W2)->Int->Option B)(kk:(List W2)->Option B)(oR:Y92)(a0:(List W2))(v0_3:(List W2))(v0_4:Int):Option B:=
 bif (decide (v0_4 < (Nat.cast (List.length a0):Int)))then dY (List.getD a0 v0_4.toNat ((0:Int),(0:Int))) λs1_0=>bif ((decide ((0:Int)<=v0_4))&&(decide (v0_4 < (Nat.cast (List.length a0):Int))))then dB (oR (s1_0.1,s1_0.2)) ((0:Int),(0:Int)) λ(q3:(Int×Int))=>bif ((decide ((0:Int)<=v0_4))&&(decide (v0_4 < (Nat.cast (List.length v0_3):Int))))then gg (List.set v0_3 v0_4.toNat (q3.1,q3.2)) (wrap .i64 (v0_4+(1:Int)))
    else none
  else none
 else kk v0_3
def A42_0 {B:Type}(u:(List W2)->B)(oR:Y92)(a0:(List W2))(w0_3:(List W2)):Option B:=
 some (u w0_3)
def aBg (oR:Y92)(L:Nat)(a0:(List W2)):Nat->(List W2)->Int->((List W2)->Option (List W2))->Option (List W2)
 | 0,_,_,_=>none
 | n+1,v0_3,v0_4,k=>B42_0 (λx=>x) (λv0_3 v0_4=>aBg oR L a0 n v0_3 v0_4 k) k oR a0 v0_3 v0_4
theorem aNG (oR:Y92)(L:Nat)(a0:(List W2))(k:St cxT.ty->Option (V cxT.ty))(xk:Nat->St cxT.ty->Option (V cxT.ty))(k':(List W2)->Option (List W2))(hk:∀ (w0_3:(List W2)),k (X42_0 a0 w0_3)=(k' w0_3).map n42):∀ (n:Nat) (v0_3:(List W2)) (v0_4:Int),bE prog (aCy oR) L f42 0 [1,1,0,1,0,0] (bW (aX prog f42) k xk) n (S42_0 a0 v0_3 v0_4)=(aBg oR L a0 n v0_3 v0_4 k').map n42
 | 0,_,_=>rfl
 | n+1,v0_3,v0_4=>by
  rw[bP];have ih:=aNG oR L a0 k xk k' hk n;refine .trans (b:=B42_0 n42 (λv0_3 v0_4=>(bE prog (aCy oR) L f42 0 [1,1,0,1,0,0] (bW (aX prog f42) k xk) n) (S42_0 a0 v0_3 v0_4)) (λw0_3=>k (X42_0 a0 w0_3)) oR a0 v0_3 v0_4) (by kernel_rfl) ?_;unfold aBg B42_0
  repeat' first | with_reducible refine dP ?_ ?_ | with_reducible refine dL λ_=>?_ | with_reducible refine dO λ_=>?_ | with_reducible exact ih _ _ | with_reducible exact hk _ | exact rfl
def g42 (oR:Y92)(L:Nat)(a0:(List W2)):Option (List W2):=G42 (λx=>x) (λv0_3 v0_4=>aBg oR L a0 L v0_3 v0_4 (λw0_3=>A42_0 (λx=>x) oR a0 w0_3)) oR a0
theorem e42 (oR:Y92)(L:Nat)(a0:(List W2)):fK prog (aCy oR) (bJ L) f42 (a42.enc a0)=(g42 oR L a0).map n42:=by
 have hin0:∀ (v0_3:(List W2)) (v0_4:Int),bE prog (aCy oR) L f42 0 [1,1,0,1,0,0] (bW (aX prog f42) (bV prog (aCy oR) L f42 [1,1,0,1] (aX prog f42)).n (bV prog (aCy oR) L f42 [1,1,0,1] (aX prog f42)).x) L (S42_0 a0 v0_3 v0_4)=((λv0_3 v0_4=>aBg oR L a0 L v0_3 v0_4 (λw0_3=>A42_0 (λx=>x) oR a0 w0_3)) v0_3 v0_4).map n42:=λv0_3 v0_4=>aNG oR L a0 _ _ _ (λw0_3=>by refine .trans (b:=A42_0 n42 oR a0 w0_3) (by kernel_rfl) ?_;unfold A42_0;repeat' first | with_reducible refine dP ?_ ?_ | with_reducible refine dL λ_=>?_ | with_reducible refine dO λ_=>?_ | exact rfl) L v0_3 v0_4
 refine .trans (b:=G42 n42 (λv0_3 v0_4=>bE prog (aCy oR) L f42 0 [1,1,0,1,0,0] (bW (aX prog f42) (bV prog (aCy oR) L f42 [1,1,0,1] (aX prog f42)).n (bV prog (aCy oR) L f42 [1,1,0,1] (aX prog f42)).x) L (S42_0 a0 v0_3 v0_4)) oR a0) (by kernel_rfl) ?_;unfold g42 G42
 repeat' first | with_reducible refine dP ?_ ?_ | with_reducible refine dL λ_=>?_ | with_reducible refine dO λ_=>?_ | with_reducible exact hin0 _ _ | exact rfl
def w42 (oR:Y92)(L:Nat)(x:(List W2)):Option (List W2):=g42 oR L x
theorem s42 (oR:Y92)(h92:Sat prog cxT 92 (c92 oR))(m:Y42)(hm:∀ (x:(List W2)) t,m x=some t->∃ L,w42 oR L x=some t):Sat prog cxT 42 (c42 m):=
 cD bA aW (by rfl) (fn:=f42) rfl a42 n42 aX7 m (aCy oR) (aL h92 aV) aP (w42 oR) (λL x=>e42 oR L x) hm bDm
def aCx (oQ:Y93):Env cxT:={ Kc:=cS [(93,c93 oQ)],Kw:=cR [],lv:=λi=>if i=0 then[(0,[some 128]),(3,[some 118]),(4,[])]else[],xv:=λi=>if i=0 then some [(3,[some 118])]else none }
def S43_0 (a0:(List S10))(v0_3:(List S10))(v0_4:Int):St cxT.ty:={ slots:=[(.inl (.inl (ls { own:=0,nm:=0,e:=128,o:=false,xs:=a0 }))),aK,aK,(.inl (.inl (ls { own:=1,nm:=192,e:=118,o:=true,xs:=v0_3 }))),(.inl (.inl (lv (.int .i64 v0_4))))]++List.replicate 18 aK,D:=[],F:=[],ctr:=1 }
def X43_0 (a0:(List S10))(w0_3:(List S10)):St cxT.ty:={ slots:=[aK,aK,aK,(.inl (.inl (ls { own:=1,nm:=192,e:=118,o:=true,xs:=w0_3 })))]++List.replicate 19 aK,D:=[],F:=[],ctr:=1 }
def G43 {B:Type}(u:(List S10)->B)(hh0:(List S10)->Int->Option B)(oQ:Y93)(a0:(List S10)):Option B:=
 bif (((decide ((0:Int)<=(Nat.cast (List.length a0):Int)))&&(decide ((Nat.cast (List.length a0):Int)<=(Nat.cast (List.length a0):Int))))&&(decide ((Nat.cast (List.length a0):Int)<=(1000000000:Int))))then hh0 (List.replicate (Int.toNat (Nat.cast (List.length a0):Int)) ((0:Int),((0:Int),((0:Int),((0:Int),((0:Int),((0:Int),((0:Int),((0:Int),((0:Int),(0:Int))))))))))) (0:Int)
 else none
def B43_0 {B:Type}(u:(List S10)->B)(gg:(List S10)->Int->Option B)(kk:(List S10)->Option B)(oQ:Y93)(a0:(List S10))(v0_3:(List S10))(v0_4:Int):Option B:=
 bif (decide (v0_4 < (Nat.cast (List.length a0):Int)))then dY (List.getD a0 v0_4.toNat ((0:Int),((0:Int),((0:Int),((0:Int),((0:Int),((0:Int),((0:Int),((0:Int),((0:Int),(0:Int))))))))))) λs1_0=>bif ((decide ((0:Int)<=v0_4))&&(decide (v0_4 < (Nat.cast (List.length a0):Int))))then dB (oQ (s1_0.1,(s1_0.2.1,(s1_0.2.2.1,(s1_0.2.2.2.1,(s1_0.2.2.2.2.1,(s1_0.2.2.2.2.2.1,(s1_0.2.2.2.2.2.2.1,(s1_0.2.2.2.2.2.2.2.1,(s1_0.2.2.2.2.2.2.2.2.1,s1_0.2.2.2.2.2.2.2.2.2)))))))))) ((0:Int),(0:Int),(0:Int),(0:Int),(0:Int),(0:Int),(0:Int),(0:Int),(0:Int),(0:Int)) λ(q3:S10)=>bif ((decide ((0:Int)<=v0_4))&&(decide (v0_4 < (Nat.cast (List.length v0_3):Int))))then gg (List.set v0_3 v0_4.toNat (q3.1,(q3.2.1,(q3.2.2.1,(q3.2.2.2.1,(q3.2.2.2.2.1,(q3.2.2.2.2.2.1,(q3.2.2.2.2.2.2.1,(q3.2.2.2.2.2.2.2.1,(q3.2.2.2.2.2.2.2.2.1,q3.2.2.2.2.2.2.2.2.2)))))))))) (wrap .i64 (v0_4+(1:Int)))
    else none
  else none
 else kk v0_3
def A43_0 {B:Type}(u:(List S10)->B)(oQ:Y93)(a0:(List S10))(w0_3:(List S10)):Option B:=
 some (u w0_3)
def aBf (oQ:Y93)(L:Nat)(a0:(List S10)):Nat->(List S10)->Int->((List S10)->Option (List S10))->Option (List S10)
 | 0,_,_,_=>none
 | n+1,v0_3,v0_4,k=>B43_0 (λx=>x) (λv0_3 v0_4=>aBf oQ L a0 n v0_3 v0_4 k) k oQ a0 v0_3 v0_4
theorem aNF (oQ:Y93)(L:Nat)(a0:(List S10))(k:St cxT.ty->Option (V cxT.ty))(xk:Nat->St cxT.ty->Option (V cxT.ty))(k':(List S10)->Option (List S10))(hk:∀ (w0_3:(List S10)),k (X43_0 a0 w0_3)=(k' w0_3).map n43):∀ (n:Nat) (v0_3:(List S10)) (v0_4:Int),bE prog (aCx oQ) L f43 0 [1,1,0,1,0,0] (bW (aX prog f43) k xk) n (S43_0 a0 v0_3 v0_4)=(aBf oQ L a0 n v0_3 v0_4 k').map n43
 | 0,_,_=>rfl
 | n+1,v0_3,v0_4=>by
  rw[bP];have ih:=aNF oQ L a0 k xk k' hk n;refine .trans (b:=B43_0 n43 (λv0_3 v0_4=>(bE prog (aCx oQ) L f43 0 [1,1,0,1,0,0] (bW (aX prog f43) k xk) n) (S43_0 a0 v0_3 v0_4)) (λw0_3=>k (X43_0 a0 w0_3)) oQ a0 v0_3 v0_4) (by kernel_rfl) ?_;unfold aBf B43_0
  repeat' first | with_reducible refine dP ?_ ?_ | with_reducible refine dL λ_=>?_ | with_reducible refine dO λ_=>?_ | with_reducible exact ih _ _ | with_reducible exact hk _ | exact rfl
def g43 (oQ:Y93)(L:Nat)(a0:(List S10)):Option (List S10):=G43 (λx=>x) (λv0_3 v0_4=>aBf oQ L a0 L v0_3 v0_4 (λw0_3=>A43_0 (λx=>x) oQ a0 w0_3)) oQ a0
theorem e43 (oQ:Y93)(L:Nat)(a0:(List S10)):fK prog (aCx oQ) (bJ L) f43 (a43.enc a0)=(g43 oQ L a0).map n43:=by
 have hin0:∀ (v0_3:(List S10)) (v0_4:Int),bE prog (aCx oQ) L f43 0 [1,1,0,1,0,0] (bW (aX prog f43) (bV prog (aCx oQ) L f43 [1,1,0,1] (aX prog f43)).n (bV prog (aCx oQ) L f43 [1,1,0,1] (aX prog f43)).x) L (S43_0 a0 v0_3 v0_4)=((λv0_3 v0_4=>aBf oQ L a0 L v0_3 v0_4 (λw0_3=>A43_0 (λx=>x) oQ a0 w0_3)) v0_3 v0_4).map n43:=λv0_3 v0_4=>aNF oQ L a0 _ _ _ (λw0_3=>by refine .trans (b:=A43_0 n43 oQ a0 w0_3) (by kernel_rfl) ?_;unfold A43_0;repeat' first | with_reducible refine dP ?_ ?_ | with_reducible refine dL λ_=>?_ | with_reducible refine dO λ_=>?_ | exact rfl) L v0_3 v0_4
 refine .trans (b:=G43 n43 (λv0_3 v0_4=>bE prog (aCx oQ) L f43 0 [1,1,0,1,0,0] (bW (aX prog f43) (bV prog (aCx oQ) L f43 [1,1,0,1] (aX prog f43)).n (bV prog (aCx oQ) L f43 [1,1,0,1] (aX prog f43)).x) L (S43_0 a0 v0_3 v0_4)) oQ a0) (by kernel_rfl) ?_;unfold g43 G43
 repeat' first | with_reducible refine dP ?_ ?_ | with_reducible refine dL λ_=>?_ | with_reducible refine dO λ_=>?_ | with_reducible exact hin0 _ _ | exact rfl
def w43 (oQ:Y93)(L:Nat)(x:(List S10)):Option (List S10):=g43 oQ L x
theorem s43 (oQ:Y93)(h93:Sat prog cxT 93 (c93 oQ))(m:Y43)(hm:∀ (x:(List S10)) t,m x=some t->∃ L,w43 oQ L x=some t):Sat prog cxT 43 (c43 m):=
 cD bA aW (by rfl) (fn:=f43) rfl a43 n43 aX6 m (aCx oQ) (aL h93 aV) aP (w43 oQ) (λL x=>e43 oQ L x) hm bDl
def aXe (m40:Y40)(m41:Y41)(m42:Y42)(m43:Y43):Env cxT:={ Kc:=cS [(40,c40 m40),(41,c41 m41),(42,c42 m42),(43,c43 m43)],Kw:=cR [],lv:=λi=>[],xv:=λi=>none }
def G13 {B:Type}(u:C4->B)(m40:Y40)(m41:Y41)(m42:Y42)(m43:Y43)(a0_0:(List N10))(a0_1:(List M9))(a0_2:(List W2))(a0_3:(List S10)):Option B:=
 dB (m40 a0_0) [] λ(q1:(List N10))=>dB (m41 a0_1) [] λ(q2:(List M9))=>dB (m42 a0_2) [] λ(q3:(List W2))=>dB (m43 a0_3) [] λ(q4:(List S10))=>some (u (q1,q2,q3,q4))
def g13 (m40:Y40)(m41:Y41)(m42:Y42)(m43:Y43)(L:Nat)(a0_0:(List N10))(a0_1:(List M9))(a0_2:(List W2))(a0_3:(List S10)):Option C4:=G13 (λx=>x) m40 m41 m42 m43 a0_0 a0_1 a0_2 a0_3
theorem e13 (m40:Y40)(m41:Y41)(m42:Y42)(m43:Y43)(L:Nat)(a0_0:(List N10))(a0_1:(List M9))(a0_2:(List W2))(a0_3:(List S10)):fK prog (aXe m40 m41 m42 m43) (bJ L) f13 (a13.enc (a0_0,a0_1,a0_2,a0_3))=(g13 m40 m41 m42 m43 L a0_0 a0_1 a0_2 a0_3).map n13:=by
 refine .trans (b:=G13 n13 m40 m41 m42 m43 a0_0 a0_1 a0_2 a0_3) (by kernel_rfl) ?_;unfold g13 G13
 repeat' first | with_reducible refine dP ?_ ?_ | with_reducible refine dL λ_=>?_ | with_reducible refine dO λ_=>?_ | exact rfl
def w13 (m40:Y40)(m41:Y41)(m42:Y42)(m43:Y43)(L:Nat)(x:C4):Option C4:=g13 m40 m41 m42 m43 L x.1 x.2.1 x.2.2.1 x.2.2.2
theorem s13 (m40:Y40)(m41:Y41)(m42:Y42)(m43:Y43)(h40:Sat prog cxT 40 (c40 m40))(h41:Sat prog cxT 41 (c41 m41))(h42:Sat prog cxT 42 (c42 m42))(h43:Sat prog cxT 43 (c43 m43))(m:Y13)(hm:∀ (x:C4) t,m x=some t->∃ L,w13 m40 m41 m42 m43 L x=some t):Sat prog cxT 13 (c13 m):=
 cD bA aW (by rfl) (fn:=f13) rfl a13 n13 aYq m (aXe m40 m41 m42 m43) (aL h40 (aL h41 (aL h42 (aL h43 aV)))) aP (w13 m40 m41 m42 m43) (λL x=>e13 m40 m41 m42 m43 L x.1 x.2.1 x.2.2.1 x.2.2.2) hm bDD
end Go.Proofs.Tryz
set_option maxHeartbeats 0
set_option maxRecDepth 100000
namespace Go.Proofs.Tryz
open Go.IntKind (wrap)
open Go Go.VM Go.RowKit
def aW6:Env cxT:={ Kc:=cS [],Kw:=cR [],lv:=λi=>[],xv:=λi=>none }
def G31 {B:Type}(u:(Int×Int×Int×Int×Int×Int)->B)(a0_0:Int)(a0_1:Int)(a0_2:Int)(a0_3:Int)(a0_4:Int)(a0_5:Int):Option B:=
 some (u (a0_0,a0_1,a0_2,a0_3,a0_4,a0_5))
def g31 (L:Nat)(a0_0:Int)(a0_1:Int)(a0_2:Int)(a0_3:Int)(a0_4:Int)(a0_5:Int):Option (Int×Int×Int×Int×Int×Int):=G31 (λx=>x) a0_0 a0_1 a0_2 a0_3 a0_4 a0_5
theorem e31 (L:Nat)(a0_0:Int)(a0_1:Int)(a0_2:Int)(a0_3:Int)(a0_4:Int)(a0_5:Int):fK prog aW6 (bJ L) f31 (a31.enc (a0_0,a0_1,a0_2,a0_3,a0_4,a0_5))=(g31 L a0_0 a0_1 a0_2 a0_3 a0_4 a0_5).map n31:=by
 refine .trans (b:=G31 n31 a0_0 a0_1 a0_2 a0_3 a0_4 a0_5) (by kernel_rfl) ?_;unfold g31 G31
 repeat' first | with_reducible refine dP ?_ ?_ | with_reducible refine dL λ_=>?_ | with_reducible refine dO λ_=>?_ | exact rfl
def w31 (L:Nat)(x:(Int×Int×Int×Int×Int×Int)):Option (Int×Int×Int×Int×Int×Int):=g31 L x.1 x.2.1 x.2.2.1 x.2.2.2.1 x.2.2.2.2.1 x.2.2.2.2.2
theorem s31 (m:Y31)(hm:∀ (x:(Int×Int×Int×Int×Int×Int)) t,m x=some t->∃ L,w31 L x=some t):Sat prog cxT 31 (c31 m):=
 cD bA aW (by rfl) (fn:=f31) rfl a31 n31 aYf m aW6 aV aP (w31) (λL x=>e31 L x.1 x.2.1 x.2.2.1 x.2.2.2.1 x.2.2.2.2.1 x.2.2.2.2.2) hm bDu
end Go.Proofs.Tryz
