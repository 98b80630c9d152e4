/- A part of the proof of FnExactClusterFault: LiFg, LiFh. -/
import Derived.Test.YtalbnpcbmakijaaGreatLiBase
set_option linter.unusedSimpArgs false
set_option linter.unusedVariables false
set_option maxHeartbeats 0
set_option maxRecDepth 100000
namespace Go.Proofs.Tryz
open Go.IntKind (wrap)
open Go Go.VM Go.RowKit
def aQ0:Env cxT:={ Kc:=dD [],Kw:=dF [],lv:=λi=>[],xv:=λi=>none }
def G94 {B:Type}(u:Bool->B)(a0:Int)(a1:Int)(a2:Int):Option B:=
 bif (decide (a0>=a1))then some (u (decide (a0<=a2)))
 else some (u false)
def g94 (L:Nat)(a0:Int)(a1:Int)(a2:Int):Option Bool:=G94 (λx=>x) a0 a1 a2
theorem e94 (L:Nat)(a0:Int)(a1:Int)(a2:Int):fP prog aQ0 (bO L) f94 (a94.enc (a0,a1,a2))=(g94 L a0 a1 a2).map n94:=by
 refine .trans (b:=G94 n94 a0 a1 a2) (by kernel_rfl) ?_;unfold g94 G94
 repeat' first | with_reducible refine eC ?_ ?_ | with_reducible refine eA λ_=>?_ | with_reducible refine eB λ_=>?_ | exact rfl
def w94 (L:Nat)(x:(Int×Int×Int)):Option Bool:=g94 L x.1 x.2.1 x.2.2
theorem s94 (m:Y94)(hm:∀ (x:(Int×Int×Int)) t,m x=some t->∃ L,w94 L x=some t):Sat prog cxT 94 (c94 m):=
 cF bD aZ (by rfl) (fn:=f94) rfl a94 n94 aRD m aQ0 aY aR (w94) (λL x=>e94 L x.1 x.2.1 x.2.2) hm aVY
def aRd (dY:Y94):Env cxT:={ Kc:=dD [(94,c94 dY)],Kw:=dF [],lv:=λi=>[],xv:=λi=>none }
def G44 {B:Type}(u:Bool->B)(dY:Y94)(a0:Int):Option B:=
 dL (dY (a0,((1:Int),(5:Int)))) false λ(q1:Bool)=>some (u q1)
def g44 (dY:Y94)(L:Nat)(a0:Int):Option Bool:=G44 (λx=>x) dY a0
theorem e44 (dY:Y94)(L:Nat)(a0:Int):fP prog (aRd dY) (bO L) f44 (a44.enc a0)=(g44 dY L a0).map n44:=by
 refine .trans (b:=G44 n44 dY a0) (by kernel_rfl) ?_;unfold g44 G44
 repeat' first | with_reducible refine eC ?_ ?_ | with_reducible refine eA λ_=>?_ | with_reducible refine eB λ_=>?_ | exact rfl
def w44 (dY:Y94)(L:Nat)(x:Int):Option Bool:=g44 dY L x
theorem s44 (dY:Y94)(h94:Sat prog cxT 94 (c94 dY))(m:Y44)(hm:∀ (x:Int) t,m x=some t->∃ L,w44 dY L x=some t):Sat prog cxT 44 (c44 m):=
 cF bD aZ (by rfl) (fn:=f44) rfl a44 n44 aRY m (aRd dY) (aN h94 aY) aR (w44 dY) (λL x=>e44 dY L x) hm aWj
def aRc:Env cxT:={ Kc:=dD [],Kw:=dF [],lv:=λi=>[],xv:=λi=>none }
def G47 {B:Type}(u:Bool->B)(a0:Int):Option B:=
 bif (decide (a0>=(1:Int)))then some (u (decide (a0<=(100000:Int))))
 else some (u false)
def g47 (L:Nat)(a0:Int):Option Bool:=G47 (λx=>x) a0
theorem e47 (L:Nat)(a0:Int):fP prog aRc (bO L) f47 (a47.enc a0)=(g47 L a0).map n47:=by
 refine .trans (b:=G47 n47 a0) (by kernel_rfl) ?_;unfold g47 G47
 repeat' first | with_reducible refine eC ?_ ?_ | with_reducible refine eA λ_=>?_ | with_reducible refine eB λ_=>?_ | exact rfl
def w47 (L:Nat)(x:Int):Option Bool:=g47 L x
theorem s47 (m:Y47)(hm:∀ (x:Int) t,m x=some t->∃ L,w47 L x=some t):Sat prog cxT 47 (c47 m):=
 cF bD aZ (by rfl) (fn:=f47) rfl a47 n47 aRV m aRc aY aR (w47) (λL x=>e47 L x) hm aWg
def aRb (dY:Y94):Env cxT:={ Kc:=dD [(94,c94 dY)],Kw:=dF [],lv:=λi=>[],xv:=λi=>none }
def G48 {B:Type}(u:Bool->B)(dY:Y94)(a0:Int)(a1:Int):Option B:=
 dL (dY (a0,((0:Int),(wrap .i64 (a1-(1:Int)))))) false λ(q1:Bool)=>some (u q1)
def g48 (dY:Y94)(L:Nat)(a0:Int)(a1:Int):Option Bool:=G48 (λx=>x) dY a0 a1
theorem e48 (dY:Y94)(L:Nat)(a0:Int)(a1:Int):fP prog (aRb dY) (bO L) f48 (a48.enc (a0,a1))=(g48 dY L a0 a1).map n48:=by
 refine .trans (b:=G48 n48 dY a0 a1) (by kernel_rfl) ?_;unfold g48 G48
 repeat' first | with_reducible refine eC ?_ ?_ | with_reducible refine eA λ_=>?_ | with_reducible refine eB λ_=>?_ | exact rfl
def w48 (dY:Y94)(L:Nat)(x:(Int×Int)):Option Bool:=g48 dY L x.1 x.2
theorem s48 (dY:Y94)(h94:Sat prog cxT 94 (c94 dY))(m:Y48)(hm:∀ (x:(Int×Int)) t,m x=some t->∃ L,w48 dY L x=some t):Sat prog cxT 48 (c48 m):=
 cF bD aZ (by rfl) (fn:=f48) rfl a48 n48 aRU m (aRb dY) (aN h94 aY) aR (w48 dY) (λL x=>e48 dY L x.1 x.2) hm aWf
def aKj:Env cxT:={ Kc:=dD [],Kw:=dF [],lv:=λi=>[],xv:=λi=>none }
def G143 {B:Type}(u:Bool->B)(a0:Int)(a1:Int):Option B:=
 bif (decide (a0>=(0:Int)))then some (u (decide (a0 < a1)))
 else some (u false)
def aHq (L:Nat)(a0:Int)(a1:Int):Option Bool:=G143 (λx=>x) a0 a1
theorem aXy (L:Nat)(a0:Int)(a1:Int):fP prog aKj (bO L) f143 (aTv.enc (a0,a1))=(aHq L a0 a1).map aFp:=by
 refine .trans (b:=G143 aFp a0 a1) (by kernel_rfl) ?_;unfold aHq G143
 repeat' first | with_reducible refine eC ?_ ?_ | with_reducible refine eA λ_=>?_ | with_reducible refine eB λ_=>?_ | exact rfl
def aLM (L:Nat)(x:(Int×Int)):Option Bool:=aHq L x.1 x.2
theorem aVm (m:Y143)(hm:∀ (x:(Int×Int)) t,m x=some t->∃ L,aLM L x=some t):Sat prog cxT 143 (aAq m):=
 cF bD aZ (by rfl) (fn:=f143) rfl aTv aFp aLd m aKj aY aR (aLM) (λL x=>aXy L x.1 x.2) hm aQj
def aKi (dZ:Y47):Env cxT:={ Kc:=dD [(47,c47 dZ)],Kw:=dF [],lv:=λi=>[],xv:=λi=>none }
def G144 {B:Type}(u:Bool->B)(dZ:Y47)(a0:Int):Option B:=
 bif (a0 == (0:Int))then some (u true)
 else dL (dZ a0) false λ(q1:Bool)=>some (u q1)
def aHp (dZ:Y47)(L:Nat)(a0:Int):Option Bool:=G144 (λx=>x) dZ a0
theorem aXx (dZ:Y47)(L:Nat)(a0:Int):fP prog (aKi dZ) (bO L) f144 (aTu.enc a0)=(aHp dZ L a0).map aFo:=by
 refine .trans (b:=G144 aFo dZ a0) (by kernel_rfl) ?_;unfold aHp G144
 repeat' first | with_reducible refine eC ?_ ?_ | with_reducible refine eA λ_=>?_ | with_reducible refine eB λ_=>?_ | exact rfl
def aLL (dZ:Y47)(L:Nat)(x:Int):Option Bool:=aHp dZ L x
theorem aVl (dZ:Y47)(h47:Sat prog cxT 47 (c47 dZ))(m:Y144)(hm:∀ (x:Int) t,m x=some t->∃ L,aLL dZ L x=some t):Sat prog cxT 144 (aI2 m):=
 cF bD aZ (by rfl) (fn:=f144) rfl aTu aFo aLc m (aKi dZ) (aN h47 aY) aR (aLL dZ) (λL x=>aXx dZ L x) hm aQi
def aKh (cZ:Y143):Env cxT:={ Kc:=dD [(143,aAq cZ)],Kw:=dF [],lv:=λi=>[],xv:=λi=>none }
def G145 {B:Type}(u:Bool->B)(cZ:Y143)(a0:Int)(a1:Int):Option B:=
 bif (a0 == (-(1:Int)))then some (u true)
 else dL (cZ (a0,a1)) false λ(q1:Bool)=>some (u q1)
def aHo (cZ:Y143)(L:Nat)(a0:Int)(a1:Int):Option Bool:=G145 (λx=>x) cZ a0 a1
theorem aXw (cZ:Y143)(L:Nat)(a0:Int)(a1:Int):fP prog (aKh cZ) (bO L) f145 (aTt.enc (a0,a1))=(aHo cZ L a0 a1).map aFn:=by
 refine .trans (b:=G145 aFn cZ a0 a1) (by kernel_rfl) ?_;unfold aHo G145
 repeat' first | with_reducible refine eC ?_ ?_ | with_reducible refine eA λ_=>?_ | with_reducible refine eB λ_=>?_ | exact rfl
def aLK (cZ:Y143)(L:Nat)(x:(Int×Int)):Option Bool:=aHo cZ L x.1 x.2
theorem aVk (cZ:Y143)(h143:Sat prog cxT 143 (aAq cZ))(m:Y145)(hm:∀ (x:(Int×Int)) t,m x=some t->∃ L,aLK cZ L x=some t):Sat prog cxT 145 (aI1 m):=
 cF bD aZ (by rfl) (fn:=f145) rfl aTt aFn aLb m (aKh cZ) (aN h143 aY) aR (aLK cZ) (λL x=>aXw cZ L x.1 x.2) hm aQh
def aKg (dY:Y94):Env cxT:={ Kc:=dD [(94,c94 dY)],Kw:=dF [],lv:=λi=>[],xv:=λi=>none }
def G146 {B:Type}(u:Bool->B)(dY:Y94)(a0:Int):Option B:=
 dL (dY (a0,((0:Int),(2:Int)))) false λ(q1:Bool)=>some (u q1)
def aNq (dY:Y94)(L:Nat)(a0:Int):Option Bool:=G146 (λx=>x) dY a0
theorem aXv (dY:Y94)(L:Nat)(a0:Int):fP prog (aKg dY) (bO L) f146 (aTs.enc a0)=(aNq dY L a0).map aFm:=by
 refine .trans (b:=G146 aFm dY a0) (by kernel_rfl) ?_;unfold aNq G146
 repeat' first | with_reducible refine eC ?_ ?_ | with_reducible refine eA λ_=>?_ | with_reducible refine eB λ_=>?_ | exact rfl
def aOC (dY:Y94)(L:Nat)(x:Int):Option Bool:=aNq dY L x
theorem aVj (dY:Y94)(h94:Sat prog cxT 94 (c94 dY))(m:Y146)(hm:∀ (x:Int) t,m x=some t->∃ L,aOC dY L x=some t):Sat prog cxT 146 (aI0 m):=
 cF bD aZ (by rfl) (fn:=f146) rfl aTs aFm aLa m (aKg dY) (aN h94 aY) aR (aOC dY) (λL x=>aXv dY L x) hm aQg
def rL (dY:Y94):Env cxT:={ Kc:=dD [(94,c94 dY)],Kw:=dF [],lv:=λi=>if i=0 then[(1,[]),(2,[]),(9,[some 2]),(10,[]),(11,[])]else[],xv:=λi=>if i=0 then some []else none }
def S152_0 (a0:(List Int))(a1:Int)(a2:Int)(v0_11:Int):St cxT.ty:={ slots:=[aK,(.inl (.inl (lv (.int .i64 a1)))),(.inl (.inl (lv (.int .i64 a2)))),aK,aK,aK,aK,aK,aK,(.inl (.inl (ls { own:=0,nm:=0,e:=2,o:=false,xs:=a0 }))),(.inl (.inl (lv (.int .i64 (Nat.cast (List.length a0):Int))))),(.inl (.inl (lv (.int .i64 v0_11))))]++List.replicate 9 aK,D:=[],F:=[],ctr:=1 }
def X152_0 (a0:(List Int))(a1:Int)(a2:Int):St cxT.ty:={ slots:=[]++List.replicate 21 aK,D:=[],F:=[],ctr:=1 }
def G152 {B:Type}(u:Bool->B)(hh0:Int->Option B)(dY:Y94)(a0:(List Int))(a1:Int)(a2:Int):Option B:=
 hh0 (0:Int)
def B152_0 {B:Type}(u:Bool->B)(gg:Int->Option B)(kk:Option B)(dY:Y94)(a0:(List Int))(a1:Int)(a2:Int)(v0_11:Int):Option B:=
 bif (decide (v0_11 < (Nat.cast (List.length a0):Int)))then bif ((decide ((0:Int)<=v0_11))&&(decide (v0_11 < (Nat.cast (List.length a0):Int))))then dL (dY ((List.getD a0 v0_11.toNat (0:Int)),(a1,a2))) false λ(q3:Bool)=>bif (!q3)then some (u false)
    else gg (wrap .i64 (v0_11+(1:Int)))
  else none
 else kk
def A152_0 {B:Type}(u:Bool->B)(dY:Y94)(a0:(List Int))(a1:Int)(a2:Int):Option B:=
 some (u true)
def sG (dY:Y94)(L:Nat)(a0:(List Int))(a1:Int)(a2:Int):Nat->Int->(Option Bool)->Option Bool
 | 0,_,_=>none
 | n+1,v0_11,k=>B152_0 (λx=>x) (λv0_11=>sG dY L a0 a1 a2 n v0_11 k) k dY a0 a1 a2 v0_11
theorem aG2 (dY:Y94)(L:Nat)(a0:(List Int))(a1:Int)(a2:Int)(k:St cxT.ty->Option (V cxT.ty))(xk:Nat->St cxT.ty->Option (V cxT.ty))(k':Option Bool)(hk:k (X152_0 a0 a1 a2)=(k').map xJ):∀ (n:Nat) (v0_11:Int),bL prog (rL dY) L f152 0 [1,0,1,0,0] (cQ (aX prog f152) k xk) n (S152_0 a0 a1 a2 v0_11)=(sG dY L a0 a1 a2 n v0_11 k').map xJ
 | 0,_=>rfl
 | n+1,v0_11=>by
  rw[cG];have ih:=aG2 dY L a0 a1 a2 k xk k' hk n;refine .trans (b:=B152_0 xJ (λv0_11=>(bL prog (rL dY) L f152 0 [1,0,1,0,0] (cQ (aX prog f152) k xk) n) (S152_0 a0 a1 a2 v0_11)) (k (X152_0 a0 a1 a2)) dY a0 a1 a2 v0_11) (by kernel_rfl) ?_;unfold sG B152_0
  repeat' first | with_reducible refine eC ?_ ?_ | with_reducible refine eA λ_=>?_ | with_reducible refine eB λ_=>?_ | with_reducible exact ih _ | with_reducible exact hk | exact rfl
def aHk (dY:Y94)(L:Nat)(a0:(List Int))(a1:Int)(a2:Int):Option Bool:=G152 (λx=>x) (λv0_11=>sG dY L a0 a1 a2 L v0_11 (A152_0 (λx=>x) dY a0 a1 a2)) dY a0 a1 a2
theorem aXp (dY:Y94)(L:Nat)(a0:(List Int))(a1:Int)(a2:Int):fP prog (rL dY) (bO L) f152 (aTm.enc (a0,a1,a2))=(aHk dY L a0 a1 a2).map xJ:=by
 have hin0:∀ (v0_11:Int),bL prog (rL dY) L f152 0 [1,0,1,0,0] (cQ (aX prog f152) (cO prog (rL dY) L f152 [1,0,1] (aX prog f152)).n (cO prog (rL dY) L f152 [1,0,1] (aX prog f152)).x) L (S152_0 a0 a1 a2 v0_11)=((λv0_11=>sG dY L a0 a1 a2 L v0_11 (A152_0 (λx=>x) dY a0 a1 a2)) v0_11).map xJ:=λv0_11=>aG2 dY L a0 a1 a2 _ _ _ (by refine .trans (b:=A152_0 xJ dY a0 a1 a2) (by kernel_rfl) ?_;unfold A152_0;repeat' first | with_reducible refine eC ?_ ?_ | with_reducible refine eA λ_=>?_ | with_reducible refine eB λ_=>?_ | exact rfl) L v0_11
 refine .trans (b:=G152 xJ (λv0_11=>bL prog (rL dY) L f152 0 [1,0,1,0,0] (cQ (aX prog f152) (cO prog (rL dY) L f152 [1,0,1] (aX prog f152)).n (cO prog (rL dY) L f152 [1,0,1] (aX prog f152)).x) L (S152_0 a0 a1 a2 v0_11)) dY a0 a1 a2) (by kernel_rfl) ?_;unfold aHk G152
 repeat' first | with_reducible refine eC ?_ ?_ | with_reducible refine eA λ_=>?_ | with_reducible refine eB λ_=>?_ | with_reducible exact hin0 _ | exact rfl
def aLF (dY:Y94)(L:Nat)(x:((List Int)×Int×Int)):Option Bool:=aHk dY L x.1 x.2.1 x.2.2
theorem aVd (dY:Y94)(h94:Sat prog cxT 94 (c94 dY))(m:Y152)(hm:∀ (x:((List Int)×Int×Int)) t,m x=some t->∃ L,aLF dY L x=some t):Sat prog cxT 152 (aIW m):=
 cF bD aZ (by rfl) (fn:=f152) rfl aTm xJ aK4 m (rL dY) (aN h94 aY) aR (aLF dY) (λL x=>aXp dY L x.1 x.2.1 x.2.2) hm aQa
def aKc (m148:Y148):Env cxT:={ Kc:=dD [(148,aFL m148)],Kw:=dF [],lv:=λi=>[],xv:=λi=>none }
def G153 {B:Type}(u:Bool->B)(m148:Y148)(a0_0:Int)(a0_1:Int)(a0_2:Int)(a0_3:Int)(a0_4:Int)(a0_5:Int)(a0_6:Int)(a0_7:Bool)(a0_8:(List E9)):Option B:=
 bif ((Nat.cast (List.length a0_8):Int) == (0:Int))then some (u true)
 else bif (a0_0 == (3:Int))then dL (m148 a0_8) ((0:Int),(0:Int),(0:Int),(0:Int),(0:Int),(0:Int),(0:Int),(0:Int),(0:Int)) λ(q2:E9)=>bif (decide (q2.1<=a0_3))then bif ((decide ((0:Int)<=(0:Int)))&&(decide ((0:Int) < (Nat.cast (List.length a0_8):Int))))then some (u (decide ((List.getD a0_8 (0:Nat) ((0:Int),((0:Int),((0:Int),((0:Int),((0:Int),((0:Int),((0:Int),((0:Int),(0:Int)))))))))).1>=a0_5)))
    else none
   else some (u false)
 else some (u false)
def aHj (m148:Y148)(L:Nat)(a0_0:Int)(a0_1:Int)(a0_2:Int)(a0_3:Int)(a0_4:Int)(a0_5:Int)(a0_6:Int)(a0_7:Bool)(a0_8:(List E9)):Option Bool:=G153 (λx=>x) m148 a0_0 a0_1 a0_2 a0_3 a0_4 a0_5 a0_6 a0_7 a0_8
theorem aXo (m148:Y148)(L:Nat)(a0_0:Int)(a0_1:Int)(a0_2:Int)(a0_3:Int)(a0_4:Int)(a0_5:Int)(a0_6:Int)(a0_7:Bool)(a0_8:(List E9)):fP prog (aKc m148) (bO L) f153 (aTl.enc (a0_0,a0_1,a0_2,a0_3,a0_4,a0_5,a0_6,a0_7,a0_8))=(aHj m148 L a0_0 a0_1 a0_2 a0_3 a0_4 a0_5 a0_6 a0_7 a0_8).map aFi:=by
 refine .trans (b:=G153 aFi m148 a0_0 a0_1 a0_2 a0_3 a0_4 a0_5 a0_6 a0_7 a0_8) (by kernel_rfl) ?_;unfold aHj G153
 repeat' first | with_reducible refine eC ?_ ?_ | with_reducible refine eA λ_=>?_ | with_reducible refine eB λ_=>?_ | exact rfl
def aLE (m148:Y148)(L:Nat)(x:M9):Option Bool:=aHj m148 L x.1 x.2.1 x.2.2.1 x.2.2.2.1 x.2.2.2.2.1 x.2.2.2.2.2.1 x.2.2.2.2.2.2.1 x.2.2.2.2.2.2.2.1 x.2.2.2.2.2.2.2.2
theorem aVc (m148:Y148)(h148:Sat prog cxT 148 (aFL m148))(m:Y153)(hm:∀ (x:M9) t,m x=some t->∃ L,aLE m148 L x=some t):Sat prog cxT 153 (aIV m):=
 cF bD aZ (by rfl) (fn:=f153) rfl aTl aFi aK3 m (aKc m148) (aN h148 aY) aR (aLE m148) (λL x=>aXo m148 L x.1 x.2.1 x.2.2.1 x.2.2.2.1 x.2.2.2.2.1 x.2.2.2.2.2.1 x.2.2.2.2.2.2.1 x.2.2.2.2.2.2.2.1 x.2.2.2.2.2.2.2.2) hm aP9
def aKb:Env cxT:={ Kc:=dD [],Kw:=dF [],lv:=λi=>[],xv:=λi=>none }
def G154 {B:Type}(u:Bool->B)(a0_0:Int)(a0_1:Int)(a0_2:Int)(a0_3:Int)(a0_4:Int)(a0_5:Int)(a0_6:Int)(a0_7:Bool)(a0_8:(List E9)):Option B:=
 bif (!a0_7)then some (u true)
 else bif (a0_0 == (2:Int))then some (u true)
 else some (u (a0_0 == (4:Int)))
def aHi (L:Nat)(a0_0:Int)(a0_1:Int)(a0_2:Int)(a0_3:Int)(a0_4:Int)(a0_5:Int)(a0_6:Int)(a0_7:Bool)(a0_8:(List E9)):Option Bool:=G154 (λx=>x) a0_0 a0_1 a0_2 a0_3 a0_4 a0_5 a0_6 a0_7 a0_8
theorem aXn (L:Nat)(a0_0:Int)(a0_1:Int)(a0_2:Int)(a0_3:Int)(a0_4:Int)(a0_5:Int)(a0_6:Int)(a0_7:Bool)(a0_8:(List E9)):fP prog aKb (bO L) f154 (aTk.enc (a0_0,a0_1,a0_2,a0_3,a0_4,a0_5,a0_6,a0_7,a0_8))=(aHi L a0_0 a0_1 a0_2 a0_3 a0_4 a0_5 a0_6 a0_7 a0_8).map aFh:=by
 refine .trans (b:=G154 aFh a0_0 a0_1 a0_2 a0_3 a0_4 a0_5 a0_6 a0_7 a0_8) (by kernel_rfl) ?_;unfold aHi G154
 repeat' first | with_reducible refine eC ?_ ?_ | with_reducible refine eA λ_=>?_ | with_reducible refine eB λ_=>?_ | exact rfl
def aLD (L:Nat)(x:M9):Option Bool:=aHi L x.1 x.2.1 x.2.2.1 x.2.2.2.1 x.2.2.2.2.1 x.2.2.2.2.2.1 x.2.2.2.2.2.2.1 x.2.2.2.2.2.2.2.1 x.2.2.2.2.2.2.2.2
theorem aVb (m:Y154)(hm:∀ (x:M9) t,m x=some t->∃ L,aLD L x=some t):Sat prog cxT 154 (aIU m):=
 cF bD aZ (by rfl) (fn:=f154) rfl aTk aFh aK2 m aKb aY aR (aLD) (λL x=>aXn L x.1 x.2.1 x.2.2.1 x.2.2.2.1 x.2.2.2.2.1 x.2.2.2.2.2.1 x.2.2.2.2.2.2.1 x.2.2.2.2.2.2.2.1 x.2.2.2.2.2.2.2.2) hm aP8
def aKa:Env cxT:={ Kc:=dD [],Kw:=dF [],lv:=λi=>[],xv:=λi=>none }
def G155 {B:Type}(u:Bool->B)(a0_0:Int)(a0_1:Int)(a0_2:Int)(a0_3:Int)(a0_4:Int)(a0_5:Int)(a0_6:Int)(a0_7:Bool)(a0_8:(List E9)):Option B:=
 bif (a0_0 == (1:Int))then some (u (a0_6 == (0:Int)))
 else bif (a0_0 == (2:Int))then bif (a0_4 == (0:Int))then bif (a0_5 == (0:Int))then some (u (a0_6 == (0:Int)))
   else some (u false)
  else some (u false)
 else bif (a0_0 == (4:Int))then bif (a0_5 == (0:Int))then some (u (a0_6 == (0:Int)))
  else some (u false)
 else some (u true)
def aNo (L:Nat)(a0_0:Int)(a0_1:Int)(a0_2:Int)(a0_3:Int)(a0_4:Int)(a0_5:Int)(a0_6:Int)(a0_7:Bool)(a0_8:(List E9)):Option Bool:=G155 (λx=>x) a0_0 a0_1 a0_2 a0_3 a0_4 a0_5 a0_6 a0_7 a0_8
theorem aXm (L:Nat)(a0_0:Int)(a0_1:Int)(a0_2:Int)(a0_3:Int)(a0_4:Int)(a0_5:Int)(a0_6:Int)(a0_7:Bool)(a0_8:(List E9)):fP prog aKa (bO L) f155 (aTj.enc (a0_0,a0_1,a0_2,a0_3,a0_4,a0_5,a0_6,a0_7,a0_8))=(aNo L a0_0 a0_1 a0_2 a0_3 a0_4 a0_5 a0_6 a0_7 a0_8).map aFg:=by
 refine .trans (b:=G155 aFg a0_0 a0_1 a0_2 a0_3 a0_4 a0_5 a0_6 a0_7 a0_8) (by kernel_rfl) ?_;unfold aNo G155
 repeat' first | with_reducible refine eC ?_ ?_ | with_reducible refine eA λ_=>?_ | with_reducible refine eB λ_=>?_ | exact rfl
def aOA (L:Nat)(x:M9):Option Bool:=aNo L x.1 x.2.1 x.2.2.1 x.2.2.2.1 x.2.2.2.2.1 x.2.2.2.2.2.1 x.2.2.2.2.2.2.1 x.2.2.2.2.2.2.2.1 x.2.2.2.2.2.2.2.2
theorem aVa (m:Y155)(hm:∀ (x:M9) t,m x=some t->∃ L,aOA L x=some t):Sat prog cxT 155 (aIT m):=
 cF bD aZ (by rfl) (fn:=f155) rfl aTj aFg aK1 m aKa aY aR (aOA) (λL x=>aXm L x.1 x.2.1 x.2.2.1 x.2.2.2.1 x.2.2.2.2.1 x.2.2.2.2.2.1 x.2.2.2.2.2.2.1 x.2.2.2.2.2.2.2.1 x.2.2.2.2.2.2.2.2) hm aP7
def aJ9:Env cxT:={ Kc:=dD [],Kw:=dF [],lv:=λi=>[],xv:=λi=>none }
def G156 {B:Type}(u:Bool->B)(a0:Int):Option B:=
 bif (decide (a0>=(0:Int)))then some (u (decide (a0<=(999:Int))))
 else some (u false)
def aNn (L:Nat)(a0:Int):Option Bool:=G156 (λx=>x) a0
theorem aXl (L:Nat)(a0:Int):fP prog aJ9 (bO L) f156 (aTi.enc a0)=(aNn L a0).map aFf:=by
 refine .trans (b:=G156 aFf a0) (by kernel_rfl) ?_;unfold aNn G156
 repeat' first | with_reducible refine eC ?_ ?_ | with_reducible refine eA λ_=>?_ | with_reducible refine eB λ_=>?_ | exact rfl
def aOz (L:Nat)(x:Int):Option Bool:=aNn L x
theorem aU9 (m:Y156)(hm:∀ (x:Int) t,m x=some t->∃ L,aOz L x=some t):Sat prog cxT 156 (aIS m):=
 cF bD aZ (by rfl) (fn:=f156) rfl aTi aFf aK0 m aJ9 aY aR (aOz) (λL x=>aXl L x) hm aP6
def aJ8:Env cxT:={ Kc:=dD [],Kw:=dF [],lv:=λi=>[],xv:=λi=>none }
def G157 {B:Type}(u:Bool->B)(a0:Int):Option B:=
 bif (decide (a0>=(0:Int)))then some (u (decide (a0<=(1000000:Int))))
 else some (u false)
def aNm (L:Nat)(a0:Int):Option Bool:=G157 (λx=>x) a0
theorem aXk (L:Nat)(a0:Int):fP prog aJ8 (bO L) f157 (aTh.enc a0)=(aNm L a0).map aFe:=by
 refine .trans (b:=G157 aFe a0) (by kernel_rfl) ?_;unfold aNm G157
 repeat' first | with_reducible refine eC ?_ ?_ | with_reducible refine eA λ_=>?_ | with_reducible refine eB λ_=>?_ | exact rfl
def aOy (L:Nat)(x:Int):Option Bool:=aNm L x
theorem aU8 (m:Y157)(hm:∀ (x:Int) t,m x=some t->∃ L,aOy L x=some t):Sat prog cxT 157 (aIR m):=
 cF bD aZ (by rfl) (fn:=f157) rfl aTh aFe aKZ m aJ8 aY aR (aOy) (λL x=>aXk L x) hm aP5
def aKe (eO:Y190):Env cxT:={ Kc:=dD [(190,aCL eO)],Kw:=dF [],lv:=λi=>[],xv:=λi=>none }
def G149 {B:Type}(u:Int->B)(eO:Y190)(a0:N10):Option B:=
 dL (eO a0.2.2.2.2.1) (0:Int) λ(q1:Int)=>some (u q1)
def aNp (eO:Y190)(L:Nat)(a0:N10):Option Int:=G149 (λx=>x) eO a0
theorem aXs (eO:Y190)(L:Nat)(a0:N10):fP prog (aKe eO) (bO L) f149 (aTp.enc a0)=(aNp eO L a0).map aFk:=by
 refine .trans (b:=G149 aFk eO a0) (by kernel_rfl) ?_;unfold aNp G149
 repeat' first | with_reducible refine eC ?_ ?_ | with_reducible refine eA λ_=>?_ | with_reducible refine eB λ_=>?_ | exact rfl
def aOB (eO:Y190)(L:Nat)(x:N10):Option Int:=aNp eO L x
theorem aVg (eO:Y190)(h190:Sat prog cxT 190 (aCL eO))(m:Y149)(hm:∀ (x:N10) t,m x=some t->∃ L,aOB eO L x=some t):Sat prog cxT 149 (aIZ m):=
 cF bD aZ (by rfl) (fn:=f149) rfl aTp aFk aK7 m (aKe eO) (aN h190 aY) aR (aOB eO) (λL x=>aXs eO L x) hm aQd
def rM (cZ:Y143):Env cxT:={ Kc:=dD [(143,aAq cZ)],Kw:=dF [],lv:=λi=>if i=0 then[(0,[none,none,none,none,some 102,none,none,some 2,some 2,some 2]),(3,[]),(22,[some 2]),(23,[]),(24,[])]else[],xv:=λi=>if i=0 then some []else none }
def S150_0 (a0:N10)(v0_3:Int)(v0_24:Int):St cxT.ty:={ slots:=[(.inr (.inr { kind:=2,nm:=0,cells:=[],s:={ own:=0,nm:=0,e:=96,o:=false,xs:=(List.cons a0 []) },i:=0,off:=0 })),aK,aK,(.inl (.inl (lv (.int .i64 v0_3)))),aK,aK,aK,aK,aK,aK,aK,aK,aK,aK,aK,aK,aK,aK,aK,aK,aK,aK,(.inl (.inl (ls { own:=0,nm:=0,e:=2,o:=false,xs:=a0.2.2.2.2.2.2.2.1 }))),(.inl (.inl (lv (.int .i64 (Nat.cast (List.length a0.2.2.2.2.2.2.2.1):Int))))),(.inl (.inl (lv (.int .i64 v0_24))))]++List.replicate 17 aK,D:=[],F:=[],ctr:=1 }
def X150_0 (a0:N10):St cxT.ty:={ slots:=[]++List.replicate 42 aK,D:=[],F:=[],ctr:=1 }
def G150 {B:Type}(u:Bool->B)(hh0:Int->Int->Option B)(cZ:Y143)(a0:N10):Option B:=
 bif (a0.2.2.2.2.2.1 != (1:Int))then bif (decide ((Nat.cast (List.length a0.2.2.2.2.2.2.2.1):Int) > (0:Int)))then some (u false)
  else hh0 (-(1:Int)) (0:Int)
 else hh0 (-(1:Int)) (0:Int)
def B150_0 {B:Type}(u:Bool->B)(gg:Int->Int->Option B)(kk:Option B)(cZ:Y143)(a0:N10)(v0_3:Int)(v0_24:Int):Option B:=
 bif (decide (v0_24 < (Nat.cast (List.length a0.2.2.2.2.2.2.2.1):Int)))then fB a0 λs1_0=>fB (List.getD s1_0.2.2.2.2.2.2.2.1 v0_24.toNat (0:Int)) λs1_1=>bif ((decide ((0:Int)<=v0_24))&&(decide (v0_24 < (Nat.cast (List.length s1_0.2.2.2.2.2.2.2.1):Int))))then dL (cZ (s1_1,s1_0.2.1)) false λ(q3:Bool)=>bif (!q3)then some (u false)
    else bif (decide (s1_1<=v0_3))then some (u false)
    else gg s1_1 (wrap .i64 (v0_24+(1:Int)))
  else none
 else kk
def A150_0 {B:Type}(u:Bool->B)(cZ:Y143)(a0:N10):Option B:=
 some (u true)
def sH (cZ:Y143)(L:Nat)(a0:N10):Nat->Int->Int->(Option Bool)->Option Bool
 | 0,_,_,_=>none
 | n+1,v0_3,v0_24,k=>B150_0 (λx=>x) (λv0_3 v0_24=>sH cZ L a0 n v0_3 v0_24 k) k cZ a0 v0_3 v0_24
theorem aG3 (cZ:Y143)(L:Nat)(a0:N10)(k:St cxT.ty->Option (V cxT.ty))(xk:Nat->St cxT.ty->Option (V cxT.ty))(k':Option Bool)(hk:k (X150_0 a0)=(k').map xK):∀ (n:Nat) (v0_3:Int) (v0_24:Int),bL prog (rM cZ) L f150 0 [1,1,1,0,1,0,0] (cQ (aX prog f150) k xk) n (S150_0 a0 v0_3 v0_24)=(sH cZ L a0 n v0_3 v0_24 k').map xK
 | 0,_,_=>rfl
 | n+1,v0_3,v0_24=>by
  rw[cG];have ih:=aG3 cZ L a0 k xk k' hk n;refine .trans (b:=B150_0 xK (λv0_3 v0_24=>(bL prog (rM cZ) L f150 0 [1,1,1,0,1,0,0] (cQ (aX prog f150) k xk) n) (S150_0 a0 v0_3 v0_24)) (k (X150_0 a0)) cZ a0 v0_3 v0_24) (by kernel_rfl) ?_;unfold sH B150_0
  repeat' first | with_reducible refine eC ?_ ?_ | with_reducible refine eA λ_=>?_ | with_reducible refine eB λ_=>?_ | with_reducible exact ih _ _ | with_reducible exact hk | exact rfl
def aHm (cZ:Y143)(L:Nat)(a0:N10):Option Bool:=G150 (λx=>x) (λv0_3 v0_24=>sH cZ L a0 L v0_3 v0_24 (A150_0 (λx=>x) cZ a0)) cZ a0
theorem aXr (cZ:Y143)(L:Nat)(a0:N10):fP prog (rM cZ) (bO L) f150 (aTo.enc a0)=(aHm cZ L a0).map xK:=by
 have hin0:∀ (v0_3:Int) (v0_24:Int),bL prog (rM cZ) L f150 0 [1,1,1,0,1,0,0] (cQ (aX prog f150) (cO prog (rM cZ) L f150 [1,1,1,0,1] (aX prog f150)).n (cO prog (rM cZ) L f150 [1,1,1,0,1] (aX prog f150)).x) L (S150_0 a0 v0_3 v0_24)=((λv0_3 v0_24=>sH cZ L a0 L v0_3 v0_24 (A150_0 (λx=>x) cZ a0)) v0_3 v0_24).map xK:=λv0_3 v0_24=>aG3 cZ L a0 _ _ _ (by refine .trans (b:=A150_0 xK cZ a0) (by kernel_rfl) ?_;unfold A150_0;repeat' first | with_reducible refine eC ?_ ?_ | with_reducible refine eA λ_=>?_ | with_reducible refine eB λ_=>?_ | exact rfl) L v0_3 v0_24
 refine .trans (b:=G150 xK (λv0_3 v0_24=>bL prog (rM cZ) L f150 0 [1,1,1,0,1,0,0] (cQ (aX prog f150) (cO prog (rM cZ) L f150 [1,1,1,0,1] (aX prog f150)).n (cO prog (rM cZ) L f150 [1,1,1,0,1] (aX prog f150)).x) L (S150_0 a0 v0_3 v0_24)) cZ a0) (by kernel_rfl) ?_;unfold aHm G150
 repeat' first | with_reducible refine eC ?_ ?_ | with_reducible refine eA λ_=>?_ | with_reducible refine eB λ_=>?_ | with_reducible exact hin0 _ _ | exact rfl
def aLH (cZ:Y143)(L:Nat)(x:N10):Option Bool:=aHm cZ L x
theorem aVf (cZ:Y143)(h143:Sat prog cxT 143 (aAq cZ))(m:Y150)(hm:∀ (x:N10) t,m x=some t->∃ L,aLH cZ L x=some t):Sat prog cxT 150 (aIY m):=
 cF bD aZ (by rfl) (fn:=f150) rfl aTo xK aK6 m (rM cZ) (aN h143 aY) aR (aLH cZ) (λL x=>aXr cZ L x) hm aQc
def aKd:Env cxT:={ Kc:=dD [],Kw:=dF [],lv:=λi=>[],xv:=λi=>none }
def G151 {B:Type}(u:Bool->B)(a0:N10):Option B:=
 bif (a0.2.2.2.2.2.1 != (2:Int))then bif ((Nat.cast (List.length a0.2.2.2.2.2.2.2.2.1):Int) == (0:Int))then some (u ((Nat.cast (List.length a0.2.2.2.2.2.2.2.2.2):Int) == (0:Int)))
  else some (u false)
 else bif ((Nat.cast (List.length a0.2.2.2.2.2.2.2.2.1):Int) == a0.2.1)then some (u ((Nat.cast (List.length a0.2.2.2.2.2.2.2.2.2):Int) == a0.2.1))
 else some (u false)
def aHl (L:Nat)(a0:N10):Option Bool:=G151 (λx=>x) a0
theorem aXq (L:Nat)(a0:N10):fP prog aKd (bO L) f151 (aTn.enc a0)=(aHl L a0).map aFj:=by
 refine .trans (b:=G151 aFj a0) (by kernel_rfl) ?_;unfold aHl G151
 repeat' first | with_reducible refine eC ?_ ?_ | with_reducible refine eA λ_=>?_ | with_reducible refine eB λ_=>?_ | exact rfl
def aLG (L:Nat)(x:N10):Option Bool:=aHl L x
theorem aVe (m:Y151)(hm:∀ (x:N10) t,m x=some t->∃ L,aLG L x=some t):Sat prog cxT 151 (aIX m):=
 cF bD aZ (by rfl) (fn:=f151) rfl aTn aFj aK5 m aKd aY aR (aLG) (λL x=>aXq L x) hm aQb
end Go.Proofs.Tryz
set_option maxHeartbeats 0
set_option maxRecDepth 100000
namespace Go.Proofs.Tryz
open Go.IntKind (wrap)
open Go Go.VM Go.RowKit
def aQX (dZ:Y47)(m156:Y156)(m157:Y157)(kL:Y158):Env cxT:={ Kc:=dD [(47,c47 dZ),(156,aIS m156),(157,aIR m157),(158,aNF kL)],Kw:=dF [],lv:=λi=>[],xv:=λi=>none }
def G97 {B:Type}(u:Int->B)(dZ:Y47)(m156:Y156)(m157:Y157)(kL:Y158)(a0_0:Int)(a0_1:Int)(a0_2:Int)(a0_3:Int)(a0_4:Int)(a0_5:Int)(a0_6:Int)(a0_7:Int)(a0_8:Int):Option B:=
 dL (dZ a0_0) false λ(q1:Bool)=>bif (!q1)then some (u (3:Int))
  else dL (m156 a0_1) false λ(q2:Bool)=>bif (!q2)then some (u (3:Int))
   else dL (m157 a0_2) false λ(q3:Bool)=>bif (!q3)then some (u (3:Int))
    else bif (!((a0_1 == (0:Int)) == (a0_2 == (0:Int))))then some (u (1:Int))
    else bif (a0_1 != (0:Int))then dL (kL (a0_3,(a0_4,(a0_5,(a0_6,(a0_7,a0_8)))))) (0:Int) λ(q5:Int)=>some (u q5)
    else bif (!((((((a0_3 == (0:Int))&&(a0_4 == (0:Int)))&&(a0_5 == (0:Int)))&&(a0_6 == (0:Int)))&&(a0_7 == (0:Int)))&&(a0_8 == (0:Int))))then some (u (1:Int))
    else some (u (0:Int))
def g97 (dZ:Y47)(m156:Y156)(m157:Y157)(kL:Y158)(L:Nat)(a0_0:Int)(a0_1:Int)(a0_2:Int)(a0_3:Int)(a0_4:Int)(a0_5:Int)(a0_6:Int)(a0_7:Int)(a0_8:Int):Option Int:=G97 (λx=>x) dZ m156 m157 kL a0_0 a0_1 a0_2 a0_3 a0_4 a0_5 a0_6 a0_7 a0_8
theorem e97 (dZ:Y47)(m156:Y156)(m157:Y157)(kL:Y158)(L:Nat)(a0_0:Int)(a0_1:Int)(a0_2:Int)(a0_3:Int)(a0_4:Int)(a0_5:Int)(a0_6:Int)(a0_7:Int)(a0_8:Int):fP prog (aQX dZ m156 m157 kL) (bO L) f97 (a97.enc (a0_0,a0_1,a0_2,a0_3,a0_4,a0_5,a0_6,a0_7,a0_8))=(g97 dZ m156 m157 kL L a0_0 a0_1 a0_2 a0_3 a0_4 a0_5 a0_6 a0_7 a0_8).map n97:=by
 refine .trans (b:=G97 n97 dZ m156 m157 kL a0_0 a0_1 a0_2 a0_3 a0_4 a0_5 a0_6 a0_7 a0_8) (by kernel_rfl) ?_;unfold g97 G97
 repeat' first | with_reducible refine eC ?_ ?_ | with_reducible refine eA λ_=>?_ | with_reducible refine eB λ_=>?_ | exact rfl
def w97 (dZ:Y47)(m156:Y156)(m157:Y157)(kL:Y158)(L:Nat)(x:E9):Option Int:=g97 dZ m156 m157 kL L x.1 x.2.1 x.2.2.1 x.2.2.2.1 x.2.2.2.2.1 x.2.2.2.2.2.1 x.2.2.2.2.2.2.1 x.2.2.2.2.2.2.2.1 x.2.2.2.2.2.2.2.2
theorem s97 (dZ:Y47)(m156:Y156)(m157:Y157)(kL:Y158)(h47:Sat prog cxT 47 (c47 dZ))(h156:Sat prog cxT 156 (aIS m156))(h157:Sat prog cxT 157 (aIR m157))(h158:Sat prog cxT 158 (aNF kL))(m:Y97)(hm:∀ (x:E9) t,m x=some t->∃ L,w97 dZ m156 m157 kL L x=some t):Sat prog cxT 97 (c97 m):=
 cF bD aZ (by rfl) (fn:=f97) rfl a97 n97 aRA m (aQX dZ m156 m157 kL) (aN h47 (aN h156 (aN h157 (aN h158 aY)))) aR (w97 dZ m156 m157 kL) (λL x=>e97 dZ m156 m157 kL L x.1 x.2.1 x.2.2.1 x.2.2.2.1 x.2.2.2.2.1 x.2.2.2.2.2.1 x.2.2.2.2.2.2.1 x.2.2.2.2.2.2.2.1 x.2.2.2.2.2.2.2.2) hm aVV
def rN (m97:Y97):Env cxT:={ Kc:=dD [(97,c97 m97)],Kw:=dF [],lv:=λi=>if i=0 then[(3,[]),(10,[some 102]),(11,[]),(12,[])]else[],xv:=λi=>if i=0 then some []else none }
def S147_0 (a0:(List E9))(v0_3:Int)(v0_12:Int):St cxT.ty:={ slots:=[aK,aK,aK,(.inl (.inl (lv (.int .i64 v0_3)))),aK,aK,aK,aK,aK,aK,(.inl (.inl (ls { own:=0,nm:=0,e:=102,o:=false,xs:=a0 }))),(.inl (.inl (lv (.int .i64 (Nat.cast (List.length a0):Int))))),(.inl (.inl (lv (.int .i64 v0_12))))]++List.replicate 15 aK,D:=[],F:=[],ctr:=1 }
def X147_0 (a0:(List E9)):St cxT.ty:={ slots:=[]++List.replicate 28 aK,D:=[],F:=[],ctr:=1 }
def G147 {B:Type}(u:Int->B)(hh0:Int->Int->Option B)(m97:Y97)(a0:(List E9)):Option B:=
 bif (decide ((Nat.cast (List.length a0):Int) > (40:Int)))then some (u (2:Int))
 else hh0 (0:Int) (0:Int)
def B147_0 {B:Type}(u:Int->B)(gg:Int->Int->Option B)(kk:Option B)(m97:Y97)(a0:(List E9))(v0_3:Int)(v0_12:Int):Option B:=
 bif (decide (v0_12 < (Nat.cast (List.length a0):Int)))then fB (List.getD a0 v0_12.toNat ((0:Int),((0:Int),((0:Int),((0:Int),((0:Int),((0:Int),((0:Int),((0:Int),(0:Int)))))))))) λs1_0=>bif ((decide ((0:Int)<=v0_12))&&(decide (v0_12 < (Nat.cast (List.length a0):Int))))then dL (m97 (s1_0.1,(s1_0.2.1,(s1_0.2.2.1,(s1_0.2.2.2.1,(s1_0.2.2.2.2.1,(s1_0.2.2.2.2.2.1,(s1_0.2.2.2.2.2.2.1,(s1_0.2.2.2.2.2.2.2.1,s1_0.2.2.2.2.2.2.2.2))))))))) (0:Int) λ(q3:Int)=>bif (q3 != (0:Int))then some (u q3)
    else bif (decide (s1_0.1 < v0_3))then some (u (1:Int))
    else gg s1_0.1 (wrap .i64 (v0_12+(1:Int)))
  else none
 else kk
def A147_0 {B:Type}(u:Int->B)(m97:Y97)(a0:(List E9)):Option B:=
 some (u (0:Int))
def pO (m97:Y97)(L:Nat)(a0:(List E9)):Nat->Int->Int->(Option Int)->Option Int
 | 0,_,_,_=>none
 | n+1,v0_3,v0_12,k=>B147_0 (λx=>x) (λv0_3 v0_12=>pO m97 L a0 n v0_3 v0_12 k) k m97 a0 v0_3 v0_12
theorem aG4 (m97:Y97)(L:Nat)(a0:(List E9))(k:St cxT.ty->Option (V cxT.ty))(xk:Nat->St cxT.ty->Option (V cxT.ty))(k':Option Int)(hk:k (X147_0 a0)=(k').map xL):∀ (n:Nat) (v0_3:Int) (v0_12:Int),bL prog (rN m97) L f147 0 [1,1,1,0,1,0,0] (cQ (aX prog f147) k xk) n (S147_0 a0 v0_3 v0_12)=(pO m97 L a0 n v0_3 v0_12 k').map xL
 | 0,_,_=>rfl
 | n+1,v0_3,v0_12=>by
  rw[cG];have ih:=aG4 m97 L a0 k xk k' hk n;refine .trans (b:=B147_0 xL (λv0_3 v0_12=>(bL prog (rN m97) L f147 0 [1,1,1,0,1,0,0] (cQ (aX prog f147) k xk) n) (S147_0 a0 v0_3 v0_12)) (k (X147_0 a0)) m97 a0 v0_3 v0_12) (by kernel_rfl) ?_;unfold pO B147_0
  repeat' first | with_reducible refine eC ?_ ?_ | with_reducible refine eA λ_=>?_ | with_reducible refine eB λ_=>?_ | with_reducible exact ih _ _ | with_reducible exact hk | exact rfl
def aHn (m97:Y97)(L:Nat)(a0:(List E9)):Option Int:=G147 (λx=>x) (λv0_3 v0_12=>pO m97 L a0 L v0_3 v0_12 (A147_0 (λx=>x) m97 a0)) m97 a0
theorem aXu (m97:Y97)(L:Nat)(a0:(List E9)):fP prog (rN m97) (bO L) f147 (aTr.enc a0)=(aHn m97 L a0).map xL:=by
 have hin0:∀ (v0_3:Int) (v0_12:Int),bL prog (rN m97) L f147 0 [1,1,1,0,1,0,0] (cQ (aX prog f147) (cO prog (rN m97) L f147 [1,1,1,0,1] (aX prog f147)).n (cO prog (rN m97) L f147 [1,1,1,0,1] (aX prog f147)).x) L (S147_0 a0 v0_3 v0_12)=((λv0_3 v0_12=>pO m97 L a0 L v0_3 v0_12 (A147_0 (λx=>x) m97 a0)) v0_3 v0_12).map xL:=λv0_3 v0_12=>aG4 m97 L a0 _ _ _ (by refine .trans (b:=A147_0 xL m97 a0) (by kernel_rfl) ?_;unfold A147_0;repeat' first | with_reducible refine eC ?_ ?_ | with_reducible refine eA λ_=>?_ | with_reducible refine eB λ_=>?_ | exact rfl) L v0_3 v0_12
 refine .trans (b:=G147 xL (λv0_3 v0_12=>bL prog (rN m97) L f147 0 [1,1,1,0,1,0,0] (cQ (aX prog f147) (cO prog (rN m97) L f147 [1,1,1,0,1] (aX prog f147)).n (cO prog (rN m97) L f147 [1,1,1,0,1] (aX prog f147)).x) L (S147_0 a0 v0_3 v0_12)) m97 a0) (by kernel_rfl) ?_;unfold aHn G147
 repeat' first | with_reducible refine eC ?_ ?_ | with_reducible refine eA λ_=>?_ | with_reducible refine eB λ_=>?_ | with_reducible exact hin0 _ _ | exact rfl
def aLJ (m97:Y97)(L:Nat)(x:(List E9)):Option Int:=aHn m97 L x
theorem aVi (m97:Y97)(h97:Sat prog cxT 97 (c97 m97))(m:Y147)(hm:∀ (x:(List E9)) t,m x=some t->∃ L,aLJ m97 L x=some t):Sat prog cxT 147 (aFM m):=
 cF bD aZ (by rfl) (fn:=f147) rfl aTr xL aK9 m (rN m97) (aN h97 aY) aR (aLJ m97) (λL x=>aXu m97 L x) hm aQf
def aKf (eO:Y190)(lH:Y189):Env cxT:={ Kc:=dD [(190,aCL eO),(189,aIO lH)],Kw:=dF [],lv:=λi=>[],xv:=λi=>none }
def G148 {B:Type}(u:E9->B)(eO:Y190)(lH:Y189)(a0:(List E9)):Option B:=
 dL (eO a0) (0:Int) λ(q1:Int)=>dL (lH (a0,q1)) ((0:Int),(0:Int),(0:Int),(0:Int),(0:Int),(0:Int),(0:Int),(0:Int),(0:Int),false) λ(q2:(Int×Int×Int×Int×Int×Int×Int×Int×Int×Bool))=>some (u (q2.1,q2.2.1,q2.2.2.1,q2.2.2.2.1,q2.2.2.2.2.1,q2.2.2.2.2.2.1,q2.2.2.2.2.2.2.1,q2.2.2.2.2.2.2.2.1,q2.2.2.2.2.2.2.2.2.1))
def aIs (eO:Y190)(lH:Y189)(L:Nat)(a0:(List E9)):Option E9:=G148 (λx=>x) eO lH a0
theorem aXt (eO:Y190)(lH:Y189)(L:Nat)(a0:(List E9)):fP prog (aKf eO lH) (bO L) f148 (aTq.enc a0)=(aIs eO lH L a0).map aFl:=by
 refine .trans (b:=G148 aFl eO lH a0) (by kernel_rfl) ?_;unfold aIs G148
 repeat' first | with_reducible refine eC ?_ ?_ | with_reducible refine eA λ_=>?_ | with_reducible refine eB λ_=>?_ | exact rfl
def aLI (eO:Y190)(lH:Y189)(L:Nat)(x:(List E9)):Option E9:=aIs eO lH L x
theorem aVh (eO:Y190)(lH:Y189)(h190:Sat prog cxT 190 (aCL eO))(h189:Sat prog cxT 189 (aIO lH))(m:Y148)(hm:∀ (x:(List E9)) t,m x=some t->∃ L,aLI eO lH L x=some t):Sat prog cxT 148 (aFL m):=
 cF bD aZ (by rfl) (fn:=f148) rfl aTq aFl aK8 m (aKf eO lH) (aN h190 (aN h189 aY)) aR (aLI eO lH) (λL x=>aXt eO lH L x) hm aQe
def aQZ (iQ:Y44)(cZ:Y143)(mD:Y144)(mC:Y145)(mB:Y146)(m147:Y147)(m148:Y148)(kX:Y149)(dY:Y94)(lJ:Y150)(mA:Y151)(kN:Y152):Env cxT:={ Kc:=dD [(44,c44 iQ),(143,aAq cZ),(144,aI2 mD),(145,aI1 mC),(146,aI0 mB),(147,aFM m147),(148,aFL m148),(149,aIZ kX),(94,c94 dY),(150,aIY lJ),(151,aIX mA),(152,aIW kN)],Kw:=dF [],lv:=λi=>[],xv:=λi=>none }
def G95 {B:Type}(u:Int->B)(iQ:Y44)(cZ:Y143)(mD:Y144)(mC:Y145)(mB:Y146)(m147:Y147)(m148:Y148)(kX:Y149)(dY:Y94)(lJ:Y150)(mA:Y151)(kN:Y152)(a0_0:Int)(a0_1:Int)(a0_2:Int)(a0_3:Int)(a0_4:(List E9))(a0_5:Int)(a0_6:Int)(a0_7:(List Int))(a0_8:(List Int))(a0_9:(List Int)):Option B:=
 dL (iQ a0_1) false λ(q1:Bool)=>bif (!q1)then some (u (3:Int))
  else dL (cZ (a0_0,a0_1)) false λ(q2:Bool)=>bif (!q2)then some (u (3:Int))
   else dL (mD a0_2) false λ(q3:Bool)=>bif (!q3)then some (u (3:Int))
    else dL (mC (a0_3,a0_1)) false λ(q4:Bool)=>bif (!q4)then some (u (3:Int))
     else dL (mB a0_5) false λ(q5:Bool)=>bif (!q5)then some (u (3:Int))
      else dL (m147 a0_4) (0:Int) λ(q6:Int)=>bif (q6 != (0:Int))then some (u q6)
       else dL (m148 a0_4) ((0:Int),(0:Int),(0:Int),(0:Int),(0:Int),(0:Int),(0:Int),(0:Int),(0:Int)) λ(q7:E9)=>bif (decide (q7.1 > a0_2))then some (u (1:Int))
        else dL (kX (a0_0,(a0_1,(a0_2,(a0_3,(a0_4,(a0_5,(a0_6,(a0_7,(a0_8,a0_9)))))))))) (0:Int) λ(q8:Int)=>dL (dY (a0_6,((0:Int),q8))) false λ(q9:Bool)=>bif (!q9)then some (u (3:Int))
          else dL (lJ (a0_0,(a0_1,(a0_2,(a0_3,(a0_4,(a0_5,(a0_6,(a0_7,(a0_8,a0_9)))))))))) false λ(q10:Bool)=>bif (!q10)then some (u (1:Int))
           else dL (mA (a0_0,(a0_1,(a0_2,(a0_3,(a0_4,(a0_5,(a0_6,(a0_7,(a0_8,a0_9)))))))))) false λ(q11:Bool)=>bif (!q11)then some (u (1:Int))
            else dL (kX (a0_0,(a0_1,(a0_2,(a0_3,(a0_4,(a0_5,(a0_6,(a0_7,(a0_8,a0_9)))))))))) (0:Int) λ(q12:Int)=>dL (kN (a0_8,((1:Int),(wrap .i64 (q8+(1:Int)))))) false λ(q13:Bool)=>bif (!q13)then some (u (3:Int))
              else dL (kX (a0_0,(a0_1,(a0_2,(a0_3,(a0_4,(a0_5,(a0_6,(a0_7,(a0_8,a0_9)))))))))) (0:Int) λ(q14:Int)=>dL (kN (a0_9,((0:Int),q8))) false λ(q15:Bool)=>bif (!q15)then some (u (3:Int))
                else bif (a0_5 != (0:Int))then bif (a0_3 != a0_0)then some (u (1:Int))
                 else bif (a0_2 == (0:Int))then some (u (1:Int))
                 else some (u (0:Int))
                else some (u (0:Int))
def g95 (iQ:Y44)(cZ:Y143)(mD:Y144)(mC:Y145)(mB:Y146)(m147:Y147)(m148:Y148)(kX:Y149)(dY:Y94)(lJ:Y150)(mA:Y151)(kN:Y152)(L:Nat)(a0_0:Int)(a0_1:Int)(a0_2:Int)(a0_3:Int)(a0_4:(List E9))(a0_5:Int)(a0_6:Int)(a0_7:(List Int))(a0_8:(List Int))(a0_9:(List Int)):Option Int:=G95 (λx=>x) iQ cZ mD mC mB m147 m148 kX dY lJ mA kN a0_0 a0_1 a0_2 a0_3 a0_4 a0_5 a0_6 a0_7 a0_8 a0_9
theorem e95 (iQ:Y44)(cZ:Y143)(mD:Y144)(mC:Y145)(mB:Y146)(m147:Y147)(m148:Y148)(kX:Y149)(dY:Y94)(lJ:Y150)(mA:Y151)(kN:Y152)(L:Nat)(a0_0:Int)(a0_1:Int)(a0_2:Int)(a0_3:Int)(a0_4:(List E9))(a0_5:Int)(a0_6:Int)(a0_7:(List Int))(a0_8:(List Int))(a0_9:(List Int)):fP prog (aQZ iQ cZ mD mC mB m147 m148 kX dY lJ mA kN) (bO L) f95 (a95.enc (a0_0,a0_1,a0_2,a0_3,a0_4,a0_5,a0_6,a0_7,a0_8,a0_9))=(g95 iQ cZ mD mC mB m147 m148 kX dY lJ mA kN L a0_0 a0_1 a0_2 a0_3 a0_4 a0_5 a0_6 a0_7 a0_8 a0_9).map n95:=by
 refine .trans (b:=G95 n95 iQ cZ mD mC mB m147 m148 kX dY lJ mA kN a0_0 a0_1 a0_2 a0_3 a0_4 a0_5 a0_6 a0_7 a0_8 a0_9) (by kernel_rfl) ?_;unfold g95 G95
 repeat' first | with_reducible refine eC ?_ ?_ | with_reducible refine eA λ_=>?_ | with_reducible refine eB λ_=>?_ | exact rfl
def w95 (iQ:Y44)(cZ:Y143)(mD:Y144)(mC:Y145)(mB:Y146)(m147:Y147)(m148:Y148)(kX:Y149)(dY:Y94)(lJ:Y150)(mA:Y151)(kN:Y152)(L:Nat)(x:N10):Option Int:=g95 iQ cZ mD mC mB m147 m148 kX dY lJ mA kN L x.1 x.2.1 x.2.2.1 x.2.2.2.1 x.2.2.2.2.1 x.2.2.2.2.2.1 x.2.2.2.2.2.2.1 x.2.2.2.2.2.2.2.1 x.2.2.2.2.2.2.2.2.1 x.2.2.2.2.2.2.2.2.2
theorem s95 (iQ:Y44)(cZ:Y143)(mD:Y144)(mC:Y145)(mB:Y146)(m147:Y147)(m148:Y148)(kX:Y149)(dY:Y94)(lJ:Y150)(mA:Y151)(kN:Y152)(h44:Sat prog cxT 44 (c44 iQ))(h143:Sat prog cxT 143 (aAq cZ))(h144:Sat prog cxT 144 (aI2 mD))(h145:Sat prog cxT 145 (aI1 mC))(h146:Sat prog cxT 146 (aI0 mB))(h147:Sat prog cxT 147 (aFM m147))(h148:Sat prog cxT 148 (aFL m148))(h149:Sat prog cxT 149 (aIZ kX))(h94:Sat prog cxT 94 (c94 dY))(h150:Sat prog cxT 150 (aIY lJ))(h151:Sat prog cxT 151 (aIX mA))(h152:Sat prog cxT 152 (aIW kN))(m:Y95)(hm:∀ (x:N10) t,m x=some t->∃ L,w95 iQ cZ mD mC mB m147 m148 kX dY lJ mA kN L x=some t):Sat prog cxT 95 (c95 m):=
 cF bD aZ (by rfl) (fn:=f95) rfl a95 n95 aRC m (aQZ iQ cZ mD mC mB m147 m148 kX dY lJ mA kN) (aN h44 (aN h143 (aN h144 (aN h145 (aN h146 (aN h147 (aN h148 (aN h149 (aN h94 (aN h150 (aN h151 (aN h152 aY)))))))))))) aR (w95 iQ cZ mD mC mB m147 m148 kX dY lJ mA kN) (λL x=>e95 iQ cZ mD mC mB m147 m148 kX dY lJ mA kN L x.1 x.2.1 x.2.2.1 x.2.2.2.1 x.2.2.2.2.1 x.2.2.2.2.2.1 x.2.2.2.2.2.2.1 x.2.2.2.2.2.2.2.1 x.2.2.2.2.2.2.2.2.1 x.2.2.2.2.2.2.2.2.2) hm aVX
def aQY (m95:Y95)(dY:Y94)(cZ:Y143)(dZ:Y47)(m147:Y147)(lI:Y153)(lZ:Y154)(m155:Y155):Env cxT:={ Kc:=dD [(95,c95 m95),(94,c94 dY),(143,aAq cZ),(47,c47 dZ),(147,aFM m147),(153,aIV lI),(154,aIU lZ),(155,aIT m155)],Kw:=dF [],lv:=λi=>[],xv:=λi=>none }
def G96 {B:Type}(u:Int->B)(m95:Y95)(dY:Y94)(cZ:Y143)(dZ:Y47)(m147:Y147)(lI:Y153)(lZ:Y154)(m155:Y155)(a0_0:Int)(a0_1:Int)(a0_2:Int)(a0_3:Int)(a0_4:(List E9))(a0_5:Int)(a0_6:Int)(a0_7:(List Int))(a0_8:(List Int))(a0_9:(List Int))(a1_0:Int)(a1_1:Int)(a1_2:Int)(a1_3:Int)(a1_4:Int)(a1_5:Int)(a1_6:Int)(a1_7:Bool)(a1_8:(List E9)):Option B:=
 dL (m95 (a0_0,(a0_1,(a0_2,(a0_3,(a0_4,(a0_5,(a0_6,(a0_7,(a0_8,a0_9)))))))))) (0:Int) λ(q1:Int)=>bif (q1 != (0:Int))then some (u q1)
  else dL (dY (a1_0,((1:Int),(4:Int)))) false λ(q2:Bool)=>bif (!q2)then some (u (5:Int))
   else dL (cZ (a1_1,a0_1)) false λ(q3:Bool)=>bif (!q3)then some (u (3:Int))
    else bif (a1_1 == a0_0)then some (u (3:Int))
    else bif (a1_2 != a0_0)then some (u (3:Int))
    else dL (dZ a1_3) false λ(q4:Bool)=>bif (!q4)then some (u (3:Int))
     else dL (dY (a1_4,((0:Int),(40:Int)))) false λ(q5:Bool)=>bif (!q5)then some (u (3:Int))
      else dL (dY (a1_5,((0:Int),a1_3))) false λ(q6:Bool)=>bif (!q6)then some (u (3:Int))
       else dL (dY (a1_6,((0:Int),(40:Int)))) false λ(q7:Bool)=>bif (!q7)then some (u (3:Int))
        else dL (m147 a1_8) (0:Int) λ(q8:Int)=>bif (q8 != (0:Int))then some (u q8)
         else dL (lI (a1_0,(a1_1,(a1_2,(a1_3,(a1_4,(a1_5,(a1_6,(a1_7,a1_8))))))))) false λ(q9:Bool)=>bif (!q9)then some (u (1:Int))
          else dL (lZ (a1_0,(a1_1,(a1_2,(a1_3,(a1_4,(a1_5,(a1_6,(a1_7,a1_8))))))))) false λ(q10:Bool)=>bif (!q10)then some (u (1:Int))
           else dL (m155 (a1_0,(a1_1,(a1_2,(a1_3,(a1_4,(a1_5,(a1_6,(a1_7,a1_8))))))))) false λ(q11:Bool)=>bif (!q11)then some (u (1:Int))
            else bif (a1_4 == (0:Int))then bif (a1_5 != (0:Int))then some (u (1:Int))
             else some (u (0:Int))
            else some (u (0:Int))
def g96 (m95:Y95)(dY:Y94)(cZ:Y143)(dZ:Y47)(m147:Y147)(lI:Y153)(lZ:Y154)(m155:Y155)(L:Nat)(a0_0:Int)(a0_1:Int)(a0_2:Int)(a0_3:Int)(a0_4:(List E9))(a0_5:Int)(a0_6:Int)(a0_7:(List Int))(a0_8:(List Int))(a0_9:(List Int))(a1_0:Int)(a1_1:Int)(a1_2:Int)(a1_3:Int)(a1_4:Int)(a1_5:Int)(a1_6:Int)(a1_7:Bool)(a1_8:(List E9)):Option Int:=G96 (λx=>x) m95 dY cZ dZ m147 lI lZ m155 a0_0 a0_1 a0_2 a0_3 a0_4 a0_5 a0_6 a0_7 a0_8 a0_9 a1_0 a1_1 a1_2 a1_3 a1_4 a1_5 a1_6 a1_7 a1_8
theorem e96 (m95:Y95)(dY:Y94)(cZ:Y143)(dZ:Y47)(m147:Y147)(lI:Y153)(lZ:Y154)(m155:Y155)(L:Nat)(a0_0:Int)(a0_1:Int)(a0_2:Int)(a0_3:Int)(a0_4:(List E9))(a0_5:Int)(a0_6:Int)(a0_7:(List Int))(a0_8:(List Int))(a0_9:(List Int))(a1_0:Int)(a1_1:Int)(a1_2:Int)(a1_3:Int)(a1_4:Int)(a1_5:Int)(a1_6:Int)(a1_7:Bool)(a1_8:(List E9)):fP prog (aQY m95 dY cZ dZ m147 lI lZ m155) (bO L) f96 (a96.enc ((a0_0,a0_1,a0_2,a0_3,a0_4,a0_5,a0_6,a0_7,a0_8,a0_9),(a1_0,a1_1,a1_2,a1_3,a1_4,a1_5,a1_6,a1_7,a1_8)))=(g96 m95 dY cZ dZ m147 lI lZ m155 L a0_0 a0_1 a0_2 a0_3 a0_4 a0_5 a0_6 a0_7 a0_8 a0_9 a1_0 a1_1 a1_2 a1_3 a1_4 a1_5 a1_6 a1_7 a1_8).map n96:=by
 refine .trans (b:=G96 n96 m95 dY cZ dZ m147 lI lZ m155 a0_0 a0_1 a0_2 a0_3 a0_4 a0_5 a0_6 a0_7 a0_8 a0_9 a1_0 a1_1 a1_2 a1_3 a1_4 a1_5 a1_6 a1_7 a1_8) (by kernel_rfl) ?_;unfold g96 G96
 repeat' first | with_reducible refine eC ?_ ?_ | with_reducible refine eA λ_=>?_ | with_reducible refine eB λ_=>?_ | exact rfl
def w96 (m95:Y95)(dY:Y94)(cZ:Y143)(dZ:Y47)(m147:Y147)(lI:Y153)(lZ:Y154)(m155:Y155)(L:Nat)(x:(N10×M9)):Option Int:=g96 m95 dY cZ dZ m147 lI lZ m155 L x.1.1 x.1.2.1 x.1.2.2.1 x.1.2.2.2.1 x.1.2.2.2.2.1 x.1.2.2.2.2.2.1 x.1.2.2.2.2.2.2.1 x.1.2.2.2.2.2.2.2.1 x.1.2.2.2.2.2.2.2.2.1 x.1.2.2.2.2.2.2.2.2.2 x.2.1 x.2.2.1 x.2.2.2.1 x.2.2.2.2.1 x.2.2.2.2.2.1 x.2.2.2.2.2.2.1 x.2.2.2.2.2.2.2.1 x.2.2.2.2.2.2.2.2.1 x.2.2.2.2.2.2.2.2.2
theorem s96 (m95:Y95)(dY:Y94)(cZ:Y143)(dZ:Y47)(m147:Y147)(lI:Y153)(lZ:Y154)(m155:Y155)(h95:Sat prog cxT 95 (c95 m95))(h94:Sat prog cxT 94 (c94 dY))(h143:Sat prog cxT 143 (aAq cZ))(h47:Sat prog cxT 47 (c47 dZ))(h147:Sat prog cxT 147 (aFM m147))(h153:Sat prog cxT 153 (aIV lI))(h154:Sat prog cxT 154 (aIU lZ))(h155:Sat prog cxT 155 (aIT m155))(m:Y96)(hm:∀ (x:(N10×M9)) t,m x=some t->∃ L,w96 m95 dY cZ dZ m147 lI lZ m155 L x=some t):Sat prog cxT 96 (c96 m):=
 cF bD aZ (by rfl) (fn:=f96) rfl a96 n96 aRB m (aQY m95 dY cZ dZ m147 lI lZ m155) (aN h95 (aN h94 (aN h143 (aN h47 (aN h147 (aN h153 (aN h154 (aN h155 aY)))))))) aR (w96 m95 dY cZ dZ m147 lI lZ m155) (λL x=>e96 m95 dY cZ dZ m147 lI lZ m155 L x.1.1 x.1.2.1 x.1.2.2.1 x.1.2.2.2.1 x.1.2.2.2.2.1 x.1.2.2.2.2.2.1 x.1.2.2.2.2.2.2.1 x.1.2.2.2.2.2.2.2.1 x.1.2.2.2.2.2.2.2.2.1 x.1.2.2.2.2.2.2.2.2.2 x.2.1 x.2.2.1 x.2.2.2.1 x.2.2.2.2.1 x.2.2.2.2.2.1 x.2.2.2.2.2.2.1 x.2.2.2.2.2.2.2.1 x.2.2.2.2.2.2.2.2.1 x.2.2.2.2.2.2.2.2.2) hm aVW
def aAh (m95:Y95):Env cxT:={ Kc:=dD [(95,c95 m95)],Kw:=dF [],lv:=λi=>if i=0 then[(0,[some 96]),(6,[some 96]),(7,[]),(8,[])]else[],xv:=λi=>if i=0 then some []else none }
def S45_0 (a0:(List N10))(v0_8:Int):St cxT.ty:={ slots:=[(.inl (.inl (ls { own:=0,nm:=0,e:=96,o:=false,xs:=a0 }))),aK,aK,aK,aK,aK,(.inl (.inl (ls { own:=0,nm:=0,e:=96,o:=false,xs:=a0 }))),(.inl (.inl (lv (.int .i64 (Nat.cast (List.length a0):Int))))),(.inl (.inl (lv (.int .i64 v0_8))))]++List.replicate 21 aK,D:=[],F:=[],ctr:=1 }
def X45_0 (a0:(List N10)):St cxT.ty:={ slots:=[]++List.replicate 30 aK,D:=[],F:=[],ctr:=1 }
def G45 {B:Type}(u:Int->B)(hh0:Int->Option B)(m95:Y95)(a0:(List N10)):Option B:=
 hh0 (0:Int)
def B45_0 {B:Type}(u:Int->B)(gg:Int->Option B)(kk:Option B)(m95:Y95)(a0:(List N10))(v0_8:Int):Option B:=
 bif (decide (v0_8 < (Nat.cast (List.length a0):Int)))then fB (List.getD a0 v0_8.toNat ((0:Int),((0:Int),((0:Int),((0:Int),(([]:List E9),((0:Int),((0:Int),(([]:List (Int)),(([]:List (Int)),([]:List (Int)))))))))))) λs1_0=>bif ((decide ((0:Int)<=v0_8))&&(decide (v0_8 < (Nat.cast (List.length a0):Int))))then dL (m95 (s1_0.1,(s1_0.2.1,(s1_0.2.2.1,(s1_0.2.2.2.1,(s1_0.2.2.2.2.1,(s1_0.2.2.2.2.2.1,(s1_0.2.2.2.2.2.2.1,(s1_0.2.2.2.2.2.2.2.1,(s1_0.2.2.2.2.2.2.2.2.1,s1_0.2.2.2.2.2.2.2.2.2)))))))))) (0:Int) λ(q3:Int)=>bif (q3 != (0:Int))then some (u q3)
    else bif (s1_0.1 != v0_8)then some (u (1:Int))
    else bif (s1_0.2.1 != (Nat.cast (List.length a0):Int))then some (u (1:Int))
    else gg (wrap .i64 (v0_8+(1:Int)))
  else none
 else kk
def A45_0 {B:Type}(u:Int->B)(m95:Y95)(a0:(List N10)):Option B:=
 some (u (0:Int))
def rE (m95:Y95)(L:Nat)(a0:(List N10)):Nat->Int->(Option Int)->Option Int
 | 0,_,_=>none
 | n+1,v0_8,k=>B45_0 (λx=>x) (λv0_8=>rE m95 L a0 n v0_8 k) k m95 a0 v0_8
theorem aJC (m95:Y95)(L:Nat)(a0:(List N10))(k:St cxT.ty->Option (V cxT.ty))(xk:Nat->St cxT.ty->Option (V cxT.ty))(k':Option Int)(hk:k (X45_0 a0)=(k').map n45):∀ (n:Nat) (v0_8:Int),bL prog (aAh m95) L f45 0 [1,0,1,0,0] (cQ (aX prog f45) k xk) n (S45_0 a0 v0_8)=(rE m95 L a0 n v0_8 k').map n45
 | 0,_=>rfl
 | n+1,v0_8=>by
  rw[cG];have ih:=aJC m95 L a0 k xk k' hk n;refine .trans (b:=B45_0 n45 (λv0_8=>(bL prog (aAh m95) L f45 0 [1,0,1,0,0] (cQ (aX prog f45) k xk) n) (S45_0 a0 v0_8)) (k (X45_0 a0)) m95 a0 v0_8) (by kernel_rfl) ?_;unfold rE B45_0
  repeat' first | with_reducible refine eC ?_ ?_ | with_reducible refine eA λ_=>?_ | with_reducible refine eB λ_=>?_ | with_reducible exact ih _ | with_reducible exact hk | exact rfl
def g45 (m95:Y95)(L:Nat)(a0:(List N10)):Option Int:=G45 (λx=>x) (λv0_8=>rE m95 L a0 L v0_8 (A45_0 (λx=>x) m95 a0)) m95 a0
theorem e45 (m95:Y95)(L:Nat)(a0:(List N10)):fP prog (aAh m95) (bO L) f45 (a45.enc a0)=(g45 m95 L a0).map n45:=by
 have hin0:∀ (v0_8:Int),bL prog (aAh m95) L f45 0 [1,0,1,0,0] (cQ (aX prog f45) (cO prog (aAh m95) L f45 [1,0,1] (aX prog f45)).n (cO prog (aAh m95) L f45 [1,0,1] (aX prog f45)).x) L (S45_0 a0 v0_8)=((λv0_8=>rE m95 L a0 L v0_8 (A45_0 (λx=>x) m95 a0)) v0_8).map n45:=λv0_8=>aJC m95 L a0 _ _ _ (by refine .trans (b:=A45_0 n45 m95 a0) (by kernel_rfl) ?_;unfold A45_0;repeat' first | with_reducible refine eC ?_ ?_ | with_reducible refine eA λ_=>?_ | with_reducible refine eB λ_=>?_ | exact rfl) L v0_8
 refine .trans (b:=G45 n45 (λv0_8=>bL prog (aAh m95) L f45 0 [1,0,1,0,0] (cQ (aX prog f45) (cO prog (aAh m95) L f45 [1,0,1] (aX prog f45)).n (cO prog (aAh m95) L f45 [1,0,1] (aX prog f45)).x) L (S45_0 a0 v0_8)) m95 a0) (by kernel_rfl) ?_;unfold g45 G45
 repeat' first | with_reducible refine eC ?_ ?_ | with_reducible refine eA λ_=>?_ | with_reducible refine eB λ_=>?_ | with_reducible exact hin0 _ | exact rfl
def w45 (m95:Y95)(L:Nat)(x:(List N10)):Option Int:=g45 m95 L x
theorem s45 (m95:Y95)(h95:Sat prog cxT 95 (c95 m95))(m:Y45)(hm:∀ (x:(List N10)) t,m x=some t->∃ L,w45 m95 L x=some t):Sat prog cxT 45 (c45 m):=
 cF bD aZ (by rfl) (fn:=f45) rfl a45 n45 aRX m (aAh m95) (aN h95 aY) aR (w45 m95) (λL x=>e45 m95 L x) hm aWi
def aAg (gC:Y48)(lB:Y96):Env cxT:={ Kc:=dD [(48,c48 gC),(96,c96 lB)],Kw:=dF [],lv:=λi=>if i=0 then[(0,[some 96]),(8,[some 78]),(9,[]),(10,[])]else[],xv:=λi=>if i=0 then some []else none }
def S46_0 (a0:(List N10))(a1:(List M9))(v0_10:Int):St cxT.ty:={ slots:=[(.inl (.inl (ls { own:=0,nm:=0,e:=96,o:=false,xs:=a0 }))),aK,aK,aK,aK,aK,aK,aK,(.inl (.inl (ls { own:=0,nm:=0,e:=78,o:=false,xs:=a1 }))),(.inl (.inl (lv (.int .i64 (Nat.cast (List.length a1):Int))))),(.inl (.inl (lv (.int .i64 v0_10))))]++List.replicate 20 aK,D:=[],F:=[],ctr:=1 }
def X46_0 (a0:(List N10))(a1:(List M9)):St cxT.ty:={ slots:=[]++List.replicate 31 aK,D:=[],F:=[],ctr:=1 }
def G46 {B:Type}(u:Int->B)(hh0:Int->Option B)(gC:Y48)(lB:Y96)(a0:(List N10))(a1:(List M9)):Option B:=
 hh0 (0:Int)
def B46_0 {B:Type}(u:Int->B)(gg:Int->Option B)(kk:Option B)(gC:Y48)(lB:Y96)(a0:(List N10))(a1:(List M9))(v0_10:Int):Option B:=
 bif (decide (v0_10 < (Nat.cast (List.length a1):Int)))then fB (List.getD a1 v0_10.toNat ((0:Int),((0:Int),((0:Int),((0:Int),((0:Int),((0:Int),((0:Int),(false,[]))))))))) λs1_0=>fB (List.getD a0 (Int.toNat s1_0.2.2.1) ((0:Int),((0:Int),((0:Int),((0:Int),(([]:List E9),((0:Int),((0:Int),(([]:List (Int)),(([]:List (Int)),([]:List (Int)))))))))))) λs1_1=>bif ((decide ((0:Int)<=v0_10))&&(decide (v0_10 < (Nat.cast (List.length a1):Int))))then dL (gC (s1_0.2.2.1,(Nat.cast (List.length a0):Int))) false λ(q3:Bool)=>bif (!q3)then some (u (3:Int))
    else bif ((decide ((0:Int)<=s1_0.2.2.1))&&(decide (s1_0.2.2.1 < (Nat.cast (List.length a0):Int))))then dL (lB ((s1_1.1,(s1_1.2.1,(s1_1.2.2.1,(s1_1.2.2.2.1,(s1_1.2.2.2.2.1,(s1_1.2.2.2.2.2.1,(s1_1.2.2.2.2.2.2.1,(s1_1.2.2.2.2.2.2.2.1,(s1_1.2.2.2.2.2.2.2.2.1,s1_1.2.2.2.2.2.2.2.2.2))))))))),(s1_0.1,(s1_0.2.1,(s1_0.2.2.1,(s1_0.2.2.2.1,(s1_0.2.2.2.2.1,(s1_0.2.2.2.2.2.1,(s1_0.2.2.2.2.2.2.1,(s1_0.2.2.2.2.2.2.2.1,s1_0.2.2.2.2.2.2.2.2)))))))))) (0:Int) λ(q5:Int)=>bif (q5 != (0:Int))then some (u q5)
      else gg (wrap .i64 (v0_10+(1:Int)))
    else none
  else none
 else kk
def A46_0 {B:Type}(u:Int->B)(gC:Y48)(lB:Y96)(a0:(List N10))(a1:(List M9)):Option B:=
 some (u (0:Int))
def pM (gC:Y48)(lB:Y96)(L:Nat)(a0:(List N10))(a1:(List M9)):Nat->Int->(Option Int)->Option Int
 | 0,_,_=>none
 | n+1,v0_10,k=>B46_0 (λx=>x) (λv0_10=>pM gC lB L a0 a1 n v0_10 k) k gC lB a0 a1 v0_10
theorem aJB (gC:Y48)(lB:Y96)(L:Nat)(a0:(List N10))(a1:(List M9))(k:St cxT.ty->Option (V cxT.ty))(xk:Nat->St cxT.ty->Option (V cxT.ty))(k':Option Int)(hk:k (X46_0 a0 a1)=(k').map n46):∀ (n:Nat) (v0_10:Int),bL prog (aAg gC lB) L f46 0 [1,0,1,0,0] (cQ (aX prog f46) k xk) n (S46_0 a0 a1 v0_10)=(pM gC lB L a0 a1 n v0_10 k').map n46
 | 0,_=>rfl
 | n+1,v0_10=>by
  rw[cG];have ih:=aJB gC lB L a0 a1 k xk k' hk n;refine .trans (b:=B46_0 n46 (λv0_10=>(bL prog (aAg gC lB) L f46 0 [1,0,1,0,0] (cQ (aX prog f46) k xk) n) (S46_0 a0 a1 v0_10)) (k (X46_0 a0 a1)) gC lB a0 a1 v0_10) (by kernel_rfl) ?_;unfold pM B46_0
  repeat' first | with_reducible refine eC ?_ ?_ | with_reducible refine eA λ_=>?_ | with_reducible refine eB λ_=>?_ | with_reducible exact ih _ | with_reducible exact hk | exact rfl
def g46 (gC:Y48)(lB:Y96)(L:Nat)(a0:(List N10))(a1:(List M9)):Option Int:=G46 (λx=>x) (λv0_10=>pM gC lB L a0 a1 L v0_10 (A46_0 (λx=>x) gC lB a0 a1)) gC lB a0 a1
theorem e46 (gC:Y48)(lB:Y96)(L:Nat)(a0:(List N10))(a1:(List M9)):fP prog (aAg gC lB) (bO L) f46 (a46.enc (a0,a1))=(g46 gC lB L a0 a1).map n46:=by
 have hin0:∀ (v0_10:Int),bL prog (aAg gC lB) L f46 0 [1,0,1,0,0] (cQ (aX prog f46) (cO prog (aAg gC lB) L f46 [1,0,1] (aX prog f46)).n (cO prog (aAg gC lB) L f46 [1,0,1] (aX prog f46)).x) L (S46_0 a0 a1 v0_10)=((λv0_10=>pM gC lB L a0 a1 L v0_10 (A46_0 (λx=>x) gC lB a0 a1)) v0_10).map n46:=λv0_10=>aJB gC lB L a0 a1 _ _ _ (by refine .trans (b:=A46_0 n46 gC lB a0 a1) (by kernel_rfl) ?_;unfold A46_0;repeat' first | with_reducible refine eC ?_ ?_ | with_reducible refine eA λ_=>?_ | with_reducible refine eB λ_=>?_ | exact rfl) L v0_10
 refine .trans (b:=G46 n46 (λv0_10=>bL prog (aAg gC lB) L f46 0 [1,0,1,0,0] (cQ (aX prog f46) (cO prog (aAg gC lB) L f46 [1,0,1] (aX prog f46)).n (cO prog (aAg gC lB) L f46 [1,0,1] (aX prog f46)).x) L (S46_0 a0 a1 v0_10)) gC lB a0 a1) (by kernel_rfl) ?_;unfold g46 G46
 repeat' first | with_reducible refine eC ?_ ?_ | with_reducible refine eA λ_=>?_ | with_reducible refine eB λ_=>?_ | with_reducible exact hin0 _ | exact rfl
def w46 (gC:Y48)(lB:Y96)(L:Nat)(x:((List N10)×(List M9))):Option Int:=g46 gC lB L x.1 x.2
theorem s46 (gC:Y48)(lB:Y96)(h48:Sat prog cxT 48 (c48 gC))(h96:Sat prog cxT 96 (c96 lB))(m:Y46)(hm:∀ (x:((List N10)×(List M9))) t,m x=some t->∃ L,w46 gC lB L x=some t):Sat prog cxT 46 (c46 m):=
 cF bD aZ (by rfl) (fn:=f46) rfl a46 n46 aRW m (aAg gC lB) (aN h48 (aN h96 aY)) aR (w46 gC lB) (λL x=>e46 gC lB L x.1 x.2) hm aWh
def aAf (dZ:Y47)(m97:Y97):Env cxT:={ Kc:=dD [(47,c47 dZ),(97,c97 m97)],Kw:=dF [],lv:=λi=>if i=0 then[(6,[some 118]),(7,[]),(8,[])]else[],xv:=λi=>if i=0 then some []else none }
def S49_0 (a0:(List S10))(v0_8:Int):St cxT.ty:={ slots:=[aK,aK,aK,aK,aK,aK,(.inl (.inl (ls { own:=0,nm:=0,e:=118,o:=false,xs:=a0 }))),(.inl (.inl (lv (.int .i64 (Nat.cast (List.length a0):Int))))),(.inl (.inl (lv (.int .i64 v0_8))))]++List.replicate 14 aK,D:=[],F:=[],ctr:=1 }
def X49_0 (a0:(List S10)):St cxT.ty:={ slots:=[]++List.replicate 23 aK,D:=[],F:=[],ctr:=1 }
def G49 {B:Type}(u:Int->B)(hh0:Int->Option B)(dZ:Y47)(m97:Y97)(a0:(List S10)):Option B:=
 hh0 (0:Int)
def B49_0 {B:Type}(u:Int->B)(gg:Int->Option B)(kk:Option B)(dZ:Y47)(m97:Y97)(a0:(List S10))(v0_8:Int):Option B:=
 bif (decide (v0_8 < (Nat.cast (List.length a0):Int)))then fB (List.getD a0 v0_8.toNat ((0:Int),((0:Int),((0:Int),((0:Int),((0:Int),((0:Int),((0:Int),((0:Int),((0:Int),(0:Int))))))))))) λs1_0=>bif ((decide ((0:Int)<=v0_8))&&(decide (v0_8 < (Nat.cast (List.length a0):Int))))then dL (dZ s1_0.1) false λ(q3:Bool)=>bif (!q3)then some (u (3:Int))
    else dL (m97 (s1_0.2.1,(s1_0.2.2.1,(s1_0.2.2.2.1,(s1_0.2.2.2.2.1,(s1_0.2.2.2.2.2.1,(s1_0.2.2.2.2.2.2.1,(s1_0.2.2.2.2.2.2.2.1,(s1_0.2.2.2.2.2.2.2.2.1,s1_0.2.2.2.2.2.2.2.2.2))))))))) (0:Int) λ(q4:Int)=>bif (q4 != (0:Int))then some (u q4)
     else gg (wrap .i64 (v0_8+(1:Int)))
  else none
 else kk
def A49_0 {B:Type}(u:Int->B)(dZ:Y47)(m97:Y97)(a0:(List S10)):Option B:=
 some (u (0:Int))
def rD (dZ:Y47)(m97:Y97)(L:Nat)(a0:(List S10)):Nat->Int->(Option Int)->Option Int
 | 0,_,_=>none
 | n+1,v0_8,k=>B49_0 (λx=>x) (λv0_8=>rD dZ m97 L a0 n v0_8 k) k dZ m97 a0 v0_8
theorem aJA (dZ:Y47)(m97:Y97)(L:Nat)(a0:(List S10))(k:St cxT.ty->Option (V cxT.ty))(xk:Nat->St cxT.ty->Option (V cxT.ty))(k':Option Int)(hk:k (X49_0 a0)=(k').map n49):∀ (n:Nat) (v0_8:Int),bL prog (aAf dZ m97) L f49 0 [1,0,1,0,0] (cQ (aX prog f49) k xk) n (S49_0 a0 v0_8)=(rD dZ m97 L a0 n v0_8 k').map n49
 | 0,_=>rfl
 | n+1,v0_8=>by
  rw[cG];have ih:=aJA dZ m97 L a0 k xk k' hk n;refine .trans (b:=B49_0 n49 (λv0_8=>(bL prog (aAf dZ m97) L f49 0 [1,0,1,0,0] (cQ (aX prog f49) k xk) n) (S49_0 a0 v0_8)) (k (X49_0 a0)) dZ m97 a0 v0_8) (by kernel_rfl) ?_;unfold rD B49_0
  repeat' first | with_reducible refine eC ?_ ?_ | with_reducible refine eA λ_=>?_ | with_reducible refine eB λ_=>?_ | with_reducible exact ih _ | with_reducible exact hk | exact rfl
def g49 (dZ:Y47)(m97:Y97)(L:Nat)(a0:(List S10)):Option Int:=G49 (λx=>x) (λv0_8=>rD dZ m97 L a0 L v0_8 (A49_0 (λx=>x) dZ m97 a0)) dZ m97 a0
theorem e49 (dZ:Y47)(m97:Y97)(L:Nat)(a0:(List S10)):fP prog (aAf dZ m97) (bO L) f49 (a49.enc a0)=(g49 dZ m97 L a0).map n49:=by
 have hin0:∀ (v0_8:Int),bL prog (aAf dZ m97) L f49 0 [1,0,1,0,0] (cQ (aX prog f49) (cO prog (aAf dZ m97) L f49 [1,0,1] (aX prog f49)).n (cO prog (aAf dZ m97) L f49 [1,0,1] (aX prog f49)).x) L (S49_0 a0 v0_8)=((λv0_8=>rD dZ m97 L a0 L v0_8 (A49_0 (λx=>x) dZ m97 a0)) v0_8).map n49:=λv0_8=>aJA dZ m97 L a0 _ _ _ (by refine .trans (b:=A49_0 n49 dZ m97 a0) (by kernel_rfl) ?_;unfold A49_0;repeat' first | with_reducible refine eC ?_ ?_ | with_reducible refine eA λ_=>?_ | with_reducible refine eB λ_=>?_ | exact rfl) L v0_8
 refine .trans (b:=G49 n49 (λv0_8=>bL prog (aAf dZ m97) L f49 0 [1,0,1,0,0] (cQ (aX prog f49) (cO prog (aAf dZ m97) L f49 [1,0,1] (aX prog f49)).n (cO prog (aAf dZ m97) L f49 [1,0,1] (aX prog f49)).x) L (S49_0 a0 v0_8)) dZ m97 a0) (by kernel_rfl) ?_;unfold g49 G49
 repeat' first | with_reducible refine eC ?_ ?_ | with_reducible refine eA λ_=>?_ | with_reducible refine eB λ_=>?_ | with_reducible exact hin0 _ | exact rfl
def w49 (dZ:Y47)(m97:Y97)(L:Nat)(x:(List S10)):Option Int:=g49 dZ m97 L x
theorem s49 (dZ:Y47)(m97:Y97)(h47:Sat prog cxT 47 (c47 dZ))(h97:Sat prog cxT 97 (c97 m97))(m:Y49)(hm:∀ (x:(List S10)) t,m x=some t->∃ L,w49 dZ m97 L x=some t):Sat prog cxT 49 (c49 m):=
 cF bD aZ (by rfl) (fn:=f49) rfl a49 n49 aRT m (aAf dZ m97) (aN h47 (aN h97 aY)) aR (w49 dZ m97) (λL x=>e49 dZ m97 L x) hm aWe
def aAo (iQ:Y44)(lN:Y45)(lM:Y46)(dZ:Y47)(gC:Y48)(lG:Y49):Env cxT:={ Kc:=dD [(44,c44 iQ),(45,c45 lN),(46,c46 lM),(47,c47 dZ),(48,c48 gC),(49,c49 lG)],Kw:=dF [],lv:=λi=>if i=0 then[(1,[some 96,some 78,some 66,some 118]),(43,[some 66]),(44,[]),(45,[])]else[],xv:=λi=>if i=0 then some [(1,[some 96,some 78,some 66,some 118])]else none }
def S14_0 (a0_0:(List N10))(a0_1:(List M9))(a0_2:(List W2))(a0_3:(List S10))(v0_1_0:(List N10))(v0_1_1:(List M9))(v0_1_2:(List W2))(v0_1_3:(List S10))(v0_45:Int):St cxT.ty:={ slots:=[aK,(.inr (.inr { kind:=0,nm:=64,cells:=[(ls { own:=0,nm:=0,e:=96,o:=false,xs:=v0_1_0 }),(ls { own:=0,nm:=0,e:=78,o:=false,xs:=v0_1_1 }),(ls { own:=0,nm:=0,e:=66,o:=false,xs:=v0_1_2 }),(ls { own:=0,nm:=0,e:=118,o:=false,xs:=v0_1_3 })],s:={ own:=0,nm:=0,e:=0,o:=false,xs:=([]:List (PUnit)) },i:=0,off:=0 })),aK,aK,aK,aK,aK,aK,aK,aK,aK,aK,aK,aK,aK,aK,aK,aK,aK,aK,aK,aK,aK,aK,aK,aK,aK,aK,aK,aK,aK,aK,aK,aK,aK,aK,aK,aK,aK,aK,aK,aK,aK,(.inl (.inl (ls { own:=0,nm:=0,e:=66,o:=false,xs:=a0_2 }))),(.inl (.inl (lv (.int .i64 (Nat.cast (List.length a0_2):Int))))),(.inl (.inl (lv (.int .i64 v0_45))))]++List.replicate 20 aK,D:=[],F:=[],ctr:=1 }
def X14_0 (a0_0:(List N10))(a0_1:(List M9))(a0_2:(List W2))(a0_3:(List S10))(w0_1_0:(List N10))(w0_1_1:(List M9))(w0_1_2:(List W2))(w0_1_3:(List S10)):St cxT.ty:={ slots:=[aK,(.inr (.inr { kind:=0,nm:=64,cells:=[(ls { own:=0,nm:=0,e:=96,o:=false,xs:=w0_1_0 }),(ls { own:=0,nm:=0,e:=78,o:=false,xs:=w0_1_1 }),(ls { own:=0,nm:=0,e:=66,o:=false,xs:=w0_1_2 }),(ls { own:=0,nm:=0,e:=118,o:=false,xs:=w0_1_3 })],s:={ own:=0,nm:=0,e:=0,o:=false,xs:=([]:List (PUnit)) },i:=0,off:=0 }))]++List.replicate 64 aK,D:=[],F:=[],ctr:=1 }
def G14 {B:Type}(u:Int->B)(hh0:(List N10)->(List M9)->(List W2)->(List S10)->Int->Option B)(iQ:Y44)(lN:Y45)(lM:Y46)(dZ:Y47)(gC:Y48)(lG:Y49)(a0_0:(List N10))(a0_1:(List M9))(a0_2:(List W2))(a0_3:(List S10)):Option B:=
 dL (iQ (Nat.cast (List.length a0_0):Int)) false λ(q1:Bool)=>bif (!q1)then some (u (2:Int))
  else bif (decide ((Nat.cast (List.length a0_1):Int) > (80:Int)))then some (u (2:Int))
  else dL (lN a0_0) (0:Int) λ(q2:Int)=>bif (q2 != (0:Int))then some (u q2)
   else dL (lM (a0_0,a0_1)) (0:Int) λ(q3:Int)=>bif (q3 != (0:Int))then some (u q3)
    else bif (decide ((Nat.cast (List.length a0_2):Int) > (400:Int)))then some (u (2:Int))
    else bif (decide ((Nat.cast (List.length a0_3):Int) > (40:Int)))then some (u (2:Int))
    else hh0 a0_0 a0_1 a0_2 a0_3 (0:Int)
def B14_0 {B:Type}(u:Int->B)(gg:(List N10)->(List M9)->(List W2)->(List S10)->Int->Option B)(kk:(List N10)->(List M9)->(List W2)->(List S10)->Option B)(iQ:Y44)(lN:Y45)(lM:Y46)(dZ:Y47)(gC:Y48)(lG:Y49)(a0_0:(List N10))(a0_1:(List M9))(a0_2:(List W2))(a0_3:(List S10))(v0_1_0:(List N10))(v0_1_1:(List M9))(v0_1_2:(List W2))(v0_1_3:(List S10))(v0_45:Int):Option B:=
 bif (decide (v0_45 < (Nat.cast (List.length a0_2):Int)))then fB (List.getD a0_2 v0_45.toNat ((0:Int),(0:Int))) λs1_0=>bif ((decide ((0:Int)<=v0_45))&&(decide (v0_45 < (Nat.cast (List.length a0_2):Int))))then dL (dZ s1_0.1) false λ(q3:Bool)=>bif (!q3)then some (u (3:Int))
    else dL (gC (s1_0.2,(Nat.cast (List.length v0_1_0):Int))) false λ(q4:Bool)=>bif (!q4)then some (u (3:Int))
     else gg v0_1_0 v0_1_1 v0_1_2 v0_1_3 (wrap .i64 (v0_45+(1:Int)))
  else none
 else kk v0_1_0 v0_1_1 v0_1_2 v0_1_3
def A14_0 {B:Type}(u:Int->B)(iQ:Y44)(lN:Y45)(lM:Y46)(dZ:Y47)(gC:Y48)(lG:Y49)(a0_0:(List N10))(a0_1:(List M9))(a0_2:(List W2))(a0_3:(List S10))(w0_1_0:(List N10))(w0_1_1:(List M9))(w0_1_2:(List W2))(w0_1_3:(List S10)):Option B:=
 dL (lG w0_1_3) (0:Int) λ(q1:Int)=>some (u q1)
def rF (iQ:Y44)(lN:Y45)(lM:Y46)(dZ:Y47)(gC:Y48)(lG:Y49)(L:Nat)(a0_0:(List N10))(a0_1:(List M9))(a0_2:(List W2))(a0_3:(List S10)):Nat->(List N10)->(List M9)->(List W2)->(List S10)->Int->((List N10)->(List M9)->(List W2)->(List S10)->Option Int)->Option Int
 | 0,_,_,_,_,_,_=>none
 | n+1,v0_1_0,v0_1_1,v0_1_2,v0_1_3,v0_45,k=>B14_0 (λx=>x) (λv0_1_0 v0_1_1 v0_1_2 v0_1_3 v0_45=>rF iQ lN lM dZ gC lG L a0_0 a0_1 a0_2 a0_3 n v0_1_0 v0_1_1 v0_1_2 v0_1_3 v0_45 k) k iQ lN lM dZ gC lG a0_0 a0_1 a0_2 a0_3 v0_1_0 v0_1_1 v0_1_2 v0_1_3 v0_45
theorem aJN (iQ:Y44)(lN:Y45)(lM:Y46)(dZ:Y47)(gC:Y48)(lG:Y49)(L:Nat)(a0_0:(List N10))(a0_1:(List M9))(a0_2:(List W2))(a0_3:(List S10))(k:St cxT.ty->Option (V cxT.ty))(xk:Nat->St cxT.ty->Option (V cxT.ty))(k':(List N10)->(List M9)->(List W2)->(List S10)->Option Int)(hk:∀ (w0_1_0:(List N10)) (w0_1_1:(List M9)) (w0_1_2:(List W2)) (w0_1_3:(List S10)),k (X14_0 a0_0 a0_1 a0_2 a0_3 w0_1_0 w0_1_1 w0_1_2 w0_1_3)=(k' w0_1_0 w0_1_1 w0_1_2 w0_1_3).map n14):∀ (n:Nat) (v0_1_0:(List N10)) (v0_1_1:(List M9)) (v0_1_2:(List W2)) (v0_1_3:(List S10)) (v0_45:Int),bL prog (aAo iQ lN lM dZ gC lG) L f14 0 [1,1,1,1,1,0,1,0,0] (cQ (aX prog f14) k xk) n (S14_0 a0_0 a0_1 a0_2 a0_3 v0_1_0 v0_1_1 v0_1_2 v0_1_3 v0_45)=(rF iQ lN lM dZ gC lG L a0_0 a0_1 a0_2 a0_3 n v0_1_0 v0_1_1 v0_1_2 v0_1_3 v0_45 k').map n14
 | 0,_,_,_,_,_=>rfl
 | n+1,v0_1_0,v0_1_1,v0_1_2,v0_1_3,v0_45=>by
  rw[cG];have ih:=aJN iQ lN lM dZ gC lG L a0_0 a0_1 a0_2 a0_3 k xk k' hk n;refine .trans (b:=B14_0 n14 (λv0_1_0 v0_1_1 v0_1_2 v0_1_3 v0_45=>(bL prog (aAo iQ lN lM dZ gC lG) L f14 0 [1,1,1,1,1,0,1,0,0] (cQ (aX prog f14) k xk) n) (S14_0 a0_0 a0_1 a0_2 a0_3 v0_1_0 v0_1_1 v0_1_2 v0_1_3 v0_45)) (λw0_1_0 w0_1_1 w0_1_2 w0_1_3=>k (X14_0 a0_0 a0_1 a0_2 a0_3 w0_1_0 w0_1_1 w0_1_2 w0_1_3)) iQ lN lM dZ gC lG a0_0 a0_1 a0_2 a0_3 v0_1_0 v0_1_1 v0_1_2 v0_1_3 v0_45) (by kernel_rfl) ?_;unfold rF B14_0
  repeat' first | with_reducible refine eC ?_ ?_ | with_reducible refine eA λ_=>?_ | with_reducible refine eB λ_=>?_ | with_reducible exact ih _ _ _ _ _ | with_reducible exact hk _ _ _ _ | exact rfl
def g14 (iQ:Y44)(lN:Y45)(lM:Y46)(dZ:Y47)(gC:Y48)(lG:Y49)(L:Nat)(a0_0:(List N10))(a0_1:(List M9))(a0_2:(List W2))(a0_3:(List S10)):Option Int:=G14 (λx=>x) (λv0_1_0 v0_1_1 v0_1_2 v0_1_3 v0_45=>rF iQ lN lM dZ gC lG L a0_0 a0_1 a0_2 a0_3 L v0_1_0 v0_1_1 v0_1_2 v0_1_3 v0_45 (λw0_1_0 w0_1_1 w0_1_2 w0_1_3=>A14_0 (λx=>x) iQ lN lM dZ gC lG a0_0 a0_1 a0_2 a0_3 w0_1_0 w0_1_1 w0_1_2 w0_1_3)) iQ lN lM dZ gC lG a0_0 a0_1 a0_2 a0_3
theorem e14 (iQ:Y44)(lN:Y45)(lM:Y46)(dZ:Y47)(gC:Y48)(lG:Y49)(L:Nat)(a0_0:(List N10))(a0_1:(List M9))(a0_2:(List W2))(a0_3:(List S10)):fP prog (aAo iQ lN lM dZ gC lG) (bO L) f14 (a14.enc (a0_0,a0_1,a0_2,a0_3))=(g14 iQ lN lM dZ gC lG L a0_0 a0_1 a0_2 a0_3).map n14:=by
 have hin0:∀ (v0_1_0:(List N10)) (v0_1_1:(List M9)) (v0_1_2:(List W2)) (v0_1_3:(List S10)) (v0_45:Int),bL prog (aAo iQ lN lM dZ gC lG) L f14 0 [1,1,1,1,1,0,1,0,0] (cQ (aX prog f14) (cO prog (aAo iQ lN lM dZ gC lG) L f14 [1,1,1,1,1,0,1] (aX prog f14)).n (cO prog (aAo iQ lN lM dZ gC lG) L f14 [1,1,1,1,1,0,1] (aX prog f14)).x) L (S14_0 a0_0 a0_1 a0_2 a0_3 v0_1_0 v0_1_1 v0_1_2 v0_1_3 v0_45)=((λv0_1_0 v0_1_1 v0_1_2 v0_1_3 v0_45=>rF iQ lN lM dZ gC lG L a0_0 a0_1 a0_2 a0_3 L v0_1_0 v0_1_1 v0_1_2 v0_1_3 v0_45 (λw0_1_0 w0_1_1 w0_1_2 w0_1_3=>A14_0 (λx=>x) iQ lN lM dZ gC lG a0_0 a0_1 a0_2 a0_3 w0_1_0 w0_1_1 w0_1_2 w0_1_3)) v0_1_0 v0_1_1 v0_1_2 v0_1_3 v0_45).map n14:=λv0_1_0 v0_1_1 v0_1_2 v0_1_3 v0_45=>aJN iQ lN lM dZ gC lG L a0_0 a0_1 a0_2 a0_3 _ _ _ (λw0_1_0 w0_1_1 w0_1_2 w0_1_3=>by refine .trans (b:=A14_0 n14 iQ lN lM dZ gC lG a0_0 a0_1 a0_2 a0_3 w0_1_0 w0_1_1 w0_1_2 w0_1_3) (by kernel_rfl) ?_;unfold A14_0;repeat' first | with_reducible refine eC ?_ ?_ | with_reducible refine eA λ_=>?_ | with_reducible refine eB λ_=>?_ | exact rfl) L v0_1_0 v0_1_1 v0_1_2 v0_1_3 v0_45
 refine .trans (b:=G14 n14 (λv0_1_0 v0_1_1 v0_1_2 v0_1_3 v0_45=>bL prog (aAo iQ lN lM dZ gC lG) L f14 0 [1,1,1,1,1,0,1,0,0] (cQ (aX prog f14) (cO prog (aAo iQ lN lM dZ gC lG) L f14 [1,1,1,1,1,0,1] (aX prog f14)).n (cO prog (aAo iQ lN lM dZ gC lG) L f14 [1,1,1,1,1,0,1] (aX prog f14)).x) L (S14_0 a0_0 a0_1 a0_2 a0_3 v0_1_0 v0_1_1 v0_1_2 v0_1_3 v0_45)) iQ lN lM dZ gC lG a0_0 a0_1 a0_2 a0_3) (by kernel_rfl) ?_;unfold g14 G14
 repeat' first | with_reducible refine eC ?_ ?_ | with_reducible refine eA λ_=>?_ | with_reducible refine eB λ_=>?_ | with_reducible exact hin0 _ _ _ _ _ | exact rfl
def w14 (iQ:Y44)(lN:Y45)(lM:Y46)(dZ:Y47)(gC:Y48)(lG:Y49)(L:Nat)(x:C4):Option Int:=g14 iQ lN lM dZ gC lG L x.1 x.2.1 x.2.2.1 x.2.2.2
theorem s14 (iQ:Y44)(lN:Y45)(lM:Y46)(dZ:Y47)(gC:Y48)(lG:Y49)(h44:Sat prog cxT 44 (c44 iQ))(h45:Sat prog cxT 45 (c45 lN))(h46:Sat prog cxT 46 (c46 lM))(h47:Sat prog cxT 47 (c47 dZ))(h48:Sat prog cxT 48 (c48 gC))(h49:Sat prog cxT 49 (c49 lG))(m:Y14)(hm:∀ (x:C4) t,m x=some t->∃ L,w14 iQ lN lM dZ gC lG L x=some t):Sat prog cxT 14 (c14 m):=
 cF bD aZ (by rfl) (fn:=f14) rfl a14 n14 aSb m (aAo iQ lN lM dZ gC lG) (aN h44 (aN h45 (aN h46 (aN h47 (aN h48 (aN h49 aY)))))) aR (w14 iQ lN lM dZ gC lG) (λL x=>e14 iQ lN lM dZ gC lG L x.1 x.2.1 x.2.2.1 x.2.2.2) hm aWv
end Go.Proofs.Tryz
