/- A part of the proof of FnExactCopyMail: LiFg, LiFh. -/
import Derived.Test.YtalbnpcbmakijaaGreatLiBase
set_option linter.unusedSimpArgs false
set_option linter.unusedVariables false
set_option maxHeartbeats 0
set_option maxRecDepth 100000
namespace Go.Proofs.Tryz
open Go.IntKind (wrap)
open Go Go.VM Go.RowKit
def aWL:Env cxT:={ Kc:=cS [],Kw:=cR [],lv:=λi=>[],xv:=λi=>none }
def G94 {B:Type}(u:Bool->B)(a0:Int)(a1:Int)(a2:Int):Option B:=
 bif (decide (a0>=a1))then some (u (decide (a0<=a2)))
 else some (u false)
def g94 (L:Nat)(a0:Int)(a1:Int)(a2:Int):Option Bool:=G94 (λx=>x) a0 a1 a2
theorem e94 (L:Nat)(a0:Int)(a1:Int)(a2:Int):fK prog aWL (bJ L) f94 (a94.enc (a0,a1,a2))=(g94 L a0 a1 a2).map n94:=by
 refine .trans (b:=G94 n94 a0 a1 a2) (by kernel_rfl) ?_;unfold g94 G94
 repeat' first | with_reducible refine dP ?_ ?_ | with_reducible refine dL λ_=>?_ | with_reducible refine dO λ_=>?_ | exact rfl
def w94 (L:Nat)(x:(Int×Int×Int)):Option Bool:=g94 L x.1 x.2.1 x.2.2
theorem s94 (m:Y94)(hm:∀ (x:(Int×Int×Int)) t,m x=some t->∃ L,w94 L x=some t):Sat prog cxT 94 (c94 m):=
 cD bA aW (by rfl) (fn:=f94) rfl a94 n94 aXy m aWL aV aP (w94) (λL x=>e94 L x.1 x.2.1 x.2.2) hm bCO
def aW3 (eM:Y94):Env cxT:={ Kc:=cS [(94,c94 eM)],Kw:=cR [],lv:=λi=>[],xv:=λi=>none }
def G44 {B:Type}(u:Bool->B)(eM:Y94)(a0:Int):Option B:=
 dB (eM (a0,((1:Int),(5:Int)))) false λ(q1:Bool)=>some (u q1)
def g44 (eM:Y94)(L:Nat)(a0:Int):Option Bool:=G44 (λx=>x) eM a0
theorem e44 (eM:Y94)(L:Nat)(a0:Int):fK prog (aW3 eM) (bJ L) f44 (a44.enc a0)=(g44 eM L a0).map n44:=by
 refine .trans (b:=G44 n44 eM a0) (by kernel_rfl) ?_;unfold g44 G44
 repeat' first | with_reducible refine dP ?_ ?_ | with_reducible refine dL λ_=>?_ | with_reducible refine dO λ_=>?_ | exact rfl
def w44 (eM:Y94)(L:Nat)(x:Int):Option Bool:=g44 eM L x
theorem s44 (eM:Y94)(h94:Sat prog cxT 94 (c94 eM))(m:Y44)(hm:∀ (x:Int) t,m x=some t->∃ L,w44 eM L x=some t):Sat prog cxT 44 (c44 m):=
 cD bA aW (by rfl) (fn:=f44) rfl a44 n44 aX5 m (aW3 eM) (aL h94 aV) aP (w44 eM) (λL x=>e44 eM L x) hm bDk
def aW2:Env cxT:={ Kc:=cS [],Kw:=cR [],lv:=λi=>[],xv:=λi=>none }
def G47 {B:Type}(u:Bool->B)(a0:Int):Option B:=
 bif (decide (a0>=(1:Int)))then some (u (decide (a0<=(100000:Int))))
 else some (u false)
def g47 (L:Nat)(a0:Int):Option Bool:=G47 (λx=>x) a0
theorem e47 (L:Nat)(a0:Int):fK prog aW2 (bJ L) f47 (a47.enc a0)=(g47 L a0).map n47:=by
 refine .trans (b:=G47 n47 a0) (by kernel_rfl) ?_;unfold g47 G47
 repeat' first | with_reducible refine dP ?_ ?_ | with_reducible refine dL λ_=>?_ | with_reducible refine dO λ_=>?_ | exact rfl
def w47 (L:Nat)(x:Int):Option Bool:=g47 L x
theorem s47 (m:Y47)(hm:∀ (x:Int) t,m x=some t->∃ L,w47 L x=some t):Sat prog cxT 47 (c47 m):=
 cD bA aW (by rfl) (fn:=f47) rfl a47 n47 aX2 m aW2 aV aP (w47) (λL x=>e47 L x) hm bDh
def aW1 (eM:Y94):Env cxT:={ Kc:=cS [(94,c94 eM)],Kw:=cR [],lv:=λi=>[],xv:=λi=>none }
def G48 {B:Type}(u:Bool->B)(eM:Y94)(a0:Int)(a1:Int):Option B:=
 dB (eM (a0,((0:Int),(wrap .i64 (a1-(1:Int)))))) false λ(q1:Bool)=>some (u q1)
def g48 (eM:Y94)(L:Nat)(a0:Int)(a1:Int):Option Bool:=G48 (λx=>x) eM a0 a1
theorem e48 (eM:Y94)(L:Nat)(a0:Int)(a1:Int):fK prog (aW1 eM) (bJ L) f48 (a48.enc (a0,a1))=(g48 eM L a0 a1).map n48:=by
 refine .trans (b:=G48 n48 eM a0 a1) (by kernel_rfl) ?_;unfold g48 G48
 repeat' first | with_reducible refine dP ?_ ?_ | with_reducible refine dL λ_=>?_ | with_reducible refine dO λ_=>?_ | exact rfl
def w48 (eM:Y94)(L:Nat)(x:(Int×Int)):Option Bool:=g48 eM L x.1 x.2
theorem s48 (eM:Y94)(h94:Sat prog cxT 94 (c94 eM))(m:Y48)(hm:∀ (x:(Int×Int)) t,m x=some t->∃ L,w48 eM L x=some t):Sat prog cxT 48 (c48 m):=
 cD bA aW (by rfl) (fn:=f48) rfl a48 n48 aX1 m (aW1 eM) (aL h94 aV) aP (w48 eM) (λL x=>e48 eM L x.1 x.2) hm bDg
def aOl:Env cxT:={ Kc:=cS [],Kw:=cR [],lv:=λi=>[],xv:=λi=>none }
def G143 {B:Type}(u:Bool->B)(a0:Int)(a1:Int):Option B:=
 bif (decide (a0>=(0:Int)))then some (u (decide (a0 < a1)))
 else some (u false)
def aKD (L:Nat)(a0:Int)(a1:Int):Option Bool:=G143 (λx=>x) a0 a1
theorem bEW (L:Nat)(a0:Int)(a1:Int):fK prog aOl (bJ L) f143 (aZK.enc (a0,a1))=(aKD L a0 a1).map aH7:=by
 refine .trans (b:=G143 aH7 a0 a1) (by kernel_rfl) ?_;unfold aKD G143
 repeat' first | with_reducible refine dP ?_ ?_ | with_reducible refine dL λ_=>?_ | with_reducible refine dO λ_=>?_ | exact rfl
def aP7 (L:Nat)(x:(Int×Int)):Option Bool:=aKD L x.1 x.2
theorem bB2 (m:Y143)(hm:∀ (x:(Int×Int)) t,m x=some t->∃ L,aP7 L x=some t):Sat prog cxT 143 (aCF m):=
 cD bA aW (by rfl) (fn:=f143) rfl aZK aH7 aPk m aOl aV aP (aP7) (λL x=>bEW L x.1 x.2) hm aVI
def aOk (eN:Y47):Env cxT:={ Kc:=cS [(47,c47 eN)],Kw:=cR [],lv:=λi=>[],xv:=λi=>none }
def G144 {B:Type}(u:Bool->B)(eN:Y47)(a0:Int):Option B:=
 bif (a0 == (0:Int))then some (u true)
 else dB (eN a0) false λ(q1:Bool)=>some (u q1)
def aKC (eN:Y47)(L:Nat)(a0:Int):Option Bool:=G144 (λx=>x) eN a0
theorem bEV (eN:Y47)(L:Nat)(a0:Int):fK prog (aOk eN) (bJ L) f144 (aZJ.enc a0)=(aKC eN L a0).map aH6:=by
 refine .trans (b:=G144 aH6 eN a0) (by kernel_rfl) ?_;unfold aKC G144
 repeat' first | with_reducible refine dP ?_ ?_ | with_reducible refine dL λ_=>?_ | with_reducible refine dO λ_=>?_ | exact rfl
def aP6 (eN:Y47)(L:Nat)(x:Int):Option Bool:=aKC eN L x
theorem bB1 (eN:Y47)(h47:Sat prog cxT 47 (c47 eN))(m:Y144)(hm:∀ (x:Int) t,m x=some t->∃ L,aP6 eN L x=some t):Sat prog cxT 144 (aMQ m):=
 cD bA aW (by rfl) (fn:=f144) rfl aZJ aH6 aPj m (aOk eN) (aL h47 aV) aP (aP6 eN) (λL x=>bEV eN L x) hm aVH
def aOj (dH:Y143):Env cxT:={ Kc:=cS [(143,aCF dH)],Kw:=cR [],lv:=λi=>[],xv:=λi=>none }
def G145 {B:Type}(u:Bool->B)(dH:Y143)(a0:Int)(a1:Int):Option B:=
 bif (a0 == (-(1:Int)))then some (u true)
 else dB (dH (a0,a1)) false λ(q1:Bool)=>some (u q1)
def aKB (dH:Y143)(L:Nat)(a0:Int)(a1:Int):Option Bool:=G145 (λx=>x) dH a0 a1
theorem bEU (dH:Y143)(L:Nat)(a0:Int)(a1:Int):fK prog (aOj dH) (bJ L) f145 (aZI.enc (a0,a1))=(aKB dH L a0 a1).map aH5:=by
 refine .trans (b:=G145 aH5 dH a0 a1) (by kernel_rfl) ?_;unfold aKB G145
 repeat' first | with_reducible refine dP ?_ ?_ | with_reducible refine dL λ_=>?_ | with_reducible refine dO λ_=>?_ | exact rfl
def aP5 (dH:Y143)(L:Nat)(x:(Int×Int)):Option Bool:=aKB dH L x.1 x.2
theorem bB0 (dH:Y143)(h143:Sat prog cxT 143 (aCF dH))(m:Y145)(hm:∀ (x:(Int×Int)) t,m x=some t->∃ L,aP5 dH L x=some t):Sat prog cxT 145 (aMP m):=
 cD bA aW (by rfl) (fn:=f145) rfl aZI aH5 aPi m (aOj dH) (aL h143 aV) aP (aP5 dH) (λL x=>bEU dH L x.1 x.2) hm aVG
def aOi (eM:Y94):Env cxT:={ Kc:=cS [(94,c94 eM)],Kw:=cR [],lv:=λi=>[],xv:=λi=>none }
def G146 {B:Type}(u:Bool->B)(eM:Y94)(a0:Int):Option B:=
 dB (eM (a0,((0:Int),(2:Int)))) false λ(q1:Bool)=>some (u q1)
def aR7 (eM:Y94)(L:Nat)(a0:Int):Option Bool:=G146 (λx=>x) eM a0
theorem bET (eM:Y94)(L:Nat)(a0:Int):fK prog (aOi eM) (bJ L) f146 (aZH.enc a0)=(aR7 eM L a0).map aH4:=by
 refine .trans (b:=G146 aH4 eM a0) (by kernel_rfl) ?_;unfold aR7 G146
 repeat' first | with_reducible refine dP ?_ ?_ | with_reducible refine dL λ_=>?_ | with_reducible refine dO λ_=>?_ | exact rfl
def aTA (eM:Y94)(L:Nat)(x:Int):Option Bool:=aR7 eM L x
theorem bBZ (eM:Y94)(h94:Sat prog cxT 94 (c94 eM))(m:Y146)(hm:∀ (x:Int) t,m x=some t->∃ L,aTA eM L x=some t):Sat prog cxT 146 (aMO m):=
 cD bA aW (by rfl) (fn:=f146) rfl aZH aH4 aPh m (aOi eM) (aL h94 aV) aP (aTA eM) (λL x=>bET eM L x) hm aVF
def uD (eM:Y94):Env cxT:={ Kc:=cS [(94,c94 eM)],Kw:=cR [],lv:=λi=>if i=0 then[(1,[]),(2,[]),(9,[some 2]),(10,[]),(11,[])]else[],xv:=λi=>if i=0 then some []else none }
def S152_0 (a0:(List Int))(a1:Int)(a2:Int)(v0_11:Int):St cxT.ty:={ slots:=[aK,(.inl (.inl (lv (.int .i64 a1)))),(.inl (.inl (lv (.int .i64 a2)))),aK,aK,aK,aK,aK,aK,(.inl (.inl (ls { own:=0,nm:=0,e:=2,o:=false,xs:=a0 }))),(.inl (.inl (lv (.int .i64 (Nat.cast (List.length a0):Int))))),(.inl (.inl (lv (.int .i64 v0_11))))]++List.replicate 9 aK,D:=[],F:=[],ctr:=1 }
def X152_0 (a0:(List Int))(a1:Int)(a2:Int):St cxT.ty:={ slots:=[]++List.replicate 21 aK,D:=[],F:=[],ctr:=1 }
def G152 {B:Type}(u:Bool->B)(hh0:Int->Option B)(eM:Y94)(a0:(List Int))(a1:Int)(a2:Int):Option B:=
 hh0 (0:Int)
def B152_0 {B:Type}(u:Bool->B)(gg:Int->Option B)(kk:Option B)(eM:Y94)(a0:(List Int))(a1:Int)(a2:Int)(v0_11:Int):Option B:=
 bif (decide (v0_11 < (Nat.cast (List.length a0):Int)))then bif ((decide ((0:Int)<=v0_11))&&(decide (v0_11 < (Nat.cast (List.length a0):Int))))then dB (eM ((List.getD a0 v0_11.toNat (0:Int)),(a1,a2))) false λ(q3:Bool)=>bif (!q3)then some (u false)
    else gg (wrap .i64 (v0_11+(1:Int)))
  else none
 else kk
def A152_0 {B:Type}(u:Bool->B)(eM:Y94)(a0:(List Int))(a1:Int)(a2:Int):Option B:=
 some (u true)
def vH (eM:Y94)(L:Nat)(a0:(List Int))(a1:Int)(a2:Int):Nat->Int->(Option Bool)->Option Bool
 | 0,_,_=>none
 | n+1,v0_11,k=>B152_0 (λx=>x) (λv0_11=>vH eM L a0 a1 a2 n v0_11 k) k eM a0 a1 a2 v0_11
theorem aJ7 (eM:Y94)(L:Nat)(a0:(List Int))(a1:Int)(a2:Int)(k:St cxT.ty->Option (V cxT.ty))(xk:Nat->St cxT.ty->Option (V cxT.ty))(k':Option Bool)(hk:k (X152_0 a0 a1 a2)=(k').map aAV):∀ (n:Nat) (v0_11:Int),bE prog (uD eM) L f152 0 [1,0,1,0,0] (bW (aX prog f152) k xk) n (S152_0 a0 a1 a2 v0_11)=(vH eM L a0 a1 a2 n v0_11 k').map aAV
 | 0,_=>rfl
 | n+1,v0_11=>by
  rw[bP];have ih:=aJ7 eM L a0 a1 a2 k xk k' hk n;refine .trans (b:=B152_0 aAV (λv0_11=>(bE prog (uD eM) L f152 0 [1,0,1,0,0] (bW (aX prog f152) k xk) n) (S152_0 a0 a1 a2 v0_11)) (k (X152_0 a0 a1 a2)) eM a0 a1 a2 v0_11) (by kernel_rfl) ?_;unfold vH B152_0
  repeat' first | with_reducible refine dP ?_ ?_ | with_reducible refine dL λ_=>?_ | with_reducible refine dO λ_=>?_ | with_reducible exact ih _ | with_reducible exact hk | exact rfl
def aKx (eM:Y94)(L:Nat)(a0:(List Int))(a1:Int)(a2:Int):Option Bool:=G152 (λx=>x) (λv0_11=>vH eM L a0 a1 a2 L v0_11 (A152_0 (λx=>x) eM a0 a1 a2)) eM a0 a1 a2
theorem bEN (eM:Y94)(L:Nat)(a0:(List Int))(a1:Int)(a2:Int):fK prog (uD eM) (bJ L) f152 (aZB.enc (a0,a1,a2))=(aKx eM L a0 a1 a2).map aAV:=by
 have hin0:∀ (v0_11:Int),bE prog (uD eM) L f152 0 [1,0,1,0,0] (bW (aX prog f152) (bV prog (uD eM) L f152 [1,0,1] (aX prog f152)).n (bV prog (uD eM) L f152 [1,0,1] (aX prog f152)).x) L (S152_0 a0 a1 a2 v0_11)=((λv0_11=>vH eM L a0 a1 a2 L v0_11 (A152_0 (λx=>x) eM a0 a1 a2)) v0_11).map aAV:=λv0_11=>aJ7 eM L a0 a1 a2 _ _ _ (by refine .trans (b:=A152_0 aAV eM a0 a1 a2) (by kernel_rfl) ?_;unfold A152_0;repeat' first | with_reducible refine dP ?_ ?_ | with_reducible refine dL λ_=>?_ | with_reducible refine dO λ_=>?_ | exact rfl) L v0_11
 refine .trans (b:=G152 aAV (λv0_11=>bE prog (uD eM) L f152 0 [1,0,1,0,0] (bW (aX prog f152) (bV prog (uD eM) L f152 [1,0,1] (aX prog f152)).n (bV prog (uD eM) L f152 [1,0,1] (aX prog f152)).x) L (S152_0 a0 a1 a2 v0_11)) eM a0 a1 a2) (by kernel_rfl) ?_;unfold aKx G152
 repeat' first | with_reducible refine dP ?_ ?_ | with_reducible refine dL λ_=>?_ | with_reducible refine dO λ_=>?_ | with_reducible exact hin0 _ | exact rfl
def aP0 (eM:Y94)(L:Nat)(x:((List Int)×Int×Int)):Option Bool:=aKx eM L x.1 x.2.1 x.2.2
theorem bBT (eM:Y94)(h94:Sat prog cxT 94 (c94 eM))(m:Y152)(hm:∀ (x:((List Int)×Int×Int)) t,m x=some t->∃ L,aP0 eM L x=some t):Sat prog cxT 152 (aMK m):=
 cD bA aW (by rfl) (fn:=f152) rfl aZB aAV aPb m (uD eM) (aL h94 aV) aP (aP0 eM) (λL x=>bEN eM L x.1 x.2.1 x.2.2) hm aVz
def aOe (m148:Y148):Env cxT:={ Kc:=cS [(148,aIx m148)],Kw:=cR [],lv:=λi=>[],xv:=λi=>none }
def G153 {B:Type}(u:Bool->B)(m148:Y148)(a0_0:Int)(a0_1:Int)(a0_2:Int)(a0_3:Int)(a0_4:Int)(a0_5:Int)(a0_6:Int)(a0_7:Bool)(a0_8:(List E9)):Option B:=
 bif ((Nat.cast (List.length a0_8):Int) == (0:Int))then some (u true)
 else bif (a0_0 == (3:Int))then dB (m148 a0_8) ((0:Int),(0:Int),(0:Int),(0:Int),(0:Int),(0:Int),(0:Int),(0:Int),(0:Int)) λ(q2:E9)=>bif (decide (q2.1<=a0_3))then bif ((decide ((0:Int)<=(0:Int)))&&(decide ((0:Int) < (Nat.cast (List.length a0_8):Int))))then some (u (decide ((List.getD a0_8 (0:Nat) ((0:Int),((0:Int),((0:Int),((0:Int),((0:Int),((0:Int),((0:Int),((0:Int),(0:Int)))))))))).1>=a0_5)))
    else none
   else some (u false)
 else some (u false)
def aKw (m148:Y148)(L:Nat)(a0_0:Int)(a0_1:Int)(a0_2:Int)(a0_3:Int)(a0_4:Int)(a0_5:Int)(a0_6:Int)(a0_7:Bool)(a0_8:(List E9)):Option Bool:=G153 (λx=>x) m148 a0_0 a0_1 a0_2 a0_3 a0_4 a0_5 a0_6 a0_7 a0_8
theorem bEM (m148:Y148)(L:Nat)(a0_0:Int)(a0_1:Int)(a0_2:Int)(a0_3:Int)(a0_4:Int)(a0_5:Int)(a0_6:Int)(a0_7:Bool)(a0_8:(List E9)):fK prog (aOe m148) (bJ L) f153 (aZA.enc (a0_0,a0_1,a0_2,a0_3,a0_4,a0_5,a0_6,a0_7,a0_8))=(aKw m148 L a0_0 a0_1 a0_2 a0_3 a0_4 a0_5 a0_6 a0_7 a0_8).map aH0:=by
 refine .trans (b:=G153 aH0 m148 a0_0 a0_1 a0_2 a0_3 a0_4 a0_5 a0_6 a0_7 a0_8) (by kernel_rfl) ?_;unfold aKw G153
 repeat' first | with_reducible refine dP ?_ ?_ | with_reducible refine dL λ_=>?_ | with_reducible refine dO λ_=>?_ | exact rfl
def aPZ (m148:Y148)(L:Nat)(x:M9):Option Bool:=aKw m148 L x.1 x.2.1 x.2.2.1 x.2.2.2.1 x.2.2.2.2.1 x.2.2.2.2.2.1 x.2.2.2.2.2.2.1 x.2.2.2.2.2.2.2.1 x.2.2.2.2.2.2.2.2
theorem bBS (m148:Y148)(h148:Sat prog cxT 148 (aIx m148))(m:Y153)(hm:∀ (x:M9) t,m x=some t->∃ L,aPZ m148 L x=some t):Sat prog cxT 153 (aMJ m):=
 cD bA aW (by rfl) (fn:=f153) rfl aZA aH0 aPa m (aOe m148) (aL h148 aV) aP (aPZ m148) (λL x=>bEM m148 L x.1 x.2.1 x.2.2.1 x.2.2.2.1 x.2.2.2.2.1 x.2.2.2.2.2.1 x.2.2.2.2.2.2.1 x.2.2.2.2.2.2.2.1 x.2.2.2.2.2.2.2.2) hm aVy
def aOd:Env cxT:={ Kc:=cS [],Kw:=cR [],lv:=λi=>[],xv:=λi=>none }
def G154 {B:Type}(u:Bool->B)(a0_0:Int)(a0_1:Int)(a0_2:Int)(a0_3:Int)(a0_4:Int)(a0_5:Int)(a0_6:Int)(a0_7:Bool)(a0_8:(List E9)):Option B:=
 bif (!a0_7)then some (u true)
 else bif (a0_0 == (2:Int))then some (u true)
 else some (u (a0_0 == (4:Int)))
def aKv (L:Nat)(a0_0:Int)(a0_1:Int)(a0_2:Int)(a0_3:Int)(a0_4:Int)(a0_5:Int)(a0_6:Int)(a0_7:Bool)(a0_8:(List E9)):Option Bool:=G154 (λx=>x) a0_0 a0_1 a0_2 a0_3 a0_4 a0_5 a0_6 a0_7 a0_8
theorem bEL (L:Nat)(a0_0:Int)(a0_1:Int)(a0_2:Int)(a0_3:Int)(a0_4:Int)(a0_5:Int)(a0_6:Int)(a0_7:Bool)(a0_8:(List E9)):fK prog aOd (bJ L) f154 (aZz.enc (a0_0,a0_1,a0_2,a0_3,a0_4,a0_5,a0_6,a0_7,a0_8))=(aKv L a0_0 a0_1 a0_2 a0_3 a0_4 a0_5 a0_6 a0_7 a0_8).map aHZ:=by
 refine .trans (b:=G154 aHZ a0_0 a0_1 a0_2 a0_3 a0_4 a0_5 a0_6 a0_7 a0_8) (by kernel_rfl) ?_;unfold aKv G154
 repeat' first | with_reducible refine dP ?_ ?_ | with_reducible refine dL λ_=>?_ | with_reducible refine dO λ_=>?_ | exact rfl
def aPY (L:Nat)(x:M9):Option Bool:=aKv L x.1 x.2.1 x.2.2.1 x.2.2.2.1 x.2.2.2.2.1 x.2.2.2.2.2.1 x.2.2.2.2.2.2.1 x.2.2.2.2.2.2.2.1 x.2.2.2.2.2.2.2.2
theorem bBR (m:Y154)(hm:∀ (x:M9) t,m x=some t->∃ L,aPY L x=some t):Sat prog cxT 154 (aMI m):=
 cD bA aW (by rfl) (fn:=f154) rfl aZz aHZ aO9 m aOd aV aP (aPY) (λL x=>bEL L x.1 x.2.1 x.2.2.1 x.2.2.2.1 x.2.2.2.2.1 x.2.2.2.2.2.1 x.2.2.2.2.2.2.1 x.2.2.2.2.2.2.2.1 x.2.2.2.2.2.2.2.2) hm aVx
def aOc:Env cxT:={ Kc:=cS [],Kw:=cR [],lv:=λi=>[],xv:=λi=>none }
def G155 {B:Type}(u:Bool->B)(a0_0:Int)(a0_1:Int)(a0_2:Int)(a0_3:Int)(a0_4:Int)(a0_5:Int)(a0_6:Int)(a0_7:Bool)(a0_8:(List E9)):Option B:=
 bif (a0_0 == (1:Int))then some (u (a0_6 == (0:Int)))
 else bif (a0_0 == (2:Int))then bif (a0_4 == (0:Int))then bif (a0_5 == (0:Int))then some (u (a0_6 == (0:Int)))
   else some (u false)
  else some (u false)
 else bif (a0_0 == (4:Int))then bif (a0_5 == (0:Int))then some (u (a0_6 == (0:Int)))
  else some (u false)
 else some (u true)
def aR5 (L:Nat)(a0_0:Int)(a0_1:Int)(a0_2:Int)(a0_3:Int)(a0_4:Int)(a0_5:Int)(a0_6:Int)(a0_7:Bool)(a0_8:(List E9)):Option Bool:=G155 (λx=>x) a0_0 a0_1 a0_2 a0_3 a0_4 a0_5 a0_6 a0_7 a0_8
theorem bEK (L:Nat)(a0_0:Int)(a0_1:Int)(a0_2:Int)(a0_3:Int)(a0_4:Int)(a0_5:Int)(a0_6:Int)(a0_7:Bool)(a0_8:(List E9)):fK prog aOc (bJ L) f155 (aZy.enc (a0_0,a0_1,a0_2,a0_3,a0_4,a0_5,a0_6,a0_7,a0_8))=(aR5 L a0_0 a0_1 a0_2 a0_3 a0_4 a0_5 a0_6 a0_7 a0_8).map aHY:=by
 refine .trans (b:=G155 aHY a0_0 a0_1 a0_2 a0_3 a0_4 a0_5 a0_6 a0_7 a0_8) (by kernel_rfl) ?_;unfold aR5 G155
 repeat' first | with_reducible refine dP ?_ ?_ | with_reducible refine dL λ_=>?_ | with_reducible refine dO λ_=>?_ | exact rfl
def aTy (L:Nat)(x:M9):Option Bool:=aR5 L x.1 x.2.1 x.2.2.1 x.2.2.2.1 x.2.2.2.2.1 x.2.2.2.2.2.1 x.2.2.2.2.2.2.1 x.2.2.2.2.2.2.2.1 x.2.2.2.2.2.2.2.2
theorem bBQ (m:Y155)(hm:∀ (x:M9) t,m x=some t->∃ L,aTy L x=some t):Sat prog cxT 155 (aMH m):=
 cD bA aW (by rfl) (fn:=f155) rfl aZy aHY aO8 m aOc aV aP (aTy) (λL x=>bEK L x.1 x.2.1 x.2.2.1 x.2.2.2.1 x.2.2.2.2.1 x.2.2.2.2.2.1 x.2.2.2.2.2.2.1 x.2.2.2.2.2.2.2.1 x.2.2.2.2.2.2.2.2) hm aVw
def aOb:Env cxT:={ Kc:=cS [],Kw:=cR [],lv:=λi=>[],xv:=λi=>none }
def G156 {B:Type}(u:Bool->B)(a0:Int):Option B:=
 bif (decide (a0>=(0:Int)))then some (u (decide (a0<=(999:Int))))
 else some (u false)
def aR4 (L:Nat)(a0:Int):Option Bool:=G156 (λx=>x) a0
theorem bEJ (L:Nat)(a0:Int):fK prog aOb (bJ L) f156 (aZx.enc a0)=(aR4 L a0).map aHX:=by
 refine .trans (b:=G156 aHX a0) (by kernel_rfl) ?_;unfold aR4 G156
 repeat' first | with_reducible refine dP ?_ ?_ | with_reducible refine dL λ_=>?_ | with_reducible refine dO λ_=>?_ | exact rfl
def aTx (L:Nat)(x:Int):Option Bool:=aR4 L x
theorem bBP (m:Y156)(hm:∀ (x:Int) t,m x=some t->∃ L,aTx L x=some t):Sat prog cxT 156 (aMG m):=
 cD bA aW (by rfl) (fn:=f156) rfl aZx aHX aO7 m aOb aV aP (aTx) (λL x=>bEJ L x) hm aVv
def aOa:Env cxT:={ Kc:=cS [],Kw:=cR [],lv:=λi=>[],xv:=λi=>none }
def G157 {B:Type}(u:Bool->B)(a0:Int):Option B:=
 bif (decide (a0>=(0:Int)))then some (u (decide (a0<=(1000000:Int))))
 else some (u false)
def aR3 (L:Nat)(a0:Int):Option Bool:=G157 (λx=>x) a0
theorem bEI (L:Nat)(a0:Int):fK prog aOa (bJ L) f157 (aZw.enc a0)=(aR3 L a0).map aHW:=by
 refine .trans (b:=G157 aHW a0) (by kernel_rfl) ?_;unfold aR3 G157
 repeat' first | with_reducible refine dP ?_ ?_ | with_reducible refine dL λ_=>?_ | with_reducible refine dO λ_=>?_ | exact rfl
def aTw (L:Nat)(x:Int):Option Bool:=aR3 L x
theorem bBO (m:Y157)(hm:∀ (x:Int) t,m x=some t->∃ L,aTw L x=some t):Sat prog cxT 157 (aMF m):=
 cD bA aW (by rfl) (fn:=f157) rfl aZw aHW aO6 m aOa aV aP (aTw) (λL x=>bEI L x) hm aVu
def aOg (fH:Y190):Env cxT:={ Kc:=cS [(190,aE5 fH)],Kw:=cR [],lv:=λi=>[],xv:=λi=>none }
def G149 {B:Type}(u:Int->B)(fH:Y190)(a0:N10):Option B:=
 dB (fH a0.2.2.2.2.1) (0:Int) λ(q1:Int)=>some (u q1)
def aR6 (fH:Y190)(L:Nat)(a0:N10):Option Int:=G149 (λx=>x) fH a0
theorem bEQ (fH:Y190)(L:Nat)(a0:N10):fK prog (aOg fH) (bJ L) f149 (aZE.enc a0)=(aR6 fH L a0).map aH2:=by
 refine .trans (b:=G149 aH2 fH a0) (by kernel_rfl) ?_;unfold aR6 G149
 repeat' first | with_reducible refine dP ?_ ?_ | with_reducible refine dL λ_=>?_ | with_reducible refine dO λ_=>?_ | exact rfl
def aTz (fH:Y190)(L:Nat)(x:N10):Option Int:=aR6 fH L x
theorem bBW (fH:Y190)(h190:Sat prog cxT 190 (aE5 fH))(m:Y149)(hm:∀ (x:N10) t,m x=some t->∃ L,aTz fH L x=some t):Sat prog cxT 149 (aMN m):=
 cD bA aW (by rfl) (fn:=f149) rfl aZE aH2 aPe m (aOg fH) (aL h190 aV) aP (aTz fH) (λL x=>bEQ fH L x) hm aVC
def uE (dH:Y143):Env cxT:={ Kc:=cS [(143,aCF dH)],Kw:=cR [],lv:=λi=>if i=0 then[(0,[none,none,none,none,some 102,none,none,some 2,some 2,some 2]),(3,[]),(22,[some 2]),(23,[]),(24,[])]else[],xv:=λi=>if i=0 then some []else none }
def S150_0 (a0:N10)(v0_3:Int)(v0_24:Int):St cxT.ty:={ slots:=[(.inr (.inr { kind:=2,nm:=0,cells:=[],s:={ own:=0,nm:=0,e:=96,o:=false,xs:=(List.cons a0 []) },i:=0,off:=0 })),aK,aK,(.inl (.inl (lv (.int .i64 v0_3)))),aK,aK,aK,aK,aK,aK,aK,aK,aK,aK,aK,aK,aK,aK,aK,aK,aK,aK,(.inl (.inl (ls { own:=0,nm:=0,e:=2,o:=false,xs:=a0.2.2.2.2.2.2.2.1 }))),(.inl (.inl (lv (.int .i64 (Nat.cast (List.length a0.2.2.2.2.2.2.2.1):Int))))),(.inl (.inl (lv (.int .i64 v0_24))))]++List.replicate 17 aK,D:=[],F:=[],ctr:=1 }
def X150_0 (a0:N10):St cxT.ty:={ slots:=[]++List.replicate 42 aK,D:=[],F:=[],ctr:=1 }
def G150 {B:Type}(u:Bool->B)(hh0:Int->Int->Option B)(dH:Y143)(a0:N10):Option B:=
 bif (a0.2.2.2.2.2.1 != (1:Int))then bif (decide ((Nat.cast (List.length a0.2.2.2.2.2.2.2.1):Int) > (0:Int)))then some (u false)
  else hh0 (-(1:Int)) (0:Int)
 else hh0 (-(1:Int)) (0:Int)
def B150_0 {B:Type}(u:Bool->B)(gg:Int->Int->Option B)(kk:Option B)(dH:Y143)(a0:N10)(v0_3:Int)(v0_24:Int):Option B:=
 bif (decide (v0_24 < (Nat.cast (List.length a0.2.2.2.2.2.2.2.1):Int)))then dY a0 λs1_0=>dY (List.getD s1_0.2.2.2.2.2.2.2.1 v0_24.toNat (0:Int)) λs1_1=>bif ((decide ((0:Int)<=v0_24))&&(decide (v0_24 < (Nat.cast (List.length s1_0.2.2.2.2.2.2.2.1):Int))))then dB (dH (s1_1,s1_0.2.1)) false λ(q3:Bool)=>bif (!q3)then some (u false)
    else bif (decide (s1_1<=v0_3))then some (u false)
    else gg s1_1 (wrap .i64 (v0_24+(1:Int)))
  else none
 else kk
def A150_0 {B:Type}(u:Bool->B)(dH:Y143)(a0:N10):Option B:=
 some (u true)
def vI (dH:Y143)(L:Nat)(a0:N10):Nat->Int->Int->(Option Bool)->Option Bool
 | 0,_,_,_=>none
 | n+1,v0_3,v0_24,k=>B150_0 (λx=>x) (λv0_3 v0_24=>vI dH L a0 n v0_3 v0_24 k) k dH a0 v0_3 v0_24
theorem aJ8 (dH:Y143)(L:Nat)(a0:N10)(k:St cxT.ty->Option (V cxT.ty))(xk:Nat->St cxT.ty->Option (V cxT.ty))(k':Option Bool)(hk:k (X150_0 a0)=(k').map aAW):∀ (n:Nat) (v0_3:Int) (v0_24:Int),bE prog (uE dH) L f150 0 [1,1,1,0,1,0,0] (bW (aX prog f150) k xk) n (S150_0 a0 v0_3 v0_24)=(vI dH L a0 n v0_3 v0_24 k').map aAW
 | 0,_,_=>rfl
 | n+1,v0_3,v0_24=>by
  rw[bP];have ih:=aJ8 dH L a0 k xk k' hk n;refine .trans (b:=B150_0 aAW (λv0_3 v0_24=>(bE prog (uE dH) L f150 0 [1,1,1,0,1,0,0] (bW (aX prog f150) k xk) n) (S150_0 a0 v0_3 v0_24)) (k (X150_0 a0)) dH a0 v0_3 v0_24) (by kernel_rfl) ?_;unfold vI B150_0
  repeat' first | with_reducible refine dP ?_ ?_ | with_reducible refine dL λ_=>?_ | with_reducible refine dO λ_=>?_ | with_reducible exact ih _ _ | with_reducible exact hk | exact rfl
def aKz (dH:Y143)(L:Nat)(a0:N10):Option Bool:=G150 (λx=>x) (λv0_3 v0_24=>vI dH L a0 L v0_3 v0_24 (A150_0 (λx=>x) dH a0)) dH a0
theorem bEP (dH:Y143)(L:Nat)(a0:N10):fK prog (uE dH) (bJ L) f150 (aZD.enc a0)=(aKz dH L a0).map aAW:=by
 have hin0:∀ (v0_3:Int) (v0_24:Int),bE prog (uE dH) L f150 0 [1,1,1,0,1,0,0] (bW (aX prog f150) (bV prog (uE dH) L f150 [1,1,1,0,1] (aX prog f150)).n (bV prog (uE dH) L f150 [1,1,1,0,1] (aX prog f150)).x) L (S150_0 a0 v0_3 v0_24)=((λv0_3 v0_24=>vI dH L a0 L v0_3 v0_24 (A150_0 (λx=>x) dH a0)) v0_3 v0_24).map aAW:=λv0_3 v0_24=>aJ8 dH L a0 _ _ _ (by refine .trans (b:=A150_0 aAW dH a0) (by kernel_rfl) ?_;unfold A150_0;repeat' first | with_reducible refine dP ?_ ?_ | with_reducible refine dL λ_=>?_ | with_reducible refine dO λ_=>?_ | exact rfl) L v0_3 v0_24
 refine .trans (b:=G150 aAW (λv0_3 v0_24=>bE prog (uE dH) L f150 0 [1,1,1,0,1,0,0] (bW (aX prog f150) (bV prog (uE dH) L f150 [1,1,1,0,1] (aX prog f150)).n (bV prog (uE dH) L f150 [1,1,1,0,1] (aX prog f150)).x) L (S150_0 a0 v0_3 v0_24)) dH a0) (by kernel_rfl) ?_;unfold aKz G150
 repeat' first | with_reducible refine dP ?_ ?_ | with_reducible refine dL λ_=>?_ | with_reducible refine dO λ_=>?_ | with_reducible exact hin0 _ _ | exact rfl
def aP2 (dH:Y143)(L:Nat)(x:N10):Option Bool:=aKz dH L x
theorem bBV (dH:Y143)(h143:Sat prog cxT 143 (aCF dH))(m:Y150)(hm:∀ (x:N10) t,m x=some t->∃ L,aP2 dH L x=some t):Sat prog cxT 150 (aMM m):=
 cD bA aW (by rfl) (fn:=f150) rfl aZD aAW aPd m (uE dH) (aL h143 aV) aP (aP2 dH) (λL x=>bEP dH L x) hm aVB
def aOf:Env cxT:={ Kc:=cS [],Kw:=cR [],lv:=λi=>[],xv:=λi=>none }
def G151 {B:Type}(u:Bool->B)(a0:N10):Option B:=
 bif (a0.2.2.2.2.2.1 != (2:Int))then bif ((Nat.cast (List.length a0.2.2.2.2.2.2.2.2.1):Int) == (0:Int))then some (u ((Nat.cast (List.length a0.2.2.2.2.2.2.2.2.2):Int) == (0:Int)))
  else some (u false)
 else bif ((Nat.cast (List.length a0.2.2.2.2.2.2.2.2.1):Int) == a0.2.1)then some (u ((Nat.cast (List.length a0.2.2.2.2.2.2.2.2.2):Int) == a0.2.1))
 else some (u false)
def aKy (L:Nat)(a0:N10):Option Bool:=G151 (λx=>x) a0
theorem bEO (L:Nat)(a0:N10):fK prog aOf (bJ L) f151 (aZC.enc a0)=(aKy L a0).map aH1:=by
 refine .trans (b:=G151 aH1 a0) (by kernel_rfl) ?_;unfold aKy G151
 repeat' first | with_reducible refine dP ?_ ?_ | with_reducible refine dL λ_=>?_ | with_reducible refine dO λ_=>?_ | exact rfl
def aP1 (L:Nat)(x:N10):Option Bool:=aKy L x
theorem bBU (m:Y151)(hm:∀ (x:N10) t,m x=some t->∃ L,aP1 L x=some t):Sat prog cxT 151 (aML m):=
 cD bA aW (by rfl) (fn:=f151) rfl aZC aH1 aPc m aOf aV aP (aP1) (λL x=>bEO L x) hm aVA
end Go.Proofs.Tryz
set_option maxHeartbeats 0
set_option maxRecDepth 100000
namespace Go.Proofs.Tryz
open Go.IntKind (wrap)
open Go Go.VM Go.RowKit
def aWI (eN:Y47)(m156:Y156)(m157:Y157)(lY:Y158):Env cxT:={ Kc:=cS [(47,c47 eN),(156,aMG m156),(157,aMF m157),(158,aSq lY)],Kw:=cR [],lv:=λi=>[],xv:=λi=>none }
def G97 {B:Type}(u:Int->B)(eN:Y47)(m156:Y156)(m157:Y157)(lY:Y158)(a0_0:Int)(a0_1:Int)(a0_2:Int)(a0_3:Int)(a0_4:Int)(a0_5:Int)(a0_6:Int)(a0_7:Int)(a0_8:Int):Option B:=
 dB (eN a0_0) false λ(q1:Bool)=>bif (!q1)then some (u (3:Int))
  else dB (m156 a0_1) false λ(q2:Bool)=>bif (!q2)then some (u (3:Int))
   else dB (m157 a0_2) false λ(q3:Bool)=>bif (!q3)then some (u (3:Int))
    else bif (!((a0_1 == (0:Int)) == (a0_2 == (0:Int))))then some (u (1:Int))
    else bif (a0_1 != (0:Int))then dB (lY (a0_3,(a0_4,(a0_5,(a0_6,(a0_7,a0_8)))))) (0:Int) λ(q5:Int)=>some (u q5)
    else bif (!((((((a0_3 == (0:Int))&&(a0_4 == (0:Int)))&&(a0_5 == (0:Int)))&&(a0_6 == (0:Int)))&&(a0_7 == (0:Int)))&&(a0_8 == (0:Int))))then some (u (1:Int))
    else some (u (0:Int))
def g97 (eN:Y47)(m156:Y156)(m157:Y157)(lY:Y158)(L:Nat)(a0_0:Int)(a0_1:Int)(a0_2:Int)(a0_3:Int)(a0_4:Int)(a0_5:Int)(a0_6:Int)(a0_7:Int)(a0_8:Int):Option Int:=G97 (λx=>x) eN m156 m157 lY a0_0 a0_1 a0_2 a0_3 a0_4 a0_5 a0_6 a0_7 a0_8
theorem e97 (eN:Y47)(m156:Y156)(m157:Y157)(lY:Y158)(L:Nat)(a0_0:Int)(a0_1:Int)(a0_2:Int)(a0_3:Int)(a0_4:Int)(a0_5:Int)(a0_6:Int)(a0_7:Int)(a0_8:Int):fK prog (aWI eN m156 m157 lY) (bJ L) f97 (a97.enc (a0_0,a0_1,a0_2,a0_3,a0_4,a0_5,a0_6,a0_7,a0_8))=(g97 eN m156 m157 lY L a0_0 a0_1 a0_2 a0_3 a0_4 a0_5 a0_6 a0_7 a0_8).map n97:=by
 refine .trans (b:=G97 n97 eN m156 m157 lY a0_0 a0_1 a0_2 a0_3 a0_4 a0_5 a0_6 a0_7 a0_8) (by kernel_rfl) ?_;unfold g97 G97
 repeat' first | with_reducible refine dP ?_ ?_ | with_reducible refine dL λ_=>?_ | with_reducible refine dO λ_=>?_ | exact rfl
def w97 (eN:Y47)(m156:Y156)(m157:Y157)(lY:Y158)(L:Nat)(x:E9):Option Int:=g97 eN m156 m157 lY L x.1 x.2.1 x.2.2.1 x.2.2.2.1 x.2.2.2.2.1 x.2.2.2.2.2.1 x.2.2.2.2.2.2.1 x.2.2.2.2.2.2.2.1 x.2.2.2.2.2.2.2.2
theorem s97 (eN:Y47)(m156:Y156)(m157:Y157)(lY:Y158)(h47:Sat prog cxT 47 (c47 eN))(h156:Sat prog cxT 156 (aMG m156))(h157:Sat prog cxT 157 (aMF m157))(h158:Sat prog cxT 158 (aSq lY))(m:Y97)(hm:∀ (x:E9) t,m x=some t->∃ L,w97 eN m156 m157 lY L x=some t):Sat prog cxT 97 (c97 m):=
 cD bA aW (by rfl) (fn:=f97) rfl a97 n97 aXv m (aWI eN m156 m157 lY) (aL h47 (aL h156 (aL h157 (aL h158 aV)))) aP (w97 eN m156 m157 lY) (λL x=>e97 eN m156 m157 lY L x.1 x.2.1 x.2.2.1 x.2.2.2.1 x.2.2.2.2.1 x.2.2.2.2.2.1 x.2.2.2.2.2.2.1 x.2.2.2.2.2.2.2.1 x.2.2.2.2.2.2.2.2) hm bCL
def uF (m97:Y97):Env cxT:={ Kc:=cS [(97,c97 m97)],Kw:=cR [],lv:=λi=>if i=0 then[(3,[]),(10,[some 102]),(11,[]),(12,[])]else[],xv:=λi=>if i=0 then some []else none }
def S147_0 (a0:(List E9))(v0_3:Int)(v0_12:Int):St cxT.ty:={ slots:=[aK,aK,aK,(.inl (.inl (lv (.int .i64 v0_3)))),aK,aK,aK,aK,aK,aK,(.inl (.inl (ls { own:=0,nm:=0,e:=102,o:=false,xs:=a0 }))),(.inl (.inl (lv (.int .i64 (Nat.cast (List.length a0):Int))))),(.inl (.inl (lv (.int .i64 v0_12))))]++List.replicate 15 aK,D:=[],F:=[],ctr:=1 }
def X147_0 (a0:(List E9)):St cxT.ty:={ slots:=[]++List.replicate 28 aK,D:=[],F:=[],ctr:=1 }
def G147 {B:Type}(u:Int->B)(hh0:Int->Int->Option B)(m97:Y97)(a0:(List E9)):Option B:=
 bif (decide ((Nat.cast (List.length a0):Int) > (40:Int)))then some (u (2:Int))
 else hh0 (0:Int) (0:Int)
def B147_0 {B:Type}(u:Int->B)(gg:Int->Int->Option B)(kk:Option B)(m97:Y97)(a0:(List E9))(v0_3:Int)(v0_12:Int):Option B:=
 bif (decide (v0_12 < (Nat.cast (List.length a0):Int)))then dY (List.getD a0 v0_12.toNat ((0:Int),((0:Int),((0:Int),((0:Int),((0:Int),((0:Int),((0:Int),((0:Int),(0:Int)))))))))) λs1_0=>bif ((decide ((0:Int)<=v0_12))&&(decide (v0_12 < (Nat.cast (List.length a0):Int))))then dB (m97 (s1_0.1,(s1_0.2.1,(s1_0.2.2.1,(s1_0.2.2.2.1,(s1_0.2.2.2.2.1,(s1_0.2.2.2.2.2.1,(s1_0.2.2.2.2.2.2.1,(s1_0.2.2.2.2.2.2.2.1,s1_0.2.2.2.2.2.2.2.2))))))))) (0:Int) λ(q3:Int)=>bif (q3 != (0:Int))then some (u q3)
    else bif (decide (s1_0.1 < v0_3))then some (u (1:Int))
    else gg s1_0.1 (wrap .i64 (v0_12+(1:Int)))
  else none
 else kk
def A147_0 {B:Type}(u:Int->B)(m97:Y97)(a0:(List E9)):Option B:=
 some (u (0:Int))
def sC (m97:Y97)(L:Nat)(a0:(List E9)):Nat->Int->Int->(Option Int)->Option Int
 | 0,_,_,_=>none
 | n+1,v0_3,v0_12,k=>B147_0 (λx=>x) (λv0_3 v0_12=>sC m97 L a0 n v0_3 v0_12 k) k m97 a0 v0_3 v0_12
theorem aJ9 (m97:Y97)(L:Nat)(a0:(List E9))(k:St cxT.ty->Option (V cxT.ty))(xk:Nat->St cxT.ty->Option (V cxT.ty))(k':Option Int)(hk:k (X147_0 a0)=(k').map aAX):∀ (n:Nat) (v0_3:Int) (v0_12:Int),bE prog (uF m97) L f147 0 [1,1,1,0,1,0,0] (bW (aX prog f147) k xk) n (S147_0 a0 v0_3 v0_12)=(sC m97 L a0 n v0_3 v0_12 k').map aAX
 | 0,_,_=>rfl
 | n+1,v0_3,v0_12=>by
  rw[bP];have ih:=aJ9 m97 L a0 k xk k' hk n;refine .trans (b:=B147_0 aAX (λv0_3 v0_12=>(bE prog (uF m97) L f147 0 [1,1,1,0,1,0,0] (bW (aX prog f147) k xk) n) (S147_0 a0 v0_3 v0_12)) (k (X147_0 a0)) m97 a0 v0_3 v0_12) (by kernel_rfl) ?_;unfold sC B147_0
  repeat' first | with_reducible refine dP ?_ ?_ | with_reducible refine dL λ_=>?_ | with_reducible refine dO λ_=>?_ | with_reducible exact ih _ _ | with_reducible exact hk | exact rfl
def aKA (m97:Y97)(L:Nat)(a0:(List E9)):Option Int:=G147 (λx=>x) (λv0_3 v0_12=>sC m97 L a0 L v0_3 v0_12 (A147_0 (λx=>x) m97 a0)) m97 a0
theorem bES (m97:Y97)(L:Nat)(a0:(List E9)):fK prog (uF m97) (bJ L) f147 (aZG.enc a0)=(aKA m97 L a0).map aAX:=by
 have hin0:∀ (v0_3:Int) (v0_12:Int),bE prog (uF m97) L f147 0 [1,1,1,0,1,0,0] (bW (aX prog f147) (bV prog (uF m97) L f147 [1,1,1,0,1] (aX prog f147)).n (bV prog (uF m97) L f147 [1,1,1,0,1] (aX prog f147)).x) L (S147_0 a0 v0_3 v0_12)=((λv0_3 v0_12=>sC m97 L a0 L v0_3 v0_12 (A147_0 (λx=>x) m97 a0)) v0_3 v0_12).map aAX:=λv0_3 v0_12=>aJ9 m97 L a0 _ _ _ (by refine .trans (b:=A147_0 aAX m97 a0) (by kernel_rfl) ?_;unfold A147_0;repeat' first | with_reducible refine dP ?_ ?_ | with_reducible refine dL λ_=>?_ | with_reducible refine dO λ_=>?_ | exact rfl) L v0_3 v0_12
 refine .trans (b:=G147 aAX (λv0_3 v0_12=>bE prog (uF m97) L f147 0 [1,1,1,0,1,0,0] (bW (aX prog f147) (bV prog (uF m97) L f147 [1,1,1,0,1] (aX prog f147)).n (bV prog (uF m97) L f147 [1,1,1,0,1] (aX prog f147)).x) L (S147_0 a0 v0_3 v0_12)) m97 a0) (by kernel_rfl) ?_;unfold aKA G147
 repeat' first | with_reducible refine dP ?_ ?_ | with_reducible refine dL λ_=>?_ | with_reducible refine dO λ_=>?_ | with_reducible exact hin0 _ _ | exact rfl
def aP4 (m97:Y97)(L:Nat)(x:(List E9)):Option Int:=aKA m97 L x
theorem bBY (m97:Y97)(h97:Sat prog cxT 97 (c97 m97))(m:Y147)(hm:∀ (x:(List E9)) t,m x=some t->∃ L,aP4 m97 L x=some t):Sat prog cxT 147 (aIy m):=
 cD bA aW (by rfl) (fn:=f147) rfl aZG aAX aPg m (uF m97) (aL h97 aV) aP (aP4 m97) (λL x=>bES m97 L x) hm aVE
def aOh (fH:Y190)(mT:Y189):Env cxT:={ Kc:=cS [(190,aE5 fH),(189,aMB mT)],Kw:=cR [],lv:=λi=>[],xv:=λi=>none }
def G148 {B:Type}(u:E9->B)(fH:Y190)(mT:Y189)(a0:(List E9)):Option B:=
 dB (fH a0) (0:Int) λ(q1:Int)=>dB (mT (a0,q1)) ((0:Int),(0:Int),(0:Int),(0:Int),(0:Int),(0:Int),(0:Int),(0:Int),(0:Int),false) λ(q2:(Int×Int×Int×Int×Int×Int×Int×Int×Int×Bool))=>some (u (q2.1,q2.2.1,q2.2.2.1,q2.2.2.2.1,q2.2.2.2.2.1,q2.2.2.2.2.2.1,q2.2.2.2.2.2.2.1,q2.2.2.2.2.2.2.2.1,q2.2.2.2.2.2.2.2.2.1))
def aMd (fH:Y190)(mT:Y189)(L:Nat)(a0:(List E9)):Option E9:=G148 (λx=>x) fH mT a0
theorem bER (fH:Y190)(mT:Y189)(L:Nat)(a0:(List E9)):fK prog (aOh fH mT) (bJ L) f148 (aZF.enc a0)=(aMd fH mT L a0).map aH3:=by
 refine .trans (b:=G148 aH3 fH mT a0) (by kernel_rfl) ?_;unfold aMd G148
 repeat' first | with_reducible refine dP ?_ ?_ | with_reducible refine dL λ_=>?_ | with_reducible refine dO λ_=>?_ | exact rfl
def aP3 (fH:Y190)(mT:Y189)(L:Nat)(x:(List E9)):Option E9:=aMd fH mT L x
theorem bBX (fH:Y190)(mT:Y189)(h190:Sat prog cxT 190 (aE5 fH))(h189:Sat prog cxT 189 (aMB mT))(m:Y148)(hm:∀ (x:(List E9)) t,m x=some t->∃ L,aP3 fH mT L x=some t):Sat prog cxT 148 (aIx m):=
 cD bA aW (by rfl) (fn:=f148) rfl aZF aH3 aPf m (aOh fH mT) (aL h190 (aL h189 aV)) aP (aP3 fH mT) (λL x=>bER fH mT L x) hm aVD
def aWK (jU:Y44)(dH:Y143)(oA:Y144)(nZ:Y145)(nY:Y146)(m147:Y147)(m148:Y148)(mI:Y149)(eM:Y94)(mV:Y150)(nX:Y151)(lZ:Y152):Env cxT:={ Kc:=cS [(44,c44 jU),(143,aCF dH),(144,aMQ oA),(145,aMP nZ),(146,aMO nY),(147,aIy m147),(148,aIx m148),(149,aMN mI),(94,c94 eM),(150,aMM mV),(151,aML nX),(152,aMK lZ)],Kw:=cR [],lv:=λi=>[],xv:=λi=>none }
def G95 {B:Type}(u:Int->B)(jU:Y44)(dH:Y143)(oA:Y144)(nZ:Y145)(nY:Y146)(m147:Y147)(m148:Y148)(mI:Y149)(eM:Y94)(mV:Y150)(nX:Y151)(lZ:Y152)(a0_0:Int)(a0_1:Int)(a0_2:Int)(a0_3:Int)(a0_4:(List E9))(a0_5:Int)(a0_6:Int)(a0_7:(List Int))(a0_8:(List Int))(a0_9:(List Int)):Option B:=
 dB (jU a0_1) false λ(q1:Bool)=>bif (!q1)then some (u (3:Int))
  else dB (dH (a0_0,a0_1)) false λ(q2:Bool)=>bif (!q2)then some (u (3:Int))
   else dB (oA a0_2) false λ(q3:Bool)=>bif (!q3)then some (u (3:Int))
    else dB (nZ (a0_3,a0_1)) false λ(q4:Bool)=>bif (!q4)then some (u (3:Int))
     else dB (nY a0_5) false λ(q5:Bool)=>bif (!q5)then some (u (3:Int))
      else dB (m147 a0_4) (0:Int) λ(q6:Int)=>bif (q6 != (0:Int))then some (u q6)
       else dB (m148 a0_4) ((0:Int),(0:Int),(0:Int),(0:Int),(0:Int),(0:Int),(0:Int),(0:Int),(0:Int)) λ(q7:E9)=>bif (decide (q7.1 > a0_2))then some (u (1:Int))
        else dB (mI (a0_0,(a0_1,(a0_2,(a0_3,(a0_4,(a0_5,(a0_6,(a0_7,(a0_8,a0_9)))))))))) (0:Int) λ(q8:Int)=>dB (eM (a0_6,((0:Int),q8))) false λ(q9:Bool)=>bif (!q9)then some (u (3:Int))
          else dB (mV (a0_0,(a0_1,(a0_2,(a0_3,(a0_4,(a0_5,(a0_6,(a0_7,(a0_8,a0_9)))))))))) false λ(q10:Bool)=>bif (!q10)then some (u (1:Int))
           else dB (nX (a0_0,(a0_1,(a0_2,(a0_3,(a0_4,(a0_5,(a0_6,(a0_7,(a0_8,a0_9)))))))))) false λ(q11:Bool)=>bif (!q11)then some (u (1:Int))
            else dB (mI (a0_0,(a0_1,(a0_2,(a0_3,(a0_4,(a0_5,(a0_6,(a0_7,(a0_8,a0_9)))))))))) (0:Int) λ(q12:Int)=>dB (lZ (a0_8,((1:Int),(wrap .i64 (q8+(1:Int)))))) false λ(q13:Bool)=>bif (!q13)then some (u (3:Int))
              else dB (mI (a0_0,(a0_1,(a0_2,(a0_3,(a0_4,(a0_5,(a0_6,(a0_7,(a0_8,a0_9)))))))))) (0:Int) λ(q14:Int)=>dB (lZ (a0_9,((0:Int),q8))) false λ(q15:Bool)=>bif (!q15)then some (u (3:Int))
                else bif (a0_5 != (0:Int))then bif (a0_3 != a0_0)then some (u (1:Int))
                 else bif (a0_2 == (0:Int))then some (u (1:Int))
                 else some (u (0:Int))
                else some (u (0:Int))
def g95 (jU:Y44)(dH:Y143)(oA:Y144)(nZ:Y145)(nY:Y146)(m147:Y147)(m148:Y148)(mI:Y149)(eM:Y94)(mV:Y150)(nX:Y151)(lZ:Y152)(L:Nat)(a0_0:Int)(a0_1:Int)(a0_2:Int)(a0_3:Int)(a0_4:(List E9))(a0_5:Int)(a0_6:Int)(a0_7:(List Int))(a0_8:(List Int))(a0_9:(List Int)):Option Int:=G95 (λx=>x) jU dH oA nZ nY m147 m148 mI eM mV nX lZ a0_0 a0_1 a0_2 a0_3 a0_4 a0_5 a0_6 a0_7 a0_8 a0_9
theorem e95 (jU:Y44)(dH:Y143)(oA:Y144)(nZ:Y145)(nY:Y146)(m147:Y147)(m148:Y148)(mI:Y149)(eM:Y94)(mV:Y150)(nX:Y151)(lZ:Y152)(L:Nat)(a0_0:Int)(a0_1:Int)(a0_2:Int)(a0_3:Int)(a0_4:(List E9))(a0_5:Int)(a0_6:Int)(a0_7:(List Int))(a0_8:(List Int))(a0_9:(List Int)):fK prog (aWK jU dH oA nZ nY m147 m148 mI eM mV nX lZ) (bJ L) f95 (a95.enc (a0_0,a0_1,a0_2,a0_3,a0_4,a0_5,a0_6,a0_7,a0_8,a0_9))=(g95 jU dH oA nZ nY m147 m148 mI eM mV nX lZ L a0_0 a0_1 a0_2 a0_3 a0_4 a0_5 a0_6 a0_7 a0_8 a0_9).map n95:=by
 refine .trans (b:=G95 n95 jU dH oA nZ nY m147 m148 mI eM mV nX lZ a0_0 a0_1 a0_2 a0_3 a0_4 a0_5 a0_6 a0_7 a0_8 a0_9) (by kernel_rfl) ?_;unfold g95 G95
 repeat' first | with_reducible refine dP ?_ ?_ | with_reducible refine dL λ_=>?_ | with_reducible refine dO λ_=>?_ | exact rfl
def w95 (jU:Y44)(dH:Y143)(oA:Y144)(nZ:Y145)(nY:Y146)(m147:Y147)(m148:Y148)(mI:Y149)(eM:Y94)(mV:Y150)(nX:Y151)(lZ:Y152)(L:Nat)(x:N10):Option Int:=g95 jU dH oA nZ nY m147 m148 mI eM mV nX lZ L x.1 x.2.1 x.2.2.1 x.2.2.2.1 x.2.2.2.2.1 x.2.2.2.2.2.1 x.2.2.2.2.2.2.1 x.2.2.2.2.2.2.2.1 x.2.2.2.2.2.2.2.2.1 x.2.2.2.2.2.2.2.2.2
theorem s95 (jU:Y44)(dH:Y143)(oA:Y144)(nZ:Y145)(nY:Y146)(m147:Y147)(m148:Y148)(mI:Y149)(eM:Y94)(mV:Y150)(nX:Y151)(lZ:Y152)(h44:Sat prog cxT 44 (c44 jU))(h143:Sat prog cxT 143 (aCF dH))(h144:Sat prog cxT 144 (aMQ oA))(h145:Sat prog cxT 145 (aMP nZ))(h146:Sat prog cxT 146 (aMO nY))(h147:Sat prog cxT 147 (aIy m147))(h148:Sat prog cxT 148 (aIx m148))(h149:Sat prog cxT 149 (aMN mI))(h94:Sat prog cxT 94 (c94 eM))(h150:Sat prog cxT 150 (aMM mV))(h151:Sat prog cxT 151 (aML nX))(h152:Sat prog cxT 152 (aMK lZ))(m:Y95)(hm:∀ (x:N10) t,m x=some t->∃ L,w95 jU dH oA nZ nY m147 m148 mI eM mV nX lZ L x=some t):Sat prog cxT 95 (c95 m):=
 cD bA aW (by rfl) (fn:=f95) rfl a95 n95 aXx m (aWK jU dH oA nZ nY m147 m148 mI eM mV nX lZ) (aL h44 (aL h143 (aL h144 (aL h145 (aL h146 (aL h147 (aL h148 (aL h149 (aL h94 (aL h150 (aL h151 (aL h152 aV)))))))))))) aP (w95 jU dH oA nZ nY m147 m148 mI eM mV nX lZ) (λL x=>e95 jU dH oA nZ nY m147 m148 mI eM mV nX lZ L x.1 x.2.1 x.2.2.1 x.2.2.2.1 x.2.2.2.2.1 x.2.2.2.2.2.1 x.2.2.2.2.2.2.1 x.2.2.2.2.2.2.2.1 x.2.2.2.2.2.2.2.2.1 x.2.2.2.2.2.2.2.2.2) hm bCN
def aWJ (m95:Y95)(eM:Y94)(dH:Y143)(eN:Y47)(m147:Y147)(mU:Y153)(nW:Y154)(m155:Y155):Env cxT:={ Kc:=cS [(95,c95 m95),(94,c94 eM),(143,aCF dH),(47,c47 eN),(147,aIy m147),(153,aMJ mU),(154,aMI nW),(155,aMH m155)],Kw:=cR [],lv:=λi=>[],xv:=λi=>none }
def G96 {B:Type}(u:Int->B)(m95:Y95)(eM:Y94)(dH:Y143)(eN:Y47)(m147:Y147)(mU:Y153)(nW:Y154)(m155:Y155)(a0_0:Int)(a0_1:Int)(a0_2:Int)(a0_3:Int)(a0_4:(List E9))(a0_5:Int)(a0_6:Int)(a0_7:(List Int))(a0_8:(List Int))(a0_9:(List Int))(a1_0:Int)(a1_1:Int)(a1_2:Int)(a1_3:Int)(a1_4:Int)(a1_5:Int)(a1_6:Int)(a1_7:Bool)(a1_8:(List E9)):Option B:=
 dB (m95 (a0_0,(a0_1,(a0_2,(a0_3,(a0_4,(a0_5,(a0_6,(a0_7,(a0_8,a0_9)))))))))) (0:Int) λ(q1:Int)=>bif (q1 != (0:Int))then some (u q1)
  else dB (eM (a1_0,((1:Int),(4:Int)))) false λ(q2:Bool)=>bif (!q2)then some (u (5:Int))
   else dB (dH (a1_1,a0_1)) false λ(q3:Bool)=>bif (!q3)then some (u (3:Int))
    else bif (a1_1 == a0_0)then some (u (3:Int))
    else bif (a1_2 != a0_0)then some (u (3:Int))
    else dB (eN a1_3) false λ(q4:Bool)=>bif (!q4)then some (u (3:Int))
     else dB (eM (a1_4,((0:Int),(40:Int)))) false λ(q5:Bool)=>bif (!q5)then some (u (3:Int))
      else dB (eM (a1_5,((0:Int),a1_3))) false λ(q6:Bool)=>bif (!q6)then some (u (3:Int))
       else dB (eM (a1_6,((0:Int),(40:Int)))) false λ(q7:Bool)=>bif (!q7)then some (u (3:Int))
        else dB (m147 a1_8) (0:Int) λ(q8:Int)=>bif (q8 != (0:Int))then some (u q8)
         else dB (mU (a1_0,(a1_1,(a1_2,(a1_3,(a1_4,(a1_5,(a1_6,(a1_7,a1_8))))))))) false λ(q9:Bool)=>bif (!q9)then some (u (1:Int))
          else dB (nW (a1_0,(a1_1,(a1_2,(a1_3,(a1_4,(a1_5,(a1_6,(a1_7,a1_8))))))))) false λ(q10:Bool)=>bif (!q10)then some (u (1:Int))
           else dB (m155 (a1_0,(a1_1,(a1_2,(a1_3,(a1_4,(a1_5,(a1_6,(a1_7,a1_8))))))))) false λ(q11:Bool)=>bif (!q11)then some (u (1:Int))
            else bif (a1_4 == (0:Int))then bif (a1_5 != (0:Int))then some (u (1:Int))
             else some (u (0:Int))
            else some (u (0:Int))
def g96 (m95:Y95)(eM:Y94)(dH:Y143)(eN:Y47)(m147:Y147)(mU:Y153)(nW:Y154)(m155:Y155)(L:Nat)(a0_0:Int)(a0_1:Int)(a0_2:Int)(a0_3:Int)(a0_4:(List E9))(a0_5:Int)(a0_6:Int)(a0_7:(List Int))(a0_8:(List Int))(a0_9:(List Int))(a1_0:Int)(a1_1:Int)(a1_2:Int)(a1_3:Int)(a1_4:Int)(a1_5:Int)(a1_6:Int)(a1_7:Bool)(a1_8:(List E9)):Option Int:=G96 (λx=>x) m95 eM dH eN m147 mU nW m155 a0_0 a0_1 a0_2 a0_3 a0_4 a0_5 a0_6 a0_7 a0_8 a0_9 a1_0 a1_1 a1_2 a1_3 a1_4 a1_5 a1_6 a1_7 a1_8
theorem e96 (m95:Y95)(eM:Y94)(dH:Y143)(eN:Y47)(m147:Y147)(mU:Y153)(nW:Y154)(m155:Y155)(L:Nat)(a0_0:Int)(a0_1:Int)(a0_2:Int)(a0_3:Int)(a0_4:(List E9))(a0_5:Int)(a0_6:Int)(a0_7:(List Int))(a0_8:(List Int))(a0_9:(List Int))(a1_0:Int)(a1_1:Int)(a1_2:Int)(a1_3:Int)(a1_4:Int)(a1_5:Int)(a1_6:Int)(a1_7:Bool)(a1_8:(List E9)):fK prog (aWJ m95 eM dH eN m147 mU nW m155) (bJ L) f96 (a96.enc ((a0_0,a0_1,a0_2,a0_3,a0_4,a0_5,a0_6,a0_7,a0_8,a0_9),(a1_0,a1_1,a1_2,a1_3,a1_4,a1_5,a1_6,a1_7,a1_8)))=(g96 m95 eM dH eN m147 mU nW m155 L a0_0 a0_1 a0_2 a0_3 a0_4 a0_5 a0_6 a0_7 a0_8 a0_9 a1_0 a1_1 a1_2 a1_3 a1_4 a1_5 a1_6 a1_7 a1_8).map n96:=by
 refine .trans (b:=G96 n96 m95 eM dH eN m147 mU nW m155 a0_0 a0_1 a0_2 a0_3 a0_4 a0_5 a0_6 a0_7 a0_8 a0_9 a1_0 a1_1 a1_2 a1_3 a1_4 a1_5 a1_6 a1_7 a1_8) (by kernel_rfl) ?_;unfold g96 G96
 repeat' first | with_reducible refine dP ?_ ?_ | with_reducible refine dL λ_=>?_ | with_reducible refine dO λ_=>?_ | exact rfl
def w96 (m95:Y95)(eM:Y94)(dH:Y143)(eN:Y47)(m147:Y147)(mU:Y153)(nW:Y154)(m155:Y155)(L:Nat)(x:(N10×M9)):Option Int:=g96 m95 eM dH eN m147 mU nW m155 L x.1.1 x.1.2.1 x.1.2.2.1 x.1.2.2.2.1 x.1.2.2.2.2.1 x.1.2.2.2.2.2.1 x.1.2.2.2.2.2.2.1 x.1.2.2.2.2.2.2.2.1 x.1.2.2.2.2.2.2.2.2.1 x.1.2.2.2.2.2.2.2.2.2 x.2.1 x.2.2.1 x.2.2.2.1 x.2.2.2.2.1 x.2.2.2.2.2.1 x.2.2.2.2.2.2.1 x.2.2.2.2.2.2.2.1 x.2.2.2.2.2.2.2.2.1 x.2.2.2.2.2.2.2.2.2
theorem s96 (m95:Y95)(eM:Y94)(dH:Y143)(eN:Y47)(m147:Y147)(mU:Y153)(nW:Y154)(m155:Y155)(h95:Sat prog cxT 95 (c95 m95))(h94:Sat prog cxT 94 (c94 eM))(h143:Sat prog cxT 143 (aCF dH))(h47:Sat prog cxT 47 (c47 eN))(h147:Sat prog cxT 147 (aIy m147))(h153:Sat prog cxT 153 (aMJ mU))(h154:Sat prog cxT 154 (aMI nW))(h155:Sat prog cxT 155 (aMH m155))(m:Y96)(hm:∀ (x:(N10×M9)) t,m x=some t->∃ L,w96 m95 eM dH eN m147 mU nW m155 L x=some t):Sat prog cxT 96 (c96 m):=
 cD bA aW (by rfl) (fn:=f96) rfl a96 n96 aXw m (aWJ m95 eM dH eN m147 mU nW m155) (aL h95 (aL h94 (aL h143 (aL h47 (aL h147 (aL h153 (aL h154 (aL h155 aV)))))))) aP (w96 m95 eM dH eN m147 mU nW m155) (λL x=>e96 m95 eM dH eN m147 mU nW m155 L x.1.1 x.1.2.1 x.1.2.2.1 x.1.2.2.2.1 x.1.2.2.2.2.1 x.1.2.2.2.2.2.1 x.1.2.2.2.2.2.2.1 x.1.2.2.2.2.2.2.2.1 x.1.2.2.2.2.2.2.2.2.1 x.1.2.2.2.2.2.2.2.2.2 x.2.1 x.2.2.1 x.2.2.2.1 x.2.2.2.2.1 x.2.2.2.2.2.1 x.2.2.2.2.2.2.1 x.2.2.2.2.2.2.2.1 x.2.2.2.2.2.2.2.2.1 x.2.2.2.2.2.2.2.2.2) hm bCM
def aCw (m95:Y95):Env cxT:={ Kc:=cS [(95,c95 m95)],Kw:=cR [],lv:=λi=>if i=0 then[(0,[some 96]),(6,[some 96]),(7,[]),(8,[])]else[],xv:=λi=>if i=0 then some []else none }
def S45_0 (a0:(List N10))(v0_8:Int):St cxT.ty:={ slots:=[(.inl (.inl (ls { own:=0,nm:=0,e:=96,o:=false,xs:=a0 }))),aK,aK,aK,aK,aK,(.inl (.inl (ls { own:=0,nm:=0,e:=96,o:=false,xs:=a0 }))),(.inl (.inl (lv (.int .i64 (Nat.cast (List.length a0):Int))))),(.inl (.inl (lv (.int .i64 v0_8))))]++List.replicate 21 aK,D:=[],F:=[],ctr:=1 }
def X45_0 (a0:(List N10)):St cxT.ty:={ slots:=[]++List.replicate 30 aK,D:=[],F:=[],ctr:=1 }
def G45 {B:Type}(u:Int->B)(hh0:Int->Option B)(m95:Y95)(a0:(List N10)):Option B:=
 hh0 (0:Int)
def B45_0 {B:Type}(u:Int->B)(gg:Int->Option B)(kk:Option B)(m95:Y95)(a0:(List N10))(v0_8:Int):Option B:=
 bif (decide (v0_8 < (Nat.cast (List.length a0):Int)))then dY (List.getD a0 v0_8.toNat ((0:Int),((0:Int),((0:Int),((0:Int),(([]:List E9),((0:Int),((0:Int),(([]:List (Int)),(([]:List (Int)),([]:List (Int)))))))))))) λs1_0=>bif ((decide ((0:Int)<=v0_8))&&(decide (v0_8 < (Nat.cast (List.length a0):Int))))then dB (m95 (s1_0.1,(s1_0.2.1,(s1_0.2.2.1,(s1_0.2.2.2.1,(s1_0.2.2.2.2.1,(s1_0.2.2.2.2.2.1,(s1_0.2.2.2.2.2.2.1,(s1_0.2.2.2.2.2.2.2.1,(s1_0.2.2.2.2.2.2.2.2.1,s1_0.2.2.2.2.2.2.2.2.2)))))))))) (0:Int) λ(q3:Int)=>bif (q3 != (0:Int))then some (u q3)
    else bif (s1_0.1 != v0_8)then some (u (1:Int))
    else bif (s1_0.2.1 != (Nat.cast (List.length a0):Int))then some (u (1:Int))
    else gg (wrap .i64 (v0_8+(1:Int)))
  else none
 else kk
def A45_0 {B:Type}(u:Int->B)(m95:Y95)(a0:(List N10)):Option B:=
 some (u (0:Int))
def tU (m95:Y95)(L:Nat)(a0:(List N10)):Nat->Int->(Option Int)->Option Int
 | 0,_,_=>none
 | n+1,v0_8,k=>B45_0 (λx=>x) (λv0_8=>tU m95 L a0 n v0_8 k) k m95 a0 v0_8
theorem aNE (m95:Y95)(L:Nat)(a0:(List N10))(k:St cxT.ty->Option (V cxT.ty))(xk:Nat->St cxT.ty->Option (V cxT.ty))(k':Option Int)(hk:k (X45_0 a0)=(k').map n45):∀ (n:Nat) (v0_8:Int),bE prog (aCw m95) L f45 0 [1,0,1,0,0] (bW (aX prog f45) k xk) n (S45_0 a0 v0_8)=(tU m95 L a0 n v0_8 k').map n45
 | 0,_=>rfl
 | n+1,v0_8=>by
  rw[bP];have ih:=aNE m95 L a0 k xk k' hk n;refine .trans (b:=B45_0 n45 (λv0_8=>(bE prog (aCw m95) L f45 0 [1,0,1,0,0] (bW (aX prog f45) k xk) n) (S45_0 a0 v0_8)) (k (X45_0 a0)) m95 a0 v0_8) (by kernel_rfl) ?_;unfold tU B45_0
  repeat' first | with_reducible refine dP ?_ ?_ | with_reducible refine dL λ_=>?_ | with_reducible refine dO λ_=>?_ | with_reducible exact ih _ | with_reducible exact hk | exact rfl
def g45 (m95:Y95)(L:Nat)(a0:(List N10)):Option Int:=G45 (λx=>x) (λv0_8=>tU m95 L a0 L v0_8 (A45_0 (λx=>x) m95 a0)) m95 a0
theorem e45 (m95:Y95)(L:Nat)(a0:(List N10)):fK prog (aCw m95) (bJ L) f45 (a45.enc a0)=(g45 m95 L a0).map n45:=by
 have hin0:∀ (v0_8:Int),bE prog (aCw m95) L f45 0 [1,0,1,0,0] (bW (aX prog f45) (bV prog (aCw m95) L f45 [1,0,1] (aX prog f45)).n (bV prog (aCw m95) L f45 [1,0,1] (aX prog f45)).x) L (S45_0 a0 v0_8)=((λv0_8=>tU m95 L a0 L v0_8 (A45_0 (λx=>x) m95 a0)) v0_8).map n45:=λv0_8=>aNE m95 L a0 _ _ _ (by refine .trans (b:=A45_0 n45 m95 a0) (by kernel_rfl) ?_;unfold A45_0;repeat' first | with_reducible refine dP ?_ ?_ | with_reducible refine dL λ_=>?_ | with_reducible refine dO λ_=>?_ | exact rfl) L v0_8
 refine .trans (b:=G45 n45 (λv0_8=>bE prog (aCw m95) L f45 0 [1,0,1,0,0] (bW (aX prog f45) (bV prog (aCw m95) L f45 [1,0,1] (aX prog f45)).n (bV prog (aCw m95) L f45 [1,0,1] (aX prog f45)).x) L (S45_0 a0 v0_8)) m95 a0) (by kernel_rfl) ?_;unfold g45 G45
 repeat' first | with_reducible refine dP ?_ ?_ | with_reducible refine dL λ_=>?_ | with_reducible refine dO λ_=>?_ | with_reducible exact hin0 _ | exact rfl
def w45 (m95:Y95)(L:Nat)(x:(List N10)):Option Int:=g45 m95 L x
theorem s45 (m95:Y95)(h95:Sat prog cxT 95 (c95 m95))(m:Y45)(hm:∀ (x:(List N10)) t,m x=some t->∃ L,w45 m95 L x=some t):Sat prog cxT 45 (c45 m):=
 cD bA aW (by rfl) (fn:=f45) rfl a45 n45 aX4 m (aCw m95) (aL h95 aV) aP (w45 m95) (λL x=>e45 m95 L x) hm bDj
def aCv (fY:Y48)(mN:Y96):Env cxT:={ Kc:=cS [(48,c48 fY),(96,c96 mN)],Kw:=cR [],lv:=λi=>if i=0 then[(0,[some 96]),(8,[some 78]),(9,[]),(10,[])]else[],xv:=λi=>if i=0 then some []else none }
def S46_0 (a0:(List N10))(a1:(List M9))(v0_10:Int):St cxT.ty:={ slots:=[(.inl (.inl (ls { own:=0,nm:=0,e:=96,o:=false,xs:=a0 }))),aK,aK,aK,aK,aK,aK,aK,(.inl (.inl (ls { own:=0,nm:=0,e:=78,o:=false,xs:=a1 }))),(.inl (.inl (lv (.int .i64 (Nat.cast (List.length a1):Int))))),(.inl (.inl (lv (.int .i64 v0_10))))]++List.replicate 20 aK,D:=[],F:=[],ctr:=1 }
def X46_0 (a0:(List N10))(a1:(List M9)):St cxT.ty:={ slots:=[]++List.replicate 31 aK,D:=[],F:=[],ctr:=1 }
def G46 {B:Type}(u:Int->B)(hh0:Int->Option B)(fY:Y48)(mN:Y96)(a0:(List N10))(a1:(List M9)):Option B:=
 hh0 (0:Int)
def B46_0 {B:Type}(u:Int->B)(gg:Int->Option B)(kk:Option B)(fY:Y48)(mN:Y96)(a0:(List N10))(a1:(List M9))(v0_10:Int):Option B:=
 bif (decide (v0_10 < (Nat.cast (List.length a1):Int)))then dY (List.getD a1 v0_10.toNat ((0:Int),((0:Int),((0:Int),((0:Int),((0:Int),((0:Int),((0:Int),(false,[]))))))))) λs1_0=>dY (List.getD a0 (Int.toNat s1_0.2.2.1) ((0:Int),((0:Int),((0:Int),((0:Int),(([]:List E9),((0:Int),((0:Int),(([]:List (Int)),(([]:List (Int)),([]:List (Int)))))))))))) λs1_1=>bif ((decide ((0:Int)<=v0_10))&&(decide (v0_10 < (Nat.cast (List.length a1):Int))))then dB (fY (s1_0.2.2.1,(Nat.cast (List.length a0):Int))) false λ(q3:Bool)=>bif (!q3)then some (u (3:Int))
    else bif ((decide ((0:Int)<=s1_0.2.2.1))&&(decide (s1_0.2.2.1 < (Nat.cast (List.length a0):Int))))then dB (mN ((s1_1.1,(s1_1.2.1,(s1_1.2.2.1,(s1_1.2.2.2.1,(s1_1.2.2.2.2.1,(s1_1.2.2.2.2.2.1,(s1_1.2.2.2.2.2.2.1,(s1_1.2.2.2.2.2.2.2.1,(s1_1.2.2.2.2.2.2.2.2.1,s1_1.2.2.2.2.2.2.2.2.2))))))))),(s1_0.1,(s1_0.2.1,(s1_0.2.2.1,(s1_0.2.2.2.1,(s1_0.2.2.2.2.1,(s1_0.2.2.2.2.2.1,(s1_0.2.2.2.2.2.2.1,(s1_0.2.2.2.2.2.2.2.1,s1_0.2.2.2.2.2.2.2.2)))))))))) (0:Int) λ(q5:Int)=>bif (q5 != (0:Int))then some (u q5)
      else gg (wrap .i64 (v0_10+(1:Int)))
    else none
  else none
 else kk
def A46_0 {B:Type}(u:Int->B)(fY:Y48)(mN:Y96)(a0:(List N10))(a1:(List M9)):Option B:=
 some (u (0:Int))
def sA (fY:Y48)(mN:Y96)(L:Nat)(a0:(List N10))(a1:(List M9)):Nat->Int->(Option Int)->Option Int
 | 0,_,_=>none
 | n+1,v0_10,k=>B46_0 (λx=>x) (λv0_10=>sA fY mN L a0 a1 n v0_10 k) k fY mN a0 a1 v0_10
theorem aND (fY:Y48)(mN:Y96)(L:Nat)(a0:(List N10))(a1:(List M9))(k:St cxT.ty->Option (V cxT.ty))(xk:Nat->St cxT.ty->Option (V cxT.ty))(k':Option Int)(hk:k (X46_0 a0 a1)=(k').map n46):∀ (n:Nat) (v0_10:Int),bE prog (aCv fY mN) L f46 0 [1,0,1,0,0] (bW (aX prog f46) k xk) n (S46_0 a0 a1 v0_10)=(sA fY mN L a0 a1 n v0_10 k').map n46
 | 0,_=>rfl
 | n+1,v0_10=>by
  rw[bP];have ih:=aND fY mN L a0 a1 k xk k' hk n;refine .trans (b:=B46_0 n46 (λv0_10=>(bE prog (aCv fY mN) L f46 0 [1,0,1,0,0] (bW (aX prog f46) k xk) n) (S46_0 a0 a1 v0_10)) (k (X46_0 a0 a1)) fY mN a0 a1 v0_10) (by kernel_rfl) ?_;unfold sA B46_0
  repeat' first | with_reducible refine dP ?_ ?_ | with_reducible refine dL λ_=>?_ | with_reducible refine dO λ_=>?_ | with_reducible exact ih _ | with_reducible exact hk | exact rfl
def g46 (fY:Y48)(mN:Y96)(L:Nat)(a0:(List N10))(a1:(List M9)):Option Int:=G46 (λx=>x) (λv0_10=>sA fY mN L a0 a1 L v0_10 (A46_0 (λx=>x) fY mN a0 a1)) fY mN a0 a1
theorem e46 (fY:Y48)(mN:Y96)(L:Nat)(a0:(List N10))(a1:(List M9)):fK prog (aCv fY mN) (bJ L) f46 (a46.enc (a0,a1))=(g46 fY mN L a0 a1).map n46:=by
 have hin0:∀ (v0_10:Int),bE prog (aCv fY mN) L f46 0 [1,0,1,0,0] (bW (aX prog f46) (bV prog (aCv fY mN) L f46 [1,0,1] (aX prog f46)).n (bV prog (aCv fY mN) L f46 [1,0,1] (aX prog f46)).x) L (S46_0 a0 a1 v0_10)=((λv0_10=>sA fY mN L a0 a1 L v0_10 (A46_0 (λx=>x) fY mN a0 a1)) v0_10).map n46:=λv0_10=>aND fY mN L a0 a1 _ _ _ (by refine .trans (b:=A46_0 n46 fY mN a0 a1) (by kernel_rfl) ?_;unfold A46_0;repeat' first | with_reducible refine dP ?_ ?_ | with_reducible refine dL λ_=>?_ | with_reducible refine dO λ_=>?_ | exact rfl) L v0_10
 refine .trans (b:=G46 n46 (λv0_10=>bE prog (aCv fY mN) L f46 0 [1,0,1,0,0] (bW (aX prog f46) (bV prog (aCv fY mN) L f46 [1,0,1] (aX prog f46)).n (bV prog (aCv fY mN) L f46 [1,0,1] (aX prog f46)).x) L (S46_0 a0 a1 v0_10)) fY mN a0 a1) (by kernel_rfl) ?_;unfold g46 G46
 repeat' first | with_reducible refine dP ?_ ?_ | with_reducible refine dL λ_=>?_ | with_reducible refine dO λ_=>?_ | with_reducible exact hin0 _ | exact rfl
def w46 (fY:Y48)(mN:Y96)(L:Nat)(x:((List N10)×(List M9))):Option Int:=g46 fY mN L x.1 x.2
theorem s46 (fY:Y48)(mN:Y96)(h48:Sat prog cxT 48 (c48 fY))(h96:Sat prog cxT 96 (c96 mN))(m:Y46)(hm:∀ (x:((List N10)×(List M9))) t,m x=some t->∃ L,w46 fY mN L x=some t):Sat prog cxT 46 (c46 m):=
 cD bA aW (by rfl) (fn:=f46) rfl a46 n46 aX3 m (aCv fY mN) (aL h48 (aL h96 aV)) aP (w46 fY mN) (λL x=>e46 fY mN L x.1 x.2) hm bDi
def aCu (eN:Y47)(m97:Y97):Env cxT:={ Kc:=cS [(47,c47 eN),(97,c97 m97)],Kw:=cR [],lv:=λi=>if i=0 then[(6,[some 118]),(7,[]),(8,[])]else[],xv:=λi=>if i=0 then some []else none }
def S49_0 (a0:(List S10))(v0_8:Int):St cxT.ty:={ slots:=[aK,aK,aK,aK,aK,aK,(.inl (.inl (ls { own:=0,nm:=0,e:=118,o:=false,xs:=a0 }))),(.inl (.inl (lv (.int .i64 (Nat.cast (List.length a0):Int))))),(.inl (.inl (lv (.int .i64 v0_8))))]++List.replicate 14 aK,D:=[],F:=[],ctr:=1 }
def X49_0 (a0:(List S10)):St cxT.ty:={ slots:=[]++List.replicate 23 aK,D:=[],F:=[],ctr:=1 }
def G49 {B:Type}(u:Int->B)(hh0:Int->Option B)(eN:Y47)(m97:Y97)(a0:(List S10)):Option B:=
 hh0 (0:Int)
def B49_0 {B:Type}(u:Int->B)(gg:Int->Option B)(kk:Option B)(eN:Y47)(m97:Y97)(a0:(List S10))(v0_8:Int):Option B:=
 bif (decide (v0_8 < (Nat.cast (List.length a0):Int)))then dY (List.getD a0 v0_8.toNat ((0:Int),((0:Int),((0:Int),((0:Int),((0:Int),((0:Int),((0:Int),((0:Int),((0:Int),(0:Int))))))))))) λs1_0=>bif ((decide ((0:Int)<=v0_8))&&(decide (v0_8 < (Nat.cast (List.length a0):Int))))then dB (eN s1_0.1) false λ(q3:Bool)=>bif (!q3)then some (u (3:Int))
    else dB (m97 (s1_0.2.1,(s1_0.2.2.1,(s1_0.2.2.2.1,(s1_0.2.2.2.2.1,(s1_0.2.2.2.2.2.1,(s1_0.2.2.2.2.2.2.1,(s1_0.2.2.2.2.2.2.2.1,(s1_0.2.2.2.2.2.2.2.2.1,s1_0.2.2.2.2.2.2.2.2.2))))))))) (0:Int) λ(q4:Int)=>bif (q4 != (0:Int))then some (u q4)
     else gg (wrap .i64 (v0_8+(1:Int)))
  else none
 else kk
def A49_0 {B:Type}(u:Int->B)(eN:Y47)(m97:Y97)(a0:(List S10)):Option B:=
 some (u (0:Int))
def tT (eN:Y47)(m97:Y97)(L:Nat)(a0:(List S10)):Nat->Int->(Option Int)->Option Int
 | 0,_,_=>none
 | n+1,v0_8,k=>B49_0 (λx=>x) (λv0_8=>tT eN m97 L a0 n v0_8 k) k eN m97 a0 v0_8
theorem aNC (eN:Y47)(m97:Y97)(L:Nat)(a0:(List S10))(k:St cxT.ty->Option (V cxT.ty))(xk:Nat->St cxT.ty->Option (V cxT.ty))(k':Option Int)(hk:k (X49_0 a0)=(k').map n49):∀ (n:Nat) (v0_8:Int),bE prog (aCu eN m97) L f49 0 [1,0,1,0,0] (bW (aX prog f49) k xk) n (S49_0 a0 v0_8)=(tT eN m97 L a0 n v0_8 k').map n49
 | 0,_=>rfl
 | n+1,v0_8=>by
  rw[bP];have ih:=aNC eN m97 L a0 k xk k' hk n;refine .trans (b:=B49_0 n49 (λv0_8=>(bE prog (aCu eN m97) L f49 0 [1,0,1,0,0] (bW (aX prog f49) k xk) n) (S49_0 a0 v0_8)) (k (X49_0 a0)) eN m97 a0 v0_8) (by kernel_rfl) ?_;unfold tT B49_0
  repeat' first | with_reducible refine dP ?_ ?_ | with_reducible refine dL λ_=>?_ | with_reducible refine dO λ_=>?_ | with_reducible exact ih _ | with_reducible exact hk | exact rfl
def g49 (eN:Y47)(m97:Y97)(L:Nat)(a0:(List S10)):Option Int:=G49 (λx=>x) (λv0_8=>tT eN m97 L a0 L v0_8 (A49_0 (λx=>x) eN m97 a0)) eN m97 a0
theorem e49 (eN:Y47)(m97:Y97)(L:Nat)(a0:(List S10)):fK prog (aCu eN m97) (bJ L) f49 (a49.enc a0)=(g49 eN m97 L a0).map n49:=by
 have hin0:∀ (v0_8:Int),bE prog (aCu eN m97) L f49 0 [1,0,1,0,0] (bW (aX prog f49) (bV prog (aCu eN m97) L f49 [1,0,1] (aX prog f49)).n (bV prog (aCu eN m97) L f49 [1,0,1] (aX prog f49)).x) L (S49_0 a0 v0_8)=((λv0_8=>tT eN m97 L a0 L v0_8 (A49_0 (λx=>x) eN m97 a0)) v0_8).map n49:=λv0_8=>aNC eN m97 L a0 _ _ _ (by refine .trans (b:=A49_0 n49 eN m97 a0) (by kernel_rfl) ?_;unfold A49_0;repeat' first | with_reducible refine dP ?_ ?_ | with_reducible refine dL λ_=>?_ | with_reducible refine dO λ_=>?_ | exact rfl) L v0_8
 refine .trans (b:=G49 n49 (λv0_8=>bE prog (aCu eN m97) L f49 0 [1,0,1,0,0] (bW (aX prog f49) (bV prog (aCu eN m97) L f49 [1,0,1] (aX prog f49)).n (bV prog (aCu eN m97) L f49 [1,0,1] (aX prog f49)).x) L (S49_0 a0 v0_8)) eN m97 a0) (by kernel_rfl) ?_;unfold g49 G49
 repeat' first | with_reducible refine dP ?_ ?_ | with_reducible refine dL λ_=>?_ | with_reducible refine dO λ_=>?_ | with_reducible exact hin0 _ | exact rfl
def w49 (eN:Y47)(m97:Y97)(L:Nat)(x:(List S10)):Option Int:=g49 eN m97 L x
theorem s49 (eN:Y47)(m97:Y97)(h47:Sat prog cxT 47 (c47 eN))(h97:Sat prog cxT 97 (c97 m97))(m:Y49)(hm:∀ (x:(List S10)) t,m x=some t->∃ L,w49 eN m97 L x=some t):Sat prog cxT 49 (c49 m):=
 cD bA aW (by rfl) (fn:=f49) rfl a49 n49 aX0 m (aCu eN m97) (aL h47 (aL h97 aV)) aP (w49 eN m97) (λL x=>e49 eN m97 L x) hm bDf
def aCD (jU:Y44)(nI:Y45)(nH:Y46)(eN:Y47)(fY:Y48)(mS:Y49):Env cxT:={ Kc:=cS [(44,c44 jU),(45,c45 nI),(46,c46 nH),(47,c47 eN),(48,c48 fY),(49,c49 mS)],Kw:=cR [],lv:=λi=>if i=0 then[(1,[some 96,some 78,some 66,some 118]),(43,[some 66]),(44,[]),(45,[])]else[],xv:=λi=>if i=0 then some [(1,[some 96,some 78,some 66,some 118])]else none }
def S14_0 (a0_0:(List N10))(a0_1:(List M9))(a0_2:(List W2))(a0_3:(List S10))(v0_1_0:(List N10))(v0_1_1:(List M9))(v0_1_2:(List W2))(v0_1_3:(List S10))(v0_45:Int):St cxT.ty:={ slots:=[aK,(.inr (.inr { kind:=0,nm:=64,cells:=[(ls { own:=0,nm:=0,e:=96,o:=false,xs:=v0_1_0 }),(ls { own:=0,nm:=0,e:=78,o:=false,xs:=v0_1_1 }),(ls { own:=0,nm:=0,e:=66,o:=false,xs:=v0_1_2 }),(ls { own:=0,nm:=0,e:=118,o:=false,xs:=v0_1_3 })],s:={ own:=0,nm:=0,e:=0,o:=false,xs:=([]:List (PUnit)) },i:=0,off:=0 })),aK,aK,aK,aK,aK,aK,aK,aK,aK,aK,aK,aK,aK,aK,aK,aK,aK,aK,aK,aK,aK,aK,aK,aK,aK,aK,aK,aK,aK,aK,aK,aK,aK,aK,aK,aK,aK,aK,aK,aK,aK,(.inl (.inl (ls { own:=0,nm:=0,e:=66,o:=false,xs:=a0_2 }))),(.inl (.inl (lv (.int .i64 (Nat.cast (List.length a0_2):Int))))),(.inl (.inl (lv (.int .i64 v0_45))))]++List.replicate 20 aK,D:=[],F:=[],ctr:=1 }
def X14_0 (a0_0:(List N10))(a0_1:(List M9))(a0_2:(List W2))(a0_3:(List S10))(w0_1_0:(List N10))(w0_1_1:(List M9))(w0_1_2:(List W2))(w0_1_3:(List S10)):St cxT.ty:={ slots:=[aK,(.inr (.inr { kind:=0,nm:=64,cells:=[(ls { own:=0,nm:=0,e:=96,o:=false,xs:=w0_1_0 }),(ls { own:=0,nm:=0,e:=78,o:=false,xs:=w0_1_1 }),(ls { own:=0,nm:=0,e:=66,o:=false,xs:=w0_1_2 }),(ls { own:=0,nm:=0,e:=118,o:=false,xs:=w0_1_3 })],s:={ own:=0,nm:=0,e:=0,o:=false,xs:=([]:List (PUnit)) },i:=0,off:=0 }))]++List.replicate 64 aK,D:=[],F:=[],ctr:=1 }
def G14 {B:Type}(u:Int->B)(hh0:(List N10)->(List M9)->(List W2)->(List S10)->Int->Option B)(jU:Y44)(nI:Y45)(nH:Y46)(eN:Y47)(fY:Y48)(mS:Y49)(a0_0:(List N10))(a0_1:(List M9))(a0_2:(List W2))(a0_3:(List S10)):Option B:=
 dB (jU (Nat.cast (List.length a0_0):Int)) false λ(q1:Bool)=>bif (!q1)then some (u (2:Int))
  else bif (decide ((Nat.cast (List.length a0_1):Int) > (80:Int)))then some (u (2:Int))
  else dB (nI a0_0) (0:Int) λ(q2:Int)=>bif (q2 != (0:Int))then some (u q2)
   else dB (nH (a0_0,a0_1)) (0:Int) λ(q3:Int)=>bif (q3 != (0:Int))then some (u q3)
    else bif (decide ((Nat.cast (List.length a0_2):Int) > (400:Int)))then some (u (2:Int))
    else bif (decide ((Nat.cast (List.length a0_3):Int) > (40:Int)))then some (u (2:Int))
    else hh0 a0_0 a0_1 a0_2 a0_3 (0:Int)
def B14_0 {B:Type}(u:Int->B)(gg:(List N10)->(List M9)->(List W2)->(List S10)->Int->Option B)(kk:(List N10)->(List M9)->(List W2)->(List S10)->Option B)(jU:Y44)(nI:Y45)(nH:Y46)(eN:Y47)(fY:Y48)(mS:Y49)(a0_0:(List N10))(a0_1:(List M9))(a0_2:(List W2))(a0_3:(List S10))(v0_1_0:(List N10))(v0_1_1:(List M9))(v0_1_2:(List W2))(v0_1_3:(List S10))(v0_45:Int):Option B:=
 bif (decide (v0_45 < (Nat.cast (List.length a0_2):Int)))then dY (List.getD a0_2 v0_45.toNat ((0:Int),(0:Int))) λs1_0=>bif ((decide ((0:Int)<=v0_45))&&(decide (v0_45 < (Nat.cast (List.length a0_2):Int))))then dB (eN s1_0.1) false λ(q3:Bool)=>bif (!q3)then some (u (3:Int))
    else dB (fY (s1_0.2,(Nat.cast (List.length v0_1_0):Int))) false λ(q4:Bool)=>bif (!q4)then some (u (3:Int))
     else gg v0_1_0 v0_1_1 v0_1_2 v0_1_3 (wrap .i64 (v0_45+(1:Int)))
  else none
 else kk v0_1_0 v0_1_1 v0_1_2 v0_1_3
def A14_0 {B:Type}(u:Int->B)(jU:Y44)(nI:Y45)(nH:Y46)(eN:Y47)(fY:Y48)(mS:Y49)(a0_0:(List N10))(a0_1:(List M9))(a0_2:(List W2))(a0_3:(List S10))(w0_1_0:(List N10))(w0_1_1:(List M9))(w0_1_2:(List W2))(w0_1_3:(List S10)):Option B:=
 dB (mS w0_1_3) (0:Int) λ(q1:Int)=>some (u q1)
def tV (jU:Y44)(nI:Y45)(nH:Y46)(eN:Y47)(fY:Y48)(mS:Y49)(L:Nat)(a0_0:(List N10))(a0_1:(List M9))(a0_2:(List W2))(a0_3:(List S10)):Nat->(List N10)->(List M9)->(List W2)->(List S10)->Int->((List N10)->(List M9)->(List W2)->(List S10)->Option Int)->Option Int
 | 0,_,_,_,_,_,_=>none
 | n+1,v0_1_0,v0_1_1,v0_1_2,v0_1_3,v0_45,k=>B14_0 (λx=>x) (λv0_1_0 v0_1_1 v0_1_2 v0_1_3 v0_45=>tV jU nI nH eN fY mS L a0_0 a0_1 a0_2 a0_3 n v0_1_0 v0_1_1 v0_1_2 v0_1_3 v0_45 k) k jU nI nH eN fY mS a0_0 a0_1 a0_2 a0_3 v0_1_0 v0_1_1 v0_1_2 v0_1_3 v0_45
theorem aNP (jU:Y44)(nI:Y45)(nH:Y46)(eN:Y47)(fY:Y48)(mS:Y49)(L:Nat)(a0_0:(List N10))(a0_1:(List M9))(a0_2:(List W2))(a0_3:(List S10))(k:St cxT.ty->Option (V cxT.ty))(xk:Nat->St cxT.ty->Option (V cxT.ty))(k':(List N10)->(List M9)->(List W2)->(List S10)->Option Int)(hk:∀ (w0_1_0:(List N10)) (w0_1_1:(List M9)) (w0_1_2:(List W2)) (w0_1_3:(List S10)),k (X14_0 a0_0 a0_1 a0_2 a0_3 w0_1_0 w0_1_1 w0_1_2 w0_1_3)=(k' w0_1_0 w0_1_1 w0_1_2 w0_1_3).map n14):∀ (n:Nat) (v0_1_0:(List N10)) (v0_1_1:(List M9)) (v0_1_2:(List W2)) (v0_1_3:(List S10)) (v0_45:Int),bE prog (aCD jU nI nH eN fY mS) L f14 0 [1,1,1,1,1,0,1,0,0] (bW (aX prog f14) k xk) n (S14_0 a0_0 a0_1 a0_2 a0_3 v0_1_0 v0_1_1 v0_1_2 v0_1_3 v0_45)=(tV jU nI nH eN fY mS L a0_0 a0_1 a0_2 a0_3 n v0_1_0 v0_1_1 v0_1_2 v0_1_3 v0_45 k').map n14
 | 0,_,_,_,_,_=>rfl
 | n+1,v0_1_0,v0_1_1,v0_1_2,v0_1_3,v0_45=>by
  rw[bP];have ih:=aNP jU nI nH eN fY mS L a0_0 a0_1 a0_2 a0_3 k xk k' hk n;refine .trans (b:=B14_0 n14 (λv0_1_0 v0_1_1 v0_1_2 v0_1_3 v0_45=>(bE prog (aCD jU nI nH eN fY mS) L f14 0 [1,1,1,1,1,0,1,0,0] (bW (aX prog f14) k xk) n) (S14_0 a0_0 a0_1 a0_2 a0_3 v0_1_0 v0_1_1 v0_1_2 v0_1_3 v0_45)) (λw0_1_0 w0_1_1 w0_1_2 w0_1_3=>k (X14_0 a0_0 a0_1 a0_2 a0_3 w0_1_0 w0_1_1 w0_1_2 w0_1_3)) jU nI nH eN fY mS a0_0 a0_1 a0_2 a0_3 v0_1_0 v0_1_1 v0_1_2 v0_1_3 v0_45) (by kernel_rfl) ?_;unfold tV B14_0
  repeat' first | with_reducible refine dP ?_ ?_ | with_reducible refine dL λ_=>?_ | with_reducible refine dO λ_=>?_ | with_reducible exact ih _ _ _ _ _ | with_reducible exact hk _ _ _ _ | exact rfl
def g14 (jU:Y44)(nI:Y45)(nH:Y46)(eN:Y47)(fY:Y48)(mS:Y49)(L:Nat)(a0_0:(List N10))(a0_1:(List M9))(a0_2:(List W2))(a0_3:(List S10)):Option Int:=G14 (λx=>x) (λv0_1_0 v0_1_1 v0_1_2 v0_1_3 v0_45=>tV jU nI nH eN fY mS L a0_0 a0_1 a0_2 a0_3 L v0_1_0 v0_1_1 v0_1_2 v0_1_3 v0_45 (λw0_1_0 w0_1_1 w0_1_2 w0_1_3=>A14_0 (λx=>x) jU nI nH eN fY mS a0_0 a0_1 a0_2 a0_3 w0_1_0 w0_1_1 w0_1_2 w0_1_3)) jU nI nH eN fY mS a0_0 a0_1 a0_2 a0_3
theorem e14 (jU:Y44)(nI:Y45)(nH:Y46)(eN:Y47)(fY:Y48)(mS:Y49)(L:Nat)(a0_0:(List N10))(a0_1:(List M9))(a0_2:(List W2))(a0_3:(List S10)):fK prog (aCD jU nI nH eN fY mS) (bJ L) f14 (a14.enc (a0_0,a0_1,a0_2,a0_3))=(g14 jU nI nH eN fY mS L a0_0 a0_1 a0_2 a0_3).map n14:=by
 have hin0:∀ (v0_1_0:(List N10)) (v0_1_1:(List M9)) (v0_1_2:(List W2)) (v0_1_3:(List S10)) (v0_45:Int),bE prog (aCD jU nI nH eN fY mS) L f14 0 [1,1,1,1,1,0,1,0,0] (bW (aX prog f14) (bV prog (aCD jU nI nH eN fY mS) L f14 [1,1,1,1,1,0,1] (aX prog f14)).n (bV prog (aCD jU nI nH eN fY mS) L f14 [1,1,1,1,1,0,1] (aX prog f14)).x) L (S14_0 a0_0 a0_1 a0_2 a0_3 v0_1_0 v0_1_1 v0_1_2 v0_1_3 v0_45)=((λv0_1_0 v0_1_1 v0_1_2 v0_1_3 v0_45=>tV jU nI nH eN fY mS L a0_0 a0_1 a0_2 a0_3 L v0_1_0 v0_1_1 v0_1_2 v0_1_3 v0_45 (λw0_1_0 w0_1_1 w0_1_2 w0_1_3=>A14_0 (λx=>x) jU nI nH eN fY mS a0_0 a0_1 a0_2 a0_3 w0_1_0 w0_1_1 w0_1_2 w0_1_3)) v0_1_0 v0_1_1 v0_1_2 v0_1_3 v0_45).map n14:=λv0_1_0 v0_1_1 v0_1_2 v0_1_3 v0_45=>aNP jU nI nH eN fY mS L a0_0 a0_1 a0_2 a0_3 _ _ _ (λw0_1_0 w0_1_1 w0_1_2 w0_1_3=>by refine .trans (b:=A14_0 n14 jU nI nH eN fY mS a0_0 a0_1 a0_2 a0_3 w0_1_0 w0_1_1 w0_1_2 w0_1_3) (by kernel_rfl) ?_;unfold A14_0;repeat' first | with_reducible refine dP ?_ ?_ | with_reducible refine dL λ_=>?_ | with_reducible refine dO λ_=>?_ | exact rfl) L v0_1_0 v0_1_1 v0_1_2 v0_1_3 v0_45
 refine .trans (b:=G14 n14 (λv0_1_0 v0_1_1 v0_1_2 v0_1_3 v0_45=>bE prog (aCD jU nI nH eN fY mS) L f14 0 [1,1,1,1,1,0,1,0,0] (bW (aX prog f14) (bV prog (aCD jU nI nH eN fY mS) L f14 [1,1,1,1,1,0,1] (aX prog f14)).n (bV prog (aCD jU nI nH eN fY mS) L f14 [1,1,1,1,1,0,1] (aX prog f14)).x) L (S14_0 a0_0 a0_1 a0_2 a0_3 v0_1_0 v0_1_1 v0_1_2 v0_1_3 v0_45)) jU nI nH eN fY mS a0_0 a0_1 a0_2 a0_3) (by kernel_rfl) ?_;unfold g14 G14
 repeat' first | with_reducible refine dP ?_ ?_ | with_reducible refine dL λ_=>?_ | with_reducible refine dO λ_=>?_ | with_reducible exact hin0 _ _ _ _ _ | exact rfl
def w14 (jU:Y44)(nI:Y45)(nH:Y46)(eN:Y47)(fY:Y48)(mS:Y49)(L:Nat)(x:C4):Option Int:=g14 jU nI nH eN fY mS L x.1 x.2.1 x.2.2.1 x.2.2.2
theorem s14 (jU:Y44)(nI:Y45)(nH:Y46)(eN:Y47)(fY:Y48)(mS:Y49)(h44:Sat prog cxT 44 (c44 jU))(h45:Sat prog cxT 45 (c45 nI))(h46:Sat prog cxT 46 (c46 nH))(h47:Sat prog cxT 47 (c47 eN))(h48:Sat prog cxT 48 (c48 fY))(h49:Sat prog cxT 49 (c49 mS))(m:Y14)(hm:∀ (x:C4) t,m x=some t->∃ L,w14 jU nI nH eN fY mS L x=some t):Sat prog cxT 14 (c14 m):=
 cD bA aW (by rfl) (fn:=f14) rfl a14 n14 aYo m (aCD jU nI nH eN fY mS) (aL h44 (aL h45 (aL h46 (aL h47 (aL h48 (aL h49 aV)))))) aP (w14 jU nI nH eN fY mS) (λL x=>e14 jU nI nH eN fY mS L x.1 x.2.1 x.2.2.1 x.2.2.2) hm bDC
end Go.Proofs.Tryz
