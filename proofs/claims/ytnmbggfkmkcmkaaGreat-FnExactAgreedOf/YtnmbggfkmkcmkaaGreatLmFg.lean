/- A part of the proof of FnExactLeaderOf: LmFg, LmFh. -/
import Derived.Test.YtnmbggfkmkcmkaaGreatLmBase
set_option linter.unusedSimpArgs false
set_option linter.unusedVariables false
set_option maxHeartbeats 0
set_option maxRecDepth 100000
namespace Go.Proofs.Tryz
open Go.IntKind (wrap)
open Go Go.VM Go.RowKit
def aMu:Env cxT:={ Kc:=cR [],Kw:=cQ [],lv:=λi=>[],xv:=λi=>none }
def G105 {B:Type}(u:Bool->B)(a0:Int)(a1:Int)(a2:Int):Option B:=
 bif (decide (a0>=a1))then some (u (decide (a0<=a2)))
 else some (u false)
def aPh (L:Nat)(a0:Int)(a1:Int)(a2:Int):Option Bool:=G105 (λx=>x) a0 a1 a2
theorem bBi (L:Nat)(a0:Int)(a1:Int)(a2:Int):fP prog aMu (bJ L) f105 (aWt.enc (a0,a1,a2))=(aPh L a0 a1 a2).map aGU:=by
 refine .trans (b:=G105 aGU a0 a1 a2) (by kernel_rfl) ?_;unfold aPh G105
 repeat' first | with_reducible refine dP ?_ ?_ | with_reducible refine dL λ_=>?_ | with_reducible refine dO λ_=>?_ | exact rfl
def aQG (L:Nat)(x:(Int×Int×Int)):Option Bool:=aPh L x.1 x.2.1 x.2.2
theorem aYC (m:Y105)(hm:∀ (x:(Int×Int×Int)) t,m x=some t->∃ L,aQG L x=some t):Sat prog cxT 105 (vF m):=
 cF bC aX (by rfl) (fn:=f105) rfl aWt aGU aNg m aMu aW aQ (aQG) (λL x=>bBi L x.1 x.2.1 x.2.2) hm aSv
def aTv (cE:Y105):Env cxT:={ Kc:=cR [(105,vF cE)],Kw:=cQ [],lv:=λi=>[],xv:=λi=>none }
def G76 {B:Type}(u:Bool->B)(cE:Y105)(a0:Int):Option B:=
 cU (cE (a0,((1:Int),(5:Int)))) false λ(q1:Bool)=>some (u q1)
def g76 (cE:Y105)(L:Nat)(a0:Int):Option Bool:=G76 (λx=>x) cE a0
theorem e76 (cE:Y105)(L:Nat)(a0:Int):fP prog (aTv cE) (bJ L) f76 (a76.enc a0)=(g76 cE L a0).map n76:=by
 refine .trans (b:=G76 n76 cE a0) (by kernel_rfl) ?_;unfold g76 G76
 repeat' first | with_reducible refine dP ?_ ?_ | with_reducible refine dL λ_=>?_ | with_reducible refine dO λ_=>?_ | exact rfl
def w76 (cE:Y105)(L:Nat)(x:Int):Option Bool:=g76 cE L x
theorem s76 (cE:Y105)(h105:Sat prog cxT 105 (vF cE))(m:Y76)(hm:∀ (x:Int) t,m x=some t->∃ L,w76 cE L x=some t):Sat prog cxT 76 (c76 m):=
 cF bC aX (by rfl) (fn:=f76) rfl a76 n76 aUu m (aTv cE) (aL h105 aW) aQ (w76 cE) (λL x=>e76 cE L x) hm aZm
def aTu:Env cxT:={ Kc:=cR [],Kw:=cQ [],lv:=λi=>[],xv:=λi=>none }
def G79 {B:Type}(u:Bool->B)(a0:Int):Option B:=
 bif (decide (a0>=(1:Int)))then some (u (decide (a0<=(100000:Int))))
 else some (u false)
def g79 (L:Nat)(a0:Int):Option Bool:=G79 (λx=>x) a0
theorem e79 (L:Nat)(a0:Int):fP prog aTu (bJ L) f79 (a79.enc a0)=(g79 L a0).map n79:=by
 refine .trans (b:=G79 n79 a0) (by kernel_rfl) ?_;unfold g79 G79
 repeat' first | with_reducible refine dP ?_ ?_ | with_reducible refine dL λ_=>?_ | with_reducible refine dO λ_=>?_ | exact rfl
def w79 (L:Nat)(x:Int):Option Bool:=g79 L x
theorem s79 (m:Y79)(hm:∀ (x:Int) t,m x=some t->∃ L,w79 L x=some t):Sat prog cxT 79 (c79 m):=
 cF bC aX (by rfl) (fn:=f79) rfl a79 n79 aUr m aTu aW aQ (w79) (λL x=>e79 L x) hm aZj
def aTt (cE:Y105):Env cxT:={ Kc:=cR [(105,vF cE)],Kw:=cQ [],lv:=λi=>[],xv:=λi=>none }
def G80 {B:Type}(u:Bool->B)(cE:Y105)(a0:Int)(a1:Int):Option B:=
 cU (cE (a0,((0:Int),(wrap .i64 (a1-(1:Int)))))) false λ(q1:Bool)=>some (u q1)
def g80 (cE:Y105)(L:Nat)(a0:Int)(a1:Int):Option Bool:=G80 (λx=>x) cE a0 a1
theorem e80 (cE:Y105)(L:Nat)(a0:Int)(a1:Int):fP prog (aTt cE) (bJ L) f80 (a80.enc (a0,a1))=(g80 cE L a0 a1).map n80:=by
 refine .trans (b:=G80 n80 cE a0 a1) (by kernel_rfl) ?_;unfold g80 G80
 repeat' first | with_reducible refine dP ?_ ?_ | with_reducible refine dL λ_=>?_ | with_reducible refine dO λ_=>?_ | exact rfl
def w80 (cE:Y105)(L:Nat)(x:(Int×Int)):Option Bool:=g80 cE L x.1 x.2
theorem s80 (cE:Y105)(h105:Sat prog cxT 105 (vF cE))(m:Y80)(hm:∀ (x:(Int×Int)) t,m x=some t->∃ L,w80 cE L x=some t):Sat prog cxT 80 (c80 m):=
 cF bC aX (by rfl) (fn:=f80) rfl a80 n80 aUq m (aTt cE) (aL h105 aW) aQ (w80 cE) (λL x=>e80 cE L x.1 x.2) hm aZi
def aMh:Env cxT:={ Kc:=cR [],Kw:=cQ [],lv:=λi=>[],xv:=λi=>none }
def G122 {B:Type}(u:Bool->B)(a0:Int)(a1:Int):Option B:=
 bif (decide (a0>=(0:Int)))then some (u (decide (a0 < a1)))
 else some (u false)
def aIP (L:Nat)(a0:Int)(a1:Int):Option Bool:=G122 (λx=>x) a0 a1
theorem bA3 (L:Nat)(a0:Int)(a1:Int):fP prog aMh (bJ L) f122 (aWe.enc (a0,a1))=(aIP L a0 a1).map aGH:=by
 refine .trans (b:=G122 aGH a0 a1) (by kernel_rfl) ?_;unfold aIP G122
 repeat' first | with_reducible refine dP ?_ ?_ | with_reducible refine dL λ_=>?_ | with_reducible refine dO λ_=>?_ | exact rfl
def aNB (L:Nat)(x:(Int×Int)):Option Bool:=aIP L x.1 x.2
theorem aYn (m:Y122)(hm:∀ (x:(Int×Int)) t,m x=some t->∃ L,aNB L x=some t):Sat prog cxT 122 (aBM m):=
 cF bC aX (by rfl) (fn:=f122) rfl aWe aGH aM1 m aMh aW aQ (aNB) (λL x=>bA3 L x.1 x.2) hm aSg
def aMg (eG:Y79):Env cxT:={ Kc:=cR [(79,c79 eG)],Kw:=cQ [],lv:=λi=>[],xv:=λi=>none }
def G123 {B:Type}(u:Bool->B)(eG:Y79)(a0:Int):Option B:=
 bif (a0 == (0:Int))then some (u true)
 else cU (eG a0) false λ(q1:Bool)=>some (u q1)
def aIO (eG:Y79)(L:Nat)(a0:Int):Option Bool:=G123 (λx=>x) eG a0
theorem bA2 (eG:Y79)(L:Nat)(a0:Int):fP prog (aMg eG) (bJ L) f123 (aWd.enc a0)=(aIO eG L a0).map aGG:=by
 refine .trans (b:=G123 aGG eG a0) (by kernel_rfl) ?_;unfold aIO G123
 repeat' first | with_reducible refine dP ?_ ?_ | with_reducible refine dL λ_=>?_ | with_reducible refine dO λ_=>?_ | exact rfl
def aNA (eG:Y79)(L:Nat)(x:Int):Option Bool:=aIO eG L x
theorem aYm (eG:Y79)(h79:Sat prog cxT 79 (c79 eG))(m:Y123)(hm:∀ (x:Int) t,m x=some t->∃ L,aNA eG L x=some t):Sat prog cxT 123 (aKN m):=
 cF bC aX (by rfl) (fn:=f123) rfl aWd aGG aM0 m (aMg eG) (aL h79 aW) aQ (aNA eG) (λL x=>bA2 eG L x) hm aSf
def aMf (dD:Y122):Env cxT:={ Kc:=cR [(122,aBM dD)],Kw:=cQ [],lv:=λi=>[],xv:=λi=>none }
def G124 {B:Type}(u:Bool->B)(dD:Y122)(a0:Int)(a1:Int):Option B:=
 bif (a0 == (-(1:Int)))then some (u true)
 else cU (dD (a0,a1)) false λ(q1:Bool)=>some (u q1)
def aIN (dD:Y122)(L:Nat)(a0:Int)(a1:Int):Option Bool:=G124 (λx=>x) dD a0 a1
theorem bA1 (dD:Y122)(L:Nat)(a0:Int)(a1:Int):fP prog (aMf dD) (bJ L) f124 (aWc.enc (a0,a1))=(aIN dD L a0 a1).map aGF:=by
 refine .trans (b:=G124 aGF dD a0 a1) (by kernel_rfl) ?_;unfold aIN G124
 repeat' first | with_reducible refine dP ?_ ?_ | with_reducible refine dL λ_=>?_ | with_reducible refine dO λ_=>?_ | exact rfl
def aNz (dD:Y122)(L:Nat)(x:(Int×Int)):Option Bool:=aIN dD L x.1 x.2
theorem aYl (dD:Y122)(h122:Sat prog cxT 122 (aBM dD))(m:Y124)(hm:∀ (x:(Int×Int)) t,m x=some t->∃ L,aNz dD L x=some t):Sat prog cxT 124 (aKM m):=
 cF bC aX (by rfl) (fn:=f124) rfl aWc aGF aMZ m (aMf dD) (aL h122 aW) aQ (aNz dD) (λL x=>bA1 dD L x.1 x.2) hm aSe
def aMe (cE:Y105):Env cxT:={ Kc:=cR [(105,vF cE)],Kw:=cQ [],lv:=λi=>[],xv:=λi=>none }
def G125 {B:Type}(u:Bool->B)(cE:Y105)(a0:Int):Option B:=
 cU (cE (a0,((0:Int),(2:Int)))) false λ(q1:Bool)=>some (u q1)
def aPa (cE:Y105)(L:Nat)(a0:Int):Option Bool:=G125 (λx=>x) cE a0
theorem bA0 (cE:Y105)(L:Nat)(a0:Int):fP prog (aMe cE) (bJ L) f125 (aWb.enc a0)=(aPa cE L a0).map aGE:=by
 refine .trans (b:=G125 aGE cE a0) (by kernel_rfl) ?_;unfold aPa G125
 repeat' first | with_reducible refine dP ?_ ?_ | with_reducible refine dL λ_=>?_ | with_reducible refine dO λ_=>?_ | exact rfl
def aQw (cE:Y105)(L:Nat)(x:Int):Option Bool:=aPa cE L x
theorem aYk (cE:Y105)(h105:Sat prog cxT 105 (vF cE))(m:Y125)(hm:∀ (x:Int) t,m x=some t->∃ L,aQw cE L x=some t):Sat prog cxT 125 (aKL m):=
 cF bC aX (by rfl) (fn:=f125) rfl aWb aGE aMY m (aMe cE) (aL h105 aW) aQ (aQw cE) (λL x=>bA0 cE L x) hm aSd
def sS (cE:Y105):Env cxT:={ Kc:=cR [(105,vF cE)],Kw:=cQ [],lv:=λi=>if i=0 then[(1,[]),(2,[]),(9,[some 2]),(10,[]),(11,[])]else[],xv:=λi=>if i=0 then some []else none }
def S130_0 (a0:(List Int))(a1:Int)(a2:Int)(v0_11:Int):St cxT.ty:={ slots:=[aJ,(.inl (.inl (lv (.int .i64 a1)))),(.inl (.inl (lv (.int .i64 a2)))),aJ,aJ,aJ,aJ,aJ,aJ,(.inl (.inl (ls { own:=0,nm:=0,e:=2,o:=false,xs:=a0 }))),(.inl (.inl (lv (.int .i64 (Nat.cast (List.length a0):Int))))),(.inl (.inl (lv (.int .i64 v0_11))))]++List.replicate 9 aJ,D:=[],F:=[],ctr:=1 }
def X130_0 (a0:(List Int))(a1:Int)(a2:Int):St cxT.ty:={ slots:=[]++List.replicate 21 aJ,D:=[],F:=[],ctr:=1 }
def G130 {B:Type}(u:Bool->B)(hh0:Int->Option B)(cE:Y105)(a0:(List Int))(a1:Int)(a2:Int):Option B:=
 hh0 (0:Int)
def B130_0 {B:Type}(u:Bool->B)(gg:Int->Option B)(kk:Option B)(cE:Y105)(a0:(List Int))(a1:Int)(a2:Int)(v0_11:Int):Option B:=
 bif (decide (v0_11 < (Nat.cast (List.length a0):Int)))then bif ((decide ((0:Int)<=v0_11))&&(decide (v0_11 < (Nat.cast (List.length a0):Int))))then cU (cE ((List.getD a0 v0_11.toNat (0:Int)),(a1,a2))) false λ(q3:Bool)=>bif (!q3)then some (u false)
    else gg (wrap .i64 (v0_11+(1:Int)))
  else none
 else kk
def A130_0 {B:Type}(u:Bool->B)(cE:Y105)(a0:(List Int))(a1:Int)(a2:Int):Option B:=
 some (u true)
def tO (cE:Y105)(L:Nat)(a0:(List Int))(a1:Int)(a2:Int):Nat->Int->(Option Bool)->Option Bool
 | 0,_,_=>none
 | n+1,v0_11,k=>B130_0 (λx=>x) (λv0_11=>tO cE L a0 a1 a2 n v0_11 k) k cE a0 a1 a2 v0_11
theorem aIy (cE:Y105)(L:Nat)(a0:(List Int))(a1:Int)(a2:Int)(k:St cxT.ty->Option (V cxT.ty))(xk:Nat->St cxT.ty->Option (V cxT.ty))(k':Option Bool)(hk:k (X130_0 a0 a1 a2)=(k').map zR):∀ (n:Nat) (v0_11:Int),bA prog (sS cE) L f130 0 [1,0,1,0,0] (cB (aY prog f130) k xk) n (S130_0 a0 a1 a2 v0_11)=(tO cE L a0 a1 a2 n v0_11 k').map zR
 | 0,_=>rfl
 | n+1,v0_11=>by
  rw[bQ];have ih:=aIy cE L a0 a1 a2 k xk k' hk n;refine .trans (b:=B130_0 zR (λv0_11=>(bA prog (sS cE) L f130 0 [1,0,1,0,0] (cB (aY prog f130) k xk) n) (S130_0 a0 a1 a2 v0_11)) (k (X130_0 a0 a1 a2)) cE a0 a1 a2 v0_11) (by kernel_rfl) ?_;unfold tO B130_0
  repeat' first | with_reducible refine dP ?_ ?_ | with_reducible refine dL λ_=>?_ | with_reducible refine dO λ_=>?_ | with_reducible exact ih _ | with_reducible exact hk | exact rfl
def aIJ (cE:Y105)(L:Nat)(a0:(List Int))(a1:Int)(a2:Int):Option Bool:=G130 (λx=>x) (λv0_11=>tO cE L a0 a1 a2 L v0_11 (A130_0 (λx=>x) cE a0 a1 a2)) cE a0 a1 a2
theorem bAV (cE:Y105)(L:Nat)(a0:(List Int))(a1:Int)(a2:Int):fP prog (sS cE) (bJ L) f130 (aV6.enc (a0,a1,a2))=(aIJ cE L a0 a1 a2).map zR:=by
 have hin0:∀ (v0_11:Int),bA prog (sS cE) L f130 0 [1,0,1,0,0] (cB (aY prog f130) (cA prog (sS cE) L f130 [1,0,1] (aY prog f130)).n (cA prog (sS cE) L f130 [1,0,1] (aY prog f130)).x) L (S130_0 a0 a1 a2 v0_11)=((λv0_11=>tO cE L a0 a1 a2 L v0_11 (A130_0 (λx=>x) cE a0 a1 a2)) v0_11).map zR:=λv0_11=>aIy cE L a0 a1 a2 _ _ _ (by refine .trans (b:=A130_0 zR cE a0 a1 a2) (by kernel_rfl) ?_;unfold A130_0;repeat' first | with_reducible refine dP ?_ ?_ | with_reducible refine dL λ_=>?_ | with_reducible refine dO λ_=>?_ | exact rfl) L v0_11
 refine .trans (b:=G130 zR (λv0_11=>bA prog (sS cE) L f130 0 [1,0,1,0,0] (cB (aY prog f130) (cA prog (sS cE) L f130 [1,0,1] (aY prog f130)).n (cA prog (sS cE) L f130 [1,0,1] (aY prog f130)).x) L (S130_0 a0 a1 a2 v0_11)) cE a0 a1 a2) (by kernel_rfl) ?_;unfold aIJ G130
 repeat' first | with_reducible refine dP ?_ ?_ | with_reducible refine dL λ_=>?_ | with_reducible refine dO λ_=>?_ | with_reducible exact hin0 _ | exact rfl
def aNu (cE:Y105)(L:Nat)(x:((List Int)×Int×Int)):Option Bool:=aIJ cE L x.1 x.2.1 x.2.2
theorem aYf (cE:Y105)(h105:Sat prog cxT 105 (vF cE))(m:Y130)(hm:∀ (x:((List Int)×Int×Int)) t,m x=some t->∃ L,aNu cE L x=some t):Sat prog cxT 130 (aKI m):=
 cF bC aX (by rfl) (fn:=f130) rfl aV6 zR aMT m (sS cE) (aL h105 aW) aQ (aNu cE) (λL x=>bAV cE L x.1 x.2.1 x.2.2) hm aR8
def aMb (m127:Y127):Env cxT:={ Kc:=cR [(127,aHa m127)],Kw:=cQ [],lv:=λi=>[],xv:=λi=>none }
def G131 {B:Type}(u:Bool->B)(m127:Y127)(a0_0:Int)(a0_1:Int)(a0_2:Int)(a0_3:Int)(a0_4:Int)(a0_5:Int)(a0_6:Int)(a0_7:Bool)(a0_8:(List E9)):Option B:=
 bif ((Nat.cast (List.length a0_8):Int) == (0:Int))then some (u true)
 else bif (a0_0 == (3:Int))then cU (m127 a0_8) ((0:Int),(0:Int),(0:Int),(0:Int),(0:Int),(0:Int),(0:Int),(0:Int),(0:Int)) λ(q2:E9)=>bif (decide (q2.1<=a0_3))then bif ((decide ((0:Int)<=(0:Int)))&&(decide ((0:Int) < (Nat.cast (List.length a0_8):Int))))then some (u (decide ((List.getD a0_8 (0:Nat) ((0:Int),((0:Int),((0:Int),((0:Int),((0:Int),((0:Int),((0:Int),((0:Int),(0:Int)))))))))).1>=a0_5)))
    else none
   else some (u false)
 else some (u false)
def aII (m127:Y127)(L:Nat)(a0_0:Int)(a0_1:Int)(a0_2:Int)(a0_3:Int)(a0_4:Int)(a0_5:Int)(a0_6:Int)(a0_7:Bool)(a0_8:(List E9)):Option Bool:=G131 (λx=>x) m127 a0_0 a0_1 a0_2 a0_3 a0_4 a0_5 a0_6 a0_7 a0_8
theorem bAU (m127:Y127)(L:Nat)(a0_0:Int)(a0_1:Int)(a0_2:Int)(a0_3:Int)(a0_4:Int)(a0_5:Int)(a0_6:Int)(a0_7:Bool)(a0_8:(List E9)):fP prog (aMb m127) (bJ L) f131 (aV5.enc (a0_0,a0_1,a0_2,a0_3,a0_4,a0_5,a0_6,a0_7,a0_8))=(aII m127 L a0_0 a0_1 a0_2 a0_3 a0_4 a0_5 a0_6 a0_7 a0_8).map aGB:=by
 refine .trans (b:=G131 aGB m127 a0_0 a0_1 a0_2 a0_3 a0_4 a0_5 a0_6 a0_7 a0_8) (by kernel_rfl) ?_;unfold aII G131
 repeat' first | with_reducible refine dP ?_ ?_ | with_reducible refine dL λ_=>?_ | with_reducible refine dO λ_=>?_ | exact rfl
def aNt (m127:Y127)(L:Nat)(x:M9):Option Bool:=aII m127 L x.1 x.2.1 x.2.2.1 x.2.2.2.1 x.2.2.2.2.1 x.2.2.2.2.2.1 x.2.2.2.2.2.2.1 x.2.2.2.2.2.2.2.1 x.2.2.2.2.2.2.2.2
theorem aYe (m127:Y127)(h127:Sat prog cxT 127 (aHa m127))(m:Y131)(hm:∀ (x:M9) t,m x=some t->∃ L,aNt m127 L x=some t):Sat prog cxT 131 (aKH m):=
 cF bC aX (by rfl) (fn:=f131) rfl aV5 aGB aMS m (aMb m127) (aL h127 aW) aQ (aNt m127) (λL x=>bAU m127 L x.1 x.2.1 x.2.2.1 x.2.2.2.1 x.2.2.2.2.1 x.2.2.2.2.2.1 x.2.2.2.2.2.2.1 x.2.2.2.2.2.2.2.1 x.2.2.2.2.2.2.2.2) hm aR7
def aMa:Env cxT:={ Kc:=cR [],Kw:=cQ [],lv:=λi=>[],xv:=λi=>none }
def G132 {B:Type}(u:Bool->B)(a0_0:Int)(a0_1:Int)(a0_2:Int)(a0_3:Int)(a0_4:Int)(a0_5:Int)(a0_6:Int)(a0_7:Bool)(a0_8:(List E9)):Option B:=
 bif (!a0_7)then some (u true)
 else bif (a0_0 == (2:Int))then some (u true)
 else some (u (a0_0 == (4:Int)))
def aIH (L:Nat)(a0_0:Int)(a0_1:Int)(a0_2:Int)(a0_3:Int)(a0_4:Int)(a0_5:Int)(a0_6:Int)(a0_7:Bool)(a0_8:(List E9)):Option Bool:=G132 (λx=>x) a0_0 a0_1 a0_2 a0_3 a0_4 a0_5 a0_6 a0_7 a0_8
theorem bAT (L:Nat)(a0_0:Int)(a0_1:Int)(a0_2:Int)(a0_3:Int)(a0_4:Int)(a0_5:Int)(a0_6:Int)(a0_7:Bool)(a0_8:(List E9)):fP prog aMa (bJ L) f132 (aV4.enc (a0_0,a0_1,a0_2,a0_3,a0_4,a0_5,a0_6,a0_7,a0_8))=(aIH L a0_0 a0_1 a0_2 a0_3 a0_4 a0_5 a0_6 a0_7 a0_8).map aGA:=by
 refine .trans (b:=G132 aGA a0_0 a0_1 a0_2 a0_3 a0_4 a0_5 a0_6 a0_7 a0_8) (by kernel_rfl) ?_;unfold aIH G132
 repeat' first | with_reducible refine dP ?_ ?_ | with_reducible refine dL λ_=>?_ | with_reducible refine dO λ_=>?_ | exact rfl
def aNs (L:Nat)(x:M9):Option Bool:=aIH L x.1 x.2.1 x.2.2.1 x.2.2.2.1 x.2.2.2.2.1 x.2.2.2.2.2.1 x.2.2.2.2.2.2.1 x.2.2.2.2.2.2.2.1 x.2.2.2.2.2.2.2.2
theorem aYd (m:Y132)(hm:∀ (x:M9) t,m x=some t->∃ L,aNs L x=some t):Sat prog cxT 132 (aKG m):=
 cF bC aX (by rfl) (fn:=f132) rfl aV4 aGA aMR m aMa aW aQ (aNs) (λL x=>bAT L x.1 x.2.1 x.2.2.1 x.2.2.2.1 x.2.2.2.2.1 x.2.2.2.2.2.1 x.2.2.2.2.2.2.1 x.2.2.2.2.2.2.2.1 x.2.2.2.2.2.2.2.2) hm aR6
def aL9:Env cxT:={ Kc:=cR [],Kw:=cQ [],lv:=λi=>[],xv:=λi=>none }
def G133 {B:Type}(u:Bool->B)(a0_0:Int)(a0_1:Int)(a0_2:Int)(a0_3:Int)(a0_4:Int)(a0_5:Int)(a0_6:Int)(a0_7:Bool)(a0_8:(List E9)):Option B:=
 bif (a0_0 == (1:Int))then some (u (a0_6 == (0:Int)))
 else bif (a0_0 == (2:Int))then bif (a0_4 == (0:Int))then bif (a0_5 == (0:Int))then some (u (a0_6 == (0:Int)))
   else some (u false)
  else some (u false)
 else bif (a0_0 == (4:Int))then bif (a0_5 == (0:Int))then some (u (a0_6 == (0:Int)))
  else some (u false)
 else some (u true)
def aO9 (L:Nat)(a0_0:Int)(a0_1:Int)(a0_2:Int)(a0_3:Int)(a0_4:Int)(a0_5:Int)(a0_6:Int)(a0_7:Bool)(a0_8:(List E9)):Option Bool:=G133 (λx=>x) a0_0 a0_1 a0_2 a0_3 a0_4 a0_5 a0_6 a0_7 a0_8
theorem bAS (L:Nat)(a0_0:Int)(a0_1:Int)(a0_2:Int)(a0_3:Int)(a0_4:Int)(a0_5:Int)(a0_6:Int)(a0_7:Bool)(a0_8:(List E9)):fP prog aL9 (bJ L) f133 (aV3.enc (a0_0,a0_1,a0_2,a0_3,a0_4,a0_5,a0_6,a0_7,a0_8))=(aO9 L a0_0 a0_1 a0_2 a0_3 a0_4 a0_5 a0_6 a0_7 a0_8).map aGz:=by
 refine .trans (b:=G133 aGz a0_0 a0_1 a0_2 a0_3 a0_4 a0_5 a0_6 a0_7 a0_8) (by kernel_rfl) ?_;unfold aO9 G133
 repeat' first | with_reducible refine dP ?_ ?_ | with_reducible refine dL λ_=>?_ | with_reducible refine dO λ_=>?_ | exact rfl
def aQv (L:Nat)(x:M9):Option Bool:=aO9 L x.1 x.2.1 x.2.2.1 x.2.2.2.1 x.2.2.2.2.1 x.2.2.2.2.2.1 x.2.2.2.2.2.2.1 x.2.2.2.2.2.2.2.1 x.2.2.2.2.2.2.2.2
theorem aYc (m:Y133)(hm:∀ (x:M9) t,m x=some t->∃ L,aQv L x=some t):Sat prog cxT 133 (aKF m):=
 cF bC aX (by rfl) (fn:=f133) rfl aV3 aGz aMQ m aL9 aW aQ (aQv) (λL x=>bAS L x.1 x.2.1 x.2.2.1 x.2.2.2.1 x.2.2.2.2.1 x.2.2.2.2.2.1 x.2.2.2.2.2.2.1 x.2.2.2.2.2.2.2.1 x.2.2.2.2.2.2.2.2) hm aR5
def aL8:Env cxT:={ Kc:=cR [],Kw:=cQ [],lv:=λi=>[],xv:=λi=>none }
def G134 {B:Type}(u:Bool->B)(a0:Int):Option B:=
 bif (decide (a0>=(0:Int)))then some (u (decide (a0<=(999:Int))))
 else some (u false)
def aO8 (L:Nat)(a0:Int):Option Bool:=G134 (λx=>x) a0
theorem bAR (L:Nat)(a0:Int):fP prog aL8 (bJ L) f134 (aV2.enc a0)=(aO8 L a0).map aGy:=by
 refine .trans (b:=G134 aGy a0) (by kernel_rfl) ?_;unfold aO8 G134
 repeat' first | with_reducible refine dP ?_ ?_ | with_reducible refine dL λ_=>?_ | with_reducible refine dO λ_=>?_ | exact rfl
def aQu (L:Nat)(x:Int):Option Bool:=aO8 L x
theorem aYb (m:Y134)(hm:∀ (x:Int) t,m x=some t->∃ L,aQu L x=some t):Sat prog cxT 134 (aKE m):=
 cF bC aX (by rfl) (fn:=f134) rfl aV2 aGy aMP m aL8 aW aQ (aQu) (λL x=>bAR L x) hm aR4
def aL7:Env cxT:={ Kc:=cR [],Kw:=cQ [],lv:=λi=>[],xv:=λi=>none }
def G135 {B:Type}(u:Bool->B)(a0:Int):Option B:=
 bif (decide (a0>=(0:Int)))then some (u (decide (a0<=(1000000:Int))))
 else some (u false)
def aO7 (L:Nat)(a0:Int):Option Bool:=G135 (λx=>x) a0
theorem bAQ (L:Nat)(a0:Int):fP prog aL7 (bJ L) f135 (aV1.enc a0)=(aO7 L a0).map aGx:=by
 refine .trans (b:=G135 aGx a0) (by kernel_rfl) ?_;unfold aO7 G135
 repeat' first | with_reducible refine dP ?_ ?_ | with_reducible refine dL λ_=>?_ | with_reducible refine dO λ_=>?_ | exact rfl
def aQt (L:Nat)(x:Int):Option Bool:=aO7 L x
theorem aYa (m:Y135)(hm:∀ (x:Int) t,m x=some t->∃ L,aQt L x=some t):Sat prog cxT 135 (aKD m):=
 cF bC aX (by rfl) (fn:=f135) rfl aV1 aGx aMO m aL7 aW aQ (aQt) (λL x=>bAQ L x) hm aR3
def aTo (eU:Y112):Env cxT:={ Kc:=cR [(112,aD8 eU)],Kw:=cQ [],lv:=λi=>[],xv:=λi=>none }
def G87 {B:Type}(u:Int->B)(eU:Y112)(a0:N10):Option B:=
 cU (eU a0.2.2.2.2.1) (0:Int) λ(q1:Int)=>some (u q1)
def g87 (eU:Y112)(L:Nat)(a0:N10):Option Int:=G87 (λx=>x) eU a0
theorem e87 (eU:Y112)(L:Nat)(a0:N10):fP prog (aTo eU) (bJ L) f87 (a87.enc a0)=(g87 eU L a0).map n87:=by
 refine .trans (b:=G87 n87 eU a0) (by kernel_rfl) ?_;unfold g87 G87
 repeat' first | with_reducible refine dP ?_ ?_ | with_reducible refine dL λ_=>?_ | with_reducible refine dO λ_=>?_ | exact rfl
def w87 (eU:Y112)(L:Nat)(x:N10):Option Int:=g87 eU L x
theorem s87 (eU:Y112)(h112:Sat prog cxT 112 (aD8 eU))(m:Y87)(hm:∀ (x:N10) t,m x=some t->∃ L,w87 eU L x=some t):Sat prog cxT 87 (c87 m):=
 cF bC aX (by rfl) (fn:=f87) rfl a87 n87 aUk m (aTo eU) (aL h112 aW) aQ (w87 eU) (λL x=>e87 eU L x) hm aZc
def sU (dD:Y122):Env cxT:={ Kc:=cR [(122,aBM dD)],Kw:=cQ [],lv:=λi=>if i=0 then[(0,[none,none,none,none,some 102,none,none,some 2,some 2,some 2]),(3,[]),(22,[some 2]),(23,[]),(24,[])]else[],xv:=λi=>if i=0 then some []else none }
def S128_0 (a0:N10)(v0_3:Int)(v0_24:Int):St cxT.ty:={ slots:=[(.inr (.inr { kind:=2,nm:=0,cells:=[],s:={ own:=0,nm:=0,e:=73,o:=false,xs:=(List.cons a0 []) },i:=0,off:=0 })),aJ,aJ,(.inl (.inl (lv (.int .i64 v0_3)))),aJ,aJ,aJ,aJ,aJ,aJ,aJ,aJ,aJ,aJ,aJ,aJ,aJ,aJ,aJ,aJ,aJ,aJ,(.inl (.inl (ls { own:=0,nm:=0,e:=2,o:=false,xs:=a0.2.2.2.2.2.2.2.1 }))),(.inl (.inl (lv (.int .i64 (Nat.cast (List.length a0.2.2.2.2.2.2.2.1):Int))))),(.inl (.inl (lv (.int .i64 v0_24))))]++List.replicate 17 aJ,D:=[],F:=[],ctr:=1 }
def X128_0 (a0:N10):St cxT.ty:={ slots:=[]++List.replicate 42 aJ,D:=[],F:=[],ctr:=1 }
def G128 {B:Type}(u:Bool->B)(hh0:Int->Int->Option B)(dD:Y122)(a0:N10):Option B:=
 bif (a0.2.2.2.2.2.1 != (1:Int))then bif (decide ((Nat.cast (List.length a0.2.2.2.2.2.2.2.1):Int) > (0:Int)))then some (u false)
  else hh0 (-(1:Int)) (0:Int)
 else hh0 (-(1:Int)) (0:Int)
def B128_0 {B:Type}(u:Bool->B)(gg:Int->Int->Option B)(kk:Option B)(dD:Y122)(a0:N10)(v0_3:Int)(v0_24:Int):Option B:=
 bif (decide (v0_24 < (Nat.cast (List.length a0.2.2.2.2.2.2.2.1):Int)))then dX a0 λs1_0=>dX (List.getD s1_0.2.2.2.2.2.2.2.1 v0_24.toNat (0:Int)) λs1_1=>bif ((decide ((0:Int)<=v0_24))&&(decide (v0_24 < (Nat.cast (List.length s1_0.2.2.2.2.2.2.2.1):Int))))then cU (dD (s1_1,s1_0.2.1)) false λ(q3:Bool)=>bif (!q3)then some (u false)
    else bif (decide (s1_1<=v0_3))then some (u false)
    else gg s1_1 (wrap .i64 (v0_24+(1:Int)))
  else none
 else kk
def A128_0 {B:Type}(u:Bool->B)(dD:Y122)(a0:N10):Option B:=
 some (u true)
def tP (dD:Y122)(L:Nat)(a0:N10):Nat->Int->Int->(Option Bool)->Option Bool
 | 0,_,_,_=>none
 | n+1,v0_3,v0_24,k=>B128_0 (λx=>x) (λv0_3 v0_24=>tP dD L a0 n v0_3 v0_24 k) k dD a0 v0_3 v0_24
theorem aIz (dD:Y122)(L:Nat)(a0:N10)(k:St cxT.ty->Option (V cxT.ty))(xk:Nat->St cxT.ty->Option (V cxT.ty))(k':Option Bool)(hk:k (X128_0 a0)=(k').map zS):∀ (n:Nat) (v0_3:Int) (v0_24:Int),bA prog (sU dD) L f128 0 [1,1,1,0,1,0,0] (cB (aY prog f128) k xk) n (S128_0 a0 v0_3 v0_24)=(tP dD L a0 n v0_3 v0_24 k').map zS
 | 0,_,_=>rfl
 | n+1,v0_3,v0_24=>by
  rw[bQ];have ih:=aIz dD L a0 k xk k' hk n;refine .trans (b:=B128_0 zS (λv0_3 v0_24=>(bA prog (sU dD) L f128 0 [1,1,1,0,1,0,0] (cB (aY prog f128) k xk) n) (S128_0 a0 v0_3 v0_24)) (k (X128_0 a0)) dD a0 v0_3 v0_24) (by kernel_rfl) ?_;unfold tP B128_0
  repeat' first | with_reducible refine dP ?_ ?_ | with_reducible refine dL λ_=>?_ | with_reducible refine dO λ_=>?_ | with_reducible exact ih _ _ | with_reducible exact hk | exact rfl
def aIL (dD:Y122)(L:Nat)(a0:N10):Option Bool:=G128 (λx=>x) (λv0_3 v0_24=>tP dD L a0 L v0_3 v0_24 (A128_0 (λx=>x) dD a0)) dD a0
theorem bAX (dD:Y122)(L:Nat)(a0:N10):fP prog (sU dD) (bJ L) f128 (aV8.enc a0)=(aIL dD L a0).map zS:=by
 have hin0:∀ (v0_3:Int) (v0_24:Int),bA prog (sU dD) L f128 0 [1,1,1,0,1,0,0] (cB (aY prog f128) (cA prog (sU dD) L f128 [1,1,1,0,1] (aY prog f128)).n (cA prog (sU dD) L f128 [1,1,1,0,1] (aY prog f128)).x) L (S128_0 a0 v0_3 v0_24)=((λv0_3 v0_24=>tP dD L a0 L v0_3 v0_24 (A128_0 (λx=>x) dD a0)) v0_3 v0_24).map zS:=λv0_3 v0_24=>aIz dD L a0 _ _ _ (by refine .trans (b:=A128_0 zS dD a0) (by kernel_rfl) ?_;unfold A128_0;repeat' first | with_reducible refine dP ?_ ?_ | with_reducible refine dL λ_=>?_ | with_reducible refine dO λ_=>?_ | exact rfl) L v0_3 v0_24
 refine .trans (b:=G128 zS (λv0_3 v0_24=>bA prog (sU dD) L f128 0 [1,1,1,0,1,0,0] (cB (aY prog f128) (cA prog (sU dD) L f128 [1,1,1,0,1] (aY prog f128)).n (cA prog (sU dD) L f128 [1,1,1,0,1] (aY prog f128)).x) L (S128_0 a0 v0_3 v0_24)) dD a0) (by kernel_rfl) ?_;unfold aIL G128
 repeat' first | with_reducible refine dP ?_ ?_ | with_reducible refine dL λ_=>?_ | with_reducible refine dO λ_=>?_ | with_reducible exact hin0 _ _ | exact rfl
def aNw (dD:Y122)(L:Nat)(x:N10):Option Bool:=aIL dD L x
theorem aYh (dD:Y122)(h122:Sat prog cxT 122 (aBM dD))(m:Y128)(hm:∀ (x:N10) t,m x=some t->∃ L,aNw dD L x=some t):Sat prog cxT 128 (aKK m):=
 cF bC aX (by rfl) (fn:=f128) rfl aV8 zS aMV m (sU dD) (aL h122 aW) aQ (aNw dD) (λL x=>bAX dD L x) hm aSa
def aMc:Env cxT:={ Kc:=cR [],Kw:=cQ [],lv:=λi=>[],xv:=λi=>none }
def G129 {B:Type}(u:Bool->B)(a0:N10):Option B:=
 bif (a0.2.2.2.2.2.1 != (2:Int))then bif ((Nat.cast (List.length a0.2.2.2.2.2.2.2.2.1):Int) == (0:Int))then some (u ((Nat.cast (List.length a0.2.2.2.2.2.2.2.2.2):Int) == (0:Int)))
  else some (u false)
 else bif ((Nat.cast (List.length a0.2.2.2.2.2.2.2.2.1):Int) == a0.2.1)then some (u ((Nat.cast (List.length a0.2.2.2.2.2.2.2.2.2):Int) == a0.2.1))
 else some (u false)
def aIK (L:Nat)(a0:N10):Option Bool:=G129 (λx=>x) a0
theorem bAW (L:Nat)(a0:N10):fP prog aMc (bJ L) f129 (aV7.enc a0)=(aIK L a0).map aGC:=by
 refine .trans (b:=G129 aGC a0) (by kernel_rfl) ?_;unfold aIK G129
 repeat' first | with_reducible refine dP ?_ ?_ | with_reducible refine dL λ_=>?_ | with_reducible refine dO λ_=>?_ | exact rfl
def aNv (L:Nat)(x:N10):Option Bool:=aIK L x
theorem aYg (m:Y129)(hm:∀ (x:N10) t,m x=some t->∃ L,aNv L x=some t):Sat prog cxT 129 (aKJ m):=
 cF bC aX (by rfl) (fn:=f129) rfl aV7 aGC aMU m aMc aW aQ (aNv) (λL x=>bAW L x) hm aR9
end Go.Proofs.Tryz
set_option maxHeartbeats 0
set_option maxRecDepth 100000
namespace Go.Proofs.Tryz
open Go.IntKind (wrap)
open Go Go.VM Go.RowKit
def aMr (eG:Y79)(m134:Y134)(m135:Y135)(lA:Y136):Env cxT:={ Kc:=cR [(79,c79 eG),(134,aKE m134),(135,aKD m135),(136,aPr lA)],Kw:=cQ [],lv:=λi=>[],xv:=λi=>none }
def G108 {B:Type}(u:Int->B)(eG:Y79)(m134:Y134)(m135:Y135)(lA:Y136)(a0_0:Int)(a0_1:Int)(a0_2:Int)(a0_3:Int)(a0_4:Int)(a0_5:Int)(a0_6:Int)(a0_7:Int)(a0_8:Int):Option B:=
 cU (eG a0_0) false λ(q1:Bool)=>bif (!q1)then some (u (3:Int))
  else cU (m134 a0_1) false λ(q2:Bool)=>bif (!q2)then some (u (3:Int))
   else cU (m135 a0_2) false λ(q3:Bool)=>bif (!q3)then some (u (3:Int))
    else bif (!((a0_1 == (0:Int)) == (a0_2 == (0:Int))))then some (u (1:Int))
    else bif (a0_1 != (0:Int))then cU (lA (a0_3,(a0_4,(a0_5,(a0_6,(a0_7,a0_8)))))) (0:Int) λ(q5:Int)=>some (u q5)
    else bif (!((((((a0_3 == (0:Int))&&(a0_4 == (0:Int)))&&(a0_5 == (0:Int)))&&(a0_6 == (0:Int)))&&(a0_7 == (0:Int)))&&(a0_8 == (0:Int))))then some (u (1:Int))
    else some (u (0:Int))
def aIU (eG:Y79)(m134:Y134)(m135:Y135)(lA:Y136)(L:Nat)(a0_0:Int)(a0_1:Int)(a0_2:Int)(a0_3:Int)(a0_4:Int)(a0_5:Int)(a0_6:Int)(a0_7:Int)(a0_8:Int):Option Int:=G108 (λx=>x) eG m134 m135 lA a0_0 a0_1 a0_2 a0_3 a0_4 a0_5 a0_6 a0_7 a0_8
theorem bBf (eG:Y79)(m134:Y134)(m135:Y135)(lA:Y136)(L:Nat)(a0_0:Int)(a0_1:Int)(a0_2:Int)(a0_3:Int)(a0_4:Int)(a0_5:Int)(a0_6:Int)(a0_7:Int)(a0_8:Int):fP prog (aMr eG m134 m135 lA) (bJ L) f108 (aWq.enc (a0_0,a0_1,a0_2,a0_3,a0_4,a0_5,a0_6,a0_7,a0_8))=(aIU eG m134 m135 lA L a0_0 a0_1 a0_2 a0_3 a0_4 a0_5 a0_6 a0_7 a0_8).map aGR:=by
 refine .trans (b:=G108 aGR eG m134 m135 lA a0_0 a0_1 a0_2 a0_3 a0_4 a0_5 a0_6 a0_7 a0_8) (by kernel_rfl) ?_;unfold aIU G108
 repeat' first | with_reducible refine dP ?_ ?_ | with_reducible refine dL λ_=>?_ | with_reducible refine dO λ_=>?_ | exact rfl
def aNF (eG:Y79)(m134:Y134)(m135:Y135)(lA:Y136)(L:Nat)(x:E9):Option Int:=aIU eG m134 m135 lA L x.1 x.2.1 x.2.2.1 x.2.2.2.1 x.2.2.2.2.1 x.2.2.2.2.2.1 x.2.2.2.2.2.2.1 x.2.2.2.2.2.2.2.1 x.2.2.2.2.2.2.2.2
theorem aYz (eG:Y79)(m134:Y134)(m135:Y135)(lA:Y136)(h79:Sat prog cxT 79 (c79 eG))(h134:Sat prog cxT 134 (aKE m134))(h135:Sat prog cxT 135 (aKD m135))(h136:Sat prog cxT 136 (aPr lA))(m:Y108)(hm:∀ (x:E9) t,m x=some t->∃ L,aNF eG m134 m135 lA L x=some t):Sat prog cxT 108 (aHc m):=
 cF bC aX (by rfl) (fn:=f108) rfl aWq aGR aNd m (aMr eG m134 m135 lA) (aL h79 (aL h134 (aL h135 (aL h136 aW)))) aQ (aNF eG m134 m135 lA) (λL x=>bBf eG m134 m135 lA L x.1 x.2.1 x.2.2.1 x.2.2.2.1 x.2.2.2.2.1 x.2.2.2.2.2.1 x.2.2.2.2.2.2.1 x.2.2.2.2.2.2.2.1 x.2.2.2.2.2.2.2.2) hm aSs
def sV (m108:Y108):Env cxT:={ Kc:=cR [(108,aHc m108)],Kw:=cQ [],lv:=λi=>if i=0 then[(3,[]),(10,[some 102]),(11,[]),(12,[])]else[],xv:=λi=>if i=0 then some []else none }
def S126_0 (a0:(List E9))(v0_3:Int)(v0_12:Int):St cxT.ty:={ slots:=[aJ,aJ,aJ,(.inl (.inl (lv (.int .i64 v0_3)))),aJ,aJ,aJ,aJ,aJ,aJ,(.inl (.inl (ls { own:=0,nm:=0,e:=102,o:=false,xs:=a0 }))),(.inl (.inl (lv (.int .i64 (Nat.cast (List.length a0):Int))))),(.inl (.inl (lv (.int .i64 v0_12))))]++List.replicate 15 aJ,D:=[],F:=[],ctr:=1 }
def X126_0 (a0:(List E9)):St cxT.ty:={ slots:=[]++List.replicate 28 aJ,D:=[],F:=[],ctr:=1 }
def G126 {B:Type}(u:Int->B)(hh0:Int->Int->Option B)(m108:Y108)(a0:(List E9)):Option B:=
 bif (decide ((Nat.cast (List.length a0):Int) > (40:Int)))then some (u (2:Int))
 else hh0 (0:Int) (0:Int)
def B126_0 {B:Type}(u:Int->B)(gg:Int->Int->Option B)(kk:Option B)(m108:Y108)(a0:(List E9))(v0_3:Int)(v0_12:Int):Option B:=
 bif (decide (v0_12 < (Nat.cast (List.length a0):Int)))then dX (List.getD a0 v0_12.toNat ((0:Int),((0:Int),((0:Int),((0:Int),((0:Int),((0:Int),((0:Int),((0:Int),(0:Int)))))))))) λs1_0=>bif ((decide ((0:Int)<=v0_12))&&(decide (v0_12 < (Nat.cast (List.length a0):Int))))then cU (m108 (s1_0.1,(s1_0.2.1,(s1_0.2.2.1,(s1_0.2.2.2.1,(s1_0.2.2.2.2.1,(s1_0.2.2.2.2.2.1,(s1_0.2.2.2.2.2.2.1,(s1_0.2.2.2.2.2.2.2.1,s1_0.2.2.2.2.2.2.2.2))))))))) (0:Int) λ(q3:Int)=>bif (q3 != (0:Int))then some (u q3)
    else bif (decide (s1_0.1 < v0_3))then some (u (1:Int))
    else gg s1_0.1 (wrap .i64 (v0_12+(1:Int)))
  else none
 else kk
def A126_0 {B:Type}(u:Int->B)(m108:Y108)(a0:(List E9)):Option B:=
 some (u (0:Int))
def qT (m108:Y108)(L:Nat)(a0:(List E9)):Nat->Int->Int->(Option Int)->Option Int
 | 0,_,_,_=>none
 | n+1,v0_3,v0_12,k=>B126_0 (λx=>x) (λv0_3 v0_12=>qT m108 L a0 n v0_3 v0_12 k) k m108 a0 v0_3 v0_12
theorem aIA (m108:Y108)(L:Nat)(a0:(List E9))(k:St cxT.ty->Option (V cxT.ty))(xk:Nat->St cxT.ty->Option (V cxT.ty))(k':Option Int)(hk:k (X126_0 a0)=(k').map zT):∀ (n:Nat) (v0_3:Int) (v0_12:Int),bA prog (sV m108) L f126 0 [1,1,1,0,1,0,0] (cB (aY prog f126) k xk) n (S126_0 a0 v0_3 v0_12)=(qT m108 L a0 n v0_3 v0_12 k').map zT
 | 0,_,_=>rfl
 | n+1,v0_3,v0_12=>by
  rw[bQ];have ih:=aIA m108 L a0 k xk k' hk n;refine .trans (b:=B126_0 zT (λv0_3 v0_12=>(bA prog (sV m108) L f126 0 [1,1,1,0,1,0,0] (cB (aY prog f126) k xk) n) (S126_0 a0 v0_3 v0_12)) (k (X126_0 a0)) m108 a0 v0_3 v0_12) (by kernel_rfl) ?_;unfold qT B126_0
  repeat' first | with_reducible refine dP ?_ ?_ | with_reducible refine dL λ_=>?_ | with_reducible refine dO λ_=>?_ | with_reducible exact ih _ _ | with_reducible exact hk | exact rfl
def aIM (m108:Y108)(L:Nat)(a0:(List E9)):Option Int:=G126 (λx=>x) (λv0_3 v0_12=>qT m108 L a0 L v0_3 v0_12 (A126_0 (λx=>x) m108 a0)) m108 a0
theorem bAZ (m108:Y108)(L:Nat)(a0:(List E9)):fP prog (sV m108) (bJ L) f126 (aWa.enc a0)=(aIM m108 L a0).map zT:=by
 have hin0:∀ (v0_3:Int) (v0_12:Int),bA prog (sV m108) L f126 0 [1,1,1,0,1,0,0] (cB (aY prog f126) (cA prog (sV m108) L f126 [1,1,1,0,1] (aY prog f126)).n (cA prog (sV m108) L f126 [1,1,1,0,1] (aY prog f126)).x) L (S126_0 a0 v0_3 v0_12)=((λv0_3 v0_12=>qT m108 L a0 L v0_3 v0_12 (A126_0 (λx=>x) m108 a0)) v0_3 v0_12).map zT:=λv0_3 v0_12=>aIA m108 L a0 _ _ _ (by refine .trans (b:=A126_0 zT m108 a0) (by kernel_rfl) ?_;unfold A126_0;repeat' first | with_reducible refine dP ?_ ?_ | with_reducible refine dL λ_=>?_ | with_reducible refine dO λ_=>?_ | exact rfl) L v0_3 v0_12
 refine .trans (b:=G126 zT (λv0_3 v0_12=>bA prog (sV m108) L f126 0 [1,1,1,0,1,0,0] (cB (aY prog f126) (cA prog (sV m108) L f126 [1,1,1,0,1] (aY prog f126)).n (cA prog (sV m108) L f126 [1,1,1,0,1] (aY prog f126)).x) L (S126_0 a0 v0_3 v0_12)) m108 a0) (by kernel_rfl) ?_;unfold aIM G126
 repeat' first | with_reducible refine dP ?_ ?_ | with_reducible refine dL λ_=>?_ | with_reducible refine dO λ_=>?_ | with_reducible exact hin0 _ _ | exact rfl
def aNy (m108:Y108)(L:Nat)(x:(List E9)):Option Int:=aIM m108 L x
theorem aYj (m108:Y108)(h108:Sat prog cxT 108 (aHc m108))(m:Y126)(hm:∀ (x:(List E9)) t,m x=some t->∃ L,aNy m108 L x=some t):Sat prog cxT 126 (aHb m):=
 cF bC aX (by rfl) (fn:=f126) rfl aWa zT aMX m (sV m108) (aL h108 aW) aQ (aNy m108) (λL x=>bAZ m108 L x) hm aSc
def aMd (eU:Y112)(yD:Y91):Env cxT:={ Kc:=cR [(112,aD8 eU),(91,c91 yD)],Kw:=cQ [],lv:=λi=>[],xv:=λi=>none }
def G127 {B:Type}(u:E9->B)(eU:Y112)(yD:Y91)(a0:(List E9)):Option B:=
 cU (eU a0) (0:Int) λ(q1:Int)=>cU (yD (a0,q1)) ((0:Int),(0:Int),(0:Int),(0:Int),(0:Int),(0:Int),(0:Int),(0:Int),(0:Int),false) λ(q2:(Int×Int×Int×Int×Int×Int×Int×Int×Int×Bool))=>some (u (q2.1,q2.2.1,q2.2.2.1,q2.2.2.2.1,q2.2.2.2.2.1,q2.2.2.2.2.2.1,q2.2.2.2.2.2.2.1,q2.2.2.2.2.2.2.2.1,q2.2.2.2.2.2.2.2.2.1))
def aKj (eU:Y112)(yD:Y91)(L:Nat)(a0:(List E9)):Option E9:=G127 (λx=>x) eU yD a0
theorem bAY (eU:Y112)(yD:Y91)(L:Nat)(a0:(List E9)):fP prog (aMd eU yD) (bJ L) f127 (aV9.enc a0)=(aKj eU yD L a0).map aGD:=by
 refine .trans (b:=G127 aGD eU yD a0) (by kernel_rfl) ?_;unfold aKj G127
 repeat' first | with_reducible refine dP ?_ ?_ | with_reducible refine dL λ_=>?_ | with_reducible refine dO λ_=>?_ | exact rfl
def aNx (eU:Y112)(yD:Y91)(L:Nat)(x:(List E9)):Option E9:=aKj eU yD L x
theorem aYi (eU:Y112)(yD:Y91)(h112:Sat prog cxT 112 (aD8 eU))(h91:Sat prog cxT 91 (c91 yD))(m:Y127)(hm:∀ (x:(List E9)) t,m x=some t->∃ L,aNx eU yD L x=some t):Sat prog cxT 127 (aHa m):=
 cF bC aX (by rfl) (fn:=f127) rfl aV9 aGD aMW m (aMd eU yD) (aL h112 (aL h91 aW)) aQ (aNx eU yD) (λL x=>bAY eU yD L x) hm aSb
def aMt (jC:Y76)(dD:Y122)(mR:Y123)(mQ:Y124)(mP:Y125)(m126:Y126)(m127:Y127)(xS:Y87)(cE:Y105)(lW:Y128)(mO:Y129)(lB:Y130):Env cxT:={ Kc:=cR [(76,c76 jC),(122,aBM dD),(123,aKN mR),(124,aKM mQ),(125,aKL mP),(126,aHb m126),(127,aHa m127),(87,c87 xS),(105,vF cE),(128,aKK lW),(129,aKJ mO),(130,aKI lB)],Kw:=cQ [],lv:=λi=>[],xv:=λi=>none }
def G106 {B:Type}(u:Int->B)(jC:Y76)(dD:Y122)(mR:Y123)(mQ:Y124)(mP:Y125)(m126:Y126)(m127:Y127)(xS:Y87)(cE:Y105)(lW:Y128)(mO:Y129)(lB:Y130)(a0_0:Int)(a0_1:Int)(a0_2:Int)(a0_3:Int)(a0_4:(List E9))(a0_5:Int)(a0_6:Int)(a0_7:(List Int))(a0_8:(List Int))(a0_9:(List Int)):Option B:=
 cU (jC a0_1) false λ(q1:Bool)=>bif (!q1)then some (u (3:Int))
  else cU (dD (a0_0,a0_1)) false λ(q2:Bool)=>bif (!q2)then some (u (3:Int))
   else cU (mR a0_2) false λ(q3:Bool)=>bif (!q3)then some (u (3:Int))
    else cU (mQ (a0_3,a0_1)) false λ(q4:Bool)=>bif (!q4)then some (u (3:Int))
     else cU (mP a0_5) false λ(q5:Bool)=>bif (!q5)then some (u (3:Int))
      else cU (m126 a0_4) (0:Int) λ(q6:Int)=>bif (q6 != (0:Int))then some (u q6)
       else cU (m127 a0_4) ((0:Int),(0:Int),(0:Int),(0:Int),(0:Int),(0:Int),(0:Int),(0:Int),(0:Int)) λ(q7:E9)=>bif (decide (q7.1 > a0_2))then some (u (1:Int))
        else cU (xS (a0_0,(a0_1,(a0_2,(a0_3,(a0_4,(a0_5,(a0_6,(a0_7,(a0_8,a0_9)))))))))) (0:Int) λ(q8:Int)=>cU (cE (a0_6,((0:Int),q8))) false λ(q9:Bool)=>bif (!q9)then some (u (3:Int))
          else cU (lW (a0_0,(a0_1,(a0_2,(a0_3,(a0_4,(a0_5,(a0_6,(a0_7,(a0_8,a0_9)))))))))) false λ(q10:Bool)=>bif (!q10)then some (u (1:Int))
           else cU (mO (a0_0,(a0_1,(a0_2,(a0_3,(a0_4,(a0_5,(a0_6,(a0_7,(a0_8,a0_9)))))))))) false λ(q11:Bool)=>bif (!q11)then some (u (1:Int))
            else cU (xS (a0_0,(a0_1,(a0_2,(a0_3,(a0_4,(a0_5,(a0_6,(a0_7,(a0_8,a0_9)))))))))) (0:Int) λ(q12:Int)=>cU (lB (a0_8,((1:Int),(wrap .i64 (q8+(1:Int)))))) false λ(q13:Bool)=>bif (!q13)then some (u (3:Int))
              else cU (xS (a0_0,(a0_1,(a0_2,(a0_3,(a0_4,(a0_5,(a0_6,(a0_7,(a0_8,a0_9)))))))))) (0:Int) λ(q14:Int)=>cU (lB (a0_9,((0:Int),q8))) false λ(q15:Bool)=>bif (!q15)then some (u (3:Int))
                else bif (a0_5 != (0:Int))then bif (a0_3 != a0_0)then some (u (1:Int))
                 else bif (a0_2 == (0:Int))then some (u (1:Int))
                 else some (u (0:Int))
                else some (u (0:Int))
def aIW (jC:Y76)(dD:Y122)(mR:Y123)(mQ:Y124)(mP:Y125)(m126:Y126)(m127:Y127)(xS:Y87)(cE:Y105)(lW:Y128)(mO:Y129)(lB:Y130)(L:Nat)(a0_0:Int)(a0_1:Int)(a0_2:Int)(a0_3:Int)(a0_4:(List E9))(a0_5:Int)(a0_6:Int)(a0_7:(List Int))(a0_8:(List Int))(a0_9:(List Int)):Option Int:=G106 (λx=>x) jC dD mR mQ mP m126 m127 xS cE lW mO lB a0_0 a0_1 a0_2 a0_3 a0_4 a0_5 a0_6 a0_7 a0_8 a0_9
theorem bBh (jC:Y76)(dD:Y122)(mR:Y123)(mQ:Y124)(mP:Y125)(m126:Y126)(m127:Y127)(xS:Y87)(cE:Y105)(lW:Y128)(mO:Y129)(lB:Y130)(L:Nat)(a0_0:Int)(a0_1:Int)(a0_2:Int)(a0_3:Int)(a0_4:(List E9))(a0_5:Int)(a0_6:Int)(a0_7:(List Int))(a0_8:(List Int))(a0_9:(List Int)):fP prog (aMt jC dD mR mQ mP m126 m127 xS cE lW mO lB) (bJ L) f106 (aWs.enc (a0_0,a0_1,a0_2,a0_3,a0_4,a0_5,a0_6,a0_7,a0_8,a0_9))=(aIW jC dD mR mQ mP m126 m127 xS cE lW mO lB L a0_0 a0_1 a0_2 a0_3 a0_4 a0_5 a0_6 a0_7 a0_8 a0_9).map aGT:=by
 refine .trans (b:=G106 aGT jC dD mR mQ mP m126 m127 xS cE lW mO lB a0_0 a0_1 a0_2 a0_3 a0_4 a0_5 a0_6 a0_7 a0_8 a0_9) (by kernel_rfl) ?_;unfold aIW G106
 repeat' first | with_reducible refine dP ?_ ?_ | with_reducible refine dL λ_=>?_ | with_reducible refine dO λ_=>?_ | exact rfl
def aNG (jC:Y76)(dD:Y122)(mR:Y123)(mQ:Y124)(mP:Y125)(m126:Y126)(m127:Y127)(xS:Y87)(cE:Y105)(lW:Y128)(mO:Y129)(lB:Y130)(L:Nat)(x:N10):Option Int:=aIW jC dD mR mQ mP m126 m127 xS cE lW mO lB L x.1 x.2.1 x.2.2.1 x.2.2.2.1 x.2.2.2.2.1 x.2.2.2.2.2.1 x.2.2.2.2.2.2.1 x.2.2.2.2.2.2.2.1 x.2.2.2.2.2.2.2.2.1 x.2.2.2.2.2.2.2.2.2
theorem aYB (jC:Y76)(dD:Y122)(mR:Y123)(mQ:Y124)(mP:Y125)(m126:Y126)(m127:Y127)(xS:Y87)(cE:Y105)(lW:Y128)(mO:Y129)(lB:Y130)(h76:Sat prog cxT 76 (c76 jC))(h122:Sat prog cxT 122 (aBM dD))(h123:Sat prog cxT 123 (aKN mR))(h124:Sat prog cxT 124 (aKM mQ))(h125:Sat prog cxT 125 (aKL mP))(h126:Sat prog cxT 126 (aHb m126))(h127:Sat prog cxT 127 (aHa m127))(h87:Sat prog cxT 87 (c87 xS))(h105:Sat prog cxT 105 (vF cE))(h128:Sat prog cxT 128 (aKK lW))(h129:Sat prog cxT 129 (aKJ mO))(h130:Sat prog cxT 130 (aKI lB))(m:Y106)(hm:∀ (x:N10) t,m x=some t->∃ L,aNG jC dD mR mQ mP m126 m127 xS cE lW mO lB L x=some t):Sat prog cxT 106 (aHd m):=
 cF bC aX (by rfl) (fn:=f106) rfl aWs aGT aNf m (aMt jC dD mR mQ mP m126 m127 xS cE lW mO lB) (aL h76 (aL h122 (aL h123 (aL h124 (aL h125 (aL h126 (aL h127 (aL h87 (aL h105 (aL h128 (aL h129 (aL h130 aW)))))))))))) aQ (aNG jC dD mR mQ mP m126 m127 xS cE lW mO lB) (λL x=>bBh jC dD mR mQ mP m126 m127 xS cE lW mO lB L x.1 x.2.1 x.2.2.1 x.2.2.2.1 x.2.2.2.2.1 x.2.2.2.2.2.1 x.2.2.2.2.2.2.1 x.2.2.2.2.2.2.2.1 x.2.2.2.2.2.2.2.2.1 x.2.2.2.2.2.2.2.2.2) hm aSu
def aMs (m106:Y106)(cE:Y105)(dD:Y122)(eG:Y79)(m126:Y126)(lV:Y131)(mN:Y132)(m133:Y133):Env cxT:={ Kc:=cR [(106,aHd m106),(105,vF cE),(122,aBM dD),(79,c79 eG),(126,aHb m126),(131,aKH lV),(132,aKG mN),(133,aKF m133)],Kw:=cQ [],lv:=λi=>[],xv:=λi=>none }
def G107 {B:Type}(u:Int->B)(m106:Y106)(cE:Y105)(dD:Y122)(eG:Y79)(m126:Y126)(lV:Y131)(mN:Y132)(m133:Y133)(a0_0:Int)(a0_1:Int)(a0_2:Int)(a0_3:Int)(a0_4:(List E9))(a0_5:Int)(a0_6:Int)(a0_7:(List Int))(a0_8:(List Int))(a0_9:(List Int))(a1_0:Int)(a1_1:Int)(a1_2:Int)(a1_3:Int)(a1_4:Int)(a1_5:Int)(a1_6:Int)(a1_7:Bool)(a1_8:(List E9)):Option B:=
 cU (m106 (a0_0,(a0_1,(a0_2,(a0_3,(a0_4,(a0_5,(a0_6,(a0_7,(a0_8,a0_9)))))))))) (0:Int) λ(q1:Int)=>bif (q1 != (0:Int))then some (u q1)
  else cU (cE (a1_0,((1:Int),(4:Int)))) false λ(q2:Bool)=>bif (!q2)then some (u (5:Int))
   else cU (dD (a1_1,a0_1)) false λ(q3:Bool)=>bif (!q3)then some (u (3:Int))
    else bif (a1_1 == a0_0)then some (u (3:Int))
    else bif (a1_2 != a0_0)then some (u (3:Int))
    else cU (eG a1_3) false λ(q4:Bool)=>bif (!q4)then some (u (3:Int))
     else cU (cE (a1_4,((0:Int),(40:Int)))) false λ(q5:Bool)=>bif (!q5)then some (u (3:Int))
      else cU (cE (a1_5,((0:Int),a1_3))) false λ(q6:Bool)=>bif (!q6)then some (u (3:Int))
       else cU (cE (a1_6,((0:Int),(40:Int)))) false λ(q7:Bool)=>bif (!q7)then some (u (3:Int))
        else cU (m126 a1_8) (0:Int) λ(q8:Int)=>bif (q8 != (0:Int))then some (u q8)
         else cU (lV (a1_0,(a1_1,(a1_2,(a1_3,(a1_4,(a1_5,(a1_6,(a1_7,a1_8))))))))) false λ(q9:Bool)=>bif (!q9)then some (u (1:Int))
          else cU (mN (a1_0,(a1_1,(a1_2,(a1_3,(a1_4,(a1_5,(a1_6,(a1_7,a1_8))))))))) false λ(q10:Bool)=>bif (!q10)then some (u (1:Int))
           else cU (m133 (a1_0,(a1_1,(a1_2,(a1_3,(a1_4,(a1_5,(a1_6,(a1_7,a1_8))))))))) false λ(q11:Bool)=>bif (!q11)then some (u (1:Int))
            else bif (a1_4 == (0:Int))then bif (a1_5 != (0:Int))then some (u (1:Int))
             else some (u (0:Int))
            else some (u (0:Int))
def aIV (m106:Y106)(cE:Y105)(dD:Y122)(eG:Y79)(m126:Y126)(lV:Y131)(mN:Y132)(m133:Y133)(L:Nat)(a0_0:Int)(a0_1:Int)(a0_2:Int)(a0_3:Int)(a0_4:(List E9))(a0_5:Int)(a0_6:Int)(a0_7:(List Int))(a0_8:(List Int))(a0_9:(List Int))(a1_0:Int)(a1_1:Int)(a1_2:Int)(a1_3:Int)(a1_4:Int)(a1_5:Int)(a1_6:Int)(a1_7:Bool)(a1_8:(List E9)):Option Int:=G107 (λx=>x) m106 cE dD eG m126 lV mN m133 a0_0 a0_1 a0_2 a0_3 a0_4 a0_5 a0_6 a0_7 a0_8 a0_9 a1_0 a1_1 a1_2 a1_3 a1_4 a1_5 a1_6 a1_7 a1_8
theorem bBg (m106:Y106)(cE:Y105)(dD:Y122)(eG:Y79)(m126:Y126)(lV:Y131)(mN:Y132)(m133:Y133)(L:Nat)(a0_0:Int)(a0_1:Int)(a0_2:Int)(a0_3:Int)(a0_4:(List E9))(a0_5:Int)(a0_6:Int)(a0_7:(List Int))(a0_8:(List Int))(a0_9:(List Int))(a1_0:Int)(a1_1:Int)(a1_2:Int)(a1_3:Int)(a1_4:Int)(a1_5:Int)(a1_6:Int)(a1_7:Bool)(a1_8:(List E9)):fP prog (aMs m106 cE dD eG m126 lV mN m133) (bJ L) f107 (aWr.enc ((a0_0,a0_1,a0_2,a0_3,a0_4,a0_5,a0_6,a0_7,a0_8,a0_9),(a1_0,a1_1,a1_2,a1_3,a1_4,a1_5,a1_6,a1_7,a1_8)))=(aIV m106 cE dD eG m126 lV mN m133 L a0_0 a0_1 a0_2 a0_3 a0_4 a0_5 a0_6 a0_7 a0_8 a0_9 a1_0 a1_1 a1_2 a1_3 a1_4 a1_5 a1_6 a1_7 a1_8).map aGS:=by
 refine .trans (b:=G107 aGS m106 cE dD eG m126 lV mN m133 a0_0 a0_1 a0_2 a0_3 a0_4 a0_5 a0_6 a0_7 a0_8 a0_9 a1_0 a1_1 a1_2 a1_3 a1_4 a1_5 a1_6 a1_7 a1_8) (by kernel_rfl) ?_;unfold aIV G107
 repeat' first | with_reducible refine dP ?_ ?_ | with_reducible refine dL λ_=>?_ | with_reducible refine dO λ_=>?_ | exact rfl
def aQF (m106:Y106)(cE:Y105)(dD:Y122)(eG:Y79)(m126:Y126)(lV:Y131)(mN:Y132)(m133:Y133)(L:Nat)(x:(N10×M9)):Option Int:=aIV m106 cE dD eG m126 lV mN m133 L x.1.1 x.1.2.1 x.1.2.2.1 x.1.2.2.2.1 x.1.2.2.2.2.1 x.1.2.2.2.2.2.1 x.1.2.2.2.2.2.2.1 x.1.2.2.2.2.2.2.2.1 x.1.2.2.2.2.2.2.2.2.1 x.1.2.2.2.2.2.2.2.2.2 x.2.1 x.2.2.1 x.2.2.2.1 x.2.2.2.2.1 x.2.2.2.2.2.1 x.2.2.2.2.2.2.1 x.2.2.2.2.2.2.2.1 x.2.2.2.2.2.2.2.2.1 x.2.2.2.2.2.2.2.2.2
theorem aYA (m106:Y106)(cE:Y105)(dD:Y122)(eG:Y79)(m126:Y126)(lV:Y131)(mN:Y132)(m133:Y133)(h106:Sat prog cxT 106 (aHd m106))(h105:Sat prog cxT 105 (vF cE))(h122:Sat prog cxT 122 (aBM dD))(h79:Sat prog cxT 79 (c79 eG))(h126:Sat prog cxT 126 (aHb m126))(h131:Sat prog cxT 131 (aKH lV))(h132:Sat prog cxT 132 (aKG mN))(h133:Sat prog cxT 133 (aKF m133))(m:Y107)(hm:∀ (x:(N10×M9)) t,m x=some t->∃ L,aQF m106 cE dD eG m126 lV mN m133 L x=some t):Sat prog cxT 107 (aKS m):=
 cF bC aX (by rfl) (fn:=f107) rfl aWr aGS aNe m (aMs m106 cE dD eG m126 lV mN m133) (aL h106 (aL h105 (aL h122 (aL h79 (aL h126 (aL h131 (aL h132 (aL h133 aW)))))))) aQ (aQF m106 cE dD eG m126 lV mN m133) (λL x=>bBg m106 cE dD eG m126 lV mN m133 L x.1.1 x.1.2.1 x.1.2.2.1 x.1.2.2.2.1 x.1.2.2.2.2.1 x.1.2.2.2.2.2.1 x.1.2.2.2.2.2.2.1 x.1.2.2.2.2.2.2.2.1 x.1.2.2.2.2.2.2.2.2.1 x.1.2.2.2.2.2.2.2.2.2 x.2.1 x.2.2.1 x.2.2.2.1 x.2.2.2.2.1 x.2.2.2.2.2.1 x.2.2.2.2.2.2.1 x.2.2.2.2.2.2.2.1 x.2.2.2.2.2.2.2.2.1 x.2.2.2.2.2.2.2.2.2) hm aSt
def aBn (m106:Y106):Env cxT:={ Kc:=cR [(106,aHd m106)],Kw:=cQ [],lv:=λi=>if i=0 then[(0,[some 73]),(6,[some 73]),(7,[]),(8,[])]else[],xv:=λi=>if i=0 then some []else none }
def S77_0 (a0:(List N10))(v0_8:Int):St cxT.ty:={ slots:=[(.inl (.inl (ls { own:=0,nm:=0,e:=73,o:=false,xs:=a0 }))),aJ,aJ,aJ,aJ,aJ,(.inl (.inl (ls { own:=0,nm:=0,e:=73,o:=false,xs:=a0 }))),(.inl (.inl (lv (.int .i64 (Nat.cast (List.length a0):Int))))),(.inl (.inl (lv (.int .i64 v0_8))))]++List.replicate 21 aJ,D:=[],F:=[],ctr:=1 }
def X77_0 (a0:(List N10)):St cxT.ty:={ slots:=[]++List.replicate 30 aJ,D:=[],F:=[],ctr:=1 }
def G77 {B:Type}(u:Int->B)(hh0:Int->Option B)(m106:Y106)(a0:(List N10)):Option B:=
 hh0 (0:Int)
def B77_0 {B:Type}(u:Int->B)(gg:Int->Option B)(kk:Option B)(m106:Y106)(a0:(List N10))(v0_8:Int):Option B:=
 bif (decide (v0_8 < (Nat.cast (List.length a0):Int)))then dX (List.getD a0 v0_8.toNat ((0:Int),((0:Int),((0:Int),((0:Int),(([]:List E9),((0:Int),((0:Int),(([]:List (Int)),(([]:List (Int)),([]:List (Int)))))))))))) λs1_0=>bif ((decide ((0:Int)<=v0_8))&&(decide (v0_8 < (Nat.cast (List.length a0):Int))))then cU (m106 (s1_0.1,(s1_0.2.1,(s1_0.2.2.1,(s1_0.2.2.2.1,(s1_0.2.2.2.2.1,(s1_0.2.2.2.2.2.1,(s1_0.2.2.2.2.2.2.1,(s1_0.2.2.2.2.2.2.2.1,(s1_0.2.2.2.2.2.2.2.2.1,s1_0.2.2.2.2.2.2.2.2.2)))))))))) (0:Int) λ(q3:Int)=>bif (q3 != (0:Int))then some (u q3)
    else bif (s1_0.1 != v0_8)then some (u (1:Int))
    else bif (s1_0.2.1 != (Nat.cast (List.length a0):Int))then some (u (1:Int))
    else gg (wrap .i64 (v0_8+(1:Int)))
  else none
 else kk
def A77_0 {B:Type}(u:Int->B)(m106:Y106)(a0:(List N10)):Option B:=
 some (u (0:Int))
def sO (m106:Y106)(L:Nat)(a0:(List N10)):Nat->Int->(Option Int)->Option Int
 | 0,_,_=>none
 | n+1,v0_8,k=>B77_0 (λx=>x) (λv0_8=>sO m106 L a0 n v0_8 k) k m106 a0 v0_8
theorem aLw (m106:Y106)(L:Nat)(a0:(List N10))(k:St cxT.ty->Option (V cxT.ty))(xk:Nat->St cxT.ty->Option (V cxT.ty))(k':Option Int)(hk:k (X77_0 a0)=(k').map n77):∀ (n:Nat) (v0_8:Int),bA prog (aBn m106) L f77 0 [1,0,1,0,0] (cB (aY prog f77) k xk) n (S77_0 a0 v0_8)=(sO m106 L a0 n v0_8 k').map n77
 | 0,_=>rfl
 | n+1,v0_8=>by
  rw[bQ];have ih:=aLw m106 L a0 k xk k' hk n;refine .trans (b:=B77_0 n77 (λv0_8=>(bA prog (aBn m106) L f77 0 [1,0,1,0,0] (cB (aY prog f77) k xk) n) (S77_0 a0 v0_8)) (k (X77_0 a0)) m106 a0 v0_8) (by kernel_rfl) ?_;unfold sO B77_0
  repeat' first | with_reducible refine dP ?_ ?_ | with_reducible refine dL λ_=>?_ | with_reducible refine dO λ_=>?_ | with_reducible exact ih _ | with_reducible exact hk | exact rfl
def g77 (m106:Y106)(L:Nat)(a0:(List N10)):Option Int:=G77 (λx=>x) (λv0_8=>sO m106 L a0 L v0_8 (A77_0 (λx=>x) m106 a0)) m106 a0
theorem e77 (m106:Y106)(L:Nat)(a0:(List N10)):fP prog (aBn m106) (bJ L) f77 (a77.enc a0)=(g77 m106 L a0).map n77:=by
 have hin0:∀ (v0_8:Int),bA prog (aBn m106) L f77 0 [1,0,1,0,0] (cB (aY prog f77) (cA prog (aBn m106) L f77 [1,0,1] (aY prog f77)).n (cA prog (aBn m106) L f77 [1,0,1] (aY prog f77)).x) L (S77_0 a0 v0_8)=((λv0_8=>sO m106 L a0 L v0_8 (A77_0 (λx=>x) m106 a0)) v0_8).map n77:=λv0_8=>aLw m106 L a0 _ _ _ (by refine .trans (b:=A77_0 n77 m106 a0) (by kernel_rfl) ?_;unfold A77_0;repeat' first | with_reducible refine dP ?_ ?_ | with_reducible refine dL λ_=>?_ | with_reducible refine dO λ_=>?_ | exact rfl) L v0_8
 refine .trans (b:=G77 n77 (λv0_8=>bA prog (aBn m106) L f77 0 [1,0,1,0,0] (cB (aY prog f77) (cA prog (aBn m106) L f77 [1,0,1] (aY prog f77)).n (cA prog (aBn m106) L f77 [1,0,1] (aY prog f77)).x) L (S77_0 a0 v0_8)) m106 a0) (by kernel_rfl) ?_;unfold g77 G77
 repeat' first | with_reducible refine dP ?_ ?_ | with_reducible refine dL λ_=>?_ | with_reducible refine dO λ_=>?_ | with_reducible exact hin0 _ | exact rfl
def w77 (m106:Y106)(L:Nat)(x:(List N10)):Option Int:=g77 m106 L x
theorem s77 (m106:Y106)(h106:Sat prog cxT 106 (aHd m106))(m:Y77)(hm:∀ (x:(List N10)) t,m x=some t->∃ L,w77 m106 L x=some t):Sat prog cxT 77 (c77 m):=
 cF bC aX (by rfl) (fn:=f77) rfl a77 n77 aUt m (aBn m106) (aL h106 aW) aQ (w77 m106) (λL x=>e77 m106 L x) hm aZl
def aBm (gR:Y80)(gG:Y107):Env cxT:={ Kc:=cR [(80,c80 gR),(107,aKS gG)],Kw:=cQ [],lv:=λi=>if i=0 then[(0,[some 73]),(8,[some 96]),(9,[]),(10,[])]else[],xv:=λi=>if i=0 then some []else none }
def S78_0 (a0:(List N10))(a1:(List M9))(v0_10:Int):St cxT.ty:={ slots:=[(.inl (.inl (ls { own:=0,nm:=0,e:=73,o:=false,xs:=a0 }))),aJ,aJ,aJ,aJ,aJ,aJ,aJ,(.inl (.inl (ls { own:=0,nm:=0,e:=96,o:=false,xs:=a1 }))),(.inl (.inl (lv (.int .i64 (Nat.cast (List.length a1):Int))))),(.inl (.inl (lv (.int .i64 v0_10))))]++List.replicate 20 aJ,D:=[],F:=[],ctr:=1 }
def X78_0 (a0:(List N10))(a1:(List M9)):St cxT.ty:={ slots:=[]++List.replicate 31 aJ,D:=[],F:=[],ctr:=1 }
def G78 {B:Type}(u:Int->B)(hh0:Int->Option B)(gR:Y80)(gG:Y107)(a0:(List N10))(a1:(List M9)):Option B:=
 hh0 (0:Int)
def B78_0 {B:Type}(u:Int->B)(gg:Int->Option B)(kk:Option B)(gR:Y80)(gG:Y107)(a0:(List N10))(a1:(List M9))(v0_10:Int):Option B:=
 bif (decide (v0_10 < (Nat.cast (List.length a1):Int)))then dX (List.getD a1 v0_10.toNat ((0:Int),((0:Int),((0:Int),((0:Int),((0:Int),((0:Int),((0:Int),(false,[]))))))))) λs1_0=>dX (List.getD a0 (Int.toNat s1_0.2.2.1) ((0:Int),((0:Int),((0:Int),((0:Int),(([]:List E9),((0:Int),((0:Int),(([]:List (Int)),(([]:List (Int)),([]:List (Int)))))))))))) λs1_1=>bif ((decide ((0:Int)<=v0_10))&&(decide (v0_10 < (Nat.cast (List.length a1):Int))))then cU (gR (s1_0.2.2.1,(Nat.cast (List.length a0):Int))) false λ(q3:Bool)=>bif (!q3)then some (u (3:Int))
    else bif ((decide ((0:Int)<=s1_0.2.2.1))&&(decide (s1_0.2.2.1 < (Nat.cast (List.length a0):Int))))then cU (gG ((s1_1.1,(s1_1.2.1,(s1_1.2.2.1,(s1_1.2.2.2.1,(s1_1.2.2.2.2.1,(s1_1.2.2.2.2.2.1,(s1_1.2.2.2.2.2.2.1,(s1_1.2.2.2.2.2.2.2.1,(s1_1.2.2.2.2.2.2.2.2.1,s1_1.2.2.2.2.2.2.2.2.2))))))))),(s1_0.1,(s1_0.2.1,(s1_0.2.2.1,(s1_0.2.2.2.1,(s1_0.2.2.2.2.1,(s1_0.2.2.2.2.2.1,(s1_0.2.2.2.2.2.2.1,(s1_0.2.2.2.2.2.2.2.1,s1_0.2.2.2.2.2.2.2.2)))))))))) (0:Int) λ(q5:Int)=>bif (q5 != (0:Int))then some (u q5)
      else gg (wrap .i64 (v0_10+(1:Int)))
    else none
  else none
 else kk
def A78_0 {B:Type}(u:Int->B)(gR:Y80)(gG:Y107)(a0:(List N10))(a1:(List M9)):Option B:=
 some (u (0:Int))
def qK (gR:Y80)(gG:Y107)(L:Nat)(a0:(List N10))(a1:(List M9)):Nat->Int->(Option Int)->Option Int
 | 0,_,_=>none
 | n+1,v0_10,k=>B78_0 (λx=>x) (λv0_10=>qK gR gG L a0 a1 n v0_10 k) k gR gG a0 a1 v0_10
theorem aLv (gR:Y80)(gG:Y107)(L:Nat)(a0:(List N10))(a1:(List M9))(k:St cxT.ty->Option (V cxT.ty))(xk:Nat->St cxT.ty->Option (V cxT.ty))(k':Option Int)(hk:k (X78_0 a0 a1)=(k').map n78):∀ (n:Nat) (v0_10:Int),bA prog (aBm gR gG) L f78 0 [1,0,1,0,0] (cB (aY prog f78) k xk) n (S78_0 a0 a1 v0_10)=(qK gR gG L a0 a1 n v0_10 k').map n78
 | 0,_=>rfl
 | n+1,v0_10=>by
  rw[bQ];have ih:=aLv gR gG L a0 a1 k xk k' hk n;refine .trans (b:=B78_0 n78 (λv0_10=>(bA prog (aBm gR gG) L f78 0 [1,0,1,0,0] (cB (aY prog f78) k xk) n) (S78_0 a0 a1 v0_10)) (k (X78_0 a0 a1)) gR gG a0 a1 v0_10) (by kernel_rfl) ?_;unfold qK B78_0
  repeat' first | with_reducible refine dP ?_ ?_ | with_reducible refine dL λ_=>?_ | with_reducible refine dO λ_=>?_ | with_reducible exact ih _ | with_reducible exact hk | exact rfl
def g78 (gR:Y80)(gG:Y107)(L:Nat)(a0:(List N10))(a1:(List M9)):Option Int:=G78 (λx=>x) (λv0_10=>qK gR gG L a0 a1 L v0_10 (A78_0 (λx=>x) gR gG a0 a1)) gR gG a0 a1
theorem e78 (gR:Y80)(gG:Y107)(L:Nat)(a0:(List N10))(a1:(List M9)):fP prog (aBm gR gG) (bJ L) f78 (a78.enc (a0,a1))=(g78 gR gG L a0 a1).map n78:=by
 have hin0:∀ (v0_10:Int),bA prog (aBm gR gG) L f78 0 [1,0,1,0,0] (cB (aY prog f78) (cA prog (aBm gR gG) L f78 [1,0,1] (aY prog f78)).n (cA prog (aBm gR gG) L f78 [1,0,1] (aY prog f78)).x) L (S78_0 a0 a1 v0_10)=((λv0_10=>qK gR gG L a0 a1 L v0_10 (A78_0 (λx=>x) gR gG a0 a1)) v0_10).map n78:=λv0_10=>aLv gR gG L a0 a1 _ _ _ (by refine .trans (b:=A78_0 n78 gR gG a0 a1) (by kernel_rfl) ?_;unfold A78_0;repeat' first | with_reducible refine dP ?_ ?_ | with_reducible refine dL λ_=>?_ | with_reducible refine dO λ_=>?_ | exact rfl) L v0_10
 refine .trans (b:=G78 n78 (λv0_10=>bA prog (aBm gR gG) L f78 0 [1,0,1,0,0] (cB (aY prog f78) (cA prog (aBm gR gG) L f78 [1,0,1] (aY prog f78)).n (cA prog (aBm gR gG) L f78 [1,0,1] (aY prog f78)).x) L (S78_0 a0 a1 v0_10)) gR gG a0 a1) (by kernel_rfl) ?_;unfold g78 G78
 repeat' first | with_reducible refine dP ?_ ?_ | with_reducible refine dL λ_=>?_ | with_reducible refine dO λ_=>?_ | with_reducible exact hin0 _ | exact rfl
def w78 (gR:Y80)(gG:Y107)(L:Nat)(x:((List N10)×(List M9))):Option Int:=g78 gR gG L x.1 x.2
theorem s78 (gR:Y80)(gG:Y107)(h80:Sat prog cxT 80 (c80 gR))(h107:Sat prog cxT 107 (aKS gG))(m:Y78)(hm:∀ (x:((List N10)×(List M9))) t,m x=some t->∃ L,w78 gR gG L x=some t):Sat prog cxT 78 (c78 m):=
 cF bC aX (by rfl) (fn:=f78) rfl a78 n78 aUs m (aBm gR gG) (aL h80 (aL h107 aW)) aQ (w78 gR gG) (λL x=>e78 gR gG L x.1 x.2) hm aZk
def aBl (eG:Y79)(m108:Y108):Env cxT:={ Kc:=cR [(79,c79 eG),(108,aHc m108)],Kw:=cQ [],lv:=λi=>if i=0 then[(6,[some 104]),(7,[]),(8,[])]else[],xv:=λi=>if i=0 then some []else none }
def S81_0 (a0:(List S10))(v0_8:Int):St cxT.ty:={ slots:=[aJ,aJ,aJ,aJ,aJ,aJ,(.inl (.inl (ls { own:=0,nm:=0,e:=104,o:=false,xs:=a0 }))),(.inl (.inl (lv (.int .i64 (Nat.cast (List.length a0):Int))))),(.inl (.inl (lv (.int .i64 v0_8))))]++List.replicate 14 aJ,D:=[],F:=[],ctr:=1 }
def X81_0 (a0:(List S10)):St cxT.ty:={ slots:=[]++List.replicate 23 aJ,D:=[],F:=[],ctr:=1 }
def G81 {B:Type}(u:Int->B)(hh0:Int->Option B)(eG:Y79)(m108:Y108)(a0:(List S10)):Option B:=
 hh0 (0:Int)
def B81_0 {B:Type}(u:Int->B)(gg:Int->Option B)(kk:Option B)(eG:Y79)(m108:Y108)(a0:(List S10))(v0_8:Int):Option B:=
 bif (decide (v0_8 < (Nat.cast (List.length a0):Int)))then dX (List.getD a0 v0_8.toNat ((0:Int),((0:Int),((0:Int),((0:Int),((0:Int),((0:Int),((0:Int),((0:Int),((0:Int),(0:Int))))))))))) λs1_0=>bif ((decide ((0:Int)<=v0_8))&&(decide (v0_8 < (Nat.cast (List.length a0):Int))))then cU (eG s1_0.1) false λ(q3:Bool)=>bif (!q3)then some (u (3:Int))
    else cU (m108 (s1_0.2.1,(s1_0.2.2.1,(s1_0.2.2.2.1,(s1_0.2.2.2.2.1,(s1_0.2.2.2.2.2.1,(s1_0.2.2.2.2.2.2.1,(s1_0.2.2.2.2.2.2.2.1,(s1_0.2.2.2.2.2.2.2.2.1,s1_0.2.2.2.2.2.2.2.2.2))))))))) (0:Int) λ(q4:Int)=>bif (q4 != (0:Int))then some (u q4)
     else gg (wrap .i64 (v0_8+(1:Int)))
  else none
 else kk
def A81_0 {B:Type}(u:Int->B)(eG:Y79)(m108:Y108)(a0:(List S10)):Option B:=
 some (u (0:Int))
def sN (eG:Y79)(m108:Y108)(L:Nat)(a0:(List S10)):Nat->Int->(Option Int)->Option Int
 | 0,_,_=>none
 | n+1,v0_8,k=>B81_0 (λx=>x) (λv0_8=>sN eG m108 L a0 n v0_8 k) k eG m108 a0 v0_8
theorem aLu (eG:Y79)(m108:Y108)(L:Nat)(a0:(List S10))(k:St cxT.ty->Option (V cxT.ty))(xk:Nat->St cxT.ty->Option (V cxT.ty))(k':Option Int)(hk:k (X81_0 a0)=(k').map n81):∀ (n:Nat) (v0_8:Int),bA prog (aBl eG m108) L f81 0 [1,0,1,0,0] (cB (aY prog f81) k xk) n (S81_0 a0 v0_8)=(sN eG m108 L a0 n v0_8 k').map n81
 | 0,_=>rfl
 | n+1,v0_8=>by
  rw[bQ];have ih:=aLu eG m108 L a0 k xk k' hk n;refine .trans (b:=B81_0 n81 (λv0_8=>(bA prog (aBl eG m108) L f81 0 [1,0,1,0,0] (cB (aY prog f81) k xk) n) (S81_0 a0 v0_8)) (k (X81_0 a0)) eG m108 a0 v0_8) (by kernel_rfl) ?_;unfold sN B81_0
  repeat' first | with_reducible refine dP ?_ ?_ | with_reducible refine dL λ_=>?_ | with_reducible refine dO λ_=>?_ | with_reducible exact ih _ | with_reducible exact hk | exact rfl
def g81 (eG:Y79)(m108:Y108)(L:Nat)(a0:(List S10)):Option Int:=G81 (λx=>x) (λv0_8=>sN eG m108 L a0 L v0_8 (A81_0 (λx=>x) eG m108 a0)) eG m108 a0
theorem e81 (eG:Y79)(m108:Y108)(L:Nat)(a0:(List S10)):fP prog (aBl eG m108) (bJ L) f81 (a81.enc a0)=(g81 eG m108 L a0).map n81:=by
 have hin0:∀ (v0_8:Int),bA prog (aBl eG m108) L f81 0 [1,0,1,0,0] (cB (aY prog f81) (cA prog (aBl eG m108) L f81 [1,0,1] (aY prog f81)).n (cA prog (aBl eG m108) L f81 [1,0,1] (aY prog f81)).x) L (S81_0 a0 v0_8)=((λv0_8=>sN eG m108 L a0 L v0_8 (A81_0 (λx=>x) eG m108 a0)) v0_8).map n81:=λv0_8=>aLu eG m108 L a0 _ _ _ (by refine .trans (b:=A81_0 n81 eG m108 a0) (by kernel_rfl) ?_;unfold A81_0;repeat' first | with_reducible refine dP ?_ ?_ | with_reducible refine dL λ_=>?_ | with_reducible refine dO λ_=>?_ | exact rfl) L v0_8
 refine .trans (b:=G81 n81 (λv0_8=>bA prog (aBl eG m108) L f81 0 [1,0,1,0,0] (cB (aY prog f81) (cA prog (aBl eG m108) L f81 [1,0,1] (aY prog f81)).n (cA prog (aBl eG m108) L f81 [1,0,1] (aY prog f81)).x) L (S81_0 a0 v0_8)) eG m108 a0) (by kernel_rfl) ?_;unfold g81 G81
 repeat' first | with_reducible refine dP ?_ ?_ | with_reducible refine dL λ_=>?_ | with_reducible refine dO λ_=>?_ | with_reducible exact hin0 _ | exact rfl
def w81 (eG:Y79)(m108:Y108)(L:Nat)(x:(List S10)):Option Int:=g81 eG m108 L x
theorem s81 (eG:Y79)(m108:Y108)(h79:Sat prog cxT 79 (c79 eG))(h108:Sat prog cxT 108 (aHc m108))(m:Y81)(hm:∀ (x:(List S10)) t,m x=some t->∃ L,w81 eG m108 L x=some t):Sat prog cxT 81 (c81 m):=
 cF bC aX (by rfl) (fn:=f81) rfl a81 n81 aUp m (aBl eG m108) (aL h79 (aL h108 aW)) aQ (w81 eG m108) (λL x=>e81 eG m108 L x) hm aZh
def aBC (jC:Y76)(mB:Y77)(mA:Y78)(eG:Y79)(gR:Y80)(lU:Y81):Env cxT:={ Kc:=cR [(76,c76 jC),(77,c77 mB),(78,c78 mA),(79,c79 eG),(80,c80 gR),(81,c81 lU)],Kw:=cQ [],lv:=λi=>if i=0 then[(1,[some 73,some 96,some 64,some 104]),(43,[some 64]),(44,[]),(45,[])]else[],xv:=λi=>if i=0 then some [(1,[some 73,some 96,some 64,some 104])]else none }
def S42_0 (a0_0:(List N10))(a0_1:(List M9))(a0_2:(List W2))(a0_3:(List S10))(v0_1_0:(List N10))(v0_1_1:(List M9))(v0_1_2:(List W2))(v0_1_3:(List S10))(v0_45:Int):St cxT.ty:={ slots:=[aJ,(.inr (.inr { kind:=0,nm:=64,cells:=[(ls { own:=0,nm:=0,e:=73,o:=false,xs:=v0_1_0 }),(ls { own:=0,nm:=0,e:=96,o:=false,xs:=v0_1_1 }),(ls { own:=0,nm:=0,e:=64,o:=false,xs:=v0_1_2 }),(ls { own:=0,nm:=0,e:=104,o:=false,xs:=v0_1_3 })],s:={ own:=0,nm:=0,e:=0,o:=false,xs:=([]:List (PUnit)) },i:=0,off:=0 })),aJ,aJ,aJ,aJ,aJ,aJ,aJ,aJ,aJ,aJ,aJ,aJ,aJ,aJ,aJ,aJ,aJ,aJ,aJ,aJ,aJ,aJ,aJ,aJ,aJ,aJ,aJ,aJ,aJ,aJ,aJ,aJ,aJ,aJ,aJ,aJ,aJ,aJ,aJ,aJ,aJ,(.inl (.inl (ls { own:=0,nm:=0,e:=64,o:=false,xs:=a0_2 }))),(.inl (.inl (lv (.int .i64 (Nat.cast (List.length a0_2):Int))))),(.inl (.inl (lv (.int .i64 v0_45))))]++List.replicate 20 aJ,D:=[],F:=[],ctr:=1 }
def X42_0 (a0_0:(List N10))(a0_1:(List M9))(a0_2:(List W2))(a0_3:(List S10))(w0_1_0:(List N10))(w0_1_1:(List M9))(w0_1_2:(List W2))(w0_1_3:(List S10)):St cxT.ty:={ slots:=[aJ,(.inr (.inr { kind:=0,nm:=64,cells:=[(ls { own:=0,nm:=0,e:=73,o:=false,xs:=w0_1_0 }),(ls { own:=0,nm:=0,e:=96,o:=false,xs:=w0_1_1 }),(ls { own:=0,nm:=0,e:=64,o:=false,xs:=w0_1_2 }),(ls { own:=0,nm:=0,e:=104,o:=false,xs:=w0_1_3 })],s:={ own:=0,nm:=0,e:=0,o:=false,xs:=([]:List (PUnit)) },i:=0,off:=0 }))]++List.replicate 64 aJ,D:=[],F:=[],ctr:=1 }
def G42 {B:Type}(u:Int->B)(hh0:(List N10)->(List M9)->(List W2)->(List S10)->Int->Option B)(jC:Y76)(mB:Y77)(mA:Y78)(eG:Y79)(gR:Y80)(lU:Y81)(a0_0:(List N10))(a0_1:(List M9))(a0_2:(List W2))(a0_3:(List S10)):Option B:=
 cU (jC (Nat.cast (List.length a0_0):Int)) false λ(q1:Bool)=>bif (!q1)then some (u (2:Int))
  else bif (decide ((Nat.cast (List.length a0_1):Int) > (80:Int)))then some (u (2:Int))
  else cU (mB a0_0) (0:Int) λ(q2:Int)=>bif (q2 != (0:Int))then some (u q2)
   else cU (mA (a0_0,a0_1)) (0:Int) λ(q3:Int)=>bif (q3 != (0:Int))then some (u q3)
    else bif (decide ((Nat.cast (List.length a0_2):Int) > (400:Int)))then some (u (2:Int))
    else bif (decide ((Nat.cast (List.length a0_3):Int) > (40:Int)))then some (u (2:Int))
    else hh0 a0_0 a0_1 a0_2 a0_3 (0:Int)
def B42_0 {B:Type}(u:Int->B)(gg:(List N10)->(List M9)->(List W2)->(List S10)->Int->Option B)(kk:(List N10)->(List M9)->(List W2)->(List S10)->Option B)(jC:Y76)(mB:Y77)(mA:Y78)(eG:Y79)(gR:Y80)(lU:Y81)(a0_0:(List N10))(a0_1:(List M9))(a0_2:(List W2))(a0_3:(List S10))(v0_1_0:(List N10))(v0_1_1:(List M9))(v0_1_2:(List W2))(v0_1_3:(List S10))(v0_45:Int):Option B:=
 bif (decide (v0_45 < (Nat.cast (List.length a0_2):Int)))then dX (List.getD a0_2 v0_45.toNat ((0:Int),(0:Int))) λs1_0=>bif ((decide ((0:Int)<=v0_45))&&(decide (v0_45 < (Nat.cast (List.length a0_2):Int))))then cU (eG s1_0.1) false λ(q3:Bool)=>bif (!q3)then some (u (3:Int))
    else cU (gR (s1_0.2,(Nat.cast (List.length v0_1_0):Int))) false λ(q4:Bool)=>bif (!q4)then some (u (3:Int))
     else gg v0_1_0 v0_1_1 v0_1_2 v0_1_3 (wrap .i64 (v0_45+(1:Int)))
  else none
 else kk v0_1_0 v0_1_1 v0_1_2 v0_1_3
def A42_0 {B:Type}(u:Int->B)(jC:Y76)(mB:Y77)(mA:Y78)(eG:Y79)(gR:Y80)(lU:Y81)(a0_0:(List N10))(a0_1:(List M9))(a0_2:(List W2))(a0_3:(List S10))(w0_1_0:(List N10))(w0_1_1:(List M9))(w0_1_2:(List W2))(w0_1_3:(List S10)):Option B:=
 cU (lU w0_1_3) (0:Int) λ(q1:Int)=>some (u q1)
def sP (jC:Y76)(mB:Y77)(mA:Y78)(eG:Y79)(gR:Y80)(lU:Y81)(L:Nat)(a0_0:(List N10))(a0_1:(List M9))(a0_2:(List W2))(a0_3:(List S10)):Nat->(List N10)->(List M9)->(List W2)->(List S10)->Int->((List N10)->(List M9)->(List W2)->(List S10)->Option Int)->Option Int
 | 0,_,_,_,_,_,_=>none
 | n+1,v0_1_0,v0_1_1,v0_1_2,v0_1_3,v0_45,k=>B42_0 (λx=>x) (λv0_1_0 v0_1_1 v0_1_2 v0_1_3 v0_45=>sP jC mB mA eG gR lU L a0_0 a0_1 a0_2 a0_3 n v0_1_0 v0_1_1 v0_1_2 v0_1_3 v0_45 k) k jC mB mA eG gR lU a0_0 a0_1 a0_2 a0_3 v0_1_0 v0_1_1 v0_1_2 v0_1_3 v0_45
theorem aLL (jC:Y76)(mB:Y77)(mA:Y78)(eG:Y79)(gR:Y80)(lU:Y81)(L:Nat)(a0_0:(List N10))(a0_1:(List M9))(a0_2:(List W2))(a0_3:(List S10))(k:St cxT.ty->Option (V cxT.ty))(xk:Nat->St cxT.ty->Option (V cxT.ty))(k':(List N10)->(List M9)->(List W2)->(List S10)->Option Int)(hk:∀ (w0_1_0:(List N10)) (w0_1_1:(List M9)) (w0_1_2:(List W2)) (w0_1_3:(List S10)),k (X42_0 a0_0 a0_1 a0_2 a0_3 w0_1_0 w0_1_1 w0_1_2 w0_1_3)=(k' w0_1_0 w0_1_1 w0_1_2 w0_1_3).map n42):∀ (n:Nat) (v0_1_0:(List N10)) (v0_1_1:(List M9)) (v0_1_2:(List W2)) (v0_1_3:(List S10)) (v0_45:Int),bA prog (aBC jC mB mA eG gR lU) L f42 0 [1,1,1,1,1,0,1,0,0] (cB (aY prog f42) k xk) n (S42_0 a0_0 a0_1 a0_2 a0_3 v0_1_0 v0_1_1 v0_1_2 v0_1_3 v0_45)=(sP jC mB mA eG gR lU L a0_0 a0_1 a0_2 a0_3 n v0_1_0 v0_1_1 v0_1_2 v0_1_3 v0_45 k').map n42
 | 0,_,_,_,_,_=>rfl
 | n+1,v0_1_0,v0_1_1,v0_1_2,v0_1_3,v0_45=>by
  rw[bQ];have ih:=aLL jC mB mA eG gR lU L a0_0 a0_1 a0_2 a0_3 k xk k' hk n;refine .trans (b:=B42_0 n42 (λv0_1_0 v0_1_1 v0_1_2 v0_1_3 v0_45=>(bA prog (aBC jC mB mA eG gR lU) L f42 0 [1,1,1,1,1,0,1,0,0] (cB (aY prog f42) k xk) n) (S42_0 a0_0 a0_1 a0_2 a0_3 v0_1_0 v0_1_1 v0_1_2 v0_1_3 v0_45)) (λw0_1_0 w0_1_1 w0_1_2 w0_1_3=>k (X42_0 a0_0 a0_1 a0_2 a0_3 w0_1_0 w0_1_1 w0_1_2 w0_1_3)) jC mB mA eG gR lU a0_0 a0_1 a0_2 a0_3 v0_1_0 v0_1_1 v0_1_2 v0_1_3 v0_45) (by kernel_rfl) ?_;unfold sP B42_0
  repeat' first | with_reducible refine dP ?_ ?_ | with_reducible refine dL λ_=>?_ | with_reducible refine dO λ_=>?_ | with_reducible exact ih _ _ _ _ _ | with_reducible exact hk _ _ _ _ | exact rfl
def g42 (jC:Y76)(mB:Y77)(mA:Y78)(eG:Y79)(gR:Y80)(lU:Y81)(L:Nat)(a0_0:(List N10))(a0_1:(List M9))(a0_2:(List W2))(a0_3:(List S10)):Option Int:=G42 (λx=>x) (λv0_1_0 v0_1_1 v0_1_2 v0_1_3 v0_45=>sP jC mB mA eG gR lU L a0_0 a0_1 a0_2 a0_3 L v0_1_0 v0_1_1 v0_1_2 v0_1_3 v0_45 (λw0_1_0 w0_1_1 w0_1_2 w0_1_3=>A42_0 (λx=>x) jC mB mA eG gR lU a0_0 a0_1 a0_2 a0_3 w0_1_0 w0_1_1 w0_1_2 w0_1_3)) jC mB mA eG gR lU a0_0 a0_1 a0_2 a0_3
theorem e42 (jC:Y76)(mB:Y77)(mA:Y78)(eG:Y79)(gR:Y80)(lU:Y81)(L:Nat)(a0_0:(List N10))(a0_1:(List M9))(a0_2:(List W2))(a0_3:(List S10)):fP prog (aBC jC mB mA eG gR lU) (bJ L) f42 (a42.enc (a0_0,a0_1,a0_2,a0_3))=(g42 jC mB mA eG gR lU L a0_0 a0_1 a0_2 a0_3).map n42:=by
 have hin0:∀ (v0_1_0:(List N10)) (v0_1_1:(List M9)) (v0_1_2:(List W2)) (v0_1_3:(List S10)) (v0_45:Int),bA prog (aBC jC mB mA eG gR lU) L f42 0 [1,1,1,1,1,0,1,0,0] (cB (aY prog f42) (cA prog (aBC jC mB mA eG gR lU) L f42 [1,1,1,1,1,0,1] (aY prog f42)).n (cA prog (aBC jC mB mA eG gR lU) L f42 [1,1,1,1,1,0,1] (aY prog f42)).x) L (S42_0 a0_0 a0_1 a0_2 a0_3 v0_1_0 v0_1_1 v0_1_2 v0_1_3 v0_45)=((λv0_1_0 v0_1_1 v0_1_2 v0_1_3 v0_45=>sP jC mB mA eG gR lU L a0_0 a0_1 a0_2 a0_3 L v0_1_0 v0_1_1 v0_1_2 v0_1_3 v0_45 (λw0_1_0 w0_1_1 w0_1_2 w0_1_3=>A42_0 (λx=>x) jC mB mA eG gR lU a0_0 a0_1 a0_2 a0_3 w0_1_0 w0_1_1 w0_1_2 w0_1_3)) v0_1_0 v0_1_1 v0_1_2 v0_1_3 v0_45).map n42:=λv0_1_0 v0_1_1 v0_1_2 v0_1_3 v0_45=>aLL jC mB mA eG gR lU L a0_0 a0_1 a0_2 a0_3 _ _ _ (λw0_1_0 w0_1_1 w0_1_2 w0_1_3=>by refine .trans (b:=A42_0 n42 jC mB mA eG gR lU a0_0 a0_1 a0_2 a0_3 w0_1_0 w0_1_1 w0_1_2 w0_1_3) (by kernel_rfl) ?_;unfold A42_0;repeat' first | with_reducible refine dP ?_ ?_ | with_reducible refine dL λ_=>?_ | with_reducible refine dO λ_=>?_ | exact rfl) L v0_1_0 v0_1_1 v0_1_2 v0_1_3 v0_45
 refine .trans (b:=G42 n42 (λv0_1_0 v0_1_1 v0_1_2 v0_1_3 v0_45=>bA prog (aBC jC mB mA eG gR lU) L f42 0 [1,1,1,1,1,0,1,0,0] (cB (aY prog f42) (cA prog (aBC jC mB mA eG gR lU) L f42 [1,1,1,1,1,0,1] (aY prog f42)).n (cA prog (aBC jC mB mA eG gR lU) L f42 [1,1,1,1,1,0,1] (aY prog f42)).x) L (S42_0 a0_0 a0_1 a0_2 a0_3 v0_1_0 v0_1_1 v0_1_2 v0_1_3 v0_45)) jC mB mA eG gR lU a0_0 a0_1 a0_2 a0_3) (by kernel_rfl) ?_;unfold g42 G42
 repeat' first | with_reducible refine dP ?_ ?_ | with_reducible refine dL λ_=>?_ | with_reducible refine dO λ_=>?_ | with_reducible exact hin0 _ _ _ _ _ | exact rfl
def w42 (jC:Y76)(mB:Y77)(mA:Y78)(eG:Y79)(gR:Y80)(lU:Y81)(L:Nat)(x:C4):Option Int:=g42 jC mB mA eG gR lU L x.1 x.2.1 x.2.2.1 x.2.2.2
theorem s42 (jC:Y76)(mB:Y77)(mA:Y78)(eG:Y79)(gR:Y80)(lU:Y81)(h76:Sat prog cxT 76 (c76 jC))(h77:Sat prog cxT 77 (c77 mB))(h78:Sat prog cxT 78 (c78 mA))(h79:Sat prog cxT 79 (c79 eG))(h80:Sat prog cxT 80 (c80 gR))(h81:Sat prog cxT 81 (c81 lU))(m:Y42)(hm:∀ (x:C4) t,m x=some t->∃ L,w42 jC mB mA eG gR lU L x=some t):Sat prog cxT 42 (c42 m):=
 cF bC aX (by rfl) (fn:=f42) rfl a42 n42 aPm m (aBC jC mB mA eG gR lU) (aL h76 (aL h77 (aL h78 (aL h79 (aL h80 (aL h81 aW)))))) aQ (w42 jC mB mA eG gR lU) (λL x=>e42 jC mB mA eG gR lU L x.1 x.2.1 x.2.2.1 x.2.2.2) hm aZL
end Go.Proofs.Tryz
