/- A part of the proof of FnExactSafeCluster: LmFg, LmFh. -/
import Derived.Test.YtnmbggfkmkcmkaaGreatLmBase
set_option linter.unusedSimpArgs false
set_option linter.unusedVariables false
set_option maxHeartbeats 0
set_option maxRecDepth 100000
namespace Go.Proofs.Tryz
open Go.IntKind (wrap)
open Go Go.VM Go.RowKit
def aMQ:Env cxT:={ Kc:=cN [],Kw:=cO [],lv:=λi=>[],xv:=λi=>none }
def G105 {B:Type}(u:Bool->B)(a0:Int)(a1:Int)(a2:Int):Option B:=
 bif (decide (a0>=a1))then some (u (decide (a0<=a2)))
 else some (u false)
def aPI (L:Nat)(a0:Int)(a1:Int)(a2:Int):Option Bool:=G105 (λx=>x) a0 a1 a2
theorem bCs (L:Nat)(a0:Int)(a1:Int)(a2:Int):eV prog aMQ (bI L) f105 (aXA.enc (a0,a1,a2))=(aPI L a0 a1 a2).map aHc:=by
 refine .trans (b:=G105 aHc a0 a1 a2) (by kernel_rfl) ?_;unfold aPI G105
 repeat' first | with_reducible refine dG ?_ ?_ | with_reducible refine dE λ_=>?_ | with_reducible refine dF λ_=>?_ | exact rfl
def aRu (L:Nat)(x:(Int×Int×Int)):Option Bool:=aPI L x.1 x.2.1 x.2.2
theorem aZJ (m:Y105)(hm:∀ (x:(Int×Int×Int)) t,m x=some t->∃ L,aRu L x=some t):Sat prog cxT 105 (vX m):=
 bS bB aW (by rfl) (fn:=f105) rfl aXA aHc aNF m aMQ aV aP (aRu) (λL x=>bCs L x.1 x.2.1 x.2.2) hm aTk
def aUq (cE:Y105):Env cxT:={ Kc:=cN [(105,vX cE)],Kw:=cO [],lv:=λi=>[],xv:=λi=>none }
def G76 {B:Type}(u:Bool->B)(cE:Y105)(a0:Int):Option B:=
 cM (cE (a0,((1:Int),(5:Int)))) false λ(q1:Bool)=>some (u q1)
def g76 (cE:Y105)(L:Nat)(a0:Int):Option Bool:=G76 (λx=>x) cE a0
theorem e76 (cE:Y105)(L:Nat)(a0:Int):eV prog (aUq cE) (bI L) f76 (a76.enc a0)=(g76 cE L a0).map n76:=by
 refine .trans (b:=G76 n76 cE a0) (by kernel_rfl) ?_;unfold g76 G76
 repeat' first | with_reducible refine dG ?_ ?_ | with_reducible refine dE λ_=>?_ | with_reducible refine dF λ_=>?_ | exact rfl
def w76 (cE:Y105)(L:Nat)(x:Int):Option Bool:=g76 cE L x
theorem s76 (cE:Y105)(h105:Sat prog cxT 105 (vX cE))(m:Y76)(hm:∀ (x:Int) t,m x=some t->∃ L,w76 cE L x=some t):Sat prog cxT 76 (c76 m):=
 bS bB aW (by rfl) (fn:=f76) rfl a76 n76 aVv m (aUq cE) (aI h105 aV) aP (w76 cE) (λL x=>e76 cE L x) hm bAt
def aUp:Env cxT:={ Kc:=cN [],Kw:=cO [],lv:=λi=>[],xv:=λi=>none }
def G79 {B:Type}(u:Bool->B)(a0:Int):Option B:=
 bif (decide (a0>=(1:Int)))then some (u (decide (a0<=(100000:Int))))
 else some (u false)
def g79 (L:Nat)(a0:Int):Option Bool:=G79 (λx=>x) a0
theorem e79 (L:Nat)(a0:Int):eV prog aUp (bI L) f79 (a79.enc a0)=(g79 L a0).map n79:=by
 refine .trans (b:=G79 n79 a0) (by kernel_rfl) ?_;unfold g79 G79
 repeat' first | with_reducible refine dG ?_ ?_ | with_reducible refine dE λ_=>?_ | with_reducible refine dF λ_=>?_ | exact rfl
def w79 (L:Nat)(x:Int):Option Bool:=g79 L x
theorem s79 (m:Y79)(hm:∀ (x:Int) t,m x=some t->∃ L,w79 L x=some t):Sat prog cxT 79 (c79 m):=
 bS bB aW (by rfl) (fn:=f79) rfl a79 n79 aVs m aUp aV aP (w79) (λL x=>e79 L x) hm bAq
def aUo (cE:Y105):Env cxT:={ Kc:=cN [(105,vX cE)],Kw:=cO [],lv:=λi=>[],xv:=λi=>none }
def G80 {B:Type}(u:Bool->B)(cE:Y105)(a0:Int)(a1:Int):Option B:=
 cM (cE (a0,((0:Int),(wrap .i64 (a1-(1:Int)))))) false λ(q1:Bool)=>some (u q1)
def g80 (cE:Y105)(L:Nat)(a0:Int)(a1:Int):Option Bool:=G80 (λx=>x) cE a0 a1
theorem e80 (cE:Y105)(L:Nat)(a0:Int)(a1:Int):eV prog (aUo cE) (bI L) f80 (a80.enc (a0,a1))=(g80 cE L a0 a1).map n80:=by
 refine .trans (b:=G80 n80 cE a0 a1) (by kernel_rfl) ?_;unfold g80 G80
 repeat' first | with_reducible refine dG ?_ ?_ | with_reducible refine dE λ_=>?_ | with_reducible refine dF λ_=>?_ | exact rfl
def w80 (cE:Y105)(L:Nat)(x:(Int×Int)):Option Bool:=g80 cE L x.1 x.2
theorem s80 (cE:Y105)(h105:Sat prog cxT 105 (vX cE))(m:Y80)(hm:∀ (x:(Int×Int)) t,m x=some t->∃ L,w80 cE L x=some t):Sat prog cxT 80 (c80 m):=
 bS bB aW (by rfl) (fn:=f80) rfl a80 n80 aVr m (aUo cE) (aI h105 aV) aP (w80 cE) (λL x=>e80 cE L x.1 x.2) hm bAp
def aMC:Env cxT:={ Kc:=cN [],Kw:=cO [],lv:=λi=>[],xv:=λi=>none }
def G122 {B:Type}(u:Bool->B)(a0:Int)(a1:Int):Option B:=
 bif (decide (a0>=(0:Int)))then some (u (decide (a0 < a1)))
 else some (u false)
def aJd (L:Nat)(a0:Int)(a1:Int):Option Bool:=G122 (λx=>x) a0 a1
theorem bCb (L:Nat)(a0:Int)(a1:Int):eV prog aMC (bI L) f122 (aXj.enc (a0,a1))=(aJd L a0 a1).map aGY:=by
 refine .trans (b:=G122 aGY a0 a1) (by kernel_rfl) ?_;unfold aJd G122
 repeat' first | with_reducible refine dG ?_ ?_ | with_reducible refine dE λ_=>?_ | with_reducible refine dF λ_=>?_ | exact rfl
def aN1 (L:Nat)(x:(Int×Int)):Option Bool:=aJd L x.1 x.2
theorem aZs (m:Y122)(hm:∀ (x:(Int×Int)) t,m x=some t->∃ L,aN1 L x=some t):Sat prog cxT 122 (aBM m):=
 bS bB aW (by rfl) (fn:=f122) rfl aXj aGY aNo m aMC aV aP (aN1) (λL x=>bCb L x.1 x.2) hm aS3
def aMB (eI:Y79):Env cxT:={ Kc:=cN [(79,c79 eI)],Kw:=cO [],lv:=λi=>[],xv:=λi=>none }
def G123 {B:Type}(u:Bool->B)(eI:Y79)(a0:Int):Option B:=
 bif (a0 == (0:Int))then some (u true)
 else cM (eI a0) false λ(q1:Bool)=>some (u q1)
def aJc (eI:Y79)(L:Nat)(a0:Int):Option Bool:=G123 (λx=>x) eI a0
theorem bCa (eI:Y79)(L:Nat)(a0:Int):eV prog (aMB eI) (bI L) f123 (aXi.enc a0)=(aJc eI L a0).map aGX:=by
 refine .trans (b:=G123 aGX eI a0) (by kernel_rfl) ?_;unfold aJc G123
 repeat' first | with_reducible refine dG ?_ ?_ | with_reducible refine dE λ_=>?_ | with_reducible refine dF λ_=>?_ | exact rfl
def aN0 (eI:Y79)(L:Nat)(x:Int):Option Bool:=aJc eI L x
theorem aZr (eI:Y79)(h79:Sat prog cxT 79 (c79 eI))(m:Y123)(hm:∀ (x:Int) t,m x=some t->∃ L,aN0 eI L x=some t):Sat prog cxT 123 (aKS m):=
 bS bB aW (by rfl) (fn:=f123) rfl aXi aGX aNn m (aMB eI) (aI h79 aV) aP (aN0 eI) (λL x=>bCa eI L x) hm aS2
def aMA (dH:Y122):Env cxT:={ Kc:=cN [(122,aBM dH)],Kw:=cO [],lv:=λi=>[],xv:=λi=>none }
def G124 {B:Type}(u:Bool->B)(dH:Y122)(a0:Int)(a1:Int):Option B:=
 bif (a0 == (-(1:Int)))then some (u true)
 else cM (dH (a0,a1)) false λ(q1:Bool)=>some (u q1)
def aJb (dH:Y122)(L:Nat)(a0:Int)(a1:Int):Option Bool:=G124 (λx=>x) dH a0 a1
theorem bB9 (dH:Y122)(L:Nat)(a0:Int)(a1:Int):eV prog (aMA dH) (bI L) f124 (aXh.enc (a0,a1))=(aJb dH L a0 a1).map aGW:=by
 refine .trans (b:=G124 aGW dH a0 a1) (by kernel_rfl) ?_;unfold aJb G124
 repeat' first | with_reducible refine dG ?_ ?_ | with_reducible refine dE λ_=>?_ | with_reducible refine dF λ_=>?_ | exact rfl
def aNZ (dH:Y122)(L:Nat)(x:(Int×Int)):Option Bool:=aJb dH L x.1 x.2
theorem aZq (dH:Y122)(h122:Sat prog cxT 122 (aBM dH))(m:Y124)(hm:∀ (x:(Int×Int)) t,m x=some t->∃ L,aNZ dH L x=some t):Sat prog cxT 124 (aKR m):=
 bS bB aW (by rfl) (fn:=f124) rfl aXh aGW aNm m (aMA dH) (aI h122 aV) aP (aNZ dH) (λL x=>bB9 dH L x.1 x.2) hm aS1
def aMz (cE:Y105):Env cxT:={ Kc:=cN [(105,vX cE)],Kw:=cO [],lv:=λi=>[],xv:=λi=>none }
def G125 {B:Type}(u:Bool->B)(cE:Y105)(a0:Int):Option B:=
 cM (cE (a0,((0:Int),(2:Int)))) false λ(q1:Bool)=>some (u q1)
def aPA (cE:Y105)(L:Nat)(a0:Int):Option Bool:=G125 (λx=>x) cE a0
theorem bB8 (cE:Y105)(L:Nat)(a0:Int):eV prog (aMz cE) (bI L) f125 (aXg.enc a0)=(aPA cE L a0).map aGV:=by
 refine .trans (b:=G125 aGV cE a0) (by kernel_rfl) ?_;unfold aPA G125
 repeat' first | with_reducible refine dG ?_ ?_ | with_reducible refine dE λ_=>?_ | with_reducible refine dF λ_=>?_ | exact rfl
def aRj (cE:Y105)(L:Nat)(x:Int):Option Bool:=aPA cE L x
theorem aZp (cE:Y105)(h105:Sat prog cxT 105 (vX cE))(m:Y125)(hm:∀ (x:Int) t,m x=some t->∃ L,aRj cE L x=some t):Sat prog cxT 125 (aKQ m):=
 bS bB aW (by rfl) (fn:=f125) rfl aXg aGV aNl m (aMz cE) (aI h105 aV) aP (aRj cE) (λL x=>bB8 cE L x) hm aS0
def tK (cE:Y105):Env cxT:={ Kc:=cN [(105,vX cE)],Kw:=cO [],lv:=λi=>if i=0 then[(1,[]),(2,[]),(9,[some 2]),(10,[]),(11,[])]else[],xv:=λi=>if i=0 then some []else none }
def S130_0 (a0:(List Int))(a1:Int)(a2:Int)(v0_11:Int):St cxT.ty:={ slots:=[aH,(.inl (.inl (lv (.int .i64 a1)))),(.inl (.inl (lv (.int .i64 a2)))),aH,aH,aH,aH,aH,aH,(.inl (.inl (ls { own:=0,nm:=0,e:=2,o:=false,xs:=a0 }))),(.inl (.inl (lv (.int .i64 (Nat.cast (List.length a0):Int))))),(.inl (.inl (lv (.int .i64 v0_11))))]++List.replicate 9 aH,D:=[],F:=[],ctr:=1 }
def X130_0 (a0:(List Int))(a1:Int)(a2:Int):St cxT.ty:={ slots:=[]++List.replicate 21 aH,D:=[],F:=[],ctr:=1 }
def G130 {B:Type}(u:Bool->B)(hh0:Int->Option B)(cE:Y105)(a0:(List Int))(a1:Int)(a2:Int):Option B:=
 hh0 (0:Int)
def B130_0 {B:Type}(u:Bool->B)(gg:Int->Option B)(kk:Option B)(cE:Y105)(a0:(List Int))(a1:Int)(a2:Int)(v0_11:Int):Option B:=
 bif (decide (v0_11 < (Nat.cast (List.length a0):Int)))then bif ((decide ((0:Int)<=v0_11))&&(decide (v0_11 < (Nat.cast (List.length a0):Int))))then cM (cE ((List.getD a0 v0_11.toNat (0:Int)),(a1,a2))) false λ(q3:Bool)=>bif (!q3)then some (u false)
    else gg (wrap .i64 (v0_11+(1:Int)))
  else none
 else kk
def A130_0 {B:Type}(u:Bool->B)(cE:Y105)(a0:(List Int))(a1:Int)(a2:Int):Option B:=
 some (u true)
def uD (cE:Y105)(L:Nat)(a0:(List Int))(a1:Int)(a2:Int):Nat->Int->(Option Bool)->Option Bool
 | 0,_,_=>none
 | n+1,v0_11,k=>B130_0 (λx=>x) (λv0_11=>uD cE L a0 a1 a2 n v0_11 k) k cE a0 a1 a2 v0_11
theorem aIV (cE:Y105)(L:Nat)(a0:(List Int))(a1:Int)(a2:Int)(k:St cxT.ty->Option (V cxT.ty))(xk:Nat->St cxT.ty->Option (V cxT.ty))(k':Option Bool)(hk:k (X130_0 a0 a1 a2)=(k').map zS):∀ (n:Nat) (v0_11:Int),aS prog (tK cE) L f130 0 [1,0,1,0,0] (bE (aM prog f130) k xk) n (S130_0 a0 a1 a2 v0_11)=(uD cE L a0 a1 a2 n v0_11 k').map zS
 | 0,_=>rfl
 | n+1,v0_11=>by
  rw[bF];have ih:=aIV cE L a0 a1 a2 k xk k' hk n;refine .trans (b:=B130_0 zS (λv0_11=>(aS prog (tK cE) L f130 0 [1,0,1,0,0] (bE (aM prog f130) k xk) n) (S130_0 a0 a1 a2 v0_11)) (k (X130_0 a0 a1 a2)) cE a0 a1 a2 v0_11) (by kernel_rfl) ?_;unfold uD B130_0
  repeat' first | with_reducible refine dG ?_ ?_ | with_reducible refine dE λ_=>?_ | with_reducible refine dF λ_=>?_ | with_reducible exact ih _ | with_reducible exact hk | exact rfl
def aI7 (cE:Y105)(L:Nat)(a0:(List Int))(a1:Int)(a2:Int):Option Bool:=G130 (λx=>x) (λv0_11=>uD cE L a0 a1 a2 L v0_11 (A130_0 (λx=>x) cE a0 a1 a2)) cE a0 a1 a2
theorem bB2 (cE:Y105)(L:Nat)(a0:(List Int))(a1:Int)(a2:Int):eV prog (tK cE) (bI L) f130 (aXb.enc (a0,a1,a2))=(aI7 cE L a0 a1 a2).map zS:=by
 have hin0:∀ (v0_11:Int),aS prog (tK cE) L f130 0 [1,0,1,0,0] (bE (aM prog f130) (bU prog (tK cE) L f130 [1,0,1] (aM prog f130)).n (bU prog (tK cE) L f130 [1,0,1] (aM prog f130)).x) L (S130_0 a0 a1 a2 v0_11)=((λv0_11=>uD cE L a0 a1 a2 L v0_11 (A130_0 (λx=>x) cE a0 a1 a2)) v0_11).map zS:=λv0_11=>aIV cE L a0 a1 a2 _ _ _ (by refine .trans (b:=A130_0 zS cE a0 a1 a2) (by kernel_rfl) ?_;unfold A130_0;repeat' first | with_reducible refine dG ?_ ?_ | with_reducible refine dE λ_=>?_ | with_reducible refine dF λ_=>?_ | exact rfl) L v0_11
 refine .trans (b:=G130 zS (λv0_11=>aS prog (tK cE) L f130 0 [1,0,1,0,0] (bE (aM prog f130) (bU prog (tK cE) L f130 [1,0,1] (aM prog f130)).n (bU prog (tK cE) L f130 [1,0,1] (aM prog f130)).x) L (S130_0 a0 a1 a2 v0_11)) cE a0 a1 a2) (by kernel_rfl) ?_;unfold aI7 G130
 repeat' first | with_reducible refine dG ?_ ?_ | with_reducible refine dE λ_=>?_ | with_reducible refine dF λ_=>?_ | with_reducible exact hin0 _ | exact rfl
def aNU (cE:Y105)(L:Nat)(x:((List Int)×Int×Int)):Option Bool:=aI7 cE L x.1 x.2.1 x.2.2
theorem aZk (cE:Y105)(h105:Sat prog cxT 105 (vX cE))(m:Y130)(hm:∀ (x:((List Int)×Int×Int)) t,m x=some t->∃ L,aNU cE L x=some t):Sat prog cxT 130 (aKN m):=
 bS bB aW (by rfl) (fn:=f130) rfl aXb zS aNg m (tK cE) (aI h105 aV) aP (aNU cE) (λL x=>bB2 cE L x.1 x.2.1 x.2.2) hm aSV
def aMw (m127:Y127):Env cxT:={ Kc:=cN [(127,aHq m127)],Kw:=cO [],lv:=λi=>[],xv:=λi=>none }
def G131 {B:Type}(u:Bool->B)(m127:Y127)(a0_0:Int)(a0_1:Int)(a0_2:Int)(a0_3:Int)(a0_4:Int)(a0_5:Int)(a0_6:Int)(a0_7:Bool)(a0_8:(List E9)):Option B:=
 bif ((Nat.cast (List.length a0_8):Int) == (0:Int))then some (u true)
 else bif (a0_0 == (3:Int))then cM (m127 a0_8) ((0:Int),(0:Int),(0:Int),(0:Int),(0:Int),(0:Int),(0:Int),(0:Int),(0:Int)) λ(q2:E9)=>bif (decide (q2.1<=a0_3))then bif ((decide ((0:Int)<=(0:Int)))&&(decide ((0:Int) < (Nat.cast (List.length a0_8):Int))))then some (u (decide ((List.getD a0_8 (0:Nat) ((0:Int),((0:Int),((0:Int),((0:Int),((0:Int),((0:Int),((0:Int),((0:Int),(0:Int)))))))))).1>=a0_5)))
    else none
   else some (u false)
 else some (u false)
def aI6 (m127:Y127)(L:Nat)(a0_0:Int)(a0_1:Int)(a0_2:Int)(a0_3:Int)(a0_4:Int)(a0_5:Int)(a0_6:Int)(a0_7:Bool)(a0_8:(List E9)):Option Bool:=G131 (λx=>x) m127 a0_0 a0_1 a0_2 a0_3 a0_4 a0_5 a0_6 a0_7 a0_8
theorem bB1 (m127:Y127)(L:Nat)(a0_0:Int)(a0_1:Int)(a0_2:Int)(a0_3:Int)(a0_4:Int)(a0_5:Int)(a0_6:Int)(a0_7:Bool)(a0_8:(List E9)):eV prog (aMw m127) (bI L) f131 (aXa.enc (a0_0,a0_1,a0_2,a0_3,a0_4,a0_5,a0_6,a0_7,a0_8))=(aI6 m127 L a0_0 a0_1 a0_2 a0_3 a0_4 a0_5 a0_6 a0_7 a0_8).map aGS:=by
 refine .trans (b:=G131 aGS m127 a0_0 a0_1 a0_2 a0_3 a0_4 a0_5 a0_6 a0_7 a0_8) (by kernel_rfl) ?_;unfold aI6 G131
 repeat' first | with_reducible refine dG ?_ ?_ | with_reducible refine dE λ_=>?_ | with_reducible refine dF λ_=>?_ | exact rfl
def aNT (m127:Y127)(L:Nat)(x:M9):Option Bool:=aI6 m127 L x.1 x.2.1 x.2.2.1 x.2.2.2.1 x.2.2.2.2.1 x.2.2.2.2.2.1 x.2.2.2.2.2.2.1 x.2.2.2.2.2.2.2.1 x.2.2.2.2.2.2.2.2
theorem aZj (m127:Y127)(h127:Sat prog cxT 127 (aHq m127))(m:Y131)(hm:∀ (x:M9) t,m x=some t->∃ L,aNT m127 L x=some t):Sat prog cxT 131 (aKM m):=
 bS bB aW (by rfl) (fn:=f131) rfl aXa aGS aNf m (aMw m127) (aI h127 aV) aP (aNT m127) (λL x=>bB1 m127 L x.1 x.2.1 x.2.2.1 x.2.2.2.1 x.2.2.2.2.1 x.2.2.2.2.2.1 x.2.2.2.2.2.2.1 x.2.2.2.2.2.2.2.1 x.2.2.2.2.2.2.2.2) hm aSU
def aMv:Env cxT:={ Kc:=cN [],Kw:=cO [],lv:=λi=>[],xv:=λi=>none }
def G132 {B:Type}(u:Bool->B)(a0_0:Int)(a0_1:Int)(a0_2:Int)(a0_3:Int)(a0_4:Int)(a0_5:Int)(a0_6:Int)(a0_7:Bool)(a0_8:(List E9)):Option B:=
 bif (!a0_7)then some (u true)
 else bif (a0_0 == (2:Int))then some (u true)
 else some (u (a0_0 == (4:Int)))
def aI5 (L:Nat)(a0_0:Int)(a0_1:Int)(a0_2:Int)(a0_3:Int)(a0_4:Int)(a0_5:Int)(a0_6:Int)(a0_7:Bool)(a0_8:(List E9)):Option Bool:=G132 (λx=>x) a0_0 a0_1 a0_2 a0_3 a0_4 a0_5 a0_6 a0_7 a0_8
theorem bB0 (L:Nat)(a0_0:Int)(a0_1:Int)(a0_2:Int)(a0_3:Int)(a0_4:Int)(a0_5:Int)(a0_6:Int)(a0_7:Bool)(a0_8:(List E9)):eV prog aMv (bI L) f132 (aW9.enc (a0_0,a0_1,a0_2,a0_3,a0_4,a0_5,a0_6,a0_7,a0_8))=(aI5 L a0_0 a0_1 a0_2 a0_3 a0_4 a0_5 a0_6 a0_7 a0_8).map aGR:=by
 refine .trans (b:=G132 aGR a0_0 a0_1 a0_2 a0_3 a0_4 a0_5 a0_6 a0_7 a0_8) (by kernel_rfl) ?_;unfold aI5 G132
 repeat' first | with_reducible refine dG ?_ ?_ | with_reducible refine dE λ_=>?_ | with_reducible refine dF λ_=>?_ | exact rfl
def aNS (L:Nat)(x:M9):Option Bool:=aI5 L x.1 x.2.1 x.2.2.1 x.2.2.2.1 x.2.2.2.2.1 x.2.2.2.2.2.1 x.2.2.2.2.2.2.1 x.2.2.2.2.2.2.2.1 x.2.2.2.2.2.2.2.2
theorem aZi (m:Y132)(hm:∀ (x:M9) t,m x=some t->∃ L,aNS L x=some t):Sat prog cxT 132 (aKL m):=
 bS bB aW (by rfl) (fn:=f132) rfl aW9 aGR aNe m aMv aV aP (aNS) (λL x=>bB0 L x.1 x.2.1 x.2.2.1 x.2.2.2.1 x.2.2.2.2.1 x.2.2.2.2.2.1 x.2.2.2.2.2.2.1 x.2.2.2.2.2.2.2.1 x.2.2.2.2.2.2.2.2) hm aST
def aMu:Env cxT:={ Kc:=cN [],Kw:=cO [],lv:=λi=>[],xv:=λi=>none }
def G133 {B:Type}(u:Bool->B)(a0_0:Int)(a0_1:Int)(a0_2:Int)(a0_3:Int)(a0_4:Int)(a0_5:Int)(a0_6:Int)(a0_7:Bool)(a0_8:(List E9)):Option B:=
 bif (a0_0 == (1:Int))then some (u (a0_6 == (0:Int)))
 else bif (a0_0 == (2:Int))then bif (a0_4 == (0:Int))then bif (a0_5 == (0:Int))then some (u (a0_6 == (0:Int)))
   else some (u false)
  else some (u false)
 else bif (a0_0 == (4:Int))then bif (a0_5 == (0:Int))then some (u (a0_6 == (0:Int)))
  else some (u false)
 else some (u true)
def aPz (L:Nat)(a0_0:Int)(a0_1:Int)(a0_2:Int)(a0_3:Int)(a0_4:Int)(a0_5:Int)(a0_6:Int)(a0_7:Bool)(a0_8:(List E9)):Option Bool:=G133 (λx=>x) a0_0 a0_1 a0_2 a0_3 a0_4 a0_5 a0_6 a0_7 a0_8
theorem bBZ (L:Nat)(a0_0:Int)(a0_1:Int)(a0_2:Int)(a0_3:Int)(a0_4:Int)(a0_5:Int)(a0_6:Int)(a0_7:Bool)(a0_8:(List E9)):eV prog aMu (bI L) f133 (aW8.enc (a0_0,a0_1,a0_2,a0_3,a0_4,a0_5,a0_6,a0_7,a0_8))=(aPz L a0_0 a0_1 a0_2 a0_3 a0_4 a0_5 a0_6 a0_7 a0_8).map aGQ:=by
 refine .trans (b:=G133 aGQ a0_0 a0_1 a0_2 a0_3 a0_4 a0_5 a0_6 a0_7 a0_8) (by kernel_rfl) ?_;unfold aPz G133
 repeat' first | with_reducible refine dG ?_ ?_ | with_reducible refine dE λ_=>?_ | with_reducible refine dF λ_=>?_ | exact rfl
def aRi (L:Nat)(x:M9):Option Bool:=aPz L x.1 x.2.1 x.2.2.1 x.2.2.2.1 x.2.2.2.2.1 x.2.2.2.2.2.1 x.2.2.2.2.2.2.1 x.2.2.2.2.2.2.2.1 x.2.2.2.2.2.2.2.2
theorem aZh (m:Y133)(hm:∀ (x:M9) t,m x=some t->∃ L,aRi L x=some t):Sat prog cxT 133 (aKK m):=
 bS bB aW (by rfl) (fn:=f133) rfl aW8 aGQ aNd m aMu aV aP (aRi) (λL x=>bBZ L x.1 x.2.1 x.2.2.1 x.2.2.2.1 x.2.2.2.2.1 x.2.2.2.2.2.1 x.2.2.2.2.2.2.1 x.2.2.2.2.2.2.2.1 x.2.2.2.2.2.2.2.2) hm aSS
def aMt:Env cxT:={ Kc:=cN [],Kw:=cO [],lv:=λi=>[],xv:=λi=>none }
def G134 {B:Type}(u:Bool->B)(a0:Int):Option B:=
 bif (decide (a0>=(0:Int)))then some (u (decide (a0<=(999:Int))))
 else some (u false)
def aPy (L:Nat)(a0:Int):Option Bool:=G134 (λx=>x) a0
theorem bBY (L:Nat)(a0:Int):eV prog aMt (bI L) f134 (aW7.enc a0)=(aPy L a0).map aGP:=by
 refine .trans (b:=G134 aGP a0) (by kernel_rfl) ?_;unfold aPy G134
 repeat' first | with_reducible refine dG ?_ ?_ | with_reducible refine dE λ_=>?_ | with_reducible refine dF λ_=>?_ | exact rfl
def aRh (L:Nat)(x:Int):Option Bool:=aPy L x
theorem aZg (m:Y134)(hm:∀ (x:Int) t,m x=some t->∃ L,aRh L x=some t):Sat prog cxT 134 (aKJ m):=
 bS bB aW (by rfl) (fn:=f134) rfl aW7 aGP aNc m aMt aV aP (aRh) (λL x=>bBY L x) hm aSR
def aMs:Env cxT:={ Kc:=cN [],Kw:=cO [],lv:=λi=>[],xv:=λi=>none }
def G135 {B:Type}(u:Bool->B)(a0:Int):Option B:=
 bif (decide (a0>=(0:Int)))then some (u (decide (a0<=(1000000:Int))))
 else some (u false)
def aPx (L:Nat)(a0:Int):Option Bool:=G135 (λx=>x) a0
theorem bBX (L:Nat)(a0:Int):eV prog aMs (bI L) f135 (aW6.enc a0)=(aPx L a0).map aGO:=by
 refine .trans (b:=G135 aGO a0) (by kernel_rfl) ?_;unfold aPx G135
 repeat' first | with_reducible refine dG ?_ ?_ | with_reducible refine dE λ_=>?_ | with_reducible refine dF λ_=>?_ | exact rfl
def aRg (L:Nat)(x:Int):Option Bool:=aPx L x
theorem aZf (m:Y135)(hm:∀ (x:Int) t,m x=some t->∃ L,aRg L x=some t):Sat prog cxT 135 (aKI m):=
 bS bB aW (by rfl) (fn:=f135) rfl aW6 aGO aNb m aMs aV aP (aRg) (λL x=>bBX L x) hm aSQ
def aUj (dI:Y112):Env cxT:={ Kc:=cN [(112,aBN dI)],Kw:=cO [],lv:=λi=>[],xv:=λi=>none }
def G87 {B:Type}(u:Int->B)(dI:Y112)(a0:N10):Option B:=
 cM (dI a0.2.2.2.2.1) (0:Int) λ(q1:Int)=>some (u q1)
def g87 (dI:Y112)(L:Nat)(a0:N10):Option Int:=G87 (λx=>x) dI a0
theorem e87 (dI:Y112)(L:Nat)(a0:N10):eV prog (aUj dI) (bI L) f87 (a87.enc a0)=(g87 dI L a0).map n87:=by
 refine .trans (b:=G87 n87 dI a0) (by kernel_rfl) ?_;unfold g87 G87
 repeat' first | with_reducible refine dG ?_ ?_ | with_reducible refine dE λ_=>?_ | with_reducible refine dF λ_=>?_ | exact rfl
def w87 (dI:Y112)(L:Nat)(x:N10):Option Int:=g87 dI L x
theorem s87 (dI:Y112)(h112:Sat prog cxT 112 (aBN dI))(m:Y87)(hm:∀ (x:N10) t,m x=some t->∃ L,w87 dI L x=some t):Sat prog cxT 87 (c87 m):=
 bS bB aW (by rfl) (fn:=f87) rfl a87 n87 aVk m (aUj dI) (aI h112 aV) aP (w87 dI) (λL x=>e87 dI L x) hm bAi
def tL (dH:Y122):Env cxT:={ Kc:=cN [(122,aBM dH)],Kw:=cO [],lv:=λi=>if i=0 then[(0,[none,none,none,none,some 102,none,none,some 2,some 2,some 2]),(3,[]),(22,[some 2]),(23,[]),(24,[])]else[],xv:=λi=>if i=0 then some []else none }
def S128_0 (a0:N10)(v0_3:Int)(v0_24:Int):St cxT.ty:={ slots:=[(.inr (.inr { kind:=2,nm:=0,cells:=[],s:={ own:=0,nm:=0,e:=73,o:=false,xs:=(List.cons a0 []) },i:=0,off:=0 })),aH,aH,(.inl (.inl (lv (.int .i64 v0_3)))),aH,aH,aH,aH,aH,aH,aH,aH,aH,aH,aH,aH,aH,aH,aH,aH,aH,aH,(.inl (.inl (ls { own:=0,nm:=0,e:=2,o:=false,xs:=a0.2.2.2.2.2.2.2.1 }))),(.inl (.inl (lv (.int .i64 (Nat.cast (List.length a0.2.2.2.2.2.2.2.1):Int))))),(.inl (.inl (lv (.int .i64 v0_24))))]++List.replicate 17 aH,D:=[],F:=[],ctr:=1 }
def X128_0 (a0:N10):St cxT.ty:={ slots:=[]++List.replicate 42 aH,D:=[],F:=[],ctr:=1 }
def G128 {B:Type}(u:Bool->B)(hh0:Int->Int->Option B)(dH:Y122)(a0:N10):Option B:=
 bif (a0.2.2.2.2.2.1 != (1:Int))then bif (decide ((Nat.cast (List.length a0.2.2.2.2.2.2.2.1):Int) > (0:Int)))then some (u false)
  else hh0 (-(1:Int)) (0:Int)
 else hh0 (-(1:Int)) (0:Int)
def B128_0 {B:Type}(u:Bool->B)(gg:Int->Int->Option B)(kk:Option B)(dH:Y122)(a0:N10)(v0_3:Int)(v0_24:Int):Option B:=
 bif (decide (v0_24 < (Nat.cast (List.length a0.2.2.2.2.2.2.2.1):Int)))then eF a0 λs1_0=>eF (List.getD s1_0.2.2.2.2.2.2.2.1 v0_24.toNat (0:Int)) λs1_1=>bif ((decide ((0:Int)<=v0_24))&&(decide (v0_24 < (Nat.cast (List.length s1_0.2.2.2.2.2.2.2.1):Int))))then cM (dH (s1_1,s1_0.2.1)) false λ(q3:Bool)=>bif (!q3)then some (u false)
    else bif (decide (s1_1<=v0_3))then some (u false)
    else gg s1_1 (wrap .i64 (v0_24+(1:Int)))
  else none
 else kk
def A128_0 {B:Type}(u:Bool->B)(dH:Y122)(a0:N10):Option B:=
 some (u true)
def uE (dH:Y122)(L:Nat)(a0:N10):Nat->Int->Int->(Option Bool)->Option Bool
 | 0,_,_,_=>none
 | n+1,v0_3,v0_24,k=>B128_0 (λx=>x) (λv0_3 v0_24=>uE dH L a0 n v0_3 v0_24 k) k dH a0 v0_3 v0_24
theorem aIW (dH:Y122)(L:Nat)(a0:N10)(k:St cxT.ty->Option (V cxT.ty))(xk:Nat->St cxT.ty->Option (V cxT.ty))(k':Option Bool)(hk:k (X128_0 a0)=(k').map zT):∀ (n:Nat) (v0_3:Int) (v0_24:Int),aS prog (tL dH) L f128 0 [1,1,1,0,1,0,0] (bE (aM prog f128) k xk) n (S128_0 a0 v0_3 v0_24)=(uE dH L a0 n v0_3 v0_24 k').map zT
 | 0,_,_=>rfl
 | n+1,v0_3,v0_24=>by
  rw[bF];have ih:=aIW dH L a0 k xk k' hk n;refine .trans (b:=B128_0 zT (λv0_3 v0_24=>(aS prog (tL dH) L f128 0 [1,1,1,0,1,0,0] (bE (aM prog f128) k xk) n) (S128_0 a0 v0_3 v0_24)) (k (X128_0 a0)) dH a0 v0_3 v0_24) (by kernel_rfl) ?_;unfold uE B128_0
  repeat' first | with_reducible refine dG ?_ ?_ | with_reducible refine dE λ_=>?_ | with_reducible refine dF λ_=>?_ | with_reducible exact ih _ _ | with_reducible exact hk | exact rfl
def aI9 (dH:Y122)(L:Nat)(a0:N10):Option Bool:=G128 (λx=>x) (λv0_3 v0_24=>uE dH L a0 L v0_3 v0_24 (A128_0 (λx=>x) dH a0)) dH a0
theorem bB5 (dH:Y122)(L:Nat)(a0:N10):eV prog (tL dH) (bI L) f128 (aXd.enc a0)=(aI9 dH L a0).map zT:=by
 have hin0:∀ (v0_3:Int) (v0_24:Int),aS prog (tL dH) L f128 0 [1,1,1,0,1,0,0] (bE (aM prog f128) (bU prog (tL dH) L f128 [1,1,1,0,1] (aM prog f128)).n (bU prog (tL dH) L f128 [1,1,1,0,1] (aM prog f128)).x) L (S128_0 a0 v0_3 v0_24)=((λv0_3 v0_24=>uE dH L a0 L v0_3 v0_24 (A128_0 (λx=>x) dH a0)) v0_3 v0_24).map zT:=λv0_3 v0_24=>aIW dH L a0 _ _ _ (by refine .trans (b:=A128_0 zT dH a0) (by kernel_rfl) ?_;unfold A128_0;repeat' first | with_reducible refine dG ?_ ?_ | with_reducible refine dE λ_=>?_ | with_reducible refine dF λ_=>?_ | exact rfl) L v0_3 v0_24
 refine .trans (b:=G128 zT (λv0_3 v0_24=>aS prog (tL dH) L f128 0 [1,1,1,0,1,0,0] (bE (aM prog f128) (bU prog (tL dH) L f128 [1,1,1,0,1] (aM prog f128)).n (bU prog (tL dH) L f128 [1,1,1,0,1] (aM prog f128)).x) L (S128_0 a0 v0_3 v0_24)) dH a0) (by kernel_rfl) ?_;unfold aI9 G128
 repeat' first | with_reducible refine dG ?_ ?_ | with_reducible refine dE λ_=>?_ | with_reducible refine dF λ_=>?_ | with_reducible exact hin0 _ _ | exact rfl
def aNW (dH:Y122)(L:Nat)(x:N10):Option Bool:=aI9 dH L x
theorem aZm (dH:Y122)(h122:Sat prog cxT 122 (aBM dH))(m:Y128)(hm:∀ (x:N10) t,m x=some t->∃ L,aNW dH L x=some t):Sat prog cxT 128 (aKP m):=
 bS bB aW (by rfl) (fn:=f128) rfl aXd zT aNi m (tL dH) (aI h122 aV) aP (aNW dH) (λL x=>bB5 dH L x) hm aSX
def aMx:Env cxT:={ Kc:=cN [],Kw:=cO [],lv:=λi=>[],xv:=λi=>none }
def G129 {B:Type}(u:Bool->B)(a0:N10):Option B:=
 bif (a0.2.2.2.2.2.1 != (2:Int))then bif ((Nat.cast (List.length a0.2.2.2.2.2.2.2.2.1):Int) == (0:Int))then some (u ((Nat.cast (List.length a0.2.2.2.2.2.2.2.2.2):Int) == (0:Int)))
  else some (u false)
 else bif ((Nat.cast (List.length a0.2.2.2.2.2.2.2.2.1):Int) == a0.2.1)then some (u ((Nat.cast (List.length a0.2.2.2.2.2.2.2.2.2):Int) == a0.2.1))
 else some (u false)
def aI8 (L:Nat)(a0:N10):Option Bool:=G129 (λx=>x) a0
theorem bB4 (L:Nat)(a0:N10):eV prog aMx (bI L) f129 (aXc.enc a0)=(aI8 L a0).map aGT:=by
 refine .trans (b:=G129 aGT a0) (by kernel_rfl) ?_;unfold aI8 G129
 repeat' first | with_reducible refine dG ?_ ?_ | with_reducible refine dE λ_=>?_ | with_reducible refine dF λ_=>?_ | exact rfl
def aNV (L:Nat)(x:N10):Option Bool:=aI8 L x
theorem aZl (m:Y129)(hm:∀ (x:N10) t,m x=some t->∃ L,aNV L x=some t):Sat prog cxT 129 (aKO m):=
 bS bB aW (by rfl) (fn:=f129) rfl aXc aGT aNh m aMx aV aP (aNV) (λL x=>bB4 L x) hm aSW
end Go.Proofs.Tryz
set_option maxHeartbeats 0
set_option maxRecDepth 100000
namespace Go.Proofs.Tryz
open Go.IntKind (wrap)
open Go Go.VM Go.RowKit
def aMN (eI:Y79)(m134:Y134)(m135:Y135)(lF:Y136):Env cxT:={ Kc:=cN [(79,c79 eI),(134,aKJ m134),(135,aKI m135),(136,aPY lF)],Kw:=cO [],lv:=λi=>[],xv:=λi=>none }
def G108 {B:Type}(u:Int->B)(eI:Y79)(m134:Y134)(m135:Y135)(lF:Y136)(a0_0:Int)(a0_1:Int)(a0_2:Int)(a0_3:Int)(a0_4:Int)(a0_5:Int)(a0_6:Int)(a0_7:Int)(a0_8:Int):Option B:=
 cM (eI a0_0) false λ(q1:Bool)=>bif (!q1)then some (u (3:Int))
  else cM (m134 a0_1) false λ(q2:Bool)=>bif (!q2)then some (u (3:Int))
   else cM (m135 a0_2) false λ(q3:Bool)=>bif (!q3)then some (u (3:Int))
    else bif (!((a0_1 == (0:Int)) == (a0_2 == (0:Int))))then some (u (1:Int))
    else bif (a0_1 != (0:Int))then cM (lF (a0_3,(a0_4,(a0_5,(a0_6,(a0_7,a0_8)))))) (0:Int) λ(q5:Int)=>some (u q5)
    else bif (!((((((a0_3 == (0:Int))&&(a0_4 == (0:Int)))&&(a0_5 == (0:Int)))&&(a0_6 == (0:Int)))&&(a0_7 == (0:Int)))&&(a0_8 == (0:Int))))then some (u (1:Int))
    else some (u (0:Int))
def aJj (eI:Y79)(m134:Y134)(m135:Y135)(lF:Y136)(L:Nat)(a0_0:Int)(a0_1:Int)(a0_2:Int)(a0_3:Int)(a0_4:Int)(a0_5:Int)(a0_6:Int)(a0_7:Int)(a0_8:Int):Option Int:=G108 (λx=>x) eI m134 m135 lF a0_0 a0_1 a0_2 a0_3 a0_4 a0_5 a0_6 a0_7 a0_8
theorem bCp (eI:Y79)(m134:Y134)(m135:Y135)(lF:Y136)(L:Nat)(a0_0:Int)(a0_1:Int)(a0_2:Int)(a0_3:Int)(a0_4:Int)(a0_5:Int)(a0_6:Int)(a0_7:Int)(a0_8:Int):eV prog (aMN eI m134 m135 lF) (bI L) f108 (aXx.enc (a0_0,a0_1,a0_2,a0_3,a0_4,a0_5,a0_6,a0_7,a0_8))=(aJj eI m134 m135 lF L a0_0 a0_1 a0_2 a0_3 a0_4 a0_5 a0_6 a0_7 a0_8).map aG9:=by
 refine .trans (b:=G108 aG9 eI m134 m135 lF a0_0 a0_1 a0_2 a0_3 a0_4 a0_5 a0_6 a0_7 a0_8) (by kernel_rfl) ?_;unfold aJj G108
 repeat' first | with_reducible refine dG ?_ ?_ | with_reducible refine dE λ_=>?_ | with_reducible refine dF λ_=>?_ | exact rfl
def aN6 (eI:Y79)(m134:Y134)(m135:Y135)(lF:Y136)(L:Nat)(x:E9):Option Int:=aJj eI m134 m135 lF L x.1 x.2.1 x.2.2.1 x.2.2.2.1 x.2.2.2.2.1 x.2.2.2.2.2.1 x.2.2.2.2.2.2.1 x.2.2.2.2.2.2.2.1 x.2.2.2.2.2.2.2.2
theorem aZG (eI:Y79)(m134:Y134)(m135:Y135)(lF:Y136)(h79:Sat prog cxT 79 (c79 eI))(h134:Sat prog cxT 134 (aKJ m134))(h135:Sat prog cxT 135 (aKI m135))(h136:Sat prog cxT 136 (aPY lF))(m:Y108)(hm:∀ (x:E9) t,m x=some t->∃ L,aN6 eI m134 m135 lF L x=some t):Sat prog cxT 108 (aHs m):=
 bS bB aW (by rfl) (fn:=f108) rfl aXx aG9 aNC m (aMN eI m134 m135 lF) (aI h79 (aI h134 (aI h135 (aI h136 aV)))) aP (aN6 eI m134 m135 lF) (λL x=>bCp eI m134 m135 lF L x.1 x.2.1 x.2.2.1 x.2.2.2.1 x.2.2.2.2.1 x.2.2.2.2.2.1 x.2.2.2.2.2.2.1 x.2.2.2.2.2.2.2.1 x.2.2.2.2.2.2.2.2) hm aTh
def tM (m108:Y108):Env cxT:={ Kc:=cN [(108,aHs m108)],Kw:=cO [],lv:=λi=>if i=0 then[(3,[]),(10,[some 102]),(11,[]),(12,[])]else[],xv:=λi=>if i=0 then some []else none }
def S126_0 (a0:(List E9))(v0_3:Int)(v0_12:Int):St cxT.ty:={ slots:=[aH,aH,aH,(.inl (.inl (lv (.int .i64 v0_3)))),aH,aH,aH,aH,aH,aH,(.inl (.inl (ls { own:=0,nm:=0,e:=102,o:=false,xs:=a0 }))),(.inl (.inl (lv (.int .i64 (Nat.cast (List.length a0):Int))))),(.inl (.inl (lv (.int .i64 v0_12))))]++List.replicate 15 aH,D:=[],F:=[],ctr:=1 }
def X126_0 (a0:(List E9)):St cxT.ty:={ slots:=[]++List.replicate 28 aH,D:=[],F:=[],ctr:=1 }
def G126 {B:Type}(u:Int->B)(hh0:Int->Int->Option B)(m108:Y108)(a0:(List E9)):Option B:=
 bif (decide ((Nat.cast (List.length a0):Int) > (40:Int)))then some (u (2:Int))
 else hh0 (0:Int) (0:Int)
def B126_0 {B:Type}(u:Int->B)(gg:Int->Int->Option B)(kk:Option B)(m108:Y108)(a0:(List E9))(v0_3:Int)(v0_12:Int):Option B:=
 bif (decide (v0_12 < (Nat.cast (List.length a0):Int)))then eF (List.getD a0 v0_12.toNat ((0:Int),((0:Int),((0:Int),((0:Int),((0:Int),((0:Int),((0:Int),((0:Int),(0:Int)))))))))) λs1_0=>bif ((decide ((0:Int)<=v0_12))&&(decide (v0_12 < (Nat.cast (List.length a0):Int))))then cM (m108 (s1_0.1,(s1_0.2.1,(s1_0.2.2.1,(s1_0.2.2.2.1,(s1_0.2.2.2.2.1,(s1_0.2.2.2.2.2.1,(s1_0.2.2.2.2.2.2.1,(s1_0.2.2.2.2.2.2.2.1,s1_0.2.2.2.2.2.2.2.2))))))))) (0:Int) λ(q3:Int)=>bif (q3 != (0:Int))then some (u q3)
    else bif (decide (s1_0.1 < v0_3))then some (u (1:Int))
    else gg s1_0.1 (wrap .i64 (v0_12+(1:Int)))
  else none
 else kk
def A126_0 {B:Type}(u:Int->B)(m108:Y108)(a0:(List E9)):Option B:=
 some (u (0:Int))
def rL (m108:Y108)(L:Nat)(a0:(List E9)):Nat->Int->Int->(Option Int)->Option Int
 | 0,_,_,_=>none
 | n+1,v0_3,v0_12,k=>B126_0 (λx=>x) (λv0_3 v0_12=>rL m108 L a0 n v0_3 v0_12 k) k m108 a0 v0_3 v0_12
theorem aIX (m108:Y108)(L:Nat)(a0:(List E9))(k:St cxT.ty->Option (V cxT.ty))(xk:Nat->St cxT.ty->Option (V cxT.ty))(k':Option Int)(hk:k (X126_0 a0)=(k').map zU):∀ (n:Nat) (v0_3:Int) (v0_12:Int),aS prog (tM m108) L f126 0 [1,1,1,0,1,0,0] (bE (aM prog f126) k xk) n (S126_0 a0 v0_3 v0_12)=(rL m108 L a0 n v0_3 v0_12 k').map zU
 | 0,_,_=>rfl
 | n+1,v0_3,v0_12=>by
  rw[bF];have ih:=aIX m108 L a0 k xk k' hk n;refine .trans (b:=B126_0 zU (λv0_3 v0_12=>(aS prog (tM m108) L f126 0 [1,1,1,0,1,0,0] (bE (aM prog f126) k xk) n) (S126_0 a0 v0_3 v0_12)) (k (X126_0 a0)) m108 a0 v0_3 v0_12) (by kernel_rfl) ?_;unfold rL B126_0
  repeat' first | with_reducible refine dG ?_ ?_ | with_reducible refine dE λ_=>?_ | with_reducible refine dF λ_=>?_ | with_reducible exact ih _ _ | with_reducible exact hk | exact rfl
def aJa (m108:Y108)(L:Nat)(a0:(List E9)):Option Int:=G126 (λx=>x) (λv0_3 v0_12=>rL m108 L a0 L v0_3 v0_12 (A126_0 (λx=>x) m108 a0)) m108 a0
theorem bB7 (m108:Y108)(L:Nat)(a0:(List E9)):eV prog (tM m108) (bI L) f126 (aXf.enc a0)=(aJa m108 L a0).map zU:=by
 have hin0:∀ (v0_3:Int) (v0_12:Int),aS prog (tM m108) L f126 0 [1,1,1,0,1,0,0] (bE (aM prog f126) (bU prog (tM m108) L f126 [1,1,1,0,1] (aM prog f126)).n (bU prog (tM m108) L f126 [1,1,1,0,1] (aM prog f126)).x) L (S126_0 a0 v0_3 v0_12)=((λv0_3 v0_12=>rL m108 L a0 L v0_3 v0_12 (A126_0 (λx=>x) m108 a0)) v0_3 v0_12).map zU:=λv0_3 v0_12=>aIX m108 L a0 _ _ _ (by refine .trans (b:=A126_0 zU m108 a0) (by kernel_rfl) ?_;unfold A126_0;repeat' first | with_reducible refine dG ?_ ?_ | with_reducible refine dE λ_=>?_ | with_reducible refine dF λ_=>?_ | exact rfl) L v0_3 v0_12
 refine .trans (b:=G126 zU (λv0_3 v0_12=>aS prog (tM m108) L f126 0 [1,1,1,0,1,0,0] (bE (aM prog f126) (bU prog (tM m108) L f126 [1,1,1,0,1] (aM prog f126)).n (bU prog (tM m108) L f126 [1,1,1,0,1] (aM prog f126)).x) L (S126_0 a0 v0_3 v0_12)) m108 a0) (by kernel_rfl) ?_;unfold aJa G126
 repeat' first | with_reducible refine dG ?_ ?_ | with_reducible refine dE λ_=>?_ | with_reducible refine dF λ_=>?_ | with_reducible exact hin0 _ _ | exact rfl
def aNY (m108:Y108)(L:Nat)(x:(List E9)):Option Int:=aJa m108 L x
theorem aZo (m108:Y108)(h108:Sat prog cxT 108 (aHs m108))(m:Y126)(hm:∀ (x:(List E9)) t,m x=some t->∃ L,aNY m108 L x=some t):Sat prog cxT 126 (aHr m):=
 bS bB aW (by rfl) (fn:=f126) rfl aXf zU aNk m (tM m108) (aI h108 aV) aP (aNY m108) (λL x=>bB7 m108 L x) hm aSZ
def aMy (dI:Y112)(iT:Y91):Env cxT:={ Kc:=cN [(112,aBN dI),(91,c91 iT)],Kw:=cO [],lv:=λi=>[],xv:=λi=>none }
def G127 {B:Type}(u:E9->B)(dI:Y112)(iT:Y91)(a0:(List E9)):Option B:=
 cM (dI a0) (0:Int) λ(q1:Int)=>cM (iT (a0,q1)) ((0:Int),(0:Int),(0:Int),(0:Int),(0:Int),(0:Int),(0:Int),(0:Int),(0:Int),false) λ(q2:(Int×Int×Int×Int×Int×Int×Int×Int×Int×Bool))=>some (u (q2.1,q2.2.1,q2.2.2.1,q2.2.2.2.1,q2.2.2.2.2.1,q2.2.2.2.2.2.1,q2.2.2.2.2.2.2.1,q2.2.2.2.2.2.2.2.1,q2.2.2.2.2.2.2.2.2.1))
def aKp (dI:Y112)(iT:Y91)(L:Nat)(a0:(List E9)):Option E9:=G127 (λx=>x) dI iT a0
theorem bB6 (dI:Y112)(iT:Y91)(L:Nat)(a0:(List E9)):eV prog (aMy dI iT) (bI L) f127 (aXe.enc a0)=(aKp dI iT L a0).map aGU:=by
 refine .trans (b:=G127 aGU dI iT a0) (by kernel_rfl) ?_;unfold aKp G127
 repeat' first | with_reducible refine dG ?_ ?_ | with_reducible refine dE λ_=>?_ | with_reducible refine dF λ_=>?_ | exact rfl
def aNX (dI:Y112)(iT:Y91)(L:Nat)(x:(List E9)):Option E9:=aKp dI iT L x
theorem aZn (dI:Y112)(iT:Y91)(h112:Sat prog cxT 112 (aBN dI))(h91:Sat prog cxT 91 (c91 iT))(m:Y127)(hm:∀ (x:(List E9)) t,m x=some t->∃ L,aNX dI iT L x=some t):Sat prog cxT 127 (aHq m):=
 bS bB aW (by rfl) (fn:=f127) rfl aXe aGU aNj m (aMy dI iT) (aI h112 (aI h91 aV)) aP (aNX dI iT) (λL x=>bB6 dI iT L x) hm aSY
def aMP (jI:Y76)(dH:Y122)(mX:Y123)(mW:Y124)(mV:Y125)(m126:Y126)(m127:Y127)(iN:Y87)(cE:Y105)(mA:Y128)(mU:Y129)(lG:Y130):Env cxT:={ Kc:=cN [(76,c76 jI),(122,aBM dH),(123,aKS mX),(124,aKR mW),(125,aKQ mV),(126,aHr m126),(127,aHq m127),(87,c87 iN),(105,vX cE),(128,aKP mA),(129,aKO mU),(130,aKN lG)],Kw:=cO [],lv:=λi=>[],xv:=λi=>none }
def G106 {B:Type}(u:Int->B)(jI:Y76)(dH:Y122)(mX:Y123)(mW:Y124)(mV:Y125)(m126:Y126)(m127:Y127)(iN:Y87)(cE:Y105)(mA:Y128)(mU:Y129)(lG:Y130)(a0_0:Int)(a0_1:Int)(a0_2:Int)(a0_3:Int)(a0_4:(List E9))(a0_5:Int)(a0_6:Int)(a0_7:(List Int))(a0_8:(List Int))(a0_9:(List Int)):Option B:=
 cM (jI a0_1) false λ(q1:Bool)=>bif (!q1)then some (u (3:Int))
  else cM (dH (a0_0,a0_1)) false λ(q2:Bool)=>bif (!q2)then some (u (3:Int))
   else cM (mX a0_2) false λ(q3:Bool)=>bif (!q3)then some (u (3:Int))
    else cM (mW (a0_3,a0_1)) false λ(q4:Bool)=>bif (!q4)then some (u (3:Int))
     else cM (mV a0_5) false λ(q5:Bool)=>bif (!q5)then some (u (3:Int))
      else cM (m126 a0_4) (0:Int) λ(q6:Int)=>bif (q6 != (0:Int))then some (u q6)
       else cM (m127 a0_4) ((0:Int),(0:Int),(0:Int),(0:Int),(0:Int),(0:Int),(0:Int),(0:Int),(0:Int)) λ(q7:E9)=>bif (decide (q7.1 > a0_2))then some (u (1:Int))
        else cM (iN (a0_0,(a0_1,(a0_2,(a0_3,(a0_4,(a0_5,(a0_6,(a0_7,(a0_8,a0_9)))))))))) (0:Int) λ(q8:Int)=>cM (cE (a0_6,((0:Int),q8))) false λ(q9:Bool)=>bif (!q9)then some (u (3:Int))
          else cM (mA (a0_0,(a0_1,(a0_2,(a0_3,(a0_4,(a0_5,(a0_6,(a0_7,(a0_8,a0_9)))))))))) false λ(q10:Bool)=>bif (!q10)then some (u (1:Int))
           else cM (mU (a0_0,(a0_1,(a0_2,(a0_3,(a0_4,(a0_5,(a0_6,(a0_7,(a0_8,a0_9)))))))))) false λ(q11:Bool)=>bif (!q11)then some (u (1:Int))
            else cM (iN (a0_0,(a0_1,(a0_2,(a0_3,(a0_4,(a0_5,(a0_6,(a0_7,(a0_8,a0_9)))))))))) (0:Int) λ(q12:Int)=>cM (lG (a0_8,((1:Int),(wrap .i64 (q8+(1:Int)))))) false λ(q13:Bool)=>bif (!q13)then some (u (3:Int))
              else cM (iN (a0_0,(a0_1,(a0_2,(a0_3,(a0_4,(a0_5,(a0_6,(a0_7,(a0_8,a0_9)))))))))) (0:Int) λ(q14:Int)=>cM (lG (a0_9,((0:Int),q8))) false λ(q15:Bool)=>bif (!q15)then some (u (3:Int))
                else bif (a0_5 != (0:Int))then bif (a0_3 != a0_0)then some (u (1:Int))
                 else bif (a0_2 == (0:Int))then some (u (1:Int))
                 else some (u (0:Int))
                else some (u (0:Int))
def aJl (jI:Y76)(dH:Y122)(mX:Y123)(mW:Y124)(mV:Y125)(m126:Y126)(m127:Y127)(iN:Y87)(cE:Y105)(mA:Y128)(mU:Y129)(lG:Y130)(L:Nat)(a0_0:Int)(a0_1:Int)(a0_2:Int)(a0_3:Int)(a0_4:(List E9))(a0_5:Int)(a0_6:Int)(a0_7:(List Int))(a0_8:(List Int))(a0_9:(List Int)):Option Int:=G106 (λx=>x) jI dH mX mW mV m126 m127 iN cE mA mU lG a0_0 a0_1 a0_2 a0_3 a0_4 a0_5 a0_6 a0_7 a0_8 a0_9
theorem bCr (jI:Y76)(dH:Y122)(mX:Y123)(mW:Y124)(mV:Y125)(m126:Y126)(m127:Y127)(iN:Y87)(cE:Y105)(mA:Y128)(mU:Y129)(lG:Y130)(L:Nat)(a0_0:Int)(a0_1:Int)(a0_2:Int)(a0_3:Int)(a0_4:(List E9))(a0_5:Int)(a0_6:Int)(a0_7:(List Int))(a0_8:(List Int))(a0_9:(List Int)):eV prog (aMP jI dH mX mW mV m126 m127 iN cE mA mU lG) (bI L) f106 (aXz.enc (a0_0,a0_1,a0_2,a0_3,a0_4,a0_5,a0_6,a0_7,a0_8,a0_9))=(aJl jI dH mX mW mV m126 m127 iN cE mA mU lG L a0_0 a0_1 a0_2 a0_3 a0_4 a0_5 a0_6 a0_7 a0_8 a0_9).map aHb:=by
 refine .trans (b:=G106 aHb jI dH mX mW mV m126 m127 iN cE mA mU lG a0_0 a0_1 a0_2 a0_3 a0_4 a0_5 a0_6 a0_7 a0_8 a0_9) (by kernel_rfl) ?_;unfold aJl G106
 repeat' first | with_reducible refine dG ?_ ?_ | with_reducible refine dE λ_=>?_ | with_reducible refine dF λ_=>?_ | exact rfl
def aN7 (jI:Y76)(dH:Y122)(mX:Y123)(mW:Y124)(mV:Y125)(m126:Y126)(m127:Y127)(iN:Y87)(cE:Y105)(mA:Y128)(mU:Y129)(lG:Y130)(L:Nat)(x:N10):Option Int:=aJl jI dH mX mW mV m126 m127 iN cE mA mU lG L x.1 x.2.1 x.2.2.1 x.2.2.2.1 x.2.2.2.2.1 x.2.2.2.2.2.1 x.2.2.2.2.2.2.1 x.2.2.2.2.2.2.2.1 x.2.2.2.2.2.2.2.2.1 x.2.2.2.2.2.2.2.2.2
theorem aZI (jI:Y76)(dH:Y122)(mX:Y123)(mW:Y124)(mV:Y125)(m126:Y126)(m127:Y127)(iN:Y87)(cE:Y105)(mA:Y128)(mU:Y129)(lG:Y130)(h76:Sat prog cxT 76 (c76 jI))(h122:Sat prog cxT 122 (aBM dH))(h123:Sat prog cxT 123 (aKS mX))(h124:Sat prog cxT 124 (aKR mW))(h125:Sat prog cxT 125 (aKQ mV))(h126:Sat prog cxT 126 (aHr m126))(h127:Sat prog cxT 127 (aHq m127))(h87:Sat prog cxT 87 (c87 iN))(h105:Sat prog cxT 105 (vX cE))(h128:Sat prog cxT 128 (aKP mA))(h129:Sat prog cxT 129 (aKO mU))(h130:Sat prog cxT 130 (aKN lG))(m:Y106)(hm:∀ (x:N10) t,m x=some t->∃ L,aN7 jI dH mX mW mV m126 m127 iN cE mA mU lG L x=some t):Sat prog cxT 106 (aHt m):=
 bS bB aW (by rfl) (fn:=f106) rfl aXz aHb aNE m (aMP jI dH mX mW mV m126 m127 iN cE mA mU lG) (aI h76 (aI h122 (aI h123 (aI h124 (aI h125 (aI h126 (aI h127 (aI h87 (aI h105 (aI h128 (aI h129 (aI h130 aV)))))))))))) aP (aN7 jI dH mX mW mV m126 m127 iN cE mA mU lG) (λL x=>bCr jI dH mX mW mV m126 m127 iN cE mA mU lG L x.1 x.2.1 x.2.2.1 x.2.2.2.1 x.2.2.2.2.1 x.2.2.2.2.2.1 x.2.2.2.2.2.2.1 x.2.2.2.2.2.2.2.1 x.2.2.2.2.2.2.2.2.1 x.2.2.2.2.2.2.2.2.2) hm aTj
def aMO (m106:Y106)(cE:Y105)(dH:Y122)(eI:Y79)(m126:Y126)(lZ:Y131)(mT:Y132)(m133:Y133):Env cxT:={ Kc:=cN [(106,aHt m106),(105,vX cE),(122,aBM dH),(79,c79 eI),(126,aHr m126),(131,aKM lZ),(132,aKL mT),(133,aKK m133)],Kw:=cO [],lv:=λi=>[],xv:=λi=>none }
def G107 {B:Type}(u:Int->B)(m106:Y106)(cE:Y105)(dH:Y122)(eI:Y79)(m126:Y126)(lZ:Y131)(mT:Y132)(m133:Y133)(a0_0:Int)(a0_1:Int)(a0_2:Int)(a0_3:Int)(a0_4:(List E9))(a0_5:Int)(a0_6:Int)(a0_7:(List Int))(a0_8:(List Int))(a0_9:(List Int))(a1_0:Int)(a1_1:Int)(a1_2:Int)(a1_3:Int)(a1_4:Int)(a1_5:Int)(a1_6:Int)(a1_7:Bool)(a1_8:(List E9)):Option B:=
 cM (m106 (a0_0,(a0_1,(a0_2,(a0_3,(a0_4,(a0_5,(a0_6,(a0_7,(a0_8,a0_9)))))))))) (0:Int) λ(q1:Int)=>bif (q1 != (0:Int))then some (u q1)
  else cM (cE (a1_0,((1:Int),(4:Int)))) false λ(q2:Bool)=>bif (!q2)then some (u (5:Int))
   else cM (dH (a1_1,a0_1)) false λ(q3:Bool)=>bif (!q3)then some (u (3:Int))
    else bif (a1_1 == a0_0)then some (u (3:Int))
    else bif (a1_2 != a0_0)then some (u (3:Int))
    else cM (eI a1_3) false λ(q4:Bool)=>bif (!q4)then some (u (3:Int))
     else cM (cE (a1_4,((0:Int),(40:Int)))) false λ(q5:Bool)=>bif (!q5)then some (u (3:Int))
      else cM (cE (a1_5,((0:Int),a1_3))) false λ(q6:Bool)=>bif (!q6)then some (u (3:Int))
       else cM (cE (a1_6,((0:Int),(40:Int)))) false λ(q7:Bool)=>bif (!q7)then some (u (3:Int))
        else cM (m126 a1_8) (0:Int) λ(q8:Int)=>bif (q8 != (0:Int))then some (u q8)
         else cM (lZ (a1_0,(a1_1,(a1_2,(a1_3,(a1_4,(a1_5,(a1_6,(a1_7,a1_8))))))))) false λ(q9:Bool)=>bif (!q9)then some (u (1:Int))
          else cM (mT (a1_0,(a1_1,(a1_2,(a1_3,(a1_4,(a1_5,(a1_6,(a1_7,a1_8))))))))) false λ(q10:Bool)=>bif (!q10)then some (u (1:Int))
           else cM (m133 (a1_0,(a1_1,(a1_2,(a1_3,(a1_4,(a1_5,(a1_6,(a1_7,a1_8))))))))) false λ(q11:Bool)=>bif (!q11)then some (u (1:Int))
            else bif (a1_4 == (0:Int))then bif (a1_5 != (0:Int))then some (u (1:Int))
             else some (u (0:Int))
            else some (u (0:Int))
def aJk (m106:Y106)(cE:Y105)(dH:Y122)(eI:Y79)(m126:Y126)(lZ:Y131)(mT:Y132)(m133:Y133)(L:Nat)(a0_0:Int)(a0_1:Int)(a0_2:Int)(a0_3:Int)(a0_4:(List E9))(a0_5:Int)(a0_6:Int)(a0_7:(List Int))(a0_8:(List Int))(a0_9:(List Int))(a1_0:Int)(a1_1:Int)(a1_2:Int)(a1_3:Int)(a1_4:Int)(a1_5:Int)(a1_6:Int)(a1_7:Bool)(a1_8:(List E9)):Option Int:=G107 (λx=>x) m106 cE dH eI m126 lZ mT m133 a0_0 a0_1 a0_2 a0_3 a0_4 a0_5 a0_6 a0_7 a0_8 a0_9 a1_0 a1_1 a1_2 a1_3 a1_4 a1_5 a1_6 a1_7 a1_8
theorem bCq (m106:Y106)(cE:Y105)(dH:Y122)(eI:Y79)(m126:Y126)(lZ:Y131)(mT:Y132)(m133:Y133)(L:Nat)(a0_0:Int)(a0_1:Int)(a0_2:Int)(a0_3:Int)(a0_4:(List E9))(a0_5:Int)(a0_6:Int)(a0_7:(List Int))(a0_8:(List Int))(a0_9:(List Int))(a1_0:Int)(a1_1:Int)(a1_2:Int)(a1_3:Int)(a1_4:Int)(a1_5:Int)(a1_6:Int)(a1_7:Bool)(a1_8:(List E9)):eV prog (aMO m106 cE dH eI m126 lZ mT m133) (bI L) f107 (aXy.enc ((a0_0,a0_1,a0_2,a0_3,a0_4,a0_5,a0_6,a0_7,a0_8,a0_9),(a1_0,a1_1,a1_2,a1_3,a1_4,a1_5,a1_6,a1_7,a1_8)))=(aJk m106 cE dH eI m126 lZ mT m133 L a0_0 a0_1 a0_2 a0_3 a0_4 a0_5 a0_6 a0_7 a0_8 a0_9 a1_0 a1_1 a1_2 a1_3 a1_4 a1_5 a1_6 a1_7 a1_8).map aHa:=by
 refine .trans (b:=G107 aHa m106 cE dH eI m126 lZ mT m133 a0_0 a0_1 a0_2 a0_3 a0_4 a0_5 a0_6 a0_7 a0_8 a0_9 a1_0 a1_1 a1_2 a1_3 a1_4 a1_5 a1_6 a1_7 a1_8) (by kernel_rfl) ?_;unfold aJk G107
 repeat' first | with_reducible refine dG ?_ ?_ | with_reducible refine dE λ_=>?_ | with_reducible refine dF λ_=>?_ | exact rfl
def aRt (m106:Y106)(cE:Y105)(dH:Y122)(eI:Y79)(m126:Y126)(lZ:Y131)(mT:Y132)(m133:Y133)(L:Nat)(x:(N10×M9)):Option Int:=aJk m106 cE dH eI m126 lZ mT m133 L x.1.1 x.1.2.1 x.1.2.2.1 x.1.2.2.2.1 x.1.2.2.2.2.1 x.1.2.2.2.2.2.1 x.1.2.2.2.2.2.2.1 x.1.2.2.2.2.2.2.2.1 x.1.2.2.2.2.2.2.2.2.1 x.1.2.2.2.2.2.2.2.2.2 x.2.1 x.2.2.1 x.2.2.2.1 x.2.2.2.2.1 x.2.2.2.2.2.1 x.2.2.2.2.2.2.1 x.2.2.2.2.2.2.2.1 x.2.2.2.2.2.2.2.2.1 x.2.2.2.2.2.2.2.2.2
theorem aZH (m106:Y106)(cE:Y105)(dH:Y122)(eI:Y79)(m126:Y126)(lZ:Y131)(mT:Y132)(m133:Y133)(h106:Sat prog cxT 106 (aHt m106))(h105:Sat prog cxT 105 (vX cE))(h122:Sat prog cxT 122 (aBM dH))(h79:Sat prog cxT 79 (c79 eI))(h126:Sat prog cxT 126 (aHr m126))(h131:Sat prog cxT 131 (aKM lZ))(h132:Sat prog cxT 132 (aKL mT))(h133:Sat prog cxT 133 (aKK m133))(m:Y107)(hm:∀ (x:(N10×M9)) t,m x=some t->∃ L,aRt m106 cE dH eI m126 lZ mT m133 L x=some t):Sat prog cxT 107 (aKZ m):=
 bS bB aW (by rfl) (fn:=f107) rfl aXy aHa aND m (aMO m106 cE dH eI m126 lZ mT m133) (aI h106 (aI h105 (aI h122 (aI h79 (aI h126 (aI h131 (aI h132 (aI h133 aV)))))))) aP (aRt m106 cE dH eI m126 lZ mT m133) (λL x=>bCq m106 cE dH eI m126 lZ mT m133 L x.1.1 x.1.2.1 x.1.2.2.1 x.1.2.2.2.1 x.1.2.2.2.2.1 x.1.2.2.2.2.2.1 x.1.2.2.2.2.2.2.1 x.1.2.2.2.2.2.2.2.1 x.1.2.2.2.2.2.2.2.2.1 x.1.2.2.2.2.2.2.2.2.2 x.2.1 x.2.2.1 x.2.2.2.1 x.2.2.2.2.1 x.2.2.2.2.2.1 x.2.2.2.2.2.2.1 x.2.2.2.2.2.2.2.1 x.2.2.2.2.2.2.2.2.1 x.2.2.2.2.2.2.2.2.2) hm aTi
def aBr (m106:Y106):Env cxT:={ Kc:=cN [(106,aHt m106)],Kw:=cO [],lv:=λi=>if i=0 then[(0,[some 73]),(6,[some 73]),(7,[]),(8,[])]else[],xv:=λi=>if i=0 then some []else none }
def S77_0 (a0:(List N10))(v0_8:Int):St cxT.ty:={ slots:=[(.inl (.inl (ls { own:=0,nm:=0,e:=73,o:=false,xs:=a0 }))),aH,aH,aH,aH,aH,(.inl (.inl (ls { own:=0,nm:=0,e:=73,o:=false,xs:=a0 }))),(.inl (.inl (lv (.int .i64 (Nat.cast (List.length a0):Int))))),(.inl (.inl (lv (.int .i64 v0_8))))]++List.replicate 21 aH,D:=[],F:=[],ctr:=1 }
def X77_0 (a0:(List N10)):St cxT.ty:={ slots:=[]++List.replicate 30 aH,D:=[],F:=[],ctr:=1 }
def G77 {B:Type}(u:Int->B)(hh0:Int->Option B)(m106:Y106)(a0:(List N10)):Option B:=
 hh0 (0:Int)
def B77_0 {B:Type}(u:Int->B)(gg:Int->Option B)(kk:Option B)(m106:Y106)(a0:(List N10))(v0_8:Int):Option B:=
 bif (decide (v0_8 < (Nat.cast (List.length a0):Int)))then eF (List.getD a0 v0_8.toNat ((0:Int),((0:Int),((0:Int),((0:Int),(([]:List E9),((0:Int),((0:Int),(([]:List (Int)),(([]:List (Int)),([]:List (Int)))))))))))) λs1_0=>bif ((decide ((0:Int)<=v0_8))&&(decide (v0_8 < (Nat.cast (List.length a0):Int))))then cM (m106 (s1_0.1,(s1_0.2.1,(s1_0.2.2.1,(s1_0.2.2.2.1,(s1_0.2.2.2.2.1,(s1_0.2.2.2.2.2.1,(s1_0.2.2.2.2.2.2.1,(s1_0.2.2.2.2.2.2.2.1,(s1_0.2.2.2.2.2.2.2.2.1,s1_0.2.2.2.2.2.2.2.2.2)))))))))) (0:Int) λ(q3:Int)=>bif (q3 != (0:Int))then some (u q3)
    else bif (s1_0.1 != v0_8)then some (u (1:Int))
    else bif (s1_0.2.1 != (Nat.cast (List.length a0):Int))then some (u (1:Int))
    else gg (wrap .i64 (v0_8+(1:Int)))
  else none
 else kk
def A77_0 {B:Type}(u:Int->B)(m106:Y106)(a0:(List N10)):Option B:=
 some (u (0:Int))
def tF (m106:Y106)(L:Nat)(a0:(List N10)):Nat->Int->(Option Int)->Option Int
 | 0,_,_=>none
 | n+1,v0_8,k=>B77_0 (λx=>x) (λv0_8=>tF m106 L a0 n v0_8 k) k m106 a0 v0_8
theorem aLJ (m106:Y106)(L:Nat)(a0:(List N10))(k:St cxT.ty->Option (V cxT.ty))(xk:Nat->St cxT.ty->Option (V cxT.ty))(k':Option Int)(hk:k (X77_0 a0)=(k').map n77):∀ (n:Nat) (v0_8:Int),aS prog (aBr m106) L f77 0 [1,0,1,0,0] (bE (aM prog f77) k xk) n (S77_0 a0 v0_8)=(tF m106 L a0 n v0_8 k').map n77
 | 0,_=>rfl
 | n+1,v0_8=>by
  rw[bF];have ih:=aLJ m106 L a0 k xk k' hk n;refine .trans (b:=B77_0 n77 (λv0_8=>(aS prog (aBr m106) L f77 0 [1,0,1,0,0] (bE (aM prog f77) k xk) n) (S77_0 a0 v0_8)) (k (X77_0 a0)) m106 a0 v0_8) (by kernel_rfl) ?_;unfold tF B77_0
  repeat' first | with_reducible refine dG ?_ ?_ | with_reducible refine dE λ_=>?_ | with_reducible refine dF λ_=>?_ | with_reducible exact ih _ | with_reducible exact hk | exact rfl
def g77 (m106:Y106)(L:Nat)(a0:(List N10)):Option Int:=G77 (λx=>x) (λv0_8=>tF m106 L a0 L v0_8 (A77_0 (λx=>x) m106 a0)) m106 a0
theorem e77 (m106:Y106)(L:Nat)(a0:(List N10)):eV prog (aBr m106) (bI L) f77 (a77.enc a0)=(g77 m106 L a0).map n77:=by
 have hin0:∀ (v0_8:Int),aS prog (aBr m106) L f77 0 [1,0,1,0,0] (bE (aM prog f77) (bU prog (aBr m106) L f77 [1,0,1] (aM prog f77)).n (bU prog (aBr m106) L f77 [1,0,1] (aM prog f77)).x) L (S77_0 a0 v0_8)=((λv0_8=>tF m106 L a0 L v0_8 (A77_0 (λx=>x) m106 a0)) v0_8).map n77:=λv0_8=>aLJ m106 L a0 _ _ _ (by refine .trans (b:=A77_0 n77 m106 a0) (by kernel_rfl) ?_;unfold A77_0;repeat' first | with_reducible refine dG ?_ ?_ | with_reducible refine dE λ_=>?_ | with_reducible refine dF λ_=>?_ | exact rfl) L v0_8
 refine .trans (b:=G77 n77 (λv0_8=>aS prog (aBr m106) L f77 0 [1,0,1,0,0] (bE (aM prog f77) (bU prog (aBr m106) L f77 [1,0,1] (aM prog f77)).n (bU prog (aBr m106) L f77 [1,0,1] (aM prog f77)).x) L (S77_0 a0 v0_8)) m106 a0) (by kernel_rfl) ?_;unfold g77 G77
 repeat' first | with_reducible refine dG ?_ ?_ | with_reducible refine dE λ_=>?_ | with_reducible refine dF λ_=>?_ | with_reducible exact hin0 _ | exact rfl
def w77 (m106:Y106)(L:Nat)(x:(List N10)):Option Int:=g77 m106 L x
theorem s77 (m106:Y106)(h106:Sat prog cxT 106 (aHt m106))(m:Y77)(hm:∀ (x:(List N10)) t,m x=some t->∃ L,w77 m106 L x=some t):Sat prog cxT 77 (c77 m):=
 bS bB aW (by rfl) (fn:=f77) rfl a77 n77 aVu m (aBr m106) (aI h106 aV) aP (w77 m106) (λL x=>e77 m106 L x) hm bAs
def aBq (gP:Y80)(gH:Y107):Env cxT:={ Kc:=cN [(80,c80 gP),(107,aKZ gH)],Kw:=cO [],lv:=λi=>if i=0 then[(0,[some 73]),(8,[some 96]),(9,[]),(10,[])]else[],xv:=λi=>if i=0 then some []else none }
def S78_0 (a0:(List N10))(a1:(List M9))(v0_10:Int):St cxT.ty:={ slots:=[(.inl (.inl (ls { own:=0,nm:=0,e:=73,o:=false,xs:=a0 }))),aH,aH,aH,aH,aH,aH,aH,(.inl (.inl (ls { own:=0,nm:=0,e:=96,o:=false,xs:=a1 }))),(.inl (.inl (lv (.int .i64 (Nat.cast (List.length a1):Int))))),(.inl (.inl (lv (.int .i64 v0_10))))]++List.replicate 20 aH,D:=[],F:=[],ctr:=1 }
def X78_0 (a0:(List N10))(a1:(List M9)):St cxT.ty:={ slots:=[]++List.replicate 31 aH,D:=[],F:=[],ctr:=1 }
def G78 {B:Type}(u:Int->B)(hh0:Int->Option B)(gP:Y80)(gH:Y107)(a0:(List N10))(a1:(List M9)):Option B:=
 hh0 (0:Int)
def B78_0 {B:Type}(u:Int->B)(gg:Int->Option B)(kk:Option B)(gP:Y80)(gH:Y107)(a0:(List N10))(a1:(List M9))(v0_10:Int):Option B:=
 bif (decide (v0_10 < (Nat.cast (List.length a1):Int)))then eF (List.getD a1 v0_10.toNat ((0:Int),((0:Int),((0:Int),((0:Int),((0:Int),((0:Int),((0:Int),(false,[]))))))))) λs1_0=>eF (List.getD a0 (Int.toNat s1_0.2.2.1) ((0:Int),((0:Int),((0:Int),((0:Int),(([]:List E9),((0:Int),((0:Int),(([]:List (Int)),(([]:List (Int)),([]:List (Int)))))))))))) λs1_1=>bif ((decide ((0:Int)<=v0_10))&&(decide (v0_10 < (Nat.cast (List.length a1):Int))))then cM (gP (s1_0.2.2.1,(Nat.cast (List.length a0):Int))) false λ(q3:Bool)=>bif (!q3)then some (u (3:Int))
    else bif ((decide ((0:Int)<=s1_0.2.2.1))&&(decide (s1_0.2.2.1 < (Nat.cast (List.length a0):Int))))then cM (gH ((s1_1.1,(s1_1.2.1,(s1_1.2.2.1,(s1_1.2.2.2.1,(s1_1.2.2.2.2.1,(s1_1.2.2.2.2.2.1,(s1_1.2.2.2.2.2.2.1,(s1_1.2.2.2.2.2.2.2.1,(s1_1.2.2.2.2.2.2.2.2.1,s1_1.2.2.2.2.2.2.2.2.2))))))))),(s1_0.1,(s1_0.2.1,(s1_0.2.2.1,(s1_0.2.2.2.1,(s1_0.2.2.2.2.1,(s1_0.2.2.2.2.2.1,(s1_0.2.2.2.2.2.2.1,(s1_0.2.2.2.2.2.2.2.1,s1_0.2.2.2.2.2.2.2.2)))))))))) (0:Int) λ(q5:Int)=>bif (q5 != (0:Int))then some (u q5)
      else gg (wrap .i64 (v0_10+(1:Int)))
    else none
  else none
 else kk
def A78_0 {B:Type}(u:Int->B)(gP:Y80)(gH:Y107)(a0:(List N10))(a1:(List M9)):Option B:=
 some (u (0:Int))
def rF (gP:Y80)(gH:Y107)(L:Nat)(a0:(List N10))(a1:(List M9)):Nat->Int->(Option Int)->Option Int
 | 0,_,_=>none
 | n+1,v0_10,k=>B78_0 (λx=>x) (λv0_10=>rF gP gH L a0 a1 n v0_10 k) k gP gH a0 a1 v0_10
theorem aLI (gP:Y80)(gH:Y107)(L:Nat)(a0:(List N10))(a1:(List M9))(k:St cxT.ty->Option (V cxT.ty))(xk:Nat->St cxT.ty->Option (V cxT.ty))(k':Option Int)(hk:k (X78_0 a0 a1)=(k').map n78):∀ (n:Nat) (v0_10:Int),aS prog (aBq gP gH) L f78 0 [1,0,1,0,0] (bE (aM prog f78) k xk) n (S78_0 a0 a1 v0_10)=(rF gP gH L a0 a1 n v0_10 k').map n78
 | 0,_=>rfl
 | n+1,v0_10=>by
  rw[bF];have ih:=aLI gP gH L a0 a1 k xk k' hk n;refine .trans (b:=B78_0 n78 (λv0_10=>(aS prog (aBq gP gH) L f78 0 [1,0,1,0,0] (bE (aM prog f78) k xk) n) (S78_0 a0 a1 v0_10)) (k (X78_0 a0 a1)) gP gH a0 a1 v0_10) (by kernel_rfl) ?_;unfold rF B78_0
  repeat' first | with_reducible refine dG ?_ ?_ | with_reducible refine dE λ_=>?_ | with_reducible refine dF λ_=>?_ | with_reducible exact ih _ | with_reducible exact hk | exact rfl
def g78 (gP:Y80)(gH:Y107)(L:Nat)(a0:(List N10))(a1:(List M9)):Option Int:=G78 (λx=>x) (λv0_10=>rF gP gH L a0 a1 L v0_10 (A78_0 (λx=>x) gP gH a0 a1)) gP gH a0 a1
theorem e78 (gP:Y80)(gH:Y107)(L:Nat)(a0:(List N10))(a1:(List M9)):eV prog (aBq gP gH) (bI L) f78 (a78.enc (a0,a1))=(g78 gP gH L a0 a1).map n78:=by
 have hin0:∀ (v0_10:Int),aS prog (aBq gP gH) L f78 0 [1,0,1,0,0] (bE (aM prog f78) (bU prog (aBq gP gH) L f78 [1,0,1] (aM prog f78)).n (bU prog (aBq gP gH) L f78 [1,0,1] (aM prog f78)).x) L (S78_0 a0 a1 v0_10)=((λv0_10=>rF gP gH L a0 a1 L v0_10 (A78_0 (λx=>x) gP gH a0 a1)) v0_10).map n78:=λv0_10=>aLI gP gH L a0 a1 _ _ _ (by refine .trans (b:=A78_0 n78 gP gH a0 a1) (by kernel_rfl) ?_;unfold A78_0;repeat' first | with_reducible refine dG ?_ ?_ | with_reducible refine dE λ_=>?_ | with_reducible refine dF λ_=>?_ | exact rfl) L v0_10
 refine .trans (b:=G78 n78 (λv0_10=>aS prog (aBq gP gH) L f78 0 [1,0,1,0,0] (bE (aM prog f78) (bU prog (aBq gP gH) L f78 [1,0,1] (aM prog f78)).n (bU prog (aBq gP gH) L f78 [1,0,1] (aM prog f78)).x) L (S78_0 a0 a1 v0_10)) gP gH a0 a1) (by kernel_rfl) ?_;unfold g78 G78
 repeat' first | with_reducible refine dG ?_ ?_ | with_reducible refine dE λ_=>?_ | with_reducible refine dF λ_=>?_ | with_reducible exact hin0 _ | exact rfl
def w78 (gP:Y80)(gH:Y107)(L:Nat)(x:((List N10)×(List M9))):Option Int:=g78 gP gH L x.1 x.2
theorem s78 (gP:Y80)(gH:Y107)(h80:Sat prog cxT 80 (c80 gP))(h107:Sat prog cxT 107 (aKZ gH))(m:Y78)(hm:∀ (x:((List N10)×(List M9))) t,m x=some t->∃ L,w78 gP gH L x=some t):Sat prog cxT 78 (c78 m):=
 bS bB aW (by rfl) (fn:=f78) rfl a78 n78 aVt m (aBq gP gH) (aI h80 (aI h107 aV)) aP (w78 gP gH) (λL x=>e78 gP gH L x.1 x.2) hm bAr
def aBp (eI:Y79)(m108:Y108):Env cxT:={ Kc:=cN [(79,c79 eI),(108,aHs m108)],Kw:=cO [],lv:=λi=>if i=0 then[(6,[some 104]),(7,[]),(8,[])]else[],xv:=λi=>if i=0 then some []else none }
def S81_0 (a0:(List S10))(v0_8:Int):St cxT.ty:={ slots:=[aH,aH,aH,aH,aH,aH,(.inl (.inl (ls { own:=0,nm:=0,e:=104,o:=false,xs:=a0 }))),(.inl (.inl (lv (.int .i64 (Nat.cast (List.length a0):Int))))),(.inl (.inl (lv (.int .i64 v0_8))))]++List.replicate 14 aH,D:=[],F:=[],ctr:=1 }
def X81_0 (a0:(List S10)):St cxT.ty:={ slots:=[]++List.replicate 23 aH,D:=[],F:=[],ctr:=1 }
def G81 {B:Type}(u:Int->B)(hh0:Int->Option B)(eI:Y79)(m108:Y108)(a0:(List S10)):Option B:=
 hh0 (0:Int)
def B81_0 {B:Type}(u:Int->B)(gg:Int->Option B)(kk:Option B)(eI:Y79)(m108:Y108)(a0:(List S10))(v0_8:Int):Option B:=
 bif (decide (v0_8 < (Nat.cast (List.length a0):Int)))then eF (List.getD a0 v0_8.toNat ((0:Int),((0:Int),((0:Int),((0:Int),((0:Int),((0:Int),((0:Int),((0:Int),((0:Int),(0:Int))))))))))) λs1_0=>bif ((decide ((0:Int)<=v0_8))&&(decide (v0_8 < (Nat.cast (List.length a0):Int))))then cM (eI s1_0.1) false λ(q3:Bool)=>bif (!q3)then some (u (3:Int))
    else cM (m108 (s1_0.2.1,(s1_0.2.2.1,(s1_0.2.2.2.1,(s1_0.2.2.2.2.1,(s1_0.2.2.2.2.2.1,(s1_0.2.2.2.2.2.2.1,(s1_0.2.2.2.2.2.2.2.1,(s1_0.2.2.2.2.2.2.2.2.1,s1_0.2.2.2.2.2.2.2.2.2))))))))) (0:Int) λ(q4:Int)=>bif (q4 != (0:Int))then some (u q4)
     else gg (wrap .i64 (v0_8+(1:Int)))
  else none
 else kk
def A81_0 {B:Type}(u:Int->B)(eI:Y79)(m108:Y108)(a0:(List S10)):Option B:=
 some (u (0:Int))
def tE (eI:Y79)(m108:Y108)(L:Nat)(a0:(List S10)):Nat->Int->(Option Int)->Option Int
 | 0,_,_=>none
 | n+1,v0_8,k=>B81_0 (λx=>x) (λv0_8=>tE eI m108 L a0 n v0_8 k) k eI m108 a0 v0_8
theorem aLH (eI:Y79)(m108:Y108)(L:Nat)(a0:(List S10))(k:St cxT.ty->Option (V cxT.ty))(xk:Nat->St cxT.ty->Option (V cxT.ty))(k':Option Int)(hk:k (X81_0 a0)=(k').map n81):∀ (n:Nat) (v0_8:Int),aS prog (aBp eI m108) L f81 0 [1,0,1,0,0] (bE (aM prog f81) k xk) n (S81_0 a0 v0_8)=(tE eI m108 L a0 n v0_8 k').map n81
 | 0,_=>rfl
 | n+1,v0_8=>by
  rw[bF];have ih:=aLH eI m108 L a0 k xk k' hk n;refine .trans (b:=B81_0 n81 (λv0_8=>(aS prog (aBp eI m108) L f81 0 [1,0,1,0,0] (bE (aM prog f81) k xk) n) (S81_0 a0 v0_8)) (k (X81_0 a0)) eI m108 a0 v0_8) (by kernel_rfl) ?_;unfold tE B81_0
  repeat' first | with_reducible refine dG ?_ ?_ | with_reducible refine dE λ_=>?_ | with_reducible refine dF λ_=>?_ | with_reducible exact ih _ | with_reducible exact hk | exact rfl
def g81 (eI:Y79)(m108:Y108)(L:Nat)(a0:(List S10)):Option Int:=G81 (λx=>x) (λv0_8=>tE eI m108 L a0 L v0_8 (A81_0 (λx=>x) eI m108 a0)) eI m108 a0
theorem e81 (eI:Y79)(m108:Y108)(L:Nat)(a0:(List S10)):eV prog (aBp eI m108) (bI L) f81 (a81.enc a0)=(g81 eI m108 L a0).map n81:=by
 have hin0:∀ (v0_8:Int),aS prog (aBp eI m108) L f81 0 [1,0,1,0,0] (bE (aM prog f81) (bU prog (aBp eI m108) L f81 [1,0,1] (aM prog f81)).n (bU prog (aBp eI m108) L f81 [1,0,1] (aM prog f81)).x) L (S81_0 a0 v0_8)=((λv0_8=>tE eI m108 L a0 L v0_8 (A81_0 (λx=>x) eI m108 a0)) v0_8).map n81:=λv0_8=>aLH eI m108 L a0 _ _ _ (by refine .trans (b:=A81_0 n81 eI m108 a0) (by kernel_rfl) ?_;unfold A81_0;repeat' first | with_reducible refine dG ?_ ?_ | with_reducible refine dE λ_=>?_ | with_reducible refine dF λ_=>?_ | exact rfl) L v0_8
 refine .trans (b:=G81 n81 (λv0_8=>aS prog (aBp eI m108) L f81 0 [1,0,1,0,0] (bE (aM prog f81) (bU prog (aBp eI m108) L f81 [1,0,1] (aM prog f81)).n (bU prog (aBp eI m108) L f81 [1,0,1] (aM prog f81)).x) L (S81_0 a0 v0_8)) eI m108 a0) (by kernel_rfl) ?_;unfold g81 G81
 repeat' first | with_reducible refine dG ?_ ?_ | with_reducible refine dE λ_=>?_ | with_reducible refine dF λ_=>?_ | with_reducible exact hin0 _ | exact rfl
def w81 (eI:Y79)(m108:Y108)(L:Nat)(x:(List S10)):Option Int:=g81 eI m108 L x
theorem s81 (eI:Y79)(m108:Y108)(h79:Sat prog cxT 79 (c79 eI))(h108:Sat prog cxT 108 (aHs m108))(m:Y81)(hm:∀ (x:(List S10)) t,m x=some t->∃ L,w81 eI m108 L x=some t):Sat prog cxT 81 (c81 m):=
 bS bB aW (by rfl) (fn:=f81) rfl a81 n81 aVq m (aBp eI m108) (aI h79 (aI h108 aV)) aP (w81 eI m108) (λL x=>e81 eI m108 L x) hm bAo
def aBB (jI:Y76)(mG:Y77)(mF:Y78)(eI:Y79)(gP:Y80)(lY:Y81):Env cxT:={ Kc:=cN [(76,c76 jI),(77,c77 mG),(78,c78 mF),(79,c79 eI),(80,c80 gP),(81,c81 lY)],Kw:=cO [],lv:=λi=>if i=0 then[(1,[some 73,some 96,some 64,some 104]),(43,[some 64]),(44,[]),(45,[])]else[],xv:=λi=>if i=0 then some [(1,[some 73,some 96,some 64,some 104])]else none }
def S42_0 (a0_0:(List N10))(a0_1:(List M9))(a0_2:(List W2))(a0_3:(List S10))(v0_1_0:(List N10))(v0_1_1:(List M9))(v0_1_2:(List W2))(v0_1_3:(List S10))(v0_45:Int):St cxT.ty:={ slots:=[aH,(.inr (.inr { kind:=0,nm:=64,cells:=[(ls { own:=0,nm:=0,e:=73,o:=false,xs:=v0_1_0 }),(ls { own:=0,nm:=0,e:=96,o:=false,xs:=v0_1_1 }),(ls { own:=0,nm:=0,e:=64,o:=false,xs:=v0_1_2 }),(ls { own:=0,nm:=0,e:=104,o:=false,xs:=v0_1_3 })],s:={ own:=0,nm:=0,e:=0,o:=false,xs:=([]:List (PUnit)) },i:=0,off:=0 })),aH,aH,aH,aH,aH,aH,aH,aH,aH,aH,aH,aH,aH,aH,aH,aH,aH,aH,aH,aH,aH,aH,aH,aH,aH,aH,aH,aH,aH,aH,aH,aH,aH,aH,aH,aH,aH,aH,aH,aH,aH,(.inl (.inl (ls { own:=0,nm:=0,e:=64,o:=false,xs:=a0_2 }))),(.inl (.inl (lv (.int .i64 (Nat.cast (List.length a0_2):Int))))),(.inl (.inl (lv (.int .i64 v0_45))))]++List.replicate 20 aH,D:=[],F:=[],ctr:=1 }
def X42_0 (a0_0:(List N10))(a0_1:(List M9))(a0_2:(List W2))(a0_3:(List S10))(w0_1_0:(List N10))(w0_1_1:(List M9))(w0_1_2:(List W2))(w0_1_3:(List S10)):St cxT.ty:={ slots:=[aH,(.inr (.inr { kind:=0,nm:=64,cells:=[(ls { own:=0,nm:=0,e:=73,o:=false,xs:=w0_1_0 }),(ls { own:=0,nm:=0,e:=96,o:=false,xs:=w0_1_1 }),(ls { own:=0,nm:=0,e:=64,o:=false,xs:=w0_1_2 }),(ls { own:=0,nm:=0,e:=104,o:=false,xs:=w0_1_3 })],s:={ own:=0,nm:=0,e:=0,o:=false,xs:=([]:List (PUnit)) },i:=0,off:=0 }))]++List.replicate 64 aH,D:=[],F:=[],ctr:=1 }
def G42 {B:Type}(u:Int->B)(hh0:(List N10)->(List M9)->(List W2)->(List S10)->Int->Option B)(jI:Y76)(mG:Y77)(mF:Y78)(eI:Y79)(gP:Y80)(lY:Y81)(a0_0:(List N10))(a0_1:(List M9))(a0_2:(List W2))(a0_3:(List S10)):Option B:=
 cM (jI (Nat.cast (List.length a0_0):Int)) false λ(q1:Bool)=>bif (!q1)then some (u (2:Int))
  else bif (decide ((Nat.cast (List.length a0_1):Int) > (80:Int)))then some (u (2:Int))
  else cM (mG a0_0) (0:Int) λ(q2:Int)=>bif (q2 != (0:Int))then some (u q2)
   else cM (mF (a0_0,a0_1)) (0:Int) λ(q3:Int)=>bif (q3 != (0:Int))then some (u q3)
    else bif (decide ((Nat.cast (List.length a0_2):Int) > (400:Int)))then some (u (2:Int))
    else bif (decide ((Nat.cast (List.length a0_3):Int) > (40:Int)))then some (u (2:Int))
    else hh0 a0_0 a0_1 a0_2 a0_3 (0:Int)
def B42_0 {B:Type}(u:Int->B)(gg:(List N10)->(List M9)->(List W2)->(List S10)->Int->Option B)(kk:(List N10)->(List M9)->(List W2)->(List S10)->Option B)(jI:Y76)(mG:Y77)(mF:Y78)(eI:Y79)(gP:Y80)(lY:Y81)(a0_0:(List N10))(a0_1:(List M9))(a0_2:(List W2))(a0_3:(List S10))(v0_1_0:(List N10))(v0_1_1:(List M9))(v0_1_2:(List W2))(v0_1_3:(List S10))(v0_45:Int):Option B:=
 bif (decide (v0_45 < (Nat.cast (List.length a0_2):Int)))then eF (List.getD a0_2 v0_45.toNat ((0:Int),(0:Int))) λs1_0=>bif ((decide ((0:Int)<=v0_45))&&(decide (v0_45 < (Nat.cast (List.length a0_2):Int))))then cM (eI s1_0.1) false λ(q3:Bool)=>bif (!q3)then some (u (3:Int))
    else cM (gP (s1_0.2,(Nat.cast (List.length v0_1_0):Int))) false λ(q4:Bool)=>bif (!q4)then some (u (3:Int))
     else gg v0_1_0 v0_1_1 v0_1_2 v0_1_3 (wrap .i64 (v0_45+(1:Int)))
  else none
 else kk v0_1_0 v0_1_1 v0_1_2 v0_1_3
def A42_0 {B:Type}(u:Int->B)(jI:Y76)(mG:Y77)(mF:Y78)(eI:Y79)(gP:Y80)(lY:Y81)(a0_0:(List N10))(a0_1:(List M9))(a0_2:(List W2))(a0_3:(List S10))(w0_1_0:(List N10))(w0_1_1:(List M9))(w0_1_2:(List W2))(w0_1_3:(List S10)):Option B:=
 cM (lY w0_1_3) (0:Int) λ(q1:Int)=>some (u q1)
def tG (jI:Y76)(mG:Y77)(mF:Y78)(eI:Y79)(gP:Y80)(lY:Y81)(L:Nat)(a0_0:(List N10))(a0_1:(List M9))(a0_2:(List W2))(a0_3:(List S10)):Nat->(List N10)->(List M9)->(List W2)->(List S10)->Int->((List N10)->(List M9)->(List W2)->(List S10)->Option Int)->Option Int
 | 0,_,_,_,_,_,_=>none
 | n+1,v0_1_0,v0_1_1,v0_1_2,v0_1_3,v0_45,k=>B42_0 (λx=>x) (λv0_1_0 v0_1_1 v0_1_2 v0_1_3 v0_45=>tG jI mG mF eI gP lY L a0_0 a0_1 a0_2 a0_3 n v0_1_0 v0_1_1 v0_1_2 v0_1_3 v0_45 k) k jI mG mF eI gP lY a0_0 a0_1 a0_2 a0_3 v0_1_0 v0_1_1 v0_1_2 v0_1_3 v0_45
theorem aL3 (jI:Y76)(mG:Y77)(mF:Y78)(eI:Y79)(gP:Y80)(lY:Y81)(L:Nat)(a0_0:(List N10))(a0_1:(List M9))(a0_2:(List W2))(a0_3:(List S10))(k:St cxT.ty->Option (V cxT.ty))(xk:Nat->St cxT.ty->Option (V cxT.ty))(k':(List N10)->(List M9)->(List W2)->(List S10)->Option Int)(hk:∀ (w0_1_0:(List N10)) (w0_1_1:(List M9)) (w0_1_2:(List W2)) (w0_1_3:(List S10)),k (X42_0 a0_0 a0_1 a0_2 a0_3 w0_1_0 w0_1_1 w0_1_2 w0_1_3)=(k' w0_1_0 w0_1_1 w0_1_2 w0_1_3).map n42):∀ (n:Nat) (v0_1_0:(List N10)) (v0_1_1:(List M9)) (v0_1_2:(List W2)) (v0_1_3:(List S10)) (v0_45:Int),aS prog (aBB jI mG mF eI gP lY) L f42 0 [1,1,1,1,1,0,1,0,0] (bE (aM prog f42) k xk) n (S42_0 a0_0 a0_1 a0_2 a0_3 v0_1_0 v0_1_1 v0_1_2 v0_1_3 v0_45)=(tG jI mG mF eI gP lY L a0_0 a0_1 a0_2 a0_3 n v0_1_0 v0_1_1 v0_1_2 v0_1_3 v0_45 k').map n42
 | 0,_,_,_,_,_=>rfl
 | n+1,v0_1_0,v0_1_1,v0_1_2,v0_1_3,v0_45=>by
  rw[bF];have ih:=aL3 jI mG mF eI gP lY L a0_0 a0_1 a0_2 a0_3 k xk k' hk n;refine .trans (b:=B42_0 n42 (λv0_1_0 v0_1_1 v0_1_2 v0_1_3 v0_45=>(aS prog (aBB jI mG mF eI gP lY) L f42 0 [1,1,1,1,1,0,1,0,0] (bE (aM prog f42) k xk) n) (S42_0 a0_0 a0_1 a0_2 a0_3 v0_1_0 v0_1_1 v0_1_2 v0_1_3 v0_45)) (λw0_1_0 w0_1_1 w0_1_2 w0_1_3=>k (X42_0 a0_0 a0_1 a0_2 a0_3 w0_1_0 w0_1_1 w0_1_2 w0_1_3)) jI mG mF eI gP lY a0_0 a0_1 a0_2 a0_3 v0_1_0 v0_1_1 v0_1_2 v0_1_3 v0_45) (by kernel_rfl) ?_;unfold tG B42_0
  repeat' first | with_reducible refine dG ?_ ?_ | with_reducible refine dE λ_=>?_ | with_reducible refine dF λ_=>?_ | with_reducible exact ih _ _ _ _ _ | with_reducible exact hk _ _ _ _ | exact rfl
def g42 (jI:Y76)(mG:Y77)(mF:Y78)(eI:Y79)(gP:Y80)(lY:Y81)(L:Nat)(a0_0:(List N10))(a0_1:(List M9))(a0_2:(List W2))(a0_3:(List S10)):Option Int:=G42 (λx=>x) (λv0_1_0 v0_1_1 v0_1_2 v0_1_3 v0_45=>tG jI mG mF eI gP lY L a0_0 a0_1 a0_2 a0_3 L v0_1_0 v0_1_1 v0_1_2 v0_1_3 v0_45 (λw0_1_0 w0_1_1 w0_1_2 w0_1_3=>A42_0 (λx=>x) jI mG mF eI gP lY a0_0 a0_1 a0_2 a0_3 w0_1_0 w0_1_1 w0_1_2 w0_1_3)) jI mG mF eI gP lY a0_0 a0_1 a0_2 a0_3
theorem e42 (jI:Y76)(mG:Y77)(mF:Y78)(eI:Y79)(gP:Y80)(lY:Y81)(L:Nat)(a0_0:(List N10))(a0_1:(List M9))(a0_2:(List W2))(a0_3:(List S10)):eV prog (aBB jI mG mF eI gP lY) (bI L) f42 (a42.enc (a0_0,a0_1,a0_2,a0_3))=(g42 jI mG mF eI gP lY L a0_0 a0_1 a0_2 a0_3).map n42:=by
 have hin0:∀ (v0_1_0:(List N10)) (v0_1_1:(List M9)) (v0_1_2:(List W2)) (v0_1_3:(List S10)) (v0_45:Int),aS prog (aBB jI mG mF eI gP lY) L f42 0 [1,1,1,1,1,0,1,0,0] (bE (aM prog f42) (bU prog (aBB jI mG mF eI gP lY) L f42 [1,1,1,1,1,0,1] (aM prog f42)).n (bU prog (aBB jI mG mF eI gP lY) L f42 [1,1,1,1,1,0,1] (aM prog f42)).x) L (S42_0 a0_0 a0_1 a0_2 a0_3 v0_1_0 v0_1_1 v0_1_2 v0_1_3 v0_45)=((λv0_1_0 v0_1_1 v0_1_2 v0_1_3 v0_45=>tG jI mG mF eI gP lY L a0_0 a0_1 a0_2 a0_3 L v0_1_0 v0_1_1 v0_1_2 v0_1_3 v0_45 (λw0_1_0 w0_1_1 w0_1_2 w0_1_3=>A42_0 (λx=>x) jI mG mF eI gP lY a0_0 a0_1 a0_2 a0_3 w0_1_0 w0_1_1 w0_1_2 w0_1_3)) v0_1_0 v0_1_1 v0_1_2 v0_1_3 v0_45).map n42:=λv0_1_0 v0_1_1 v0_1_2 v0_1_3 v0_45=>aL3 jI mG mF eI gP lY L a0_0 a0_1 a0_2 a0_3 _ _ _ (λw0_1_0 w0_1_1 w0_1_2 w0_1_3=>by refine .trans (b:=A42_0 n42 jI mG mF eI gP lY a0_0 a0_1 a0_2 a0_3 w0_1_0 w0_1_1 w0_1_2 w0_1_3) (by kernel_rfl) ?_;unfold A42_0;repeat' first | with_reducible refine dG ?_ ?_ | with_reducible refine dE λ_=>?_ | with_reducible refine dF λ_=>?_ | exact rfl) L v0_1_0 v0_1_1 v0_1_2 v0_1_3 v0_45
 refine .trans (b:=G42 n42 (λv0_1_0 v0_1_1 v0_1_2 v0_1_3 v0_45=>aS prog (aBB jI mG mF eI gP lY) L f42 0 [1,1,1,1,1,0,1,0,0] (bE (aM prog f42) (bU prog (aBB jI mG mF eI gP lY) L f42 [1,1,1,1,1,0,1] (aM prog f42)).n (bU prog (aBB jI mG mF eI gP lY) L f42 [1,1,1,1,1,0,1] (aM prog f42)).x) L (S42_0 a0_0 a0_1 a0_2 a0_3 v0_1_0 v0_1_1 v0_1_2 v0_1_3 v0_45)) jI mG mF eI gP lY a0_0 a0_1 a0_2 a0_3) (by kernel_rfl) ?_;unfold g42 G42
 repeat' first | with_reducible refine dG ?_ ?_ | with_reducible refine dE λ_=>?_ | with_reducible refine dF λ_=>?_ | with_reducible exact hin0 _ _ _ _ _ | exact rfl
def w42 (jI:Y76)(mG:Y77)(mF:Y78)(eI:Y79)(gP:Y80)(lY:Y81)(L:Nat)(x:C4):Option Int:=g42 jI mG mF eI gP lY L x.1 x.2.1 x.2.2.1 x.2.2.2
theorem s42 (jI:Y76)(mG:Y77)(mF:Y78)(eI:Y79)(gP:Y80)(lY:Y81)(h76:Sat prog cxT 76 (c76 jI))(h77:Sat prog cxT 77 (c77 mG))(h78:Sat prog cxT 78 (c78 mF))(h79:Sat prog cxT 79 (c79 eI))(h80:Sat prog cxT 80 (c80 gP))(h81:Sat prog cxT 81 (c81 lY))(m:Y42)(hm:∀ (x:C4) t,m x=some t->∃ L,w42 jI mG mF eI gP lY L x=some t):Sat prog cxT 42 (c42 m):=
 bS bB aW (by rfl) (fn:=f42) rfl a42 n42 aVW m (aBB jI mG mF eI gP lY) (aI h76 (aI h77 (aI h78 (aI h79 (aI h80 (aI h81 aV)))))) aP (w42 jI mG mF eI gP lY) (λL x=>e42 jI mG mF eI gP lY L x.1 x.2.1 x.2.2.1 x.2.2.2) hm bAU
end Go.Proofs.Tryz
