/- A part of the proof of FnExactClusterFault: LiFe, LiFf. -/
import Derived.Test.YtalbnpcbmakijaaGreatLiBase
set_option linter.unusedSimpArgs false
set_option linter.unusedVariables false
set_option maxHeartbeats 0
set_option maxRecDepth 100000
namespace Go.Proofs.Tryz
open Go.IntKind (wrap)
open Go Go.VM Go.RowKit
def aQ6:Env cxT:={ Kc:=dD [],Kw:=dF [],lv:=λi=>[],xv:=λi=>none }
def G88 {B:Type}(u:Bool->B)(a0:Int)(a1:Int)(a2:Int):Option B:=
 bif (decide (a0>=a1))then some (u (decide (a0<=a2)))
 else some (u false)
def g88 (L:Nat)(a0:Int)(a1:Int)(a2:Int):Option Bool:=G88 (λx=>x) a0 a1 a2
theorem e88 (L:Nat)(a0:Int)(a1:Int)(a2:Int):fP prog aQ6 (bO L) f88 (a88.enc (a0,a1,a2))=(g88 L a0 a1 a2).map n88:=by
 refine .trans (b:=G88 n88 a0 a1 a2) (by kernel_rfl) ?_;unfold g88 G88
 repeat' first | with_reducible refine eC ?_ ?_ | with_reducible refine eA λ_=>?_ | with_reducible refine eB λ_=>?_ | exact rfl
def w88 (L:Nat)(x:(Int×Int×Int)):Option Bool:=g88 L x.1 x.2.1 x.2.2
theorem s88 (m:Y88)(hm:∀ (x:(Int×Int×Int)) t,m x=some t->∃ L,w88 L x=some t):Sat prog cxT 88 (vE m):=
 cF bD aZ (by rfl) (fn:=f88) rfl a88 n88 aRJ m aQ6 aY aR (w88) (λL x=>e88 L x.1 x.2.1 x.2.2) hm aV4
def rI:Env cxT:={ Kc:=dD [],Kw:=dF [],lv:=λi=>if i=0 then[(0,[some 2]),(3,[])]else[],xv:=λi=>if i=0 then some []else none }
def S182_0 (a0:(List Int))(v0_3:Int):St cxT.ty:={ slots:=[(.inl (.inl (ls { own:=0,nm:=0,e:=2,o:=false,xs:=a0 }))),aK,aK,(.inl (.inl (lv (.int .i64 v0_3))))]++List.replicate 16 aK,D:=[],F:=[],ctr:=1 }
def X182_0 (a0:(List Int)):St cxT.ty:={ slots:=[]++List.replicate 20 aK,D:=[],F:=[],ctr:=1 }
def G182 {B:Type}(u:Bool->B)(hh0:Int->Option B)(a0:(List Int)):Option B:=
 hh0 (1:Int)
def B182_0 {B:Type}(u:Bool->B)(gg:Int->Option B)(kk:Option B)(a0:(List Int))(v0_3:Int):Option B:=
 bif (decide (v0_3 < (Nat.cast (List.length a0):Int)))then bif ((decide ((0:Int)<=v0_3))&&(decide (v0_3 < (Nat.cast (List.length a0):Int))))then bif ((decide ((0:Int)<=(wrap .i64 (v0_3-(1:Int)))))&&(decide ((wrap .i64 (v0_3-(1:Int))) < (Nat.cast (List.length a0):Int))))then bif (decide ((List.getD a0 v0_3.toNat (0:Int))<=(List.getD a0 (Int.toNat (wrap .i64 (v0_3-(1:Int)))) (0:Int))))then some (u false)
    else gg (wrap .i64 (v0_3+(1:Int)))
   else none
  else none
 else kk
def A182_0 {B:Type}(u:Bool->B)(a0:(List Int)):Option B:=
 some (u true)
def sD (L:Nat)(a0:(List Int)):Nat->Int->(Option Bool)->Option Bool
 | 0,_,_=>none
 | n+1,v0_3,k=>B182_0 (λx=>x) (λv0_3=>sD L a0 n v0_3 k) k a0 v0_3
theorem aGZ (L:Nat)(a0:(List Int))(k:St cxT.ty->Option (V cxT.ty))(xk:Nat->St cxT.ty->Option (V cxT.ty))(k':Option Bool)(hk:k (X182_0 a0)=(k').map xG):∀ (n:Nat) (v0_3:Int),bL prog rI L f182 0 [1,0,1,0,0] (cQ (aX prog f182) k xk) n (S182_0 a0 v0_3)=(sD L a0 n v0_3 k').map xG
 | 0,_=>rfl
 | n+1,v0_3=>by
  rw[cG];have ih:=aGZ L a0 k xk k' hk n;refine .trans (b:=B182_0 xG (λv0_3=>(bL prog rI L f182 0 [1,0,1,0,0] (cQ (aX prog f182) k xk) n) (S182_0 a0 v0_3)) (k (X182_0 a0)) a0 v0_3) (by kernel_rfl) ?_;unfold sD B182_0
  repeat' first | with_reducible refine eC ?_ ?_ | with_reducible refine eA λ_=>?_ | with_reducible refine eB λ_=>?_ | with_reducible exact ih _ | with_reducible exact hk | exact rfl
def aIr (L:Nat)(a0:(List Int)):Option Bool:=G182 (λx=>x) (λv0_3=>sD L a0 L v0_3 (A182_0 (λx=>x) a0)) a0
theorem aXg (L:Nat)(a0:(List Int)):fP prog rI (bO L) f182 (aTd.enc a0)=(aIr L a0).map xG:=by
 have hin0:∀ (v0_3:Int),bL prog rI L f182 0 [1,0,1,0,0] (cQ (aX prog f182) (cO prog rI L f182 [1,0,1] (aX prog f182)).n (cO prog rI L f182 [1,0,1] (aX prog f182)).x) L (S182_0 a0 v0_3)=((λv0_3=>sD L a0 L v0_3 (A182_0 (λx=>x) a0)) v0_3).map xG:=λv0_3=>aGZ L a0 _ _ _ (by refine .trans (b:=A182_0 xG a0) (by kernel_rfl) ?_;unfold A182_0;repeat' first | with_reducible refine eC ?_ ?_ | with_reducible refine eA λ_=>?_ | with_reducible refine eB λ_=>?_ | exact rfl) L v0_3
 refine .trans (b:=G182 xG (λv0_3=>bL prog rI L f182 0 [1,0,1,0,0] (cQ (aX prog f182) (cO prog rI L f182 [1,0,1] (aX prog f182)).n (cO prog rI L f182 [1,0,1] (aX prog f182)).x) L (S182_0 a0 v0_3)) a0) (by kernel_rfl) ?_;unfold aIr G182
 repeat' first | with_reducible refine eC ?_ ?_ | with_reducible refine eA λ_=>?_ | with_reducible refine eB λ_=>?_ | with_reducible exact hin0 _ | exact rfl
def aLz (L:Nat)(x:(List Int)):Option Bool:=aIr L x
theorem aU4 (m:Y182)(hm:∀ (x:(List Int)) t,m x=some t->∃ L,aLz L x=some t):Sat prog cxT 182 (aIP m):=
 cF bD aZ (by rfl) (fn:=f182) rfl aTd xG aKV m rI aY aR (aLz) (λL x=>aXg L x) hm aP1
def aKm (bI:Y88):Env cxT:={ Kc:=dD [(88,vE bI)],Kw:=dF [],lv:=λi=>[],xv:=λi=>none }
def G135 {B:Type}(u:Bool->B)(bI:Y88)(a0:N10)(a1:Int):Option B:=
 dL (bI (a1,((0:Int),(wrap .i64 (a0.2.1-(1:Int)))))) false λ(q1:Bool)=>some (u q1)
def aNt (bI:Y88)(L:Nat)(a0:N10)(a1:Int):Option Bool:=G135 (λx=>x) bI a0 a1
theorem aXF (bI:Y88)(L:Nat)(a0:N10)(a1:Int):fP prog (aKm bI) (bO L) f135 (aTC.enc (a0,a1))=(aNt bI L a0 a1).map aFs:=by
 refine .trans (b:=G135 aFs bI a0 a1) (by kernel_rfl) ?_;unfold aNt G135
 repeat' first | with_reducible refine eC ?_ ?_ | with_reducible refine eA λ_=>?_ | with_reducible refine eB λ_=>?_ | exact rfl
def aOF (bI:Y88)(L:Nat)(x:(N10×Int)):Option Bool:=aNt bI L x.1 x.2
theorem aVt (bI:Y88)(h88:Sat prog cxT 88 (vE bI))(m:Y135)(hm:∀ (x:(N10×Int)) t,m x=some t->∃ L,aOF bI L x=some t):Sat prog cxT 135 (aCM m):=
 cF bD aZ (by rfl) (fn:=f135) rfl aTC aFs aLk m (aKm bI) (aN h88 aY) aR (aOF bI) (λL x=>aXF bI L x.1 x.2) hm aQq
def rQ (fV:Y182)(cR:Y135):Env cxT:={ Kc:=dD [(182,aIP fV),(135,aCM cR)],Kw:=dF [],lv:=λi=>if i=0 then[(0,[none,none,none,none,some 102,none,none,some 2,some 2,some 2]),(3,[])]else[],xv:=λi=>if i=0 then some [(0,[none,none,none,none,some 102,none,none,some 2,some 2,some 2])]else none }
def S137_0 (a0:N10)(v0_3:Int):St cxT.ty:={ slots:=[(.inr (.inr { kind:=2,nm:=0,cells:=[],s:={ own:=0,nm:=0,e:=96,o:=false,xs:=(List.cons a0 []) },i:=0,off:=0 })),aK,aK,(.inl (.inl (lv (.int .i64 v0_3))))]++List.replicate 66 aK,D:=[],F:=[],ctr:=1 }
def X137_0 (a0:N10):St cxT.ty:={ slots:=[(.inr (.inr { kind:=2,nm:=0,cells:=[],s:={ own:=0,nm:=0,e:=96,o:=false,xs:=(List.cons a0 []) },i:=0,off:=0 }))]++List.replicate 69 aK,D:=[],F:=[],ctr:=1 }
def G137 {B:Type}(u:Bool->B)(hh0:Int->Option B)(fV:Y182)(cR:Y135)(a0:N10):Option B:=
 dL (fV a0.2.2.2.2.2.2.2.1) false λ(q1:Bool)=>bif (!q1)then some (u false)
  else bif (decide ((Nat.cast (List.length a0.2.2.2.2.2.2.2.1):Int) > (0:Int)))then bif (a0.2.2.2.2.2.1 != (1:Int))then some (u false)
   else hh0 (0:Int)
  else hh0 (0:Int)
def B137_0 {B:Type}(u:Bool->B)(gg:Int->Option B)(kk:Option B)(fV:Y182)(cR:Y135)(a0:N10)(v0_3:Int):Option B:=
 bif (decide (v0_3 < (Nat.cast (List.length a0.2.2.2.2.2.2.2.1):Int)))then fB a0 λs1_0=>bif ((decide ((0:Int)<=v0_3))&&(decide (v0_3 < (Nat.cast (List.length s1_0.2.2.2.2.2.2.2.1):Int))))then dL (cR (s1_0,(List.getD s1_0.2.2.2.2.2.2.2.1 v0_3.toNat (0:Int)))) false λ(q3:Bool)=>bif (!q3)then some (u false)
    else gg (wrap .i64 (v0_3+(1:Int)))
  else none
 else kk
def A137_0 {B:Type}(u:Bool->B)(fV:Y182)(cR:Y135)(a0:N10):Option B:=
 bif (a0.2.2.2.2.2.1 == (2:Int))then fB a0 λs1_0=>bif ((Nat.cast (List.length s1_0.2.2.2.2.2.2.2.2.1):Int) == s1_0.2.1)then some (u ((Nat.cast (List.length s1_0.2.2.2.2.2.2.2.2.2):Int) == s1_0.2.1))
  else some (u false)
 else bif ((Nat.cast (List.length a0.2.2.2.2.2.2.2.2.1):Int) == (0:Int))then some (u ((Nat.cast (List.length a0.2.2.2.2.2.2.2.2.2):Int) == (0:Int)))
 else some (u false)
def sK (fV:Y182)(cR:Y135)(L:Nat)(a0:N10):Nat->Int->(Option Bool)->Option Bool
 | 0,_,_=>none
 | n+1,v0_3,k=>B137_0 (λx=>x) (λv0_3=>sK fV cR L a0 n v0_3 k) k fV cR a0 v0_3
theorem aG7 (fV:Y182)(cR:Y135)(L:Nat)(a0:N10)(k:St cxT.ty->Option (V cxT.ty))(xk:Nat->St cxT.ty->Option (V cxT.ty))(k':Option Bool)(hk:k (X137_0 a0)=(k').map xO):∀ (n:Nat) (v0_3:Int),bL prog (rQ fV cR) L f137 0 [1,1,0,1,0,0] (cQ (aX prog f137) k xk) n (S137_0 a0 v0_3)=(sK fV cR L a0 n v0_3 k').map xO
 | 0,_=>rfl
 | n+1,v0_3=>by
  rw[cG];have ih:=aG7 fV cR L a0 k xk k' hk n;refine .trans (b:=B137_0 xO (λv0_3=>(bL prog (rQ fV cR) L f137 0 [1,1,0,1,0,0] (cQ (aX prog f137) k xk) n) (S137_0 a0 v0_3)) (k (X137_0 a0)) fV cR a0 v0_3) (by kernel_rfl) ?_;unfold sK B137_0
  repeat' first | with_reducible refine eC ?_ ?_ | with_reducible refine eA λ_=>?_ | with_reducible refine eB λ_=>?_ | with_reducible exact ih _ | with_reducible exact hk | exact rfl
def aHr (fV:Y182)(cR:Y135)(L:Nat)(a0:N10):Option Bool:=G137 (λx=>x) (λv0_3=>sK fV cR L a0 L v0_3 (A137_0 (λx=>x) fV cR a0)) fV cR a0
theorem aXD (fV:Y182)(cR:Y135)(L:Nat)(a0:N10):fP prog (rQ fV cR) (bO L) f137 (aTA.enc a0)=(aHr fV cR L a0).map xO:=by
 have hin0:∀ (v0_3:Int),bL prog (rQ fV cR) L f137 0 [1,1,0,1,0,0] (cQ (aX prog f137) (cO prog (rQ fV cR) L f137 [1,1,0,1] (aX prog f137)).n (cO prog (rQ fV cR) L f137 [1,1,0,1] (aX prog f137)).x) L (S137_0 a0 v0_3)=((λv0_3=>sK fV cR L a0 L v0_3 (A137_0 (λx=>x) fV cR a0)) v0_3).map xO:=λv0_3=>aG7 fV cR L a0 _ _ _ (by refine .trans (b:=A137_0 xO fV cR a0) (by kernel_rfl) ?_;unfold A137_0;repeat' first | with_reducible refine eC ?_ ?_ | with_reducible refine eA λ_=>?_ | with_reducible refine eB λ_=>?_ | exact rfl) L v0_3
 refine .trans (b:=G137 xO (λv0_3=>bL prog (rQ fV cR) L f137 0 [1,1,0,1,0,0] (cQ (aX prog f137) (cO prog (rQ fV cR) L f137 [1,1,0,1] (aX prog f137)).n (cO prog (rQ fV cR) L f137 [1,1,0,1] (aX prog f137)).x) L (S137_0 a0 v0_3)) fV cR a0) (by kernel_rfl) ?_;unfold aHr G137
 repeat' first | with_reducible refine eC ?_ ?_ | with_reducible refine eA λ_=>?_ | with_reducible refine eB λ_=>?_ | with_reducible exact hin0 _ | exact rfl
def aLP (fV:Y182)(cR:Y135)(L:Nat)(x:N10):Option Bool:=aHr fV cR L x
theorem aVr (fV:Y182)(cR:Y135)(h182:Sat prog cxT 182 (aIP fV))(h135:Sat prog cxT 135 (aCM cR))(m:Y137)(hm:∀ (x:N10) t,m x=some t->∃ L,aLP fV cR L x=some t):Sat prog cxT 137 (aI5 m):=
 cF bD aZ (by rfl) (fn:=f137) rfl aTA xO aLi m (rQ fV cR) (aN h182 (aN h135 aY)) aR (aLP fV cR) (λL x=>aXD fV cR L x) hm aQo
def aQ5 (bI:Y88)(m139:Y139):Env cxT:={ Kc:=dD [(88,vE bI),(139,aNG m139)],Kw:=dF [],lv:=λi=>[],xv:=λi=>none }
def G89 {B:Type}(u:Int->B)(bI:Y88)(m139:Y139)(a0_0:Int)(a0_1:Int)(a0_2:Int)(a0_3:Int)(a0_4:Int)(a0_5:Int)(a0_6:Int)(a0_7:Int)(a0_8:Int):Option B:=
 dL (bI (a0_0,((1:Int),(100000:Int)))) false λ(q1:Bool)=>bif (!q1)then some (u (3:Int))
  else dL (bI (a0_1,((0:Int),(999:Int)))) false λ(q2:Bool)=>bif (!q2)then some (u (3:Int))
   else dL (bI (a0_2,((0:Int),(1000000:Int)))) false λ(q3:Bool)=>bif (!q3)then some (u (3:Int))
    else bif (!((a0_1 == (0:Int)) == (a0_2 == (0:Int))))then some (u (1:Int))
    else bif (a0_1 != (0:Int))then dL (m139 (a0_3,(a0_4,(a0_5,(a0_6,(a0_7,a0_8)))))) (0:Int) λ(q5:Int)=>some (u q5)
    else bif (!((((((a0_3 == (0:Int))&&(a0_4 == (0:Int)))&&(a0_5 == (0:Int)))&&(a0_6 == (0:Int)))&&(a0_7 == (0:Int)))&&(a0_8 == (0:Int))))then some (u (1:Int))
    else some (u (0:Int))
def g89 (bI:Y88)(m139:Y139)(L:Nat)(a0_0:Int)(a0_1:Int)(a0_2:Int)(a0_3:Int)(a0_4:Int)(a0_5:Int)(a0_6:Int)(a0_7:Int)(a0_8:Int):Option Int:=G89 (λx=>x) bI m139 a0_0 a0_1 a0_2 a0_3 a0_4 a0_5 a0_6 a0_7 a0_8
theorem e89 (bI:Y88)(m139:Y139)(L:Nat)(a0_0:Int)(a0_1:Int)(a0_2:Int)(a0_3:Int)(a0_4:Int)(a0_5:Int)(a0_6:Int)(a0_7:Int)(a0_8:Int):fP prog (aQ5 bI m139) (bO L) f89 (a89.enc (a0_0,a0_1,a0_2,a0_3,a0_4,a0_5,a0_6,a0_7,a0_8))=(g89 bI m139 L a0_0 a0_1 a0_2 a0_3 a0_4 a0_5 a0_6 a0_7 a0_8).map n89:=by
 refine .trans (b:=G89 n89 bI m139 a0_0 a0_1 a0_2 a0_3 a0_4 a0_5 a0_6 a0_7 a0_8) (by kernel_rfl) ?_;unfold g89 G89
 repeat' first | with_reducible refine eC ?_ ?_ | with_reducible refine eA λ_=>?_ | with_reducible refine eB λ_=>?_ | exact rfl
def w89 (bI:Y88)(m139:Y139)(L:Nat)(x:E9):Option Int:=g89 bI m139 L x.1 x.2.1 x.2.2.1 x.2.2.2.1 x.2.2.2.2.1 x.2.2.2.2.2.1 x.2.2.2.2.2.2.1 x.2.2.2.2.2.2.2.1 x.2.2.2.2.2.2.2.2
theorem s89 (bI:Y88)(m139:Y139)(h88:Sat prog cxT 88 (vE bI))(h139:Sat prog cxT 139 (aNG m139))(m:Y89)(hm:∀ (x:E9) t,m x=some t->∃ L,w89 bI m139 L x=some t):Sat prog cxT 89 (c89 m):=
 cF bD aZ (by rfl) (fn:=f89) rfl a89 n89 aRI m (aQ5 bI m139) (aN h88 (aN h139 aY)) aR (w89 bI m139) (λL x=>e89 bI m139 L x.1 x.2.1 x.2.2.1 x.2.2.2.1 x.2.2.2.2.1 x.2.2.2.2.2.1 x.2.2.2.2.2.2.1 x.2.2.2.2.2.2.2.1 x.2.2.2.2.2.2.2.2) hm aV3
def rR (m89:Y89):Env cxT:={ Kc:=dD [(89,c89 m89)],Kw:=dF [],lv:=λi=>if i=0 then[(0,[some 102]),(3,[])]else[],xv:=λi=>if i=0 then some []else none }
def S136_0 (a0:(List E9))(v0_3:Int):St cxT.ty:={ slots:=[(.inl (.inl (ls { own:=0,nm:=0,e:=102,o:=false,xs:=a0 }))),aK,aK,(.inl (.inl (lv (.int .i64 v0_3))))]++List.replicate 34 aK,D:=[],F:=[],ctr:=1 }
def X136_0 (a0:(List E9)):St cxT.ty:={ slots:=[]++List.replicate 38 aK,D:=[],F:=[],ctr:=1 }
def G136 {B:Type}(u:Int->B)(hh0:Int->Option B)(m89:Y89)(a0:(List E9)):Option B:=
 bif (decide ((Nat.cast (List.length a0):Int) > (40:Int)))then some (u (2:Int))
 else hh0 (0:Int)
def B136_0 {B:Type}(u:Int->B)(gg:Int->Option B)(kk:Option B)(m89:Y89)(a0:(List E9))(v0_3:Int):Option B:=
 bif (decide (v0_3 < (Nat.cast (List.length a0):Int)))then fB (List.getD a0 v0_3.toNat ((0:Int),((0:Int),((0:Int),((0:Int),((0:Int),((0:Int),((0:Int),((0:Int),(0:Int)))))))))) λs1_0=>bif ((decide ((0:Int)<=v0_3))&&(decide (v0_3 < (Nat.cast (List.length a0):Int))))then dL (m89 (s1_0.1,(s1_0.2.1,(s1_0.2.2.1,(s1_0.2.2.2.1,(s1_0.2.2.2.2.1,(s1_0.2.2.2.2.2.1,(s1_0.2.2.2.2.2.2.1,(s1_0.2.2.2.2.2.2.2.1,s1_0.2.2.2.2.2.2.2.2))))))))) (0:Int) λ(q3:Int)=>bif (q3 != (0:Int))then some (u q3)
    else bif (decide (v0_3 > (0:Int)))then bif ((decide ((0:Int)<=v0_3))&&(decide (v0_3 < (Nat.cast (List.length a0):Int))))then bif ((decide ((0:Int)<=(wrap .i64 (v0_3-(1:Int)))))&&(decide ((wrap .i64 (v0_3-(1:Int))) < (Nat.cast (List.length a0):Int))))then bif (decide (s1_0.1 < (List.getD a0 (Int.toNat (wrap .i64 (v0_3-(1:Int)))) ((0:Int),((0:Int),((0:Int),((0:Int),((0:Int),((0:Int),((0:Int),((0:Int),(0:Int)))))))))).1))then some (u (1:Int))
       else gg (wrap .i64 (v0_3+(1:Int)))
      else none
     else none
    else gg (wrap .i64 (v0_3+(1:Int)))
  else none
 else kk
def A136_0 {B:Type}(u:Int->B)(m89:Y89)(a0:(List E9)):Option B:=
 some (u (0:Int))
def sL (m89:Y89)(L:Nat)(a0:(List E9)):Nat->Int->(Option Int)->Option Int
 | 0,_,_=>none
 | n+1,v0_3,k=>B136_0 (λx=>x) (λv0_3=>sL m89 L a0 n v0_3 k) k m89 a0 v0_3
theorem aG8 (m89:Y89)(L:Nat)(a0:(List E9))(k:St cxT.ty->Option (V cxT.ty))(xk:Nat->St cxT.ty->Option (V cxT.ty))(k':Option Int)(hk:k (X136_0 a0)=(k').map xP):∀ (n:Nat) (v0_3:Int),bL prog (rR m89) L f136 0 [1,1,0,1,0,0] (cQ (aX prog f136) k xk) n (S136_0 a0 v0_3)=(sL m89 L a0 n v0_3 k').map xP
 | 0,_=>rfl
 | n+1,v0_3=>by
  rw[cG];have ih:=aG8 m89 L a0 k xk k' hk n;refine .trans (b:=B136_0 xP (λv0_3=>(bL prog (rR m89) L f136 0 [1,1,0,1,0,0] (cQ (aX prog f136) k xk) n) (S136_0 a0 v0_3)) (k (X136_0 a0)) m89 a0 v0_3) (by kernel_rfl) ?_;unfold sL B136_0
  repeat' first | with_reducible refine eC ?_ ?_ | with_reducible refine eA λ_=>?_ | with_reducible refine eB λ_=>?_ | with_reducible exact ih _ | with_reducible exact hk | exact rfl
def aHs (m89:Y89)(L:Nat)(a0:(List E9)):Option Int:=G136 (λx=>x) (λv0_3=>sL m89 L a0 L v0_3 (A136_0 (λx=>x) m89 a0)) m89 a0
theorem aXE (m89:Y89)(L:Nat)(a0:(List E9)):fP prog (rR m89) (bO L) f136 (aTB.enc a0)=(aHs m89 L a0).map xP:=by
 have hin0:∀ (v0_3:Int),bL prog (rR m89) L f136 0 [1,1,0,1,0,0] (cQ (aX prog f136) (cO prog (rR m89) L f136 [1,1,0,1] (aX prog f136)).n (cO prog (rR m89) L f136 [1,1,0,1] (aX prog f136)).x) L (S136_0 a0 v0_3)=((λv0_3=>sL m89 L a0 L v0_3 (A136_0 (λx=>x) m89 a0)) v0_3).map xP:=λv0_3=>aG8 m89 L a0 _ _ _ (by refine .trans (b:=A136_0 xP m89 a0) (by kernel_rfl) ?_;unfold A136_0;repeat' first | with_reducible refine eC ?_ ?_ | with_reducible refine eA λ_=>?_ | with_reducible refine eB λ_=>?_ | exact rfl) L v0_3
 refine .trans (b:=G136 xP (λv0_3=>bL prog (rR m89) L f136 0 [1,1,0,1,0,0] (cQ (aX prog f136) (cO prog (rR m89) L f136 [1,1,0,1] (aX prog f136)).n (cO prog (rR m89) L f136 [1,1,0,1] (aX prog f136)).x) L (S136_0 a0 v0_3)) m89 a0) (by kernel_rfl) ?_;unfold aHs G136
 repeat' first | with_reducible refine eC ?_ ?_ | with_reducible refine eA λ_=>?_ | with_reducible refine eB λ_=>?_ | with_reducible exact hin0 _ | exact rfl
def aLQ (m89:Y89)(L:Nat)(x:(List E9)):Option Int:=aHs m89 L x
theorem aVs (m89:Y89)(h89:Sat prog cxT 89 (c89 m89))(m:Y136)(hm:∀ (x:(List E9)) t,m x=some t->∃ L,aLQ m89 L x=some t):Sat prog cxT 136 (aFP m):=
 cF bD aZ (by rfl) (fn:=f136) rfl aTB xP aLj m (rR m89) (aN h89 aY) aR (aLQ m89) (λL x=>aXE m89 L x) hm aQp
def aAa (bI:Y88)(cR:Y135)(m136:Y136)(m124:Y124)(fX:Y137):Env cxT:={ Kc:=dD [(88,vE bI),(135,aCM cR),(136,aFP m136),(124,aFR m124),(137,aI5 fX)],Kw:=dF [],lv:=λi=>if i=0 then[(0,[none,none,none,none,some 102,none,none,some 2,some 2,some 2]),(4,[]),(5,[])]else[],xv:=λi=>if i=0 then some [(0,[none,none,none,none,some 102,none,none,some 2,some 2,some 2])]else none }
def S85_0 (a0:N10)(v0_5:Int):St cxT.ty:={ slots:=[(.inr (.inr { kind:=2,nm:=0,cells:=[],s:={ own:=0,nm:=0,e:=96,o:=false,xs:=(List.cons a0 []) },i:=0,off:=0 })),aK,aK,aK,(.inl (.inl (lv (.int .i64 (Nat.cast (List.length a0.2.2.2.2.1):Int))))),(.inl (.inl (lv (.int .i64 v0_5))))]++List.replicate 133 aK,D:=[],F:=[],ctr:=1 }
def X85_0 (a0:N10):St cxT.ty:={ slots:=[(.inr (.inr { kind:=2,nm:=0,cells:=[],s:={ own:=0,nm:=0,e:=96,o:=false,xs:=(List.cons a0 []) },i:=0,off:=0 }))]++List.replicate 138 aK,D:=[],F:=[],ctr:=1 }
def G85 {B:Type}(u:Int->B)(hh0:Int->Option B)(bI:Y88)(cR:Y135)(m136:Y136)(m124:Y124)(fX:Y137)(a0:N10):Option B:=
 dL (bI (a0.2.1,((1:Int),(5:Int)))) false λ(q1:Bool)=>bif (!q1)then some (u (3:Int))
  else dL (cR (a0,a0.1)) false λ(q2:Bool)=>bif (!q2)then some (u (3:Int))
   else dL (bI (a0.2.2.1,((0:Int),(100000:Int)))) false λ(q3:Bool)=>bif (!q3)then some (u (3:Int))
    else dL (bI (a0.2.2.2.1,((-(1:Int)),(wrap .i64 (a0.2.1-(1:Int)))))) false λ(q4:Bool)=>bif (!q4)then some (u (3:Int))
     else dL (bI (a0.2.2.2.2.2.1,((0:Int),(2:Int)))) false λ(q5:Bool)=>bif (!q5)then some (u (3:Int))
      else dL (m136 a0.2.2.2.2.1) (0:Int) λ(q6:Int)=>bif (q6 != (0:Int))then some (u q6)
       else dL (m124 a0.2.2.2.2.1) ((0:Int),(0:Int),(0:Int),(0:Int),(0:Int),(0:Int),(0:Int),(0:Int),(0:Int)) λ(q7:E9)=>bif (decide (q7.1 > a0.2.2.1))then some (u (1:Int))
        else dL (bI (a0.2.2.2.2.2.2.1,((0:Int),(Nat.cast (List.length a0.2.2.2.2.1):Int)))) false λ(q8:Bool)=>bif (!q8)then some (u (3:Int))
         else dL (fX a0) false λ(q9:Bool)=>bif (!q9)then some (u (1:Int))
          else hh0 (0:Int)
def B85_0 {B:Type}(u:Int->B)(gg:Int->Option B)(kk:Option B)(bI:Y88)(cR:Y135)(m136:Y136)(m124:Y124)(fX:Y137)(a0:N10)(v0_5:Int):Option B:=
 bif (decide (v0_5 < (Nat.cast (List.length a0.2.2.2.2.2.2.2.2.1):Int)))then fB a0 λs1_0=>bif ((decide ((0:Int)<=v0_5))&&(decide (v0_5 < (Nat.cast (List.length s1_0.2.2.2.2.2.2.2.2.1):Int))))then dL (bI ((List.getD s1_0.2.2.2.2.2.2.2.2.1 v0_5.toNat (0:Int)),((1:Int),(wrap .i64 ((Nat.cast (List.length s1_0.2.2.2.2.1):Int)+(1:Int)))))) false λ(q3:Bool)=>bif (!q3)then some (u (3:Int))
    else bif ((decide ((0:Int)<=v0_5))&&(decide (v0_5 < (Nat.cast (List.length s1_0.2.2.2.2.2.2.2.2.2):Int))))then dL (bI ((List.getD s1_0.2.2.2.2.2.2.2.2.2 v0_5.toNat (0:Int)),((0:Int),(Nat.cast (List.length s1_0.2.2.2.2.1):Int)))) false λ(q5:Bool)=>bif (!q5)then some (u (3:Int))
      else gg (wrap .i64 (v0_5+(1:Int)))
    else none
  else none
 else kk
def A85_0 {B:Type}(u:Int->B)(bI:Y88)(cR:Y135)(m136:Y136)(m124:Y124)(fX:Y137)(a0:N10):Option B:=
 bif (a0.2.2.2.2.2.1 != (0:Int))then fB a0 λs1_0=>bif (s1_0.2.2.2.1 != s1_0.1)then some (u (1:Int))
  else bif (s1_0.2.2.1 == (0:Int))then some (u (1:Int))
  else some (u (0:Int))
 else some (u (0:Int))
def xS (bI:Y88)(cR:Y135)(m136:Y136)(m124:Y124)(fX:Y137)(L:Nat)(a0:N10):Nat->Int->(Option Int)->Option Int
 | 0,_,_=>none
 | n+1,v0_5,k=>B85_0 (λx=>x) (λv0_5=>xS bI cR m136 m124 fX L a0 n v0_5 k) k bI cR m136 m124 fX a0 v0_5
theorem aJv (bI:Y88)(cR:Y135)(m136:Y136)(m124:Y124)(fX:Y137)(L:Nat)(a0:N10)(k:St cxT.ty->Option (V cxT.ty))(xk:Nat->St cxT.ty->Option (V cxT.ty))(k':Option Int)(hk:k (X85_0 a0)=(k').map n85):∀ (n:Nat) (v0_5:Int),bL prog (aAa bI cR m136 m124 fX) L f85 0 [1,1,1,1,1,1,1,0,1,0,0] (cQ (aX prog f85) k xk) n (S85_0 a0 v0_5)=(xS bI cR m136 m124 fX L a0 n v0_5 k').map n85
 | 0,_=>rfl
 | n+1,v0_5=>by
  rw[cG];have ih:=aJv bI cR m136 m124 fX L a0 k xk k' hk n;refine .trans (b:=B85_0 n85 (λv0_5=>(bL prog (aAa bI cR m136 m124 fX) L f85 0 [1,1,1,1,1,1,1,0,1,0,0] (cQ (aX prog f85) k xk) n) (S85_0 a0 v0_5)) (k (X85_0 a0)) bI cR m136 m124 fX a0 v0_5) (by kernel_rfl) ?_;unfold xS B85_0
  repeat' first | with_reducible refine eC ?_ ?_ | with_reducible refine eA λ_=>?_ | with_reducible refine eB λ_=>?_ | with_reducible exact ih _ | with_reducible exact hk | exact rfl
def g85 (bI:Y88)(cR:Y135)(m136:Y136)(m124:Y124)(fX:Y137)(L:Nat)(a0:N10):Option Int:=G85 (λx=>x) (λv0_5=>xS bI cR m136 m124 fX L a0 L v0_5 (A85_0 (λx=>x) bI cR m136 m124 fX a0)) bI cR m136 m124 fX a0
theorem e85 (bI:Y88)(cR:Y135)(m136:Y136)(m124:Y124)(fX:Y137)(L:Nat)(a0:N10):fP prog (aAa bI cR m136 m124 fX) (bO L) f85 (a85.enc a0)=(g85 bI cR m136 m124 fX L a0).map n85:=by
 have hin0:∀ (v0_5:Int),bL prog (aAa bI cR m136 m124 fX) L f85 0 [1,1,1,1,1,1,1,0,1,0,0] (cQ (aX prog f85) (cO prog (aAa bI cR m136 m124 fX) L f85 [1,1,1,1,1,1,1,0,1] (aX prog f85)).n (cO prog (aAa bI cR m136 m124 fX) L f85 [1,1,1,1,1,1,1,0,1] (aX prog f85)).x) L (S85_0 a0 v0_5)=((λv0_5=>xS bI cR m136 m124 fX L a0 L v0_5 (A85_0 (λx=>x) bI cR m136 m124 fX a0)) v0_5).map n85:=λv0_5=>aJv bI cR m136 m124 fX L a0 _ _ _ (by refine .trans (b:=A85_0 n85 bI cR m136 m124 fX a0) (by kernel_rfl) ?_;unfold A85_0;repeat' first | with_reducible refine eC ?_ ?_ | with_reducible refine eA λ_=>?_ | with_reducible refine eB λ_=>?_ | exact rfl) L v0_5
 refine .trans (b:=G85 n85 (λv0_5=>bL prog (aAa bI cR m136 m124 fX) L f85 0 [1,1,1,1,1,1,1,0,1,0,0] (cQ (aX prog f85) (cO prog (aAa bI cR m136 m124 fX) L f85 [1,1,1,1,1,1,1,0,1] (aX prog f85)).n (cO prog (aAa bI cR m136 m124 fX) L f85 [1,1,1,1,1,1,1,0,1] (aX prog f85)).x) L (S85_0 a0 v0_5)) bI cR m136 m124 fX a0) (by kernel_rfl) ?_;unfold g85 G85
 repeat' first | with_reducible refine eC ?_ ?_ | with_reducible refine eA λ_=>?_ | with_reducible refine eB λ_=>?_ | with_reducible exact hin0 _ | exact rfl
def w85 (bI:Y88)(cR:Y135)(m136:Y136)(m124:Y124)(fX:Y137)(L:Nat)(x:N10):Option Int:=g85 bI cR m136 m124 fX L x
theorem s85 (bI:Y88)(cR:Y135)(m136:Y136)(m124:Y124)(fX:Y137)(h88:Sat prog cxT 88 (vE bI))(h135:Sat prog cxT 135 (aCM cR))(h136:Sat prog cxT 136 (aFP m136))(h124:Sat prog cxT 124 (aFR m124))(h137:Sat prog cxT 137 (aI5 fX))(m:Y85)(hm:∀ (x:N10) t,m x=some t->∃ L,w85 bI cR m136 m124 fX L x=some t):Sat prog cxT 85 (c85 m):=
 cF bD aZ (by rfl) (fn:=f85) rfl a85 n85 aRM m (aAa bI cR m136 m124 fX) (aN h88 (aN h135 (aN h136 (aN h124 (aN h137 aY))))) aR (w85 bI cR m136 m124 fX) (λL x=>e85 bI cR m136 m124 fX L x) hm aV7
end Go.Proofs.Tryz
set_option maxHeartbeats 0
set_option maxRecDepth 100000
namespace Go.Proofs.Tryz
open Go.IntKind (wrap)
open Go Go.VM Go.RowKit
def aQ8 (bI:Y88):Env cxT:={ Kc:=dD [(88,vE bI)],Kw:=dF [],lv:=λi=>[],xv:=λi=>none }
def G86 {B:Type}(u:Bool->B)(bI:Y88)(a0:C4)(a1:Int):Option B:=
 dL (bI (a1,((0:Int),(wrap .i64 ((Nat.cast (List.length a0.1):Int)-(1:Int)))))) false λ(q1:Bool)=>some (u q1)
def g86 (bI:Y88)(L:Nat)(a0:C4)(a1:Int):Option Bool:=G86 (λx=>x) bI a0 a1
theorem e86 (bI:Y88)(L:Nat)(a0:C4)(a1:Int):fP prog (aQ8 bI) (bO L) f86 (a86.enc (a0,a1))=(g86 bI L a0 a1).map n86:=by
 refine .trans (b:=G86 n86 bI a0 a1) (by kernel_rfl) ?_;unfold g86 G86
 repeat' first | with_reducible refine eC ?_ ?_ | with_reducible refine eA λ_=>?_ | with_reducible refine eB λ_=>?_ | exact rfl
def w86 (bI:Y88)(L:Nat)(x:(C4×Int)):Option Bool:=g86 bI L x.1 x.2
theorem s86 (bI:Y88)(h88:Sat prog cxT 88 (vE bI))(m:Y86)(hm:∀ (x:(C4×Int)) t,m x=some t->∃ L,w86 bI L x=some t):Sat prog cxT 86 (c86 m):=
 cF bD aZ (by rfl) (fn:=f86) rfl a86 n86 aRL m (aQ8 bI) (aN h88 aY) aR (w86 bI) (λL x=>e86 bI L x.1 x.2) hm aV6
def aQ7 (bI:Y88)(cR:Y135)(m136:Y136)(m124:Y124)(iS:Y138):Env cxT:={ Kc:=dD [(88,vE bI),(135,aCM cR),(136,aFP m136),(124,aFR m124),(138,aI4 iS)],Kw:=dF [],lv:=λi=>[],xv:=λi=>none }
def G87 {B:Type}(u:Int->B)(bI:Y88)(cR:Y135)(m136:Y136)(m124:Y124)(iS:Y138)(a0:N10)(a1_0:Int)(a1_1:Int)(a1_2:Int)(a1_3:Int)(a1_4:Int)(a1_5:Int)(a1_6:Int)(a1_7:Bool)(a1_8:(List E9)):Option B:=
 dL (bI (a1_0,((1:Int),(4:Int)))) false λ(q1:Bool)=>bif (!q1)then some (u (5:Int))
  else dL (cR (a0,a1_1)) false λ(q2:Bool)=>bif (!q2)then some (u (3:Int))
   else bif (a1_1 == a0.1)then some (u (3:Int))
   else bif (a1_2 != a0.1)then some (u (3:Int))
   else dL (bI (a1_3,((1:Int),(100000:Int)))) false λ(q3:Bool)=>bif (!q3)then some (u (3:Int))
    else dL (bI (a1_4,((0:Int),(40:Int)))) false λ(q4:Bool)=>bif (!q4)then some (u (3:Int))
     else dL (bI (a1_5,((0:Int),a1_3))) false λ(q5:Bool)=>bif (!q5)then some (u (3:Int))
      else dL (bI (a1_6,((0:Int),(40:Int)))) false λ(q6:Bool)=>bif (!q6)then some (u (3:Int))
       else dL (m136 a1_8) (0:Int) λ(q7:Int)=>bif (q7 != (0:Int))then some (u q7)
        else bif (decide ((Nat.cast (List.length a1_8):Int) > (0:Int)))then bif (a1_0 != (3:Int))then some (u (1:Int))
         else dL (m124 a1_8) ((0:Int),(0:Int),(0:Int),(0:Int),(0:Int),(0:Int),(0:Int),(0:Int),(0:Int)) λ(q9:E9)=>bif (decide (q9.1 > a1_3))then some (u (1:Int))
          else bif ((decide ((0:Int)<=(0:Int)))&&(decide ((0:Int) < (Nat.cast (List.length a1_8):Int))))then bif (decide ((List.getD a1_8 (0:Nat) ((0:Int),((0:Int),((0:Int),((0:Int),((0:Int),((0:Int),((0:Int),((0:Int),(0:Int)))))))))).1 < a1_5))then some (u (1:Int))
           else bif a1_7 then bif (a1_0 != (2:Int))then bif (a1_0 != (4:Int))then some (u (1:Int))
             else dL (iS (a1_0,(a1_1,(a1_2,(a1_3,(a1_4,(a1_5,(a1_6,(a1_7,a1_8))))))))) false λ(q13:Bool)=>bif (!q13)then some (u (1:Int))
              else bif (a1_4 == (0:Int))then bif (a1_5 != (0:Int))then some (u (1:Int))
               else some (u (0:Int))
              else some (u (0:Int))
            else dL (iS (a1_0,(a1_1,(a1_2,(a1_3,(a1_4,(a1_5,(a1_6,(a1_7,a1_8))))))))) false λ(q12:Bool)=>bif (!q12)then some (u (1:Int))
             else bif (a1_4 == (0:Int))then bif (a1_5 != (0:Int))then some (u (1:Int))
              else some (u (0:Int))
             else some (u (0:Int))
           else dL (iS (a1_0,(a1_1,(a1_2,(a1_3,(a1_4,(a1_5,(a1_6,(a1_7,a1_8))))))))) false λ(q11:Bool)=>bif (!q11)then some (u (1:Int))
            else bif (a1_4 == (0:Int))then bif (a1_5 != (0:Int))then some (u (1:Int))
             else some (u (0:Int))
            else some (u (0:Int))
          else none
        else bif a1_7 then bif (a1_0 != (2:Int))then bif (a1_0 != (4:Int))then some (u (1:Int))
          else dL (iS (a1_0,(a1_1,(a1_2,(a1_3,(a1_4,(a1_5,(a1_6,(a1_7,a1_8))))))))) false λ(q10:Bool)=>bif (!q10)then some (u (1:Int))
           else bif (a1_4 == (0:Int))then bif (a1_5 != (0:Int))then some (u (1:Int))
            else some (u (0:Int))
           else some (u (0:Int))
         else dL (iS (a1_0,(a1_1,(a1_2,(a1_3,(a1_4,(a1_5,(a1_6,(a1_7,a1_8))))))))) false λ(q9:Bool)=>bif (!q9)then some (u (1:Int))
          else bif (a1_4 == (0:Int))then bif (a1_5 != (0:Int))then some (u (1:Int))
           else some (u (0:Int))
          else some (u (0:Int))
        else dL (iS (a1_0,(a1_1,(a1_2,(a1_3,(a1_4,(a1_5,(a1_6,(a1_7,a1_8))))))))) false λ(q8:Bool)=>bif (!q8)then some (u (1:Int))
         else bif (a1_4 == (0:Int))then bif (a1_5 != (0:Int))then some (u (1:Int))
          else some (u (0:Int))
         else some (u (0:Int))
def g87 (bI:Y88)(cR:Y135)(m136:Y136)(m124:Y124)(iS:Y138)(L:Nat)(a0:N10)(a1_0:Int)(a1_1:Int)(a1_2:Int)(a1_3:Int)(a1_4:Int)(a1_5:Int)(a1_6:Int)(a1_7:Bool)(a1_8:(List E9)):Option Int:=G87 (λx=>x) bI cR m136 m124 iS a0 a1_0 a1_1 a1_2 a1_3 a1_4 a1_5 a1_6 a1_7 a1_8
theorem e87 (bI:Y88)(cR:Y135)(m136:Y136)(m124:Y124)(iS:Y138)(L:Nat)(a0:N10)(a1_0:Int)(a1_1:Int)(a1_2:Int)(a1_3:Int)(a1_4:Int)(a1_5:Int)(a1_6:Int)(a1_7:Bool)(a1_8:(List E9)):fP prog (aQ7 bI cR m136 m124 iS) (bO L) f87 (a87.enc (a0,(a1_0,a1_1,a1_2,a1_3,a1_4,a1_5,a1_6,a1_7,a1_8)))=(g87 bI cR m136 m124 iS L a0 a1_0 a1_1 a1_2 a1_3 a1_4 a1_5 a1_6 a1_7 a1_8).map n87:=by
 refine .trans (b:=G87 n87 bI cR m136 m124 iS a0 a1_0 a1_1 a1_2 a1_3 a1_4 a1_5 a1_6 a1_7 a1_8) (by kernel_rfl) ?_;unfold g87 G87
 repeat' first | with_reducible refine eC ?_ ?_ | with_reducible refine eA λ_=>?_ | with_reducible refine eB λ_=>?_ | exact rfl
def w87 (bI:Y88)(cR:Y135)(m136:Y136)(m124:Y124)(iS:Y138)(L:Nat)(x:(N10×M9)):Option Int:=g87 bI cR m136 m124 iS L x.1 x.2.1 x.2.2.1 x.2.2.2.1 x.2.2.2.2.1 x.2.2.2.2.2.1 x.2.2.2.2.2.2.1 x.2.2.2.2.2.2.2.1 x.2.2.2.2.2.2.2.2.1 x.2.2.2.2.2.2.2.2.2
theorem s87 (bI:Y88)(cR:Y135)(m136:Y136)(m124:Y124)(iS:Y138)(h88:Sat prog cxT 88 (vE bI))(h135:Sat prog cxT 135 (aCM cR))(h136:Sat prog cxT 136 (aFP m136))(h124:Sat prog cxT 124 (aFR m124))(h138:Sat prog cxT 138 (aI4 iS))(m:Y87)(hm:∀ (x:(N10×M9)) t,m x=some t->∃ L,w87 bI cR m136 m124 iS L x=some t):Sat prog cxT 87 (c87 m):=
 cF bD aZ (by rfl) (fn:=f87) rfl a87 n87 aRK m (aQ7 bI cR m136 m124 iS) (aN h88 (aN h135 (aN h136 (aN h124 (aN h138 aY))))) aR (w87 bI cR m136 m124 iS) (λL x=>e87 bI cR m136 m124 iS L x.1 x.2.1 x.2.2.1 x.2.2.2.1 x.2.2.2.2.1 x.2.2.2.2.2.1 x.2.2.2.2.2.2.1 x.2.2.2.2.2.2.2.1 x.2.2.2.2.2.2.2.2.1 x.2.2.2.2.2.2.2.2.2) hm aV5
def iO (dX:Y85)(eE:Y86)(eH:Y87)(bI:Y88)(m89:Y89):Env cxT:={ Kc:=dD [(85,c85 dX),(86,c86 eE),(87,c87 eH),(88,vE bI),(89,c89 m89)],Kw:=dF [],lv:=λi=>if i=0 then[(0,[some 96,some 78,some 66,some 118]),(3,[])]else if i=2 then[(0,[some 96,some 78,some 66,some 118]),(5,[])]else if i=4 then[(0,[some 96,some 78,some 66,some 118]),(7,[])]else if i=6 then[(0,[some 96,some 78,some 66,some 118]),(8,[])]else[],xv:=λi=>if i=0 then some [(0,[some 96,some 78,some 66,some 118])]else if i=2 then some [(0,[some 96,some 78,some 66,some 118])]else if i=4 then some [(0,[some 96,some 78,some 66,some 118])]else if i=6 then some []else none }
def S39_0 (a0:C4)(v0_3:Int):St cxT.ty:={ slots:=[(.inr (.inr { kind:=2,nm:=0,cells:=[],s:={ own:=0,nm:=0,e:=35,o:=false,xs:=(List.cons a0 []) },i:=0,off:=0 })),aK,aK,(.inl (.inl (lv (.int .i64 v0_3))))]++List.replicate 194 aK,D:=[],F:=[],ctr:=1 }
def X39_0 (a0:C4):St cxT.ty:={ slots:=[(.inr (.inr { kind:=2,nm:=0,cells:=[],s:={ own:=0,nm:=0,e:=35,o:=false,xs:=(List.cons a0 []) },i:=0,off:=0 }))]++List.replicate 197 aK,D:=[],F:=[],ctr:=1 }
def S39_2 (a0:C4)(v2_5:Int):St cxT.ty:={ slots:=[(.inr (.inr { kind:=2,nm:=0,cells:=[],s:={ own:=0,nm:=0,e:=35,o:=false,xs:=(List.cons a0 []) },i:=0,off:=0 })),aK,aK,aK,aK,(.inl (.inl (lv (.int .i64 v2_5))))]++List.replicate 192 aK,D:=[],F:=[],ctr:=1 }
def X39_2 (a0:C4):St cxT.ty:={ slots:=[(.inr (.inr { kind:=2,nm:=0,cells:=[],s:={ own:=0,nm:=0,e:=35,o:=false,xs:=(List.cons a0 []) },i:=0,off:=0 }))]++List.replicate 197 aK,D:=[],F:=[],ctr:=1 }
def S39_4 (a0:C4)(v4_7:Int):St cxT.ty:={ slots:=[(.inr (.inr { kind:=2,nm:=0,cells:=[],s:={ own:=0,nm:=0,e:=35,o:=false,xs:=(List.cons a0 []) },i:=0,off:=0 })),aK,aK,aK,aK,aK,aK,(.inl (.inl (lv (.int .i64 v4_7))))]++List.replicate 190 aK,D:=[],F:=[],ctr:=1 }
def X39_4 (a0:C4):St cxT.ty:={ slots:=[(.inr (.inr { kind:=2,nm:=0,cells:=[],s:={ own:=0,nm:=0,e:=35,o:=false,xs:=(List.cons a0 []) },i:=0,off:=0 }))]++List.replicate 197 aK,D:=[],F:=[],ctr:=1 }
def S39_6 (a0:C4)(v6_8:Int):St cxT.ty:={ slots:=[(.inr (.inr { kind:=2,nm:=0,cells:=[],s:={ own:=0,nm:=0,e:=35,o:=false,xs:=(List.cons a0 []) },i:=0,off:=0 })),aK,aK,aK,aK,aK,aK,aK,(.inl (.inl (lv (.int .i64 v6_8))))]++List.replicate 189 aK,D:=[],F:=[],ctr:=1 }
def X39_6 (a0:C4):St cxT.ty:={ slots:=[]++List.replicate 198 aK,D:=[],F:=[],ctr:=1 }
def G39 {B:Type}(u:Int->B)(hh0:Int->Option B)(dX:Y85)(eE:Y86)(eH:Y87)(bI:Y88)(m89:Y89)(a0:C4):Option B:=
 bif (decide ((Nat.cast (List.length a0.1):Int) < (1:Int)))then some (u (2:Int))
 else bif (decide ((Nat.cast (List.length a0.1):Int) > (5:Int)))then some (u (2:Int))
 else bif (decide ((Nat.cast (List.length a0.2.1):Int) > (80:Int)))then some (u (2:Int))
 else hh0 (0:Int)
def B39_0 {B:Type}(u:Int->B)(gg:Int->Option B)(kk:Option B)(dX:Y85)(eE:Y86)(eH:Y87)(bI:Y88)(m89:Y89)(a0:C4)(v0_3:Int):Option B:=
 bif (decide (v0_3 < (Nat.cast (List.length a0.1):Int)))then fB a0 λs1_0=>fB (List.getD s1_0.1 v0_3.toNat ((0:Int),((0:Int),((0:Int),((0:Int),(([]:List E9),((0:Int),((0:Int),(([]:List (Int)),(([]:List (Int)),([]:List (Int)))))))))))) λs1_1=>bif ((decide ((0:Int)<=v0_3))&&(decide (v0_3 < (Nat.cast (List.length s1_0.1):Int))))then dL (dX s1_1) (0:Int) λ(q3:Int)=>bif (q3 != (0:Int))then some (u q3)
    else bif ((decide ((0:Int)<=v0_3))&&(decide (v0_3 < (Nat.cast (List.length s1_0.1):Int))))then bif (s1_1.1 != v0_3)then some (u (1:Int))
     else bif ((decide ((0:Int)<=v0_3))&&(decide (v0_3 < (Nat.cast (List.length s1_0.1):Int))))then bif (s1_1.2.1 != (Nat.cast (List.length s1_0.1):Int))then some (u (1:Int))
      else gg (wrap .i64 (v0_3+(1:Int)))
     else none
    else none
  else none
 else kk
def A39_0 {B:Type}(u:Int->B)(hh2:Int->Option B)(dX:Y85)(eE:Y86)(eH:Y87)(bI:Y88)(m89:Y89)(a0:C4):Option B:=
 hh2 (0:Int)
def B39_2 {B:Type}(u:Int->B)(gg:Int->Option B)(kk:Option B)(dX:Y85)(eE:Y86)(eH:Y87)(bI:Y88)(m89:Y89)(a0:C4)(v2_5:Int):Option B:=
 bif (decide (v2_5 < (Nat.cast (List.length a0.2.1):Int)))then fB a0 λs1_0=>fB (List.getD s1_0.2.1 v2_5.toNat ((0:Int),((0:Int),((0:Int),((0:Int),((0:Int),((0:Int),((0:Int),(false,[]))))))))) λs1_1=>fB (List.getD s1_0.1 (Int.toNat s1_1.2.2.1) ((0:Int),((0:Int),((0:Int),((0:Int),(([]:List E9),((0:Int),((0:Int),(([]:List (Int)),(([]:List (Int)),([]:List (Int)))))))))))) λs1_2=>bif ((decide ((0:Int)<=v2_5))&&(decide (v2_5 < (Nat.cast (List.length s1_0.2.1):Int))))then dL (eE (s1_0,s1_1.2.2.1)) false λ(q3:Bool)=>bif (!q3)then some (u (3:Int))
    else bif ((decide ((0:Int)<=v2_5))&&(decide (v2_5 < (Nat.cast (List.length s1_0.2.1):Int))))then bif ((decide ((0:Int)<=s1_1.2.2.1))&&(decide (s1_1.2.2.1 < (Nat.cast (List.length s1_0.1):Int))))then bif ((decide ((0:Int)<=v2_5))&&(decide (v2_5 < (Nat.cast (List.length s1_0.2.1):Int))))then dL (eH (s1_2,(s1_1.1,(s1_1.2.1,(s1_1.2.2.1,(s1_1.2.2.2.1,(s1_1.2.2.2.2.1,(s1_1.2.2.2.2.2.1,(s1_1.2.2.2.2.2.2.1,(s1_1.2.2.2.2.2.2.2.1,s1_1.2.2.2.2.2.2.2.2)))))))))) (0:Int) λ(q7:Int)=>bif (q7 != (0:Int))then some (u q7)
        else gg (wrap .i64 (v2_5+(1:Int)))
      else none
     else none
    else none
  else none
 else kk
def A39_2 {B:Type}(u:Int->B)(hh4:Int->Option B)(dX:Y85)(eE:Y86)(eH:Y87)(bI:Y88)(m89:Y89)(a0:C4):Option B:=
 bif (decide ((Nat.cast (List.length a0.2.2.1):Int) > (400:Int)))then some (u (2:Int))
 else bif (decide ((Nat.cast (List.length a0.2.2.2):Int) > (40:Int)))then some (u (2:Int))
 else hh4 (0:Int)
def B39_4 {B:Type}(u:Int->B)(gg:Int->Option B)(kk:Option B)(dX:Y85)(eE:Y86)(eH:Y87)(bI:Y88)(m89:Y89)(a0:C4)(v4_7:Int):Option B:=
 bif (decide (v4_7 < (Nat.cast (List.length a0.2.2.1):Int)))then fB a0 λs1_0=>fB (List.getD s1_0.2.2.1 v4_7.toNat ((0:Int),(0:Int))) λs1_1=>bif ((decide ((0:Int)<=v4_7))&&(decide (v4_7 < (Nat.cast (List.length s1_0.2.2.1):Int))))then dL (bI (s1_1.1,((1:Int),(100000:Int)))) false λ(q3:Bool)=>bif (!q3)then some (u (3:Int))
    else bif ((decide ((0:Int)<=v4_7))&&(decide (v4_7 < (Nat.cast (List.length s1_0.2.2.1):Int))))then dL (eE (s1_0,s1_1.2)) false λ(q5:Bool)=>bif (!q5)then some (u (3:Int))
      else gg (wrap .i64 (v4_7+(1:Int)))
    else none
  else none
 else kk
def A39_4 {B:Type}(u:Int->B)(hh6:Int->Option B)(dX:Y85)(eE:Y86)(eH:Y87)(bI:Y88)(m89:Y89)(a0:C4):Option B:=
 hh6 (0:Int)
def B39_6 {B:Type}(u:Int->B)(gg:Int->Option B)(kk:Option B)(dX:Y85)(eE:Y86)(eH:Y87)(bI:Y88)(m89:Y89)(a0:C4)(v6_8:Int):Option B:=
 bif (decide (v6_8 < (Nat.cast (List.length a0.2.2.2):Int)))then fB a0 λs1_0=>fB (List.getD s1_0.2.2.2 v6_8.toNat ((0:Int),((0:Int),((0:Int),((0:Int),((0:Int),((0:Int),((0:Int),((0:Int),((0:Int),(0:Int))))))))))) λs1_1=>bif ((decide ((0:Int)<=v6_8))&&(decide (v6_8 < (Nat.cast (List.length s1_0.2.2.2):Int))))then dL (bI (s1_1.1,((1:Int),(100000:Int)))) false λ(q3:Bool)=>bif (!q3)then some (u (3:Int))
    else bif ((decide ((0:Int)<=v6_8))&&(decide (v6_8 < (Nat.cast (List.length s1_0.2.2.2):Int))))then dL (m89 (s1_1.2.1,(s1_1.2.2.1,(s1_1.2.2.2.1,(s1_1.2.2.2.2.1,(s1_1.2.2.2.2.2.1,(s1_1.2.2.2.2.2.2.1,(s1_1.2.2.2.2.2.2.2.1,(s1_1.2.2.2.2.2.2.2.2.1,s1_1.2.2.2.2.2.2.2.2.2))))))))) (0:Int) λ(q5:Int)=>bif (q5 != (0:Int))then some (u q5)
      else gg (wrap .i64 (v6_8+(1:Int)))
    else none
  else none
 else kk
def A39_6 {B:Type}(u:Int->B)(dX:Y85)(eE:Y86)(eH:Y87)(bI:Y88)(m89:Y89)(a0:C4):Option B:=
 some (u (0:Int))
def mN (dX:Y85)(eE:Y86)(eH:Y87)(bI:Y88)(m89:Y89)(L:Nat)(a0:C4):Nat->Int->(Option Int)->Option Int
 | 0,_,_=>none
 | n+1,v6_8,k=>B39_6 (λx=>x) (λv6_8=>mN dX eE eH bI m89 L a0 n v6_8 k) k dX eE eH bI m89 a0 v6_8
theorem aJH (dX:Y85)(eE:Y86)(eH:Y87)(bI:Y88)(m89:Y89)(L:Nat)(a0:C4)(k:St cxT.ty->Option (V cxT.ty))(xk:Nat->St cxT.ty->Option (V cxT.ty))(k':Option Int)(hk:k (X39_6 a0)=(k').map uT):∀ (n:Nat) (v6_8:Int),bL prog (iO dX eE eH bI m89) L f39 6 [1,1,1,1,1,1,0,1,0,0] (cQ (aX prog f39) k xk) n (S39_6 a0 v6_8)=(mN dX eE eH bI m89 L a0 n v6_8 k').map uT
 | 0,_=>rfl
 | n+1,v6_8=>by
  rw[cG];have ih:=aJH dX eE eH bI m89 L a0 k xk k' hk n;refine .trans (b:=B39_6 uT (λv6_8=>(bL prog (iO dX eE eH bI m89) L f39 6 [1,1,1,1,1,1,0,1,0,0] (cQ (aX prog f39) k xk) n) (S39_6 a0 v6_8)) (k (X39_6 a0)) dX eE eH bI m89 a0 v6_8) (by kernel_rfl) ?_;unfold mN B39_6
  repeat' first | with_reducible refine eC ?_ ?_ | with_reducible refine eA λ_=>?_ | with_reducible refine eB λ_=>?_ | with_reducible exact ih _ | with_reducible exact hk | exact rfl
def nH (dX:Y85)(eE:Y86)(eH:Y87)(bI:Y88)(m89:Y89)(L:Nat)(a0:C4):Nat->Int->(Option Int)->Option Int
 | 0,_,_=>none
 | n+1,v4_7,k=>B39_4 (λx=>x) (λv4_7=>nH dX eE eH bI m89 L a0 n v4_7 k) k dX eE eH bI m89 a0 v4_7
theorem aJI (dX:Y85)(eE:Y86)(eH:Y87)(bI:Y88)(m89:Y89)(L:Nat)(a0:C4)(k:St cxT.ty->Option (V cxT.ty))(xk:Nat->St cxT.ty->Option (V cxT.ty))(k':Option Int)(hk:k (X39_4 a0)=(k').map uT):∀ (n:Nat) (v4_7:Int),bL prog (iO dX eE eH bI m89) L f39 4 [1,1,1,1,1,0,1,0,0] (cQ (aX prog f39) k xk) n (S39_4 a0 v4_7)=(nH dX eE eH bI m89 L a0 n v4_7 k').map uT
 | 0,_=>rfl
 | n+1,v4_7=>by
  rw[cG];have ih:=aJI dX eE eH bI m89 L a0 k xk k' hk n;refine .trans (b:=B39_4 uT (λv4_7=>(bL prog (iO dX eE eH bI m89) L f39 4 [1,1,1,1,1,0,1,0,0] (cQ (aX prog f39) k xk) n) (S39_4 a0 v4_7)) (k (X39_4 a0)) dX eE eH bI m89 a0 v4_7) (by kernel_rfl) ?_;unfold nH B39_4
  repeat' first | with_reducible refine eC ?_ ?_ | with_reducible refine eA λ_=>?_ | with_reducible refine eB λ_=>?_ | with_reducible exact ih _ | with_reducible exact hk | exact rfl
def nI (dX:Y85)(eE:Y86)(eH:Y87)(bI:Y88)(m89:Y89)(L:Nat)(a0:C4):Nat->Int->(Option Int)->Option Int
 | 0,_,_=>none
 | n+1,v2_5,k=>B39_2 (λx=>x) (λv2_5=>nI dX eE eH bI m89 L a0 n v2_5 k) k dX eE eH bI m89 a0 v2_5
theorem aJJ (dX:Y85)(eE:Y86)(eH:Y87)(bI:Y88)(m89:Y89)(L:Nat)(a0:C4)(k:St cxT.ty->Option (V cxT.ty))(xk:Nat->St cxT.ty->Option (V cxT.ty))(k':Option Int)(hk:k (X39_2 a0)=(k').map uT):∀ (n:Nat) (v2_5:Int),bL prog (iO dX eE eH bI m89) L f39 2 [1,1,1,0,1,0,0] (cQ (aX prog f39) k xk) n (S39_2 a0 v2_5)=(nI dX eE eH bI m89 L a0 n v2_5 k').map uT
 | 0,_=>rfl
 | n+1,v2_5=>by
  rw[cG];have ih:=aJJ dX eE eH bI m89 L a0 k xk k' hk n;refine .trans (b:=B39_2 uT (λv2_5=>(bL prog (iO dX eE eH bI m89) L f39 2 [1,1,1,0,1,0,0] (cQ (aX prog f39) k xk) n) (S39_2 a0 v2_5)) (k (X39_2 a0)) dX eE eH bI m89 a0 v2_5) (by kernel_rfl) ?_;unfold nI B39_2
  repeat' first | with_reducible refine eC ?_ ?_ | with_reducible refine eA λ_=>?_ | with_reducible refine eB λ_=>?_ | with_reducible exact ih _ | with_reducible exact hk | exact rfl
def pN (dX:Y85)(eE:Y86)(eH:Y87)(bI:Y88)(m89:Y89)(L:Nat)(a0:C4):Nat->Int->(Option Int)->Option Int
 | 0,_,_=>none
 | n+1,v0_3,k=>B39_0 (λx=>x) (λv0_3=>pN dX eE eH bI m89 L a0 n v0_3 k) k dX eE eH bI m89 a0 v0_3
theorem aJK (dX:Y85)(eE:Y86)(eH:Y87)(bI:Y88)(m89:Y89)(L:Nat)(a0:C4)(k:St cxT.ty->Option (V cxT.ty))(xk:Nat->St cxT.ty->Option (V cxT.ty))(k':Option Int)(hk:k (X39_0 a0)=(k').map uT):∀ (n:Nat) (v0_3:Int),bL prog (iO dX eE eH bI m89) L f39 0 [1,1,0,1,0,0] (cQ (aX prog f39) k xk) n (S39_0 a0 v0_3)=(pN dX eE eH bI m89 L a0 n v0_3 k').map uT
 | 0,_=>rfl
 | n+1,v0_3=>by
  rw[cG];have ih:=aJK dX eE eH bI m89 L a0 k xk k' hk n;refine .trans (b:=B39_0 uT (λv0_3=>(bL prog (iO dX eE eH bI m89) L f39 0 [1,1,0,1,0,0] (cQ (aX prog f39) k xk) n) (S39_0 a0 v0_3)) (k (X39_0 a0)) dX eE eH bI m89 a0 v0_3) (by kernel_rfl) ?_;unfold pN B39_0
  repeat' first | with_reducible refine eC ?_ ?_ | with_reducible refine eA λ_=>?_ | with_reducible refine eB λ_=>?_ | with_reducible exact ih _ | with_reducible exact hk | exact rfl
def g39 (dX:Y85)(eE:Y86)(eH:Y87)(bI:Y88)(m89:Y89)(L:Nat)(a0:C4):Option Int:=G39 (λx=>x) (λv0_3=>pN dX eE eH bI m89 L a0 L v0_3 (A39_0 (λx=>x) (λv2_5=>nI dX eE eH bI m89 L a0 L v2_5 (A39_2 (λx=>x) (λv4_7=>nH dX eE eH bI m89 L a0 L v4_7 (A39_4 (λx=>x) (λv6_8=>mN dX eE eH bI m89 L a0 L v6_8 (A39_6 (λx=>x) dX eE eH bI m89 a0)) dX eE eH bI m89 a0)) dX eE eH bI m89 a0)) dX eE eH bI m89 a0)) dX eE eH bI m89 a0
theorem e39 (dX:Y85)(eE:Y86)(eH:Y87)(bI:Y88)(m89:Y89)(L:Nat)(a0:C4):fP prog (iO dX eE eH bI m89) (bO L) f39 (a39.enc a0)=(g39 dX eE eH bI m89 L a0).map uT:=by
 have hin6:∀ (v6_8:Int),bL prog (iO dX eE eH bI m89) L f39 6 [1,1,1,1,1,1,0,1,0,0] (cQ (aX prog f39) (cO prog (iO dX eE eH bI m89) L f39 [1,1,1,1,1,1,0,1] (aX prog f39)).n (cO prog (iO dX eE eH bI m89) L f39 [1,1,1,1,1,1,0,1] (aX prog f39)).x) L (S39_6 a0 v6_8)=((λv6_8=>mN dX eE eH bI m89 L a0 L v6_8 (A39_6 (λx=>x) dX eE eH bI m89 a0)) v6_8).map uT:=λv6_8=>aJH dX eE eH bI m89 L a0 _ _ _ (by refine .trans (b:=A39_6 uT dX eE eH bI m89 a0) (by kernel_rfl) ?_;unfold A39_6;repeat' first | with_reducible refine eC ?_ ?_ | with_reducible refine eA λ_=>?_ | with_reducible refine eB λ_=>?_ | exact rfl) L v6_8
 have hin4:∀ (v4_7:Int),bL prog (iO dX eE eH bI m89) L f39 4 [1,1,1,1,1,0,1,0,0] (cQ (aX prog f39) (cO prog (iO dX eE eH bI m89) L f39 [1,1,1,1,1,0,1] (aX prog f39)).n (cO prog (iO dX eE eH bI m89) L f39 [1,1,1,1,1,0,1] (aX prog f39)).x) L (S39_4 a0 v4_7)=((λv4_7=>nH dX eE eH bI m89 L a0 L v4_7 (A39_4 (λx=>x) (λv6_8=>mN dX eE eH bI m89 L a0 L v6_8 (A39_6 (λx=>x) dX eE eH bI m89 a0)) dX eE eH bI m89 a0)) v4_7).map uT:=λv4_7=>aJI dX eE eH bI m89 L a0 _ _ _ (by refine .trans (b:=A39_4 uT (λv6_8=>bL prog (iO dX eE eH bI m89) L f39 6 [1,1,1,1,1,1,0,1,0,0] (cQ (aX prog f39) (cO prog (iO dX eE eH bI m89) L f39 [1,1,1,1,1,1,0,1] (aX prog f39)).n (cO prog (iO dX eE eH bI m89) L f39 [1,1,1,1,1,1,0,1] (aX prog f39)).x) L (S39_6 a0 v6_8)) dX eE eH bI m89 a0) (by kernel_rfl) ?_;unfold A39_4;repeat' first | with_reducible refine eC ?_ ?_ | with_reducible refine eA λ_=>?_ | with_reducible refine eB λ_=>?_ | with_reducible exact hin6 _ | exact rfl) L v4_7
 have hin2:∀ (v2_5:Int),bL prog (iO dX eE eH bI m89) L f39 2 [1,1,1,0,1,0,0] (cQ (aX prog f39) (cO prog (iO dX eE eH bI m89) L f39 [1,1,1,0,1] (aX prog f39)).n (cO prog (iO dX eE eH bI m89) L f39 [1,1,1,0,1] (aX prog f39)).x) L (S39_2 a0 v2_5)=((λv2_5=>nI dX eE eH bI m89 L a0 L v2_5 (A39_2 (λx=>x) (λv4_7=>nH dX eE eH bI m89 L a0 L v4_7 (A39_4 (λx=>x) (λv6_8=>mN dX eE eH bI m89 L a0 L v6_8 (A39_6 (λx=>x) dX eE eH bI m89 a0)) dX eE eH bI m89 a0)) dX eE eH bI m89 a0)) v2_5).map uT:=λv2_5=>aJJ dX eE eH bI m89 L a0 _ _ _ (by refine .trans (b:=A39_2 uT (λv4_7=>bL prog (iO dX eE eH bI m89) L f39 4 [1,1,1,1,1,0,1,0,0] (cQ (aX prog f39) (cO prog (iO dX eE eH bI m89) L f39 [1,1,1,1,1,0,1] (aX prog f39)).n (cO prog (iO dX eE eH bI m89) L f39 [1,1,1,1,1,0,1] (aX prog f39)).x) L (S39_4 a0 v4_7)) dX eE eH bI m89 a0) (by kernel_rfl) ?_;unfold A39_2;repeat' first | with_reducible refine eC ?_ ?_ | with_reducible refine eA λ_=>?_ | with_reducible refine eB λ_=>?_ | with_reducible exact hin6 _ | with_reducible exact hin4 _ | exact rfl) L v2_5
 have hin0:∀ (v0_3:Int),bL prog (iO dX eE eH bI m89) L f39 0 [1,1,0,1,0,0] (cQ (aX prog f39) (cO prog (iO dX eE eH bI m89) L f39 [1,1,0,1] (aX prog f39)).n (cO prog (iO dX eE eH bI m89) L f39 [1,1,0,1] (aX prog f39)).x) L (S39_0 a0 v0_3)=((λv0_3=>pN dX eE eH bI m89 L a0 L v0_3 (A39_0 (λx=>x) (λv2_5=>nI dX eE eH bI m89 L a0 L v2_5 (A39_2 (λx=>x) (λv4_7=>nH dX eE eH bI m89 L a0 L v4_7 (A39_4 (λx=>x) (λv6_8=>mN dX eE eH bI m89 L a0 L v6_8 (A39_6 (λx=>x) dX eE eH bI m89 a0)) dX eE eH bI m89 a0)) dX eE eH bI m89 a0)) dX eE eH bI m89 a0)) v0_3).map uT:=λv0_3=>aJK dX eE eH bI m89 L a0 _ _ _ (by refine .trans (b:=A39_0 uT (λv2_5=>bL prog (iO dX eE eH bI m89) L f39 2 [1,1,1,0,1,0,0] (cQ (aX prog f39) (cO prog (iO dX eE eH bI m89) L f39 [1,1,1,0,1] (aX prog f39)).n (cO prog (iO dX eE eH bI m89) L f39 [1,1,1,0,1] (aX prog f39)).x) L (S39_2 a0 v2_5)) dX eE eH bI m89 a0) (by kernel_rfl) ?_;unfold A39_0;repeat' first | with_reducible refine eC ?_ ?_ | with_reducible refine eA λ_=>?_ | with_reducible refine eB λ_=>?_ | with_reducible exact hin6 _ | with_reducible exact hin4 _ | with_reducible exact hin2 _ | exact rfl) L v0_3
 refine .trans (b:=G39 uT (λv0_3=>bL prog (iO dX eE eH bI m89) L f39 0 [1,1,0,1,0,0] (cQ (aX prog f39) (cO prog (iO dX eE eH bI m89) L f39 [1,1,0,1] (aX prog f39)).n (cO prog (iO dX eE eH bI m89) L f39 [1,1,0,1] (aX prog f39)).x) L (S39_0 a0 v0_3)) dX eE eH bI m89 a0) (by kernel_rfl) ?_;unfold g39 G39
 repeat' first | with_reducible refine eC ?_ ?_ | with_reducible refine eA λ_=>?_ | with_reducible refine eB λ_=>?_ | with_reducible exact hin6 _ | with_reducible exact hin4 _ | with_reducible exact hin2 _ | with_reducible exact hin0 _ | exact rfl
def w39 (dX:Y85)(eE:Y86)(eH:Y87)(bI:Y88)(m89:Y89)(L:Nat)(x:C4):Option Int:=g39 dX eE eH bI m89 L x
theorem s39 (dX:Y85)(eE:Y86)(eH:Y87)(bI:Y88)(m89:Y89)(h85:Sat prog cxT 85 (c85 dX))(h86:Sat prog cxT 86 (c86 eE))(h87:Sat prog cxT 87 (c87 eH))(h88:Sat prog cxT 88 (vE bI))(h89:Sat prog cxT 89 (c89 m89))(m:Y39)(hm:∀ (x:C4) t,m x=some t->∃ L,w39 dX eE eH bI m89 L x=some t):Sat prog cxT 39 (c39 m):=
 cF bD aZ (by rfl) (fn:=f39) rfl a39 uT aR3 m (iO dX eE eH bI m89) (aN h85 (aN h86 (aN h87 (aN h88 (aN h89 aY))))) aR (w39 dX eE eH bI m89) (λL x=>e39 dX eE eH bI m89 L x) hm aWo
def aRj (qW:Y39):Env cxT:={ Kc:=dD [(39,c39 qW)],Kw:=dF [],lv:=λi=>[],xv:=λi=>none }
def G12 {B:Type}(u:Int->B)(qW:Y39)(a0_0:(List N10))(a0_1:(List M9))(a0_2:(List W2))(a0_3:(List S10)):Option B:=
 dL (qW (a0_0,(a0_1,(a0_2,a0_3)))) (0:Int) λ(q1:Int)=>some (u q1)
def g12 (qW:Y39)(L:Nat)(a0_0:(List N10))(a0_1:(List M9))(a0_2:(List W2))(a0_3:(List S10)):Option Int:=G12 (λx=>x) qW a0_0 a0_1 a0_2 a0_3
theorem e12 (qW:Y39)(L:Nat)(a0_0:(List N10))(a0_1:(List M9))(a0_2:(List W2))(a0_3:(List S10)):fP prog (aRj qW) (bO L) f12 (a12.enc (a0_0,a0_1,a0_2,a0_3))=(g12 qW L a0_0 a0_1 a0_2 a0_3).map n12:=by
 refine .trans (b:=G12 n12 qW a0_0 a0_1 a0_2 a0_3) (by kernel_rfl) ?_;unfold g12 G12
 repeat' first | with_reducible refine eC ?_ ?_ | with_reducible refine eA λ_=>?_ | with_reducible refine eB λ_=>?_ | exact rfl
def w12 (qW:Y39)(L:Nat)(x:C4):Option Int:=g12 qW L x.1 x.2.1 x.2.2.1 x.2.2.2
theorem s12 (qW:Y39)(h39:Sat prog cxT 39 (c39 qW))(m:Y12)(hm:∀ (x:C4) t,m x=some t->∃ L,w12 qW L x=some t):Sat prog cxT 12 (c12 m):=
 cF bD aZ (by rfl) (fn:=f12) rfl a12 n12 aSe m (aRj qW) (aN h39 aY) aR (w12 qW) (λL x=>e12 qW L x.1 x.2.1 x.2.2.1 x.2.2.2) hm aWx
end Go.Proofs.Tryz
