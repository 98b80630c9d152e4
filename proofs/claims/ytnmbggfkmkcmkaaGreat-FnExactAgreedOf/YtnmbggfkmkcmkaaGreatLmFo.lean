/- A part of the proof of FnExactLeaderOf: LmFo, LmFp. -/
import Derived.Test.YtnmbggfkmkcmkaaGreatLmBase
set_option linter.unusedSimpArgs false
set_option linter.unusedVariables false
set_option maxHeartbeats 0
set_option maxRecDepth 100000
namespace Go.Proofs.Tryz
open Go.IntKind (wrap)
open Go Go.VM Go.RowKit
def bAw (m42:Y42)(m43:Y43):Env cxT:={ Kc:=cR [(42,c42 m42),(43,c43 m43)],Kw:=cQ [],lv:=λi=>[],xv:=λi=>none }
def G13 {B:Type}(u:Bool->B)(m42:Y42)(m43:Y43)(a0_0:(List N10))(a0_1:(List M9))(a0_2:(List W2))(a0_3:(List S10)):Option B:=
 cU (m42 (a0_0,(a0_1,(a0_2,a0_3)))) (0:Int) λ(q1:Int)=>bif (q1 == (0:Int))then cU (m43 (a0_2,PUnit.unit)) false λ(q3:Bool)=>some (u q3)
  else some (u false)
def g13 (m42:Y42)(m43:Y43)(L:Nat)(a0_0:(List N10))(a0_1:(List M9))(a0_2:(List W2))(a0_3:(List S10)):Option Bool:=G13 (λx=>x) m42 m43 a0_0 a0_1 a0_2 a0_3
theorem e13 (m42:Y42)(m43:Y43)(L:Nat)(a0_0:(List N10))(a0_1:(List M9))(a0_2:(List W2))(a0_3:(List S10)):fP prog (bAw m42 m43) (bJ L) f13 (a13.enc (a0_0,a0_1,a0_2,a0_3))=(g13 m42 m43 L a0_0 a0_1 a0_2 a0_3).map n13:=by
 refine .trans (b:=G13 n13 m42 m43 a0_0 a0_1 a0_2 a0_3) (by kernel_rfl) ?_;unfold g13 G13
 repeat' first | with_reducible refine dP ?_ ?_ | with_reducible refine dL λ_=>?_ | with_reducible refine dO λ_=>?_ | exact rfl
def aBx:Env cxT:={ Kc:=cR [],Kw:=cQ [],lv:=λi=>if i=0 then[(3,[some 102]),(6,[some 104]),(7,[]),(8,[])]else[],xv:=λi=>if i=0 then some [(3,[some 102])]else none }
def S53_0 (a0:(List S10))(v0_3:(List E9))(v0_8:Int):St cxT.ty:={ slots:=[aJ,aJ,aJ,(.inl (.inl (ls { own:=1,nm:=192,e:=102,o:=true,xs:=v0_3 }))),aJ,aJ,(.inl (.inl (ls { own:=0,nm:=0,e:=104,o:=false,xs:=a0 }))),(.inl (.inl (lv (.int .i64 (Nat.cast (List.length a0):Int))))),(.inl (.inl (lv (.int .i64 v0_8))))]++List.replicate 10 aJ,D:=[],F:=[],ctr:=1 }
def X53_0 (a0:(List S10))(w0_3:(List E9)):St cxT.ty:={ slots:=[aJ,aJ,aJ,(.inl (.inl (ls { own:=1,nm:=192,e:=102,o:=true,xs:=w0_3 })))]++List.replicate 15 aJ,D:=[],F:=[],ctr:=1 }
def G53 {B:Type}(u:(List E9)->B)(hh0:(List E9)->Int->Option B)(a0:(List S10)):Option B:=
 hh0 [] (0:Int)
def B53_0 {B:Type}(u:(List E9)->B)(gg:(List E9)->Int->Option B)(kk:(List E9)->Option B)(a0:(List S10))(v0_3:(List E9))(v0_8:Int):Option B:=
 bif (decide (v0_8 < (Nat.cast (List.length a0):Int)))then dX (List.getD a0 v0_8.toNat ((0:Int),((0:Int),((0:Int),((0:Int),((0:Int),((0:Int),((0:Int),((0:Int),((0:Int),(0:Int))))))))))) λs1_0=>bif ((decide ((0:Int)<=v0_8))&&(decide (v0_8 < (Nat.cast (List.length a0):Int))))then bif (decide (((List.length v0_3)+(List.length (List.cons (s1_0.2.1,(s1_0.2.2.1,(s1_0.2.2.2.1,(s1_0.2.2.2.2.1,(s1_0.2.2.2.2.2.1,(s1_0.2.2.2.2.2.2.1,(s1_0.2.2.2.2.2.2.2.1,(s1_0.2.2.2.2.2.2.2.2.1,s1_0.2.2.2.2.2.2.2.2.2)))))))) [])))<=(1000000000:Nat)))then gg (v0_3++(List.cons (s1_0.2.1,(s1_0.2.2.1,(s1_0.2.2.2.1,(s1_0.2.2.2.2.1,(s1_0.2.2.2.2.2.1,(s1_0.2.2.2.2.2.2.1,(s1_0.2.2.2.2.2.2.2.1,(s1_0.2.2.2.2.2.2.2.2.1,s1_0.2.2.2.2.2.2.2.2.2)))))))) [])) (wrap .i64 (v0_8+(1:Int)))
   else none
  else none
 else kk v0_3
def A53_0 {B:Type}(u:(List E9)->B)(a0:(List S10))(w0_3:(List E9)):Option B:=
 some (u w0_3)
def xD (L:Nat)(a0:(List S10)):Nat->(List E9)->Int->((List E9)->Option (List E9))->Option (List E9)
 | 0,_,_,_=>none
 | n+1,v0_3,v0_8,k=>B53_0 (λx=>x) (λv0_3 v0_8=>xD L a0 n v0_3 v0_8 k) k a0 v0_3 v0_8
theorem aLG (L:Nat)(a0:(List S10))(k:St cxT.ty->Option (V cxT.ty))(xk:Nat->St cxT.ty->Option (V cxT.ty))(k':(List E9)->Option (List E9))(hk:∀ (w0_3:(List E9)),k (X53_0 a0 w0_3)=(k' w0_3).map n53):∀ (n:Nat) (v0_3:(List E9)) (v0_8:Int),bA prog aBx L f53 0 [1,1,0,1,0,0] (cB (aY prog f53) k xk) n (S53_0 a0 v0_3 v0_8)=(xD L a0 n v0_3 v0_8 k').map n53
 | 0,_,_=>rfl
 | n+1,v0_3,v0_8=>by
  rw[bQ];have ih:=aLG L a0 k xk k' hk n;refine .trans (b:=B53_0 n53 (λv0_3 v0_8=>(bA prog aBx L f53 0 [1,1,0,1,0,0] (cB (aY prog f53) k xk) n) (S53_0 a0 v0_3 v0_8)) (λw0_3=>k (X53_0 a0 w0_3)) a0 v0_3 v0_8) (by kernel_rfl) ?_;unfold xD B53_0
  repeat' first | with_reducible refine dP ?_ ?_ | with_reducible refine dL λ_=>?_ | with_reducible refine dO λ_=>?_ | with_reducible exact ih _ _ | with_reducible exact hk _ | exact rfl
def g53 (L:Nat)(a0:(List S10)):Option (List E9):=G53 (λx=>x) (λv0_3 v0_8=>xD L a0 L v0_3 v0_8 (λw0_3=>A53_0 (λx=>x) a0 w0_3)) a0
theorem e53 (L:Nat)(a0:(List S10)):fP prog aBx (bJ L) f53 (a53.enc a0)=(g53 L a0).map n53:=by
 have hin0:∀ (v0_3:(List E9)) (v0_8:Int),bA prog aBx L f53 0 [1,1,0,1,0,0] (cB (aY prog f53) (cA prog aBx L f53 [1,1,0,1] (aY prog f53)).n (cA prog aBx L f53 [1,1,0,1] (aY prog f53)).x) L (S53_0 a0 v0_3 v0_8)=((λv0_3 v0_8=>xD L a0 L v0_3 v0_8 (λw0_3=>A53_0 (λx=>x) a0 w0_3)) v0_3 v0_8).map n53:=λv0_3 v0_8=>aLG L a0 _ _ _ (λw0_3=>by refine .trans (b:=A53_0 n53 a0 w0_3) (by kernel_rfl) ?_;unfold A53_0;repeat' first | with_reducible refine dP ?_ ?_ | with_reducible refine dL λ_=>?_ | with_reducible refine dO λ_=>?_ | exact rfl) L v0_3 v0_8
 refine .trans (b:=G53 n53 (λv0_3 v0_8=>bA prog aBx L f53 0 [1,1,0,1,0,0] (cB (aY prog f53) (cA prog aBx L f53 [1,1,0,1] (aY prog f53)).n (cA prog aBx L f53 [1,1,0,1] (aY prog f53)).x) L (S53_0 a0 v0_3 v0_8)) a0) (by kernel_rfl) ?_;unfold g53 G53
 repeat' first | with_reducible refine dP ?_ ?_ | with_reducible refine dL λ_=>?_ | with_reducible refine dO λ_=>?_ | with_reducible exact hin0 _ _ | exact rfl
def w53 (L:Nat)(x:(List S10)):Option (List E9):=g53 L x
theorem s53 (m:Y53)(hm:∀ (x:(List S10)) t,m x=some t->∃ L,w53 L x=some t):Sat prog cxT 53 (c53 m):=
 cF bC aX (by rfl) (fn:=f53) rfl a53 n53 aUO m aBx aW aQ (w53) (λL x=>e53 L x) hm aZG
def aTN (m42:Y42)(yG:Y53):Env cxT:={ Kc:=cR [(42,c42 m42),(53,c53 yG)],Kw:=cQ [],lv:=λi=>[],xv:=λi=>none }
def G24 {B:Type}(u:(Int×(List E9))->B)(m42:Y42)(yG:Y53)(a0_0:(List N10))(a0_1:(List M9))(a0_2:(List W2))(a0_3:(List S10)):Option B:=
 cU (m42 (a0_0,(a0_1,(a0_2,a0_3)))) (0:Int) λ(q1:Int)=>bif (q1 != (0:Int))then some (u (q1,[]))
  else cU (yG a0_3) [] λ(q2:(List E9))=>some (u ((0:Int),q2))
def g24 (m42:Y42)(yG:Y53)(L:Nat)(a0_0:(List N10))(a0_1:(List M9))(a0_2:(List W2))(a0_3:(List S10)):Option (Int×(List E9)):=G24 (λx=>x) m42 yG a0_0 a0_1 a0_2 a0_3
theorem e24 (m42:Y42)(yG:Y53)(L:Nat)(a0_0:(List N10))(a0_1:(List M9))(a0_2:(List W2))(a0_3:(List S10)):fP prog (aTN m42 yG) (bJ L) f24 (a24.enc (a0_0,a0_1,a0_2,a0_3))=(g24 m42 yG L a0_0 a0_1 a0_2 a0_3).map n24:=by
 refine .trans (b:=G24 n24 m42 yG a0_0 a0_1 a0_2 a0_3) (by kernel_rfl) ?_;unfold g24 G24
 repeat' first | with_reducible refine dP ?_ ?_ | with_reducible refine dL λ_=>?_ | with_reducible refine dO λ_=>?_ | exact rfl
def w24 (m42:Y42)(yG:Y53)(L:Nat)(x:C4):Option (Int×(List E9)):=g24 m42 yG L x.1 x.2.1 x.2.2.1 x.2.2.2
theorem s24 (m42:Y42)(yG:Y53)(h42:Sat prog cxT 42 (c42 m42))(h53:Sat prog cxT 53 (c53 yG))(m:Y24)(hm:∀ (x:C4) t,m x=some t->∃ L,w24 m42 yG L x=some t):Sat prog cxT 24 (c24 m):=
 cF bC aX (by rfl) (fn:=f24) rfl a24 n24 aU8 m (aTN m42 yG) (aL h42 (aL h53 aW)) aQ (w24 m42 yG) (λL x=>e24 m42 yG L x.1 x.2.1 x.2.2.1 x.2.2.2) hm aZ1
end Go.Proofs.Tryz
set_option maxHeartbeats 0
set_option maxRecDepth 100000
namespace Go.Proofs.Tryz
open Go.IntKind (wrap)
open Go Go.VM Go.RowKit
def ev3 (gH:Y10)(fK:Y12)(m11:Y11)(m13:Y13)(gI:Y14):Env cxT:={ Kc:=cR [(10,c10 gH),(12,c12 fK),(11,c11 m11),(13,c13 m13),(14,c14 gI)],Kw:=cQ [],lv:=λi=>[],xv:=λi=>none }
def G3 {B:Type}(u:Bool->B)(gH:Y10)(fK:Y12)(m11:Y11)(m13:Y13)(gI:Y14)(a0_0:(List N10))(a0_1:(List M9))(a0_2:(List W2))(a0_3:(List S10)):Option B:=
 cU (gH (((a0_0,(a0_1,(a0_2,a0_3))).1,((a0_0,(a0_1,(a0_2,a0_3))).2.1,((a0_0,(a0_1,(a0_2,a0_3))).2.2.1,(a0_0,(a0_1,(a0_2,a0_3))).2.2.2))),(1048576:Int))) (0:Int) λ(q1:Int)=>bif (decide (q1 < (0:Int)))then some (u true)
  else cU (fK ((a0_0,(a0_1,(a0_2,a0_3))).1,((a0_0,(a0_1,(a0_2,a0_3))).2.1,((a0_0,(a0_1,(a0_2,a0_3))).2.2.1,(a0_0,(a0_1,(a0_2,a0_3))).2.2.2)))) ([],[],[],[]) λ(q2:C4)=>cU (m11 (q2.1,(q2.2.1,(q2.2.2.1,q2.2.2.2)))) false λ(q3:Bool)=>cU (fK ((a0_0,(a0_1,(a0_2,a0_3))).1,((a0_0,(a0_1,(a0_2,a0_3))).2.1,((a0_0,(a0_1,(a0_2,a0_3))).2.2.1,(a0_0,(a0_1,(a0_2,a0_3))).2.2.2)))) ([],[],[],[]) λ(q4:C4)=>cU (m13 (q2.1,(q2.2.1,(q2.2.2.1,q2.2.2.2)))) false λ(q5:Bool)=>bif (!(q5 == q3))then some (u false)
      else cU (fK ((a0_0,(a0_1,(a0_2,a0_3))).1,((a0_0,(a0_1,(a0_2,a0_3))).2.1,((a0_0,(a0_1,(a0_2,a0_3))).2.2.1,(a0_0,(a0_1,(a0_2,a0_3))).2.2.2)))) ([],[],[],[]) λ(q6:C4)=>cU (gI ((q2.1,(q2.2.1,(q2.2.2.1,q2.2.2.2))),(q2.1,(q2.2.1,(q2.2.2.1,q2.2.2.2))))) false λ(q7:Bool)=>bif (!q7)then some (u false)
        else some (u true)
def g3 (gH:Y10)(fK:Y12)(m11:Y11)(m13:Y13)(gI:Y14)(L:Nat)(a0_0:(List N10))(a0_1:(List M9))(a0_2:(List W2))(a0_3:(List S10)):Option Bool:=G3 (λx=>x) gH fK m11 m13 gI a0_0 a0_1 a0_2 a0_3
theorem e3 (gH:Y10)(fK:Y12)(m11:Y11)(m13:Y13)(gI:Y14)(L:Nat)(a0_0:(List N10))(a0_1:(List M9))(a0_2:(List W2))(a0_3:(List S10)):aBe prog (ev3 gH fK m11 m13 gI) (bJ L) f3 (a3.enc (a0_0,a0_1,a0_2,a0_3))=(g3 gH fK m11 m13 gI L a0_0 a0_1 a0_2 a0_3).map n3:=by
 refine .trans (b:=G3 n3 gH fK m11 m13 gI a0_0 a0_1 a0_2 a0_3) (by kernel_rfl) ?_;unfold g3 G3
 repeat' first | with_reducible refine dP ?_ ?_ | with_reducible refine dL λ_=>?_ | with_reducible refine dO λ_=>?_ | exact rfl
def w3 (gH:Y10)(fK:Y12)(m11:Y11)(m13:Y13)(gI:Y14)(L:Nat)(x:C4):Option Bool:=g3 gH fK m11 m13 gI L x.1 x.2.1 x.2.2.1 x.2.2.2
def ev4 (gH:Y10)(fK:Y12)(m15:Y15)(m16:Y16)(gI:Y14):Env cxT:={ Kc:=cR [(10,c10 gH),(12,c12 fK),(15,c15 m15),(16,c16 m16),(14,c14 gI)],Kw:=cQ [],lv:=λi=>[],xv:=λi=>none }
def G4 {B:Type}(u:Bool->B)(gH:Y10)(fK:Y12)(m15:Y15)(m16:Y16)(gI:Y14)(a0_0:(List N10))(a0_1:(List M9))(a0_2:(List W2))(a0_3:(List S10)):Option B:=
 cU (gH (((a0_0,(a0_1,(a0_2,a0_3))).1,((a0_0,(a0_1,(a0_2,a0_3))).2.1,((a0_0,(a0_1,(a0_2,a0_3))).2.2.1,(a0_0,(a0_1,(a0_2,a0_3))).2.2.2))),(1048576:Int))) (0:Int) λ(q1:Int)=>bif (decide (q1 < (0:Int)))then some (u true)
  else cU (fK ((a0_0,(a0_1,(a0_2,a0_3))).1,((a0_0,(a0_1,(a0_2,a0_3))).2.1,((a0_0,(a0_1,(a0_2,a0_3))).2.2.1,(a0_0,(a0_1,(a0_2,a0_3))).2.2.2)))) ([],[],[],[]) λ(q2:C4)=>cU (m15 (q2.1,(q2.2.1,(q2.2.2.1,q2.2.2.2)))) false λ(q3:Bool)=>cU (fK ((a0_0,(a0_1,(a0_2,a0_3))).1,((a0_0,(a0_1,(a0_2,a0_3))).2.1,((a0_0,(a0_1,(a0_2,a0_3))).2.2.1,(a0_0,(a0_1,(a0_2,a0_3))).2.2.2)))) ([],[],[],[]) λ(q4:C4)=>cU (m16 (q2.1,(q2.2.1,(q2.2.2.1,q2.2.2.2)))) false λ(q5:Bool)=>bif (!(q5 == q3))then some (u false)
      else cU (fK ((a0_0,(a0_1,(a0_2,a0_3))).1,((a0_0,(a0_1,(a0_2,a0_3))).2.1,((a0_0,(a0_1,(a0_2,a0_3))).2.2.1,(a0_0,(a0_1,(a0_2,a0_3))).2.2.2)))) ([],[],[],[]) λ(q6:C4)=>cU (gI ((q2.1,(q2.2.1,(q2.2.2.1,q2.2.2.2))),(q2.1,(q2.2.1,(q2.2.2.1,q2.2.2.2))))) false λ(q7:Bool)=>bif (!q7)then some (u false)
        else some (u true)
def g4 (gH:Y10)(fK:Y12)(m15:Y15)(m16:Y16)(gI:Y14)(L:Nat)(a0_0:(List N10))(a0_1:(List M9))(a0_2:(List W2))(a0_3:(List S10)):Option Bool:=G4 (λx=>x) gH fK m15 m16 gI a0_0 a0_1 a0_2 a0_3
theorem e4 (gH:Y10)(fK:Y12)(m15:Y15)(m16:Y16)(gI:Y14)(L:Nat)(a0_0:(List N10))(a0_1:(List M9))(a0_2:(List W2))(a0_3:(List S10)):aBe prog (ev4 gH fK m15 m16 gI) (bJ L) f4 (a4.enc (a0_0,a0_1,a0_2,a0_3))=(g4 gH fK m15 m16 gI L a0_0 a0_1 a0_2 a0_3).map n4:=by
 refine .trans (b:=G4 n4 gH fK m15 m16 gI a0_0 a0_1 a0_2 a0_3) (by kernel_rfl) ?_;unfold g4 G4
 repeat' first | with_reducible refine dP ?_ ?_ | with_reducible refine dL λ_=>?_ | with_reducible refine dO λ_=>?_ | exact rfl
def w4 (gH:Y10)(fK:Y12)(m15:Y15)(m16:Y16)(gI:Y14)(L:Nat)(x:C4):Option Bool:=g4 gH fK m15 m16 gI L x.1 x.2.1 x.2.2.1 x.2.2.2
def ev5 (gH:Y10)(fK:Y12)(m17:Y17)(m18:Y18)(gI:Y14):Env cxT:={ Kc:=cR [(10,c10 gH),(12,c12 fK),(17,c17 m17),(18,c18 m18),(14,c14 gI)],Kw:=cQ [],lv:=λi=>[],xv:=λi=>none }
def G5 {B:Type}(u:Bool->B)(gH:Y10)(fK:Y12)(m17:Y17)(m18:Y18)(gI:Y14)(a0_0:(List N10))(a0_1:(List M9))(a0_2:(List W2))(a0_3:(List S10)):Option B:=
 cU (gH (((a0_0,(a0_1,(a0_2,a0_3))).1,((a0_0,(a0_1,(a0_2,a0_3))).2.1,((a0_0,(a0_1,(a0_2,a0_3))).2.2.1,(a0_0,(a0_1,(a0_2,a0_3))).2.2.2))),(1048576:Int))) (0:Int) λ(q1:Int)=>bif (decide (q1 < (0:Int)))then some (u true)
  else cU (fK ((a0_0,(a0_1,(a0_2,a0_3))).1,((a0_0,(a0_1,(a0_2,a0_3))).2.1,((a0_0,(a0_1,(a0_2,a0_3))).2.2.1,(a0_0,(a0_1,(a0_2,a0_3))).2.2.2)))) ([],[],[],[]) λ(q2:C4)=>cU (m17 (q2.1,(q2.2.1,(q2.2.2.1,q2.2.2.2)))) false λ(q3:Bool)=>cU (fK ((a0_0,(a0_1,(a0_2,a0_3))).1,((a0_0,(a0_1,(a0_2,a0_3))).2.1,((a0_0,(a0_1,(a0_2,a0_3))).2.2.1,(a0_0,(a0_1,(a0_2,a0_3))).2.2.2)))) ([],[],[],[]) λ(q4:C4)=>cU (m18 (q2.1,(q2.2.1,(q2.2.2.1,q2.2.2.2)))) false λ(q5:Bool)=>bif (!(q5 == q3))then some (u false)
      else cU (fK ((a0_0,(a0_1,(a0_2,a0_3))).1,((a0_0,(a0_1,(a0_2,a0_3))).2.1,((a0_0,(a0_1,(a0_2,a0_3))).2.2.1,(a0_0,(a0_1,(a0_2,a0_3))).2.2.2)))) ([],[],[],[]) λ(q6:C4)=>cU (gI ((q2.1,(q2.2.1,(q2.2.2.1,q2.2.2.2))),(q2.1,(q2.2.1,(q2.2.2.1,q2.2.2.2))))) false λ(q7:Bool)=>bif (!q7)then some (u false)
        else some (u true)
def g5 (gH:Y10)(fK:Y12)(m17:Y17)(m18:Y18)(gI:Y14)(L:Nat)(a0_0:(List N10))(a0_1:(List M9))(a0_2:(List W2))(a0_3:(List S10)):Option Bool:=G5 (λx=>x) gH fK m17 m18 gI a0_0 a0_1 a0_2 a0_3
theorem e5 (gH:Y10)(fK:Y12)(m17:Y17)(m18:Y18)(gI:Y14)(L:Nat)(a0_0:(List N10))(a0_1:(List M9))(a0_2:(List W2))(a0_3:(List S10)):aBe prog (ev5 gH fK m17 m18 gI) (bJ L) f5 (a5.enc (a0_0,a0_1,a0_2,a0_3))=(g5 gH fK m17 m18 gI L a0_0 a0_1 a0_2 a0_3).map n5:=by
 refine .trans (b:=G5 n5 gH fK m17 m18 gI a0_0 a0_1 a0_2 a0_3) (by kernel_rfl) ?_;unfold g5 G5
 repeat' first | with_reducible refine dP ?_ ?_ | with_reducible refine dL λ_=>?_ | with_reducible refine dO λ_=>?_ | exact rfl
def ev6 (gH:Y10)(fK:Y12)(m19:Y19)(m20:Y20)(gI:Y14):Env cxT:={ Kc:=cR [(10,c10 gH),(12,c12 fK),(19,c19 m19),(20,c20 m20),(14,c14 gI)],Kw:=cQ [],lv:=λi=>[],xv:=λi=>none }
def G6 {B:Type}(u:Bool->B)(gH:Y10)(fK:Y12)(m19:Y19)(m20:Y20)(gI:Y14)(a0_0:(List N10))(a0_1:(List M9))(a0_2:(List W2))(a0_3:(List S10)):Option B:=
 cU (gH (((a0_0,(a0_1,(a0_2,a0_3))).1,((a0_0,(a0_1,(a0_2,a0_3))).2.1,((a0_0,(a0_1,(a0_2,a0_3))).2.2.1,(a0_0,(a0_1,(a0_2,a0_3))).2.2.2))),(1048576:Int))) (0:Int) λ(q1:Int)=>bif (decide (q1 < (0:Int)))then some (u true)
  else cU (fK ((a0_0,(a0_1,(a0_2,a0_3))).1,((a0_0,(a0_1,(a0_2,a0_3))).2.1,((a0_0,(a0_1,(a0_2,a0_3))).2.2.1,(a0_0,(a0_1,(a0_2,a0_3))).2.2.2)))) ([],[],[],[]) λ(q2:C4)=>cU (m19 (q2.1,(q2.2.1,(q2.2.2.1,q2.2.2.2)))) false λ(q3:Bool)=>cU (fK ((a0_0,(a0_1,(a0_2,a0_3))).1,((a0_0,(a0_1,(a0_2,a0_3))).2.1,((a0_0,(a0_1,(a0_2,a0_3))).2.2.1,(a0_0,(a0_1,(a0_2,a0_3))).2.2.2)))) ([],[],[],[]) λ(q4:C4)=>cU (m20 (q2.1,(q2.2.1,(q2.2.2.1,q2.2.2.2)))) false λ(q5:Bool)=>bif (!(q5 == q3))then some (u false)
      else cU (fK ((a0_0,(a0_1,(a0_2,a0_3))).1,((a0_0,(a0_1,(a0_2,a0_3))).2.1,((a0_0,(a0_1,(a0_2,a0_3))).2.2.1,(a0_0,(a0_1,(a0_2,a0_3))).2.2.2)))) ([],[],[],[]) λ(q6:C4)=>cU (gI ((q2.1,(q2.2.1,(q2.2.2.1,q2.2.2.2))),(q2.1,(q2.2.1,(q2.2.2.1,q2.2.2.2))))) false λ(q7:Bool)=>bif (!q7)then some (u false)
        else some (u true)
def g6 (gH:Y10)(fK:Y12)(m19:Y19)(m20:Y20)(gI:Y14)(L:Nat)(a0_0:(List N10))(a0_1:(List M9))(a0_2:(List W2))(a0_3:(List S10)):Option Bool:=G6 (λx=>x) gH fK m19 m20 gI a0_0 a0_1 a0_2 a0_3
theorem e6 (gH:Y10)(fK:Y12)(m19:Y19)(m20:Y20)(gI:Y14)(L:Nat)(a0_0:(List N10))(a0_1:(List M9))(a0_2:(List W2))(a0_3:(List S10)):aBe prog (ev6 gH fK m19 m20 gI) (bJ L) f6 (a6.enc (a0_0,a0_1,a0_2,a0_3))=(g6 gH fK m19 m20 gI L a0_0 a0_1 a0_2 a0_3).map n6:=by
 refine .trans (b:=G6 n6 gH fK m19 m20 gI a0_0 a0_1 a0_2 a0_3) (by kernel_rfl) ?_;unfold g6 G6
 repeat' first | with_reducible refine dP ?_ ?_ | with_reducible refine dL λ_=>?_ | with_reducible refine dO λ_=>?_ | exact rfl
def ev7 (gH:Y10)(fK:Y12)(m21:Y21)(m22:Y22)(gI:Y14):Env cxT:={ Kc:=cR [(10,c10 gH),(12,c12 fK),(21,c21 m21),(22,c22 m22),(14,c14 gI)],Kw:=cQ [],lv:=λi=>[],xv:=λi=>none }
def G7 {B:Type}(u:Bool->B)(gH:Y10)(fK:Y12)(m21:Y21)(m22:Y22)(gI:Y14)(a0_0:(List N10))(a0_1:(List M9))(a0_2:(List W2))(a0_3:(List S10)):Option B:=
 cU (gH (((a0_0,(a0_1,(a0_2,a0_3))).1,((a0_0,(a0_1,(a0_2,a0_3))).2.1,((a0_0,(a0_1,(a0_2,a0_3))).2.2.1,(a0_0,(a0_1,(a0_2,a0_3))).2.2.2))),(1048576:Int))) (0:Int) λ(q1:Int)=>bif (decide (q1 < (0:Int)))then some (u true)
  else cU (fK ((a0_0,(a0_1,(a0_2,a0_3))).1,((a0_0,(a0_1,(a0_2,a0_3))).2.1,((a0_0,(a0_1,(a0_2,a0_3))).2.2.1,(a0_0,(a0_1,(a0_2,a0_3))).2.2.2)))) ([],[],[],[]) λ(q2:C4)=>cU (m21 (q2.1,(q2.2.1,(q2.2.2.1,q2.2.2.2)))) false λ(q3:Bool)=>cU (fK ((a0_0,(a0_1,(a0_2,a0_3))).1,((a0_0,(a0_1,(a0_2,a0_3))).2.1,((a0_0,(a0_1,(a0_2,a0_3))).2.2.1,(a0_0,(a0_1,(a0_2,a0_3))).2.2.2)))) ([],[],[],[]) λ(q4:C4)=>cU (m22 (q2.1,(q2.2.1,(q2.2.2.1,q2.2.2.2)))) false λ(q5:Bool)=>bif (!(q5 == q3))then some (u false)
      else cU (fK ((a0_0,(a0_1,(a0_2,a0_3))).1,((a0_0,(a0_1,(a0_2,a0_3))).2.1,((a0_0,(a0_1,(a0_2,a0_3))).2.2.1,(a0_0,(a0_1,(a0_2,a0_3))).2.2.2)))) ([],[],[],[]) λ(q6:C4)=>cU (gI ((q2.1,(q2.2.1,(q2.2.2.1,q2.2.2.2))),(q2.1,(q2.2.1,(q2.2.2.1,q2.2.2.2))))) false λ(q7:Bool)=>bif (!q7)then some (u false)
        else some (u true)
def g7 (gH:Y10)(fK:Y12)(m21:Y21)(m22:Y22)(gI:Y14)(L:Nat)(a0_0:(List N10))(a0_1:(List M9))(a0_2:(List W2))(a0_3:(List S10)):Option Bool:=G7 (λx=>x) gH fK m21 m22 gI a0_0 a0_1 a0_2 a0_3
theorem e7 (gH:Y10)(fK:Y12)(m21:Y21)(m22:Y22)(gI:Y14)(L:Nat)(a0_0:(List N10))(a0_1:(List M9))(a0_2:(List W2))(a0_3:(List S10)):aBe prog (ev7 gH fK m21 m22 gI) (bJ L) f7 (a7.enc (a0_0,a0_1,a0_2,a0_3))=(g7 gH fK m21 m22 gI L a0_0 a0_1 a0_2 a0_3).map n7:=by
 refine .trans (b:=G7 n7 gH fK m21 m22 gI a0_0 a0_1 a0_2 a0_3) (by kernel_rfl) ?_;unfold g7 G7
 repeat' first | with_reducible refine dP ?_ ?_ | with_reducible refine dL λ_=>?_ | with_reducible refine dO λ_=>?_ | exact rfl
end Go.Proofs.Tryz
