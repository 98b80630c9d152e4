/- A part of the proof of FnExactSafeCluster: LmFe, LmFf. -/
import Derived.Test.YtnmbggfkmkcmkaaGreatLmBase
set_option linter.unusedSimpArgs false
set_option linter.unusedVariables false
set_option maxHeartbeats 0
set_option maxRecDepth 100000
namespace Go.Proofs.Tryz
open Go.IntKind (wrap)
open Go Go.VM Go.RowKit
def aUw:Env cxT:={ Kc:=cN [],Kw:=cO [],lv:=λi=>[],xv:=λi=>none }
def G70 {B:Type}(u:Bool->B)(a0:Int)(a1:Int)(a2:Int):Option B:=
 bif (decide (a0>=a1))then some (u (decide (a0<=a2)))
 else some (u false)
def g70 (L:Nat)(a0:Int)(a1:Int)(a2:Int):Option Bool:=G70 (λx=>x) a0 a1 a2
theorem e70 (L:Nat)(a0:Int)(a1:Int)(a2:Int):eV prog aUw (bI L) f70 (a70.enc (a0,a1,a2))=(g70 L a0 a1 a2).map n70:=by
 refine .trans (b:=G70 n70 a0 a1 a2) (by kernel_rfl) ?_;unfold g70 G70
 repeat' first | with_reducible refine dG ?_ ?_ | with_reducible refine dE λ_=>?_ | with_reducible refine dF λ_=>?_ | exact rfl
def w70 (L:Nat)(x:(Int×Int×Int)):Option Bool:=g70 L x.1 x.2.1 x.2.2
theorem s70 (m:Y70)(hm:∀ (x:(Int×Int×Int)) t,m x=some t->∃ L,w70 L x=some t):Sat prog cxT 70 (xQ m):=
 bS bB aW (by rfl) (fn:=f70) rfl a70 n70 aVB m aUw aV aP (w70) (λL x=>e70 L x.1 x.2.1 x.2.2) hm bAz
def tN:Env cxT:={ Kc:=cN [],Kw:=cO [],lv:=λi=>if i=0 then[(0,[some 2]),(3,[])]else[],xv:=λi=>if i=0 then some []else none }
def S114_0 (a0:(List Int))(v0_3:Int):St cxT.ty:={ slots:=[(.inl (.inl (ls { own:=0,nm:=0,e:=2,o:=false,xs:=a0 }))),aH,aH,(.inl (.inl (lv (.int .i64 v0_3))))]++List.replicate 16 aH,D:=[],F:=[],ctr:=1 }
def X114_0 (a0:(List Int)):St cxT.ty:={ slots:=[]++List.replicate 20 aH,D:=[],F:=[],ctr:=1 }
def G114 {B:Type}(u:Bool->B)(hh0:Int->Option B)(a0:(List Int)):Option B:=
 hh0 (1:Int)
def B114_0 {B:Type}(u:Bool->B)(gg:Int->Option B)(kk:Option B)(a0:(List Int))(v0_3:Int):Option B:=
 bif (decide (v0_3 < (Nat.cast (List.length a0):Int)))then bif ((decide ((0:Int)<=v0_3))&&(decide (v0_3 < (Nat.cast (List.length a0):Int))))then bif ((decide ((0:Int)<=(wrap .i64 (v0_3-(1:Int)))))&&(decide ((wrap .i64 (v0_3-(1:Int))) < (Nat.cast (List.length a0):Int))))then bif (decide ((List.getD a0 v0_3.toNat (0:Int))<=(List.getD a0 (Int.toNat (wrap .i64 (v0_3-(1:Int)))) (0:Int))))then some (u false)
    else gg (wrap .i64 (v0_3+(1:Int)))
   else none
  else none
 else kk
def A114_0 {B:Type}(u:Bool->B)(a0:(List Int)):Option B:=
 some (u true)
def uF (L:Nat)(a0:(List Int)):Nat->Int->(Option Bool)->Option Bool
 | 0,_,_=>none
 | n+1,v0_3,k=>B114_0 (λx=>x) (λv0_3=>uF L a0 n v0_3 k) k a0 v0_3
theorem aIY (L:Nat)(a0:(List Int))(k:St cxT.ty->Option (V cxT.ty))(xk:Nat->St cxT.ty->Option (V cxT.ty))(k':Option Bool)(hk:k (X114_0 a0)=(k').map zV):∀ (n:Nat) (v0_3:Int),aS prog tN L f114 0 [1,0,1,0,0] (bE (aM prog f114) k xk) n (S114_0 a0 v0_3)=(uF L a0 n v0_3 k').map zV
 | 0,_=>rfl
 | n+1,v0_3=>by
  rw[bF];have ih:=aIY L a0 k xk k' hk n;refine .trans (b:=B114_0 zV (λv0_3=>(aS prog tN L f114 0 [1,0,1,0,0] (bE (aM prog f114) k xk) n) (S114_0 a0 v0_3)) (k (X114_0 a0)) a0 v0_3) (by kernel_rfl) ?_;unfold uF B114_0
  repeat' first | with_reducible refine dG ?_ ?_ | with_reducible refine dE λ_=>?_ | with_reducible refine dF λ_=>?_ | with_reducible exact ih _ | with_reducible exact hk | exact rfl
def aKq (L:Nat)(a0:(List Int)):Option Bool:=G114 (λx=>x) (λv0_3=>uF L a0 L v0_3 (A114_0 (λx=>x) a0)) a0
theorem bCj (L:Nat)(a0:(List Int)):eV prog tN (bI L) f114 (aXr.enc a0)=(aKq L a0).map zV:=by
 have hin0:∀ (v0_3:Int),aS prog tN L f114 0 [1,0,1,0,0] (bE (aM prog f114) (bU prog tN L f114 [1,0,1] (aM prog f114)).n (bU prog tN L f114 [1,0,1] (aM prog f114)).x) L (S114_0 a0 v0_3)=((λv0_3=>uF L a0 L v0_3 (A114_0 (λx=>x) a0)) v0_3).map zV:=λv0_3=>aIY L a0 _ _ _ (by refine .trans (b:=A114_0 zV a0) (by kernel_rfl) ?_;unfold A114_0;repeat' first | with_reducible refine dG ?_ ?_ | with_reducible refine dE λ_=>?_ | with_reducible refine dF λ_=>?_ | exact rfl) L v0_3
 refine .trans (b:=G114 zV (λv0_3=>aS prog tN L f114 0 [1,0,1,0,0] (bE (aM prog f114) (bU prog tN L f114 [1,0,1] (aM prog f114)).n (bU prog tN L f114 [1,0,1] (aM prog f114)).x) L (S114_0 a0 v0_3)) a0) (by kernel_rfl) ?_;unfold aKq G114
 repeat' first | with_reducible refine dG ?_ ?_ | with_reducible refine dE λ_=>?_ | with_reducible refine dF λ_=>?_ | with_reducible exact hin0 _ | exact rfl
def aN2 (L:Nat)(x:(List Int)):Option Bool:=aKq L x
theorem aZA (m:Y114)(hm:∀ (x:(List Int)) t,m x=some t->∃ L,aN2 L x=some t):Sat prog cxT 114 (aKU m):=
 bS bB aW (by rfl) (fn:=f114) rfl aXr zV aNw m tN aV aP (aN2) (λL x=>bCj L x) hm aTb
def aUc (bP:Y70):Env cxT:={ Kc:=cN [(70,xQ bP)],Kw:=cO [],lv:=λi=>[],xv:=λi=>none }
def G96 {B:Type}(u:Bool->B)(bP:Y70)(a0:N10)(a1:Int):Option B:=
 cM (bP (a1,((0:Int),(wrap .i64 (a0.2.1-(1:Int)))))) false λ(q1:Bool)=>some (u q1)
def g96 (bP:Y70)(L:Nat)(a0:N10)(a1:Int):Option Bool:=G96 (λx=>x) bP a0 a1
theorem e96 (bP:Y70)(L:Nat)(a0:N10)(a1:Int):eV prog (aUc bP) (bI L) f96 (a96.enc (a0,a1))=(g96 bP L a0 a1).map n96:=by
 refine .trans (b:=G96 n96 bP a0 a1) (by kernel_rfl) ?_;unfold g96 G96
 repeat' first | with_reducible refine dG ?_ ?_ | with_reducible refine dE λ_=>?_ | with_reducible refine dF λ_=>?_ | exact rfl
def w96 (bP:Y70)(L:Nat)(x:(N10×Int)):Option Bool:=g96 bP L x.1 x.2
theorem s96 (bP:Y70)(h70:Sat prog cxT 70 (xQ bP))(m:Y96)(hm:∀ (x:(N10×Int)) t,m x=some t->∃ L,w96 bP L x=some t):Sat prog cxT 96 (c96 m):=
 bS bB aW (by rfl) (fn:=f96) rfl a96 n96 aVc m (aUc bP) (aI h70 aV) aP (w96 bP) (λL x=>e96 bP L x.1 x.2) hm bAa
def aBl (gK:Y114)(fK:Y96):Env cxT:={ Kc:=cN [(114,aKU gK),(96,c96 fK)],Kw:=cO [],lv:=λi=>if i=0 then[(0,[none,none,none,none,some 102,none,none,some 2,some 2,some 2]),(3,[])]else[],xv:=λi=>if i=0 then some [(0,[none,none,none,none,some 102,none,none,some 2,some 2,some 2])]else none }
def S99_0 (a0:N10)(v0_3:Int):St cxT.ty:={ slots:=[(.inr (.inr { kind:=2,nm:=0,cells:=[],s:={ own:=0,nm:=0,e:=73,o:=false,xs:=(List.cons a0 []) },i:=0,off:=0 })),aH,aH,(.inl (.inl (lv (.int .i64 v0_3))))]++List.replicate 66 aH,D:=[],F:=[],ctr:=1 }
def X99_0 (a0:N10):St cxT.ty:={ slots:=[(.inr (.inr { kind:=2,nm:=0,cells:=[],s:={ own:=0,nm:=0,e:=73,o:=false,xs:=(List.cons a0 []) },i:=0,off:=0 }))]++List.replicate 69 aH,D:=[],F:=[],ctr:=1 }
def G99 {B:Type}(u:Bool->B)(hh0:Int->Option B)(gK:Y114)(fK:Y96)(a0:N10):Option B:=
 cM (gK a0.2.2.2.2.2.2.2.1) false λ(q1:Bool)=>bif (!q1)then some (u false)
  else bif (decide ((Nat.cast (List.length a0.2.2.2.2.2.2.2.1):Int) > (0:Int)))then bif (a0.2.2.2.2.2.1 != (1:Int))then some (u false)
   else hh0 (0:Int)
  else hh0 (0:Int)
def B99_0 {B:Type}(u:Bool->B)(gg:Int->Option B)(kk:Option B)(gK:Y114)(fK:Y96)(a0:N10)(v0_3:Int):Option B:=
 bif (decide (v0_3 < (Nat.cast (List.length a0.2.2.2.2.2.2.2.1):Int)))then eF a0 λs1_0=>bif ((decide ((0:Int)<=v0_3))&&(decide (v0_3 < (Nat.cast (List.length s1_0.2.2.2.2.2.2.2.1):Int))))then cM (fK (s1_0,(List.getD s1_0.2.2.2.2.2.2.2.1 v0_3.toNat (0:Int)))) false λ(q3:Bool)=>bif (!q3)then some (u false)
    else gg (wrap .i64 (v0_3+(1:Int)))
  else none
 else kk
def A99_0 {B:Type}(u:Bool->B)(gK:Y114)(fK:Y96)(a0:N10):Option B:=
 bif (a0.2.2.2.2.2.1 == (2:Int))then eF a0 λs1_0=>bif ((Nat.cast (List.length s1_0.2.2.2.2.2.2.2.2.1):Int) == s1_0.2.1)then some (u ((Nat.cast (List.length s1_0.2.2.2.2.2.2.2.2.2):Int) == s1_0.2.1))
  else some (u false)
 else bif ((Nat.cast (List.length a0.2.2.2.2.2.2.2.2.1):Int) == (0:Int))then some (u ((Nat.cast (List.length a0.2.2.2.2.2.2.2.2.2):Int) == (0:Int)))
 else some (u false)
def aAe (gK:Y114)(fK:Y96)(L:Nat)(a0:N10):Nat->Int->(Option Bool)->Option Bool
 | 0,_,_=>none
 | n+1,v0_3,k=>B99_0 (λx=>x) (λv0_3=>aAe gK fK L a0 n v0_3 k) k gK fK a0 v0_3
theorem aLD (gK:Y114)(fK:Y96)(L:Nat)(a0:N10)(k:St cxT.ty->Option (V cxT.ty))(xk:Nat->St cxT.ty->Option (V cxT.ty))(k':Option Bool)(hk:k (X99_0 a0)=(k').map n99):∀ (n:Nat) (v0_3:Int),aS prog (aBl gK fK) L f99 0 [1,1,0,1,0,0] (bE (aM prog f99) k xk) n (S99_0 a0 v0_3)=(aAe gK fK L a0 n v0_3 k').map n99
 | 0,_=>rfl
 | n+1,v0_3=>by
  rw[bF];have ih:=aLD gK fK L a0 k xk k' hk n;refine .trans (b:=B99_0 n99 (λv0_3=>(aS prog (aBl gK fK) L f99 0 [1,1,0,1,0,0] (bE (aM prog f99) k xk) n) (S99_0 a0 v0_3)) (k (X99_0 a0)) gK fK a0 v0_3) (by kernel_rfl) ?_;unfold aAe B99_0
  repeat' first | with_reducible refine dG ?_ ?_ | with_reducible refine dE λ_=>?_ | with_reducible refine dF λ_=>?_ | with_reducible exact ih _ | with_reducible exact hk | exact rfl
def g99 (gK:Y114)(fK:Y96)(L:Nat)(a0:N10):Option Bool:=G99 (λx=>x) (λv0_3=>aAe gK fK L a0 L v0_3 (A99_0 (λx=>x) gK fK a0)) gK fK a0
theorem e99 (gK:Y114)(fK:Y96)(L:Nat)(a0:N10):eV prog (aBl gK fK) (bI L) f99 (a99.enc a0)=(g99 gK fK L a0).map n99:=by
 have hin0:∀ (v0_3:Int),aS prog (aBl gK fK) L f99 0 [1,1,0,1,0,0] (bE (aM prog f99) (bU prog (aBl gK fK) L f99 [1,1,0,1] (aM prog f99)).n (bU prog (aBl gK fK) L f99 [1,1,0,1] (aM prog f99)).x) L (S99_0 a0 v0_3)=((λv0_3=>aAe gK fK L a0 L v0_3 (A99_0 (λx=>x) gK fK a0)) v0_3).map n99:=λv0_3=>aLD gK fK L a0 _ _ _ (by refine .trans (b:=A99_0 n99 gK fK a0) (by kernel_rfl) ?_;unfold A99_0;repeat' first | with_reducible refine dG ?_ ?_ | with_reducible refine dE λ_=>?_ | with_reducible refine dF λ_=>?_ | exact rfl) L v0_3
 refine .trans (b:=G99 n99 (λv0_3=>aS prog (aBl gK fK) L f99 0 [1,1,0,1,0,0] (bE (aM prog f99) (bU prog (aBl gK fK) L f99 [1,1,0,1] (aM prog f99)).n (bU prog (aBl gK fK) L f99 [1,1,0,1] (aM prog f99)).x) L (S99_0 a0 v0_3)) gK fK a0) (by kernel_rfl) ?_;unfold g99 G99
 repeat' first | with_reducible refine dG ?_ ?_ | with_reducible refine dE λ_=>?_ | with_reducible refine dF λ_=>?_ | with_reducible exact hin0 _ | exact rfl
def w99 (gK:Y114)(fK:Y96)(L:Nat)(x:N10):Option Bool:=g99 gK fK L x
theorem s99 (gK:Y114)(fK:Y96)(h114:Sat prog cxT 114 (aKU gK))(h96:Sat prog cxT 96 (c96 fK))(m:Y99)(hm:∀ (x:N10) t,m x=some t->∃ L,w99 gK fK L x=some t):Sat prog cxT 99 (c99 m):=
 bS bB aW (by rfl) (fn:=f99) rfl a99 n99 aU9 m (aBl gK fK) (aI h114 (aI h96 aV)) aP (w99 gK fK) (λL x=>e99 gK fK L x) hm aZ7
def aUv (bP:Y70)(m101:Y101):Env cxT:={ Kc:=cN [(70,xQ bP),(101,aPZ m101)],Kw:=cO [],lv:=λi=>[],xv:=λi=>none }
def G71 {B:Type}(u:Int->B)(bP:Y70)(m101:Y101)(a0_0:Int)(a0_1:Int)(a0_2:Int)(a0_3:Int)(a0_4:Int)(a0_5:Int)(a0_6:Int)(a0_7:Int)(a0_8:Int):Option B:=
 cM (bP (a0_0,((1:Int),(100000:Int)))) false λ(q1:Bool)=>bif (!q1)then some (u (3:Int))
  else cM (bP (a0_1,((0:Int),(999:Int)))) false λ(q2:Bool)=>bif (!q2)then some (u (3:Int))
   else cM (bP (a0_2,((0:Int),(1000000:Int)))) false λ(q3:Bool)=>bif (!q3)then some (u (3:Int))
    else bif (!((a0_1 == (0:Int)) == (a0_2 == (0:Int))))then some (u (1:Int))
    else bif (a0_1 != (0:Int))then cM (m101 (a0_3,(a0_4,(a0_5,(a0_6,(a0_7,a0_8)))))) (0:Int) λ(q5:Int)=>some (u q5)
    else bif (!((((((a0_3 == (0:Int))&&(a0_4 == (0:Int)))&&(a0_5 == (0:Int)))&&(a0_6 == (0:Int)))&&(a0_7 == (0:Int)))&&(a0_8 == (0:Int))))then some (u (1:Int))
    else some (u (0:Int))
def g71 (bP:Y70)(m101:Y101)(L:Nat)(a0_0:Int)(a0_1:Int)(a0_2:Int)(a0_3:Int)(a0_4:Int)(a0_5:Int)(a0_6:Int)(a0_7:Int)(a0_8:Int):Option Int:=G71 (λx=>x) bP m101 a0_0 a0_1 a0_2 a0_3 a0_4 a0_5 a0_6 a0_7 a0_8
theorem e71 (bP:Y70)(m101:Y101)(L:Nat)(a0_0:Int)(a0_1:Int)(a0_2:Int)(a0_3:Int)(a0_4:Int)(a0_5:Int)(a0_6:Int)(a0_7:Int)(a0_8:Int):eV prog (aUv bP m101) (bI L) f71 (a71.enc (a0_0,a0_1,a0_2,a0_3,a0_4,a0_5,a0_6,a0_7,a0_8))=(g71 bP m101 L a0_0 a0_1 a0_2 a0_3 a0_4 a0_5 a0_6 a0_7 a0_8).map n71:=by
 refine .trans (b:=G71 n71 bP m101 a0_0 a0_1 a0_2 a0_3 a0_4 a0_5 a0_6 a0_7 a0_8) (by kernel_rfl) ?_;unfold g71 G71
 repeat' first | with_reducible refine dG ?_ ?_ | with_reducible refine dE λ_=>?_ | with_reducible refine dF λ_=>?_ | exact rfl
def w71 (bP:Y70)(m101:Y101)(L:Nat)(x:E9):Option Int:=g71 bP m101 L x.1 x.2.1 x.2.2.1 x.2.2.2.1 x.2.2.2.2.1 x.2.2.2.2.2.1 x.2.2.2.2.2.2.1 x.2.2.2.2.2.2.2.1 x.2.2.2.2.2.2.2.2
theorem s71 (bP:Y70)(m101:Y101)(h70:Sat prog cxT 70 (xQ bP))(h101:Sat prog cxT 101 (aPZ m101))(m:Y71)(hm:∀ (x:E9) t,m x=some t->∃ L,w71 bP m101 L x=some t):Sat prog cxT 71 (c71 m):=
 bS bB aW (by rfl) (fn:=f71) rfl a71 n71 aVA m (aUv bP m101) (aI h70 (aI h101 aV)) aP (w71 bP m101) (λL x=>e71 bP m101 L x.1 x.2.1 x.2.2.1 x.2.2.2.1 x.2.2.2.2.1 x.2.2.2.2.2.1 x.2.2.2.2.2.2.1 x.2.2.2.2.2.2.2.1 x.2.2.2.2.2.2.2.2) hm bAy
def aBm (m71:Y71):Env cxT:={ Kc:=cN [(71,c71 m71)],Kw:=cO [],lv:=λi=>if i=0 then[(0,[some 102]),(3,[])]else[],xv:=λi=>if i=0 then some []else none }
def S97_0 (a0:(List E9))(v0_3:Int):St cxT.ty:={ slots:=[(.inl (.inl (ls { own:=0,nm:=0,e:=102,o:=false,xs:=a0 }))),aH,aH,(.inl (.inl (lv (.int .i64 v0_3))))]++List.replicate 34 aH,D:=[],F:=[],ctr:=1 }
def X97_0 (a0:(List E9)):St cxT.ty:={ slots:=[]++List.replicate 38 aH,D:=[],F:=[],ctr:=1 }
def G97 {B:Type}(u:Int->B)(hh0:Int->Option B)(m71:Y71)(a0:(List E9)):Option B:=
 bif (decide ((Nat.cast (List.length a0):Int) > (40:Int)))then some (u (2:Int))
 else hh0 (0:Int)
def B97_0 {B:Type}(u:Int->B)(gg:Int->Option B)(kk:Option B)(m71:Y71)(a0:(List E9))(v0_3:Int):Option B:=
 bif (decide (v0_3 < (Nat.cast (List.length a0):Int)))then eF (List.getD a0 v0_3.toNat ((0:Int),((0:Int),((0:Int),((0:Int),((0:Int),((0:Int),((0:Int),((0:Int),(0:Int)))))))))) λs1_0=>bif ((decide ((0:Int)<=v0_3))&&(decide (v0_3 < (Nat.cast (List.length a0):Int))))then cM (m71 (s1_0.1,(s1_0.2.1,(s1_0.2.2.1,(s1_0.2.2.2.1,(s1_0.2.2.2.2.1,(s1_0.2.2.2.2.2.1,(s1_0.2.2.2.2.2.2.1,(s1_0.2.2.2.2.2.2.2.1,s1_0.2.2.2.2.2.2.2.2))))))))) (0:Int) λ(q3:Int)=>bif (q3 != (0:Int))then some (u q3)
    else bif (decide (v0_3 > (0:Int)))then bif ((decide ((0:Int)<=v0_3))&&(decide (v0_3 < (Nat.cast (List.length a0):Int))))then bif ((decide ((0:Int)<=(wrap .i64 (v0_3-(1:Int)))))&&(decide ((wrap .i64 (v0_3-(1:Int))) < (Nat.cast (List.length a0):Int))))then bif (decide (s1_0.1 < (List.getD a0 (Int.toNat (wrap .i64 (v0_3-(1:Int)))) ((0:Int),((0:Int),((0:Int),((0:Int),((0:Int),((0:Int),((0:Int),((0:Int),(0:Int)))))))))).1))then some (u (1:Int))
       else gg (wrap .i64 (v0_3+(1:Int)))
      else none
     else none
    else gg (wrap .i64 (v0_3+(1:Int)))
  else none
 else kk
def A97_0 {B:Type}(u:Int->B)(m71:Y71)(a0:(List E9)):Option B:=
 some (u (0:Int))
def aAf (m71:Y71)(L:Nat)(a0:(List E9)):Nat->Int->(Option Int)->Option Int
 | 0,_,_=>none
 | n+1,v0_3,k=>B97_0 (λx=>x) (λv0_3=>aAf m71 L a0 n v0_3 k) k m71 a0 v0_3
theorem aLE (m71:Y71)(L:Nat)(a0:(List E9))(k:St cxT.ty->Option (V cxT.ty))(xk:Nat->St cxT.ty->Option (V cxT.ty))(k':Option Int)(hk:k (X97_0 a0)=(k').map n97):∀ (n:Nat) (v0_3:Int),aS prog (aBm m71) L f97 0 [1,1,0,1,0,0] (bE (aM prog f97) k xk) n (S97_0 a0 v0_3)=(aAf m71 L a0 n v0_3 k').map n97
 | 0,_=>rfl
 | n+1,v0_3=>by
  rw[bF];have ih:=aLE m71 L a0 k xk k' hk n;refine .trans (b:=B97_0 n97 (λv0_3=>(aS prog (aBm m71) L f97 0 [1,1,0,1,0,0] (bE (aM prog f97) k xk) n) (S97_0 a0 v0_3)) (k (X97_0 a0)) m71 a0 v0_3) (by kernel_rfl) ?_;unfold aAf B97_0
  repeat' first | with_reducible refine dG ?_ ?_ | with_reducible refine dE λ_=>?_ | with_reducible refine dF λ_=>?_ | with_reducible exact ih _ | with_reducible exact hk | exact rfl
def g97 (m71:Y71)(L:Nat)(a0:(List E9)):Option Int:=G97 (λx=>x) (λv0_3=>aAf m71 L a0 L v0_3 (A97_0 (λx=>x) m71 a0)) m71 a0
theorem e97 (m71:Y71)(L:Nat)(a0:(List E9)):eV prog (aBm m71) (bI L) f97 (a97.enc a0)=(g97 m71 L a0).map n97:=by
 have hin0:∀ (v0_3:Int),aS prog (aBm m71) L f97 0 [1,1,0,1,0,0] (bE (aM prog f97) (bU prog (aBm m71) L f97 [1,1,0,1] (aM prog f97)).n (bU prog (aBm m71) L f97 [1,1,0,1] (aM prog f97)).x) L (S97_0 a0 v0_3)=((λv0_3=>aAf m71 L a0 L v0_3 (A97_0 (λx=>x) m71 a0)) v0_3).map n97:=λv0_3=>aLE m71 L a0 _ _ _ (by refine .trans (b:=A97_0 n97 m71 a0) (by kernel_rfl) ?_;unfold A97_0;repeat' first | with_reducible refine dG ?_ ?_ | with_reducible refine dE λ_=>?_ | with_reducible refine dF λ_=>?_ | exact rfl) L v0_3
 refine .trans (b:=G97 n97 (λv0_3=>aS prog (aBm m71) L f97 0 [1,1,0,1,0,0] (bE (aM prog f97) (bU prog (aBm m71) L f97 [1,1,0,1] (aM prog f97)).n (bU prog (aBm m71) L f97 [1,1,0,1] (aM prog f97)).x) L (S97_0 a0 v0_3)) m71 a0) (by kernel_rfl) ?_;unfold g97 G97
 repeat' first | with_reducible refine dG ?_ ?_ | with_reducible refine dE λ_=>?_ | with_reducible refine dF λ_=>?_ | with_reducible exact hin0 _ | exact rfl
def w97 (m71:Y71)(L:Nat)(x:(List E9)):Option Int:=g97 m71 L x
theorem s97 (m71:Y71)(h71:Sat prog cxT 71 (c71 m71))(m:Y97)(hm:∀ (x:(List E9)) t,m x=some t->∃ L,w97 m71 L x=some t):Sat prog cxT 97 (c97 m):=
 bS bB aW (by rfl) (fn:=f97) rfl a97 n97 aVb m (aBm m71) (aI h71 aV) aP (w97 m71) (λL x=>e97 m71 L x) hm aZ9
def aBs (bP:Y70)(fK:Y96)(m97:Y97)(m98:Y98)(mE:Y99):Env cxT:={ Kc:=cN [(70,xQ bP),(96,c96 fK),(97,c97 m97),(98,c98 m98),(99,c99 mE)],Kw:=cO [],lv:=λi=>if i=0 then[(0,[none,none,none,none,some 102,none,none,some 2,some 2,some 2]),(4,[]),(5,[])]else[],xv:=λi=>if i=0 then some [(0,[none,none,none,none,some 102,none,none,some 2,some 2,some 2])]else none }
def S67_0 (a0:N10)(v0_5:Int):St cxT.ty:={ slots:=[(.inr (.inr { kind:=2,nm:=0,cells:=[],s:={ own:=0,nm:=0,e:=73,o:=false,xs:=(List.cons a0 []) },i:=0,off:=0 })),aH,aH,aH,(.inl (.inl (lv (.int .i64 (Nat.cast (List.length a0.2.2.2.2.1):Int))))),(.inl (.inl (lv (.int .i64 v0_5))))]++List.replicate 133 aH,D:=[],F:=[],ctr:=1 }
def X67_0 (a0:N10):St cxT.ty:={ slots:=[(.inr (.inr { kind:=2,nm:=0,cells:=[],s:={ own:=0,nm:=0,e:=73,o:=false,xs:=(List.cons a0 []) },i:=0,off:=0 }))]++List.replicate 138 aH,D:=[],F:=[],ctr:=1 }
def G67 {B:Type}(u:Int->B)(hh0:Int->Option B)(bP:Y70)(fK:Y96)(m97:Y97)(m98:Y98)(mE:Y99)(a0:N10):Option B:=
 cM (bP (a0.2.1,((1:Int),(5:Int)))) false λ(q1:Bool)=>bif (!q1)then some (u (3:Int))
  else cM (fK (a0,a0.1)) false λ(q2:Bool)=>bif (!q2)then some (u (3:Int))
   else cM (bP (a0.2.2.1,((0:Int),(100000:Int)))) false λ(q3:Bool)=>bif (!q3)then some (u (3:Int))
    else cM (bP (a0.2.2.2.1,((-(1:Int)),(wrap .i64 (a0.2.1-(1:Int)))))) false λ(q4:Bool)=>bif (!q4)then some (u (3:Int))
     else cM (bP (a0.2.2.2.2.2.1,((0:Int),(2:Int)))) false λ(q5:Bool)=>bif (!q5)then some (u (3:Int))
      else cM (m97 a0.2.2.2.2.1) (0:Int) λ(q6:Int)=>bif (q6 != (0:Int))then some (u q6)
       else cM (m98 a0.2.2.2.2.1) ((0:Int),(0:Int),(0:Int),(0:Int),(0:Int),(0:Int),(0:Int),(0:Int),(0:Int)) λ(q7:E9)=>bif (decide (q7.1 > a0.2.2.1))then some (u (1:Int))
        else cM (bP (a0.2.2.2.2.2.2.1,((0:Int),(Nat.cast (List.length a0.2.2.2.2.1):Int)))) false λ(q8:Bool)=>bif (!q8)then some (u (3:Int))
         else cM (mE a0) false λ(q9:Bool)=>bif (!q9)then some (u (1:Int))
          else hh0 (0:Int)
def B67_0 {B:Type}(u:Int->B)(gg:Int->Option B)(kk:Option B)(bP:Y70)(fK:Y96)(m97:Y97)(m98:Y98)(mE:Y99)(a0:N10)(v0_5:Int):Option B:=
 bif (decide (v0_5 < (Nat.cast (List.length a0.2.2.2.2.2.2.2.2.1):Int)))then eF a0 λs1_0=>bif ((decide ((0:Int)<=v0_5))&&(decide (v0_5 < (Nat.cast (List.length s1_0.2.2.2.2.2.2.2.2.1):Int))))then cM (bP ((List.getD s1_0.2.2.2.2.2.2.2.2.1 v0_5.toNat (0:Int)),((1:Int),(wrap .i64 ((Nat.cast (List.length s1_0.2.2.2.2.1):Int)+(1:Int)))))) false λ(q3:Bool)=>bif (!q3)then some (u (3:Int))
    else bif ((decide ((0:Int)<=v0_5))&&(decide (v0_5 < (Nat.cast (List.length s1_0.2.2.2.2.2.2.2.2.2):Int))))then cM (bP ((List.getD s1_0.2.2.2.2.2.2.2.2.2 v0_5.toNat (0:Int)),((0:Int),(Nat.cast (List.length s1_0.2.2.2.2.1):Int)))) false λ(q5:Bool)=>bif (!q5)then some (u (3:Int))
      else gg (wrap .i64 (v0_5+(1:Int)))
    else none
  else none
 else kk
def A67_0 {B:Type}(u:Int->B)(bP:Y70)(fK:Y96)(m97:Y97)(m98:Y98)(mE:Y99)(a0:N10):Option B:=
 bif (a0.2.2.2.2.2.1 != (0:Int))then eF a0 λs1_0=>bif (s1_0.2.2.2.1 != s1_0.1)then some (u (1:Int))
  else bif (s1_0.2.2.1 == (0:Int))then some (u (1:Int))
  else some (u (0:Int))
 else some (u (0:Int))
def aAh (bP:Y70)(fK:Y96)(m97:Y97)(m98:Y98)(mE:Y99)(L:Nat)(a0:N10):Nat->Int->(Option Int)->Option Int
 | 0,_,_=>none
 | n+1,v0_5,k=>B67_0 (λx=>x) (λv0_5=>aAh bP fK m97 m98 mE L a0 n v0_5 k) k bP fK m97 m98 mE a0 v0_5
theorem aLK (bP:Y70)(fK:Y96)(m97:Y97)(m98:Y98)(mE:Y99)(L:Nat)(a0:N10)(k:St cxT.ty->Option (V cxT.ty))(xk:Nat->St cxT.ty->Option (V cxT.ty))(k':Option Int)(hk:k (X67_0 a0)=(k').map n67):∀ (n:Nat) (v0_5:Int),aS prog (aBs bP fK m97 m98 mE) L f67 0 [1,1,1,1,1,1,1,0,1,0,0] (bE (aM prog f67) k xk) n (S67_0 a0 v0_5)=(aAh bP fK m97 m98 mE L a0 n v0_5 k').map n67
 | 0,_=>rfl
 | n+1,v0_5=>by
  rw[bF];have ih:=aLK bP fK m97 m98 mE L a0 k xk k' hk n;refine .trans (b:=B67_0 n67 (λv0_5=>(aS prog (aBs bP fK m97 m98 mE) L f67 0 [1,1,1,1,1,1,1,0,1,0,0] (bE (aM prog f67) k xk) n) (S67_0 a0 v0_5)) (k (X67_0 a0)) bP fK m97 m98 mE a0 v0_5) (by kernel_rfl) ?_;unfold aAh B67_0
  repeat' first | with_reducible refine dG ?_ ?_ | with_reducible refine dE λ_=>?_ | with_reducible refine dF λ_=>?_ | with_reducible exact ih _ | with_reducible exact hk | exact rfl
def g67 (bP:Y70)(fK:Y96)(m97:Y97)(m98:Y98)(mE:Y99)(L:Nat)(a0:N10):Option Int:=G67 (λx=>x) (λv0_5=>aAh bP fK m97 m98 mE L a0 L v0_5 (A67_0 (λx=>x) bP fK m97 m98 mE a0)) bP fK m97 m98 mE a0
theorem e67 (bP:Y70)(fK:Y96)(m97:Y97)(m98:Y98)(mE:Y99)(L:Nat)(a0:N10):eV prog (aBs bP fK m97 m98 mE) (bI L) f67 (a67.enc a0)=(g67 bP fK m97 m98 mE L a0).map n67:=by
 have hin0:∀ (v0_5:Int),aS prog (aBs bP fK m97 m98 mE) L f67 0 [1,1,1,1,1,1,1,0,1,0,0] (bE (aM prog f67) (bU prog (aBs bP fK m97 m98 mE) L f67 [1,1,1,1,1,1,1,0,1] (aM prog f67)).n (bU prog (aBs bP fK m97 m98 mE) L f67 [1,1,1,1,1,1,1,0,1] (aM prog f67)).x) L (S67_0 a0 v0_5)=((λv0_5=>aAh bP fK m97 m98 mE L a0 L v0_5 (A67_0 (λx=>x) bP fK m97 m98 mE a0)) v0_5).map n67:=λv0_5=>aLK bP fK m97 m98 mE L a0 _ _ _ (by refine .trans (b:=A67_0 n67 bP fK m97 m98 mE a0) (by kernel_rfl) ?_;unfold A67_0;repeat' first | with_reducible refine dG ?_ ?_ | with_reducible refine dE λ_=>?_ | with_reducible refine dF λ_=>?_ | exact rfl) L v0_5
 refine .trans (b:=G67 n67 (λv0_5=>aS prog (aBs bP fK m97 m98 mE) L f67 0 [1,1,1,1,1,1,1,0,1,0,0] (bE (aM prog f67) (bU prog (aBs bP fK m97 m98 mE) L f67 [1,1,1,1,1,1,1,0,1] (aM prog f67)).n (bU prog (aBs bP fK m97 m98 mE) L f67 [1,1,1,1,1,1,1,0,1] (aM prog f67)).x) L (S67_0 a0 v0_5)) bP fK m97 m98 mE a0) (by kernel_rfl) ?_;unfold g67 G67
 repeat' first | with_reducible refine dG ?_ ?_ | with_reducible refine dE λ_=>?_ | with_reducible refine dF λ_=>?_ | with_reducible exact hin0 _ | exact rfl
def w67 (bP:Y70)(fK:Y96)(m97:Y97)(m98:Y98)(mE:Y99)(L:Nat)(x:N10):Option Int:=g67 bP fK m97 m98 mE L x
theorem s67 (bP:Y70)(fK:Y96)(m97:Y97)(m98:Y98)(mE:Y99)(h70:Sat prog cxT 70 (xQ bP))(h96:Sat prog cxT 96 (c96 fK))(h97:Sat prog cxT 97 (c97 m97))(h98:Sat prog cxT 98 (c98 m98))(h99:Sat prog cxT 99 (c99 mE))(m:Y67)(hm:∀ (x:N10) t,m x=some t->∃ L,w67 bP fK m97 m98 mE L x=some t):Sat prog cxT 67 (c67 m):=
 bS bB aW (by rfl) (fn:=f67) rfl a67 n67 aVE m (aBs bP fK m97 m98 mE) (aI h70 (aI h96 (aI h97 (aI h98 (aI h99 aV))))) aP (w67 bP fK m97 m98 mE) (λL x=>e67 bP fK m97 m98 mE L x) hm bAC
end Go.Proofs.Tryz
set_option maxHeartbeats 0
set_option maxRecDepth 100000
namespace Go.Proofs.Tryz
open Go.IntKind (wrap)
open Go Go.VM Go.RowKit
def aUy (bP:Y70):Env cxT:={ Kc:=cN [(70,xQ bP)],Kw:=cO [],lv:=λi=>[],xv:=λi=>none }
def G68 {B:Type}(u:Bool->B)(bP:Y70)(a0:C4)(a1:Int):Option B:=
 cM (bP (a1,((0:Int),(wrap .i64 ((Nat.cast (List.length a0.1):Int)-(1:Int)))))) false λ(q1:Bool)=>some (u q1)
def g68 (bP:Y70)(L:Nat)(a0:C4)(a1:Int):Option Bool:=G68 (λx=>x) bP a0 a1
theorem e68 (bP:Y70)(L:Nat)(a0:C4)(a1:Int):eV prog (aUy bP) (bI L) f68 (a68.enc (a0,a1))=(g68 bP L a0 a1).map n68:=by
 refine .trans (b:=G68 n68 bP a0 a1) (by kernel_rfl) ?_;unfold g68 G68
 repeat' first | with_reducible refine dG ?_ ?_ | with_reducible refine dE λ_=>?_ | with_reducible refine dF λ_=>?_ | exact rfl
def w68 (bP:Y70)(L:Nat)(x:(C4×Int)):Option Bool:=g68 bP L x.1 x.2
theorem s68 (bP:Y70)(h70:Sat prog cxT 70 (xQ bP))(m:Y68)(hm:∀ (x:(C4×Int)) t,m x=some t->∃ L,w68 bP L x=some t):Sat prog cxT 68 (c68 m):=
 bS bB aW (by rfl) (fn:=f68) rfl a68 n68 aVD m (aUy bP) (aI h70 aV) aP (w68 bP) (λL x=>e68 bP L x.1 x.2) hm bAB
def aUx (bP:Y70)(fK:Y96)(m97:Y97)(m98:Y98)(jJ:Y100):Env cxT:={ Kc:=cN [(70,xQ bP),(96,c96 fK),(97,c97 m97),(98,c98 m98),(100,aK1 jJ)],Kw:=cO [],lv:=λi=>[],xv:=λi=>none }
def G69 {B:Type}(u:Int->B)(bP:Y70)(fK:Y96)(m97:Y97)(m98:Y98)(jJ:Y100)(a0:N10)(a1_0:Int)(a1_1:Int)(a1_2:Int)(a1_3:Int)(a1_4:Int)(a1_5:Int)(a1_6:Int)(a1_7:Bool)(a1_8:(List E9)):Option B:=
 cM (bP (a1_0,((1:Int),(4:Int)))) false λ(q1:Bool)=>bif (!q1)then some (u (5:Int))
  else cM (fK (a0,a1_1)) false λ(q2:Bool)=>bif (!q2)then some (u (3:Int))
   else bif (a1_1 == a0.1)then some (u (3:Int))
   else bif (a1_2 != a0.1)then some (u (3:Int))
   else cM (bP (a1_3,((1:Int),(100000:Int)))) false λ(q3:Bool)=>bif (!q3)then some (u (3:Int))
    else cM (bP (a1_4,((0:Int),(40:Int)))) false λ(q4:Bool)=>bif (!q4)then some (u (3:Int))
     else cM (bP (a1_5,((0:Int),a1_3))) false λ(q5:Bool)=>bif (!q5)then some (u (3:Int))
      else cM (bP (a1_6,((0:Int),(40:Int)))) false λ(q6:Bool)=>bif (!q6)then some (u (3:Int))
       else cM (m97 a1_8) (0:Int) λ(q7:Int)=>bif (q7 != (0:Int))then some (u q7)
        else bif (decide ((Nat.cast (List.length a1_8):Int) > (0:Int)))then bif (a1_0 != (3:Int))then some (u (1:Int))
         else cM (m98 a1_8) ((0:Int),(0:Int),(0:Int),(0:Int),(0:Int),(0:Int),(0:Int),(0:Int),(0:Int)) λ(q9:E9)=>bif (decide (q9.1 > a1_3))then some (u (1:Int))
          else bif ((decide ((0:Int)<=(0:Int)))&&(decide ((0:Int) < (Nat.cast (List.length a1_8):Int))))then bif (decide ((List.getD a1_8 (0:Nat) ((0:Int),((0:Int),((0:Int),((0:Int),((0:Int),((0:Int),((0:Int),((0:Int),(0:Int)))))))))).1 < a1_5))then some (u (1:Int))
           else bif a1_7 then bif (a1_0 != (2:Int))then bif (a1_0 != (4:Int))then some (u (1:Int))
             else cM (jJ (a1_0,(a1_1,(a1_2,(a1_3,(a1_4,(a1_5,(a1_6,(a1_7,a1_8))))))))) false λ(q13:Bool)=>bif (!q13)then some (u (1:Int))
              else bif (a1_4 == (0:Int))then bif (a1_5 != (0:Int))then some (u (1:Int))
               else some (u (0:Int))
              else some (u (0:Int))
            else cM (jJ (a1_0,(a1_1,(a1_2,(a1_3,(a1_4,(a1_5,(a1_6,(a1_7,a1_8))))))))) false λ(q12:Bool)=>bif (!q12)then some (u (1:Int))
             else bif (a1_4 == (0:Int))then bif (a1_5 != (0:Int))then some (u (1:Int))
              else some (u (0:Int))
             else some (u (0:Int))
           else cM (jJ (a1_0,(a1_1,(a1_2,(a1_3,(a1_4,(a1_5,(a1_6,(a1_7,a1_8))))))))) false λ(q11:Bool)=>bif (!q11)then some (u (1:Int))
            else bif (a1_4 == (0:Int))then bif (a1_5 != (0:Int))then some (u (1:Int))
             else some (u (0:Int))
            else some (u (0:Int))
          else none
        else bif a1_7 then bif (a1_0 != (2:Int))then bif (a1_0 != (4:Int))then some (u (1:Int))
          else cM (jJ (a1_0,(a1_1,(a1_2,(a1_3,(a1_4,(a1_5,(a1_6,(a1_7,a1_8))))))))) false λ(q10:Bool)=>bif (!q10)then some (u (1:Int))
           else bif (a1_4 == (0:Int))then bif (a1_5 != (0:Int))then some (u (1:Int))
            else some (u (0:Int))
           else some (u (0:Int))
         else cM (jJ (a1_0,(a1_1,(a1_2,(a1_3,(a1_4,(a1_5,(a1_6,(a1_7,a1_8))))))))) false λ(q9:Bool)=>bif (!q9)then some (u (1:Int))
          else bif (a1_4 == (0:Int))then bif (a1_5 != (0:Int))then some (u (1:Int))
           else some (u (0:Int))
          else some (u (0:Int))
        else cM (jJ (a1_0,(a1_1,(a1_2,(a1_3,(a1_4,(a1_5,(a1_6,(a1_7,a1_8))))))))) false λ(q8:Bool)=>bif (!q8)then some (u (1:Int))
         else bif (a1_4 == (0:Int))then bif (a1_5 != (0:Int))then some (u (1:Int))
          else some (u (0:Int))
         else some (u (0:Int))
def g69 (bP:Y70)(fK:Y96)(m97:Y97)(m98:Y98)(jJ:Y100)(L:Nat)(a0:N10)(a1_0:Int)(a1_1:Int)(a1_2:Int)(a1_3:Int)(a1_4:Int)(a1_5:Int)(a1_6:Int)(a1_7:Bool)(a1_8:(List E9)):Option Int:=G69 (λx=>x) bP fK m97 m98 jJ a0 a1_0 a1_1 a1_2 a1_3 a1_4 a1_5 a1_6 a1_7 a1_8
theorem e69 (bP:Y70)(fK:Y96)(m97:Y97)(m98:Y98)(jJ:Y100)(L:Nat)(a0:N10)(a1_0:Int)(a1_1:Int)(a1_2:Int)(a1_3:Int)(a1_4:Int)(a1_5:Int)(a1_6:Int)(a1_7:Bool)(a1_8:(List E9)):eV prog (aUx bP fK m97 m98 jJ) (bI L) f69 (a69.enc (a0,(a1_0,a1_1,a1_2,a1_3,a1_4,a1_5,a1_6,a1_7,a1_8)))=(g69 bP fK m97 m98 jJ L a0 a1_0 a1_1 a1_2 a1_3 a1_4 a1_5 a1_6 a1_7 a1_8).map n69:=by
 refine .trans (b:=G69 n69 bP fK m97 m98 jJ a0 a1_0 a1_1 a1_2 a1_3 a1_4 a1_5 a1_6 a1_7 a1_8) (by kernel_rfl) ?_;unfold g69 G69
 repeat' first | with_reducible refine dG ?_ ?_ | with_reducible refine dE λ_=>?_ | with_reducible refine dF λ_=>?_ | exact rfl
def w69 (bP:Y70)(fK:Y96)(m97:Y97)(m98:Y98)(jJ:Y100)(L:Nat)(x:(N10×M9)):Option Int:=g69 bP fK m97 m98 jJ L x.1 x.2.1 x.2.2.1 x.2.2.2.1 x.2.2.2.2.1 x.2.2.2.2.2.1 x.2.2.2.2.2.2.1 x.2.2.2.2.2.2.2.1 x.2.2.2.2.2.2.2.2.1 x.2.2.2.2.2.2.2.2.2
theorem s69 (bP:Y70)(fK:Y96)(m97:Y97)(m98:Y98)(jJ:Y100)(h70:Sat prog cxT 70 (xQ bP))(h96:Sat prog cxT 96 (c96 fK))(h97:Sat prog cxT 97 (c97 m97))(h98:Sat prog cxT 98 (c98 m98))(h100:Sat prog cxT 100 (aK1 jJ))(m:Y69)(hm:∀ (x:(N10×M9)) t,m x=some t->∃ L,w69 bP fK m97 m98 jJ L x=some t):Sat prog cxT 69 (c69 m):=
 bS bB aW (by rfl) (fn:=f69) rfl a69 n69 aVC m (aUx bP fK m97 m98 jJ) (aI h70 (aI h96 (aI h97 (aI h98 (aI h100 aV))))) aP (w69 bP fK m97 m98 jJ) (λL x=>e69 bP fK m97 m98 jJ L x.1 x.2.1 x.2.2.1 x.2.2.2.1 x.2.2.2.2.1 x.2.2.2.2.2.1 x.2.2.2.2.2.2.1 x.2.2.2.2.2.2.2.1 x.2.2.2.2.2.2.2.2.1 x.2.2.2.2.2.2.2.2.2) hm bAA
def jG (eH:Y67)(eM:Y68)(eO:Y69)(bP:Y70)(m71:Y71):Env cxT:={ Kc:=cN [(67,c67 eH),(68,c68 eM),(69,c69 eO),(70,xQ bP),(71,c71 m71)],Kw:=cO [],lv:=λi=>if i=0 then[(0,[some 73,some 96,some 64,some 104]),(3,[])]else if i=2 then[(0,[some 73,some 96,some 64,some 104]),(5,[])]else if i=4 then[(0,[some 73,some 96,some 64,some 104]),(7,[])]else if i=6 then[(0,[some 73,some 96,some 64,some 104]),(8,[])]else[],xv:=λi=>if i=0 then some [(0,[some 73,some 96,some 64,some 104])]else if i=2 then some [(0,[some 73,some 96,some 64,some 104])]else if i=4 then some [(0,[some 73,some 96,some 64,some 104])]else if i=6 then some []else none }
def S36_0 (a0:C4)(v0_3:Int):St cxT.ty:={ slots:=[(.inr (.inr { kind:=2,nm:=0,cells:=[],s:={ own:=0,nm:=0,e:=35,o:=false,xs:=(List.cons a0 []) },i:=0,off:=0 })),aH,aH,(.inl (.inl (lv (.int .i64 v0_3))))]++List.replicate 194 aH,D:=[],F:=[],ctr:=1 }
def X36_0 (a0:C4):St cxT.ty:={ slots:=[(.inr (.inr { kind:=2,nm:=0,cells:=[],s:={ own:=0,nm:=0,e:=35,o:=false,xs:=(List.cons a0 []) },i:=0,off:=0 }))]++List.replicate 197 aH,D:=[],F:=[],ctr:=1 }
def S36_2 (a0:C4)(v2_5:Int):St cxT.ty:={ slots:=[(.inr (.inr { kind:=2,nm:=0,cells:=[],s:={ own:=0,nm:=0,e:=35,o:=false,xs:=(List.cons a0 []) },i:=0,off:=0 })),aH,aH,aH,aH,(.inl (.inl (lv (.int .i64 v2_5))))]++List.replicate 192 aH,D:=[],F:=[],ctr:=1 }
def X36_2 (a0:C4):St cxT.ty:={ slots:=[(.inr (.inr { kind:=2,nm:=0,cells:=[],s:={ own:=0,nm:=0,e:=35,o:=false,xs:=(List.cons a0 []) },i:=0,off:=0 }))]++List.replicate 197 aH,D:=[],F:=[],ctr:=1 }
def S36_4 (a0:C4)(v4_7:Int):St cxT.ty:={ slots:=[(.inr (.inr { kind:=2,nm:=0,cells:=[],s:={ own:=0,nm:=0,e:=35,o:=false,xs:=(List.cons a0 []) },i:=0,off:=0 })),aH,aH,aH,aH,aH,aH,(.inl (.inl (lv (.int .i64 v4_7))))]++List.replicate 190 aH,D:=[],F:=[],ctr:=1 }
def X36_4 (a0:C4):St cxT.ty:={ slots:=[(.inr (.inr { kind:=2,nm:=0,cells:=[],s:={ own:=0,nm:=0,e:=35,o:=false,xs:=(List.cons a0 []) },i:=0,off:=0 }))]++List.replicate 197 aH,D:=[],F:=[],ctr:=1 }
def S36_6 (a0:C4)(v6_8:Int):St cxT.ty:={ slots:=[(.inr (.inr { kind:=2,nm:=0,cells:=[],s:={ own:=0,nm:=0,e:=35,o:=false,xs:=(List.cons a0 []) },i:=0,off:=0 })),aH,aH,aH,aH,aH,aH,aH,(.inl (.inl (lv (.int .i64 v6_8))))]++List.replicate 189 aH,D:=[],F:=[],ctr:=1 }
def X36_6 (a0:C4):St cxT.ty:={ slots:=[]++List.replicate 198 aH,D:=[],F:=[],ctr:=1 }
def G36 {B:Type}(u:Int->B)(hh0:Int->Option B)(eH:Y67)(eM:Y68)(eO:Y69)(bP:Y70)(m71:Y71)(a0:C4):Option B:=
 bif (decide ((Nat.cast (List.length a0.1):Int) < (1:Int)))then some (u (2:Int))
 else bif (decide ((Nat.cast (List.length a0.1):Int) > (5:Int)))then some (u (2:Int))
 else bif (decide ((Nat.cast (List.length a0.2.1):Int) > (80:Int)))then some (u (2:Int))
 else hh0 (0:Int)
def B36_0 {B:Type}(u:Int->B)(gg:Int->Option B)(kk:Option B)(eH:Y67)(eM:Y68)(eO:Y69)(bP:Y70)(m71:Y71)(a0:C4)(v0_3:Int):Option B:=
 bif (decide (v0_3 < (Nat.cast (List.length a0.1):Int)))then eF a0 λs1_0=>eF (List.getD s1_0.1 v0_3.toNat ((0:Int),((0:Int),((0:Int),((0:Int),(([]:List E9),((0:Int),((0:Int),(([]:List (Int)),(([]:List (Int)),([]:List (Int)))))))))))) λs1_1=>bif ((decide ((0:Int)<=v0_3))&&(decide (v0_3 < (Nat.cast (List.length s1_0.1):Int))))then cM (eH s1_1) (0:Int) λ(q3:Int)=>bif (q3 != (0:Int))then some (u q3)
    else bif ((decide ((0:Int)<=v0_3))&&(decide (v0_3 < (Nat.cast (List.length s1_0.1):Int))))then bif (s1_1.1 != v0_3)then some (u (1:Int))
     else bif ((decide ((0:Int)<=v0_3))&&(decide (v0_3 < (Nat.cast (List.length s1_0.1):Int))))then bif (s1_1.2.1 != (Nat.cast (List.length s1_0.1):Int))then some (u (1:Int))
      else gg (wrap .i64 (v0_3+(1:Int)))
     else none
    else none
  else none
 else kk
def A36_0 {B:Type}(u:Int->B)(hh2:Int->Option B)(eH:Y67)(eM:Y68)(eO:Y69)(bP:Y70)(m71:Y71)(a0:C4):Option B:=
 hh2 (0:Int)
def B36_2 {B:Type}(u:Int->B)(gg:Int->Option B)(kk:Option B)(eH:Y67)(eM:Y68)(eO:Y69)(bP:Y70)(m71:Y71)(a0:C4)(v2_5:Int):Option B:=
 bif (decide (v2_5 < (Nat.cast (List.length a0.2.1):Int)))then eF a0 λs1_0=>eF (List.getD s1_0.2.1 v2_5.toNat ((0:Int),((0:Int),((0:Int),((0:Int),((0:Int),((0:Int),((0:Int),(false,[]))))))))) λs1_1=>eF (List.getD s1_0.1 (Int.toNat s1_1.2.2.1) ((0:Int),((0:Int),((0:Int),((0:Int),(([]:List E9),((0:Int),((0:Int),(([]:List (Int)),(([]:List (Int)),([]:List (Int)))))))))))) λs1_2=>bif ((decide ((0:Int)<=v2_5))&&(decide (v2_5 < (Nat.cast (List.length s1_0.2.1):Int))))then cM (eM (s1_0,s1_1.2.2.1)) false λ(q3:Bool)=>bif (!q3)then some (u (3:Int))
    else bif ((decide ((0:Int)<=v2_5))&&(decide (v2_5 < (Nat.cast (List.length s1_0.2.1):Int))))then bif ((decide ((0:Int)<=s1_1.2.2.1))&&(decide (s1_1.2.2.1 < (Nat.cast (List.length s1_0.1):Int))))then bif ((decide ((0:Int)<=v2_5))&&(decide (v2_5 < (Nat.cast (List.length s1_0.2.1):Int))))then cM (eO (s1_2,(s1_1.1,(s1_1.2.1,(s1_1.2.2.1,(s1_1.2.2.2.1,(s1_1.2.2.2.2.1,(s1_1.2.2.2.2.2.1,(s1_1.2.2.2.2.2.2.1,(s1_1.2.2.2.2.2.2.2.1,s1_1.2.2.2.2.2.2.2.2)))))))))) (0:Int) λ(q7:Int)=>bif (q7 != (0:Int))then some (u q7)
        else gg (wrap .i64 (v2_5+(1:Int)))
      else none
     else none
    else none
  else none
 else kk
def A36_2 {B:Type}(u:Int->B)(hh4:Int->Option B)(eH:Y67)(eM:Y68)(eO:Y69)(bP:Y70)(m71:Y71)(a0:C4):Option B:=
 bif (decide ((Nat.cast (List.length a0.2.2.1):Int) > (400:Int)))then some (u (2:Int))
 else bif (decide ((Nat.cast (List.length a0.2.2.2):Int) > (40:Int)))then some (u (2:Int))
 else hh4 (0:Int)
def B36_4 {B:Type}(u:Int->B)(gg:Int->Option B)(kk:Option B)(eH:Y67)(eM:Y68)(eO:Y69)(bP:Y70)(m71:Y71)(a0:C4)(v4_7:Int):Option B:=
 bif (decide (v4_7 < (Nat.cast (List.length a0.2.2.1):Int)))then eF a0 λs1_0=>eF (List.getD s1_0.2.2.1 v4_7.toNat ((0:Int),(0:Int))) λs1_1=>bif ((decide ((0:Int)<=v4_7))&&(decide (v4_7 < (Nat.cast (List.length s1_0.2.2.1):Int))))then cM (bP (s1_1.1,((1:Int),(100000:Int)))) false λ(q3:Bool)=>bif (!q3)then some (u (3:Int))
    else bif ((decide ((0:Int)<=v4_7))&&(decide (v4_7 < (Nat.cast (List.length s1_0.2.2.1):Int))))then cM (eM (s1_0,s1_1.2)) false λ(q5:Bool)=>bif (!q5)then some (u (3:Int))
      else gg (wrap .i64 (v4_7+(1:Int)))
    else none
  else none
 else kk
def A36_4 {B:Type}(u:Int->B)(hh6:Int->Option B)(eH:Y67)(eM:Y68)(eO:Y69)(bP:Y70)(m71:Y71)(a0:C4):Option B:=
 hh6 (0:Int)
def B36_6 {B:Type}(u:Int->B)(gg:Int->Option B)(kk:Option B)(eH:Y67)(eM:Y68)(eO:Y69)(bP:Y70)(m71:Y71)(a0:C4)(v6_8:Int):Option B:=
 bif (decide (v6_8 < (Nat.cast (List.length a0.2.2.2):Int)))then eF a0 λs1_0=>eF (List.getD s1_0.2.2.2 v6_8.toNat ((0:Int),((0:Int),((0:Int),((0:Int),((0:Int),((0:Int),((0:Int),((0:Int),((0:Int),(0:Int))))))))))) λs1_1=>bif ((decide ((0:Int)<=v6_8))&&(decide (v6_8 < (Nat.cast (List.length s1_0.2.2.2):Int))))then cM (bP (s1_1.1,((1:Int),(100000:Int)))) false λ(q3:Bool)=>bif (!q3)then some (u (3:Int))
    else bif ((decide ((0:Int)<=v6_8))&&(decide (v6_8 < (Nat.cast (List.length s1_0.2.2.2):Int))))then cM (m71 (s1_1.2.1,(s1_1.2.2.1,(s1_1.2.2.2.1,(s1_1.2.2.2.2.1,(s1_1.2.2.2.2.2.1,(s1_1.2.2.2.2.2.2.1,(s1_1.2.2.2.2.2.2.2.1,(s1_1.2.2.2.2.2.2.2.2.1,s1_1.2.2.2.2.2.2.2.2.2))))))))) (0:Int) λ(q5:Int)=>bif (q5 != (0:Int))then some (u q5)
      else gg (wrap .i64 (v6_8+(1:Int)))
    else none
  else none
 else kk
def A36_6 {B:Type}(u:Int->B)(eH:Y67)(eM:Y68)(eO:Y69)(bP:Y70)(m71:Y71)(a0:C4):Option B:=
 some (u (0:Int))
def nU (eH:Y67)(eM:Y68)(eO:Y69)(bP:Y70)(m71:Y71)(L:Nat)(a0:C4):Nat->Int->(Option Int)->Option Int
 | 0,_,_=>none
 | n+1,v6_8,k=>B36_6 (λx=>x) (λv6_8=>nU eH eM eO bP m71 L a0 n v6_8 k) k eH eM eO bP m71 a0 v6_8
theorem aMa (eH:Y67)(eM:Y68)(eO:Y69)(bP:Y70)(m71:Y71)(L:Nat)(a0:C4)(k:St cxT.ty->Option (V cxT.ty))(xk:Nat->St cxT.ty->Option (V cxT.ty))(k':Option Int)(hk:k (X36_6 a0)=(k').map xB):∀ (n:Nat) (v6_8:Int),aS prog (jG eH eM eO bP m71) L f36 6 [1,1,1,1,1,1,0,1,0,0] (bE (aM prog f36) k xk) n (S36_6 a0 v6_8)=(nU eH eM eO bP m71 L a0 n v6_8 k').map xB
 | 0,_=>rfl
 | n+1,v6_8=>by
  rw[bF];have ih:=aMa eH eM eO bP m71 L a0 k xk k' hk n;refine .trans (b:=B36_6 xB (λv6_8=>(aS prog (jG eH eM eO bP m71) L f36 6 [1,1,1,1,1,1,0,1,0,0] (bE (aM prog f36) k xk) n) (S36_6 a0 v6_8)) (k (X36_6 a0)) eH eM eO bP m71 a0 v6_8) (by kernel_rfl) ?_;unfold nU B36_6
  repeat' first | with_reducible refine dG ?_ ?_ | with_reducible refine dE λ_=>?_ | with_reducible refine dF λ_=>?_ | with_reducible exact ih _ | with_reducible exact hk | exact rfl
def oO (eH:Y67)(eM:Y68)(eO:Y69)(bP:Y70)(m71:Y71)(L:Nat)(a0:C4):Nat->Int->(Option Int)->Option Int
 | 0,_,_=>none
 | n+1,v4_7,k=>B36_4 (λx=>x) (λv4_7=>oO eH eM eO bP m71 L a0 n v4_7 k) k eH eM eO bP m71 a0 v4_7
theorem aMb (eH:Y67)(eM:Y68)(eO:Y69)(bP:Y70)(m71:Y71)(L:Nat)(a0:C4)(k:St cxT.ty->Option (V cxT.ty))(xk:Nat->St cxT.ty->Option (V cxT.ty))(k':Option Int)(hk:k (X36_4 a0)=(k').map xB):∀ (n:Nat) (v4_7:Int),aS prog (jG eH eM eO bP m71) L f36 4 [1,1,1,1,1,0,1,0,0] (bE (aM prog f36) k xk) n (S36_4 a0 v4_7)=(oO eH eM eO bP m71 L a0 n v4_7 k').map xB
 | 0,_=>rfl
 | n+1,v4_7=>by
  rw[bF];have ih:=aMb eH eM eO bP m71 L a0 k xk k' hk n;refine .trans (b:=B36_4 xB (λv4_7=>(aS prog (jG eH eM eO bP m71) L f36 4 [1,1,1,1,1,0,1,0,0] (bE (aM prog f36) k xk) n) (S36_4 a0 v4_7)) (k (X36_4 a0)) eH eM eO bP m71 a0 v4_7) (by kernel_rfl) ?_;unfold oO B36_4
  repeat' first | with_reducible refine dG ?_ ?_ | with_reducible refine dE λ_=>?_ | with_reducible refine dF λ_=>?_ | with_reducible exact ih _ | with_reducible exact hk | exact rfl
def oP (eH:Y67)(eM:Y68)(eO:Y69)(bP:Y70)(m71:Y71)(L:Nat)(a0:C4):Nat->Int->(Option Int)->Option Int
 | 0,_,_=>none
 | n+1,v2_5,k=>B36_2 (λx=>x) (λv2_5=>oP eH eM eO bP m71 L a0 n v2_5 k) k eH eM eO bP m71 a0 v2_5
theorem aMc (eH:Y67)(eM:Y68)(eO:Y69)(bP:Y70)(m71:Y71)(L:Nat)(a0:C4)(k:St cxT.ty->Option (V cxT.ty))(xk:Nat->St cxT.ty->Option (V cxT.ty))(k':Option Int)(hk:k (X36_2 a0)=(k').map xB):∀ (n:Nat) (v2_5:Int),aS prog (jG eH eM eO bP m71) L f36 2 [1,1,1,0,1,0,0] (bE (aM prog f36) k xk) n (S36_2 a0 v2_5)=(oP eH eM eO bP m71 L a0 n v2_5 k').map xB
 | 0,_=>rfl
 | n+1,v2_5=>by
  rw[bF];have ih:=aMc eH eM eO bP m71 L a0 k xk k' hk n;refine .trans (b:=B36_2 xB (λv2_5=>(aS prog (jG eH eM eO bP m71) L f36 2 [1,1,1,0,1,0,0] (bE (aM prog f36) k xk) n) (S36_2 a0 v2_5)) (k (X36_2 a0)) eH eM eO bP m71 a0 v2_5) (by kernel_rfl) ?_;unfold oP B36_2
  repeat' first | with_reducible refine dG ?_ ?_ | with_reducible refine dE λ_=>?_ | with_reducible refine dF λ_=>?_ | with_reducible exact ih _ | with_reducible exact hk | exact rfl
def rK (eH:Y67)(eM:Y68)(eO:Y69)(bP:Y70)(m71:Y71)(L:Nat)(a0:C4):Nat->Int->(Option Int)->Option Int
 | 0,_,_=>none
 | n+1,v0_3,k=>B36_0 (λx=>x) (λv0_3=>rK eH eM eO bP m71 L a0 n v0_3 k) k eH eM eO bP m71 a0 v0_3
theorem aMd (eH:Y67)(eM:Y68)(eO:Y69)(bP:Y70)(m71:Y71)(L:Nat)(a0:C4)(k:St cxT.ty->Option (V cxT.ty))(xk:Nat->St cxT.ty->Option (V cxT.ty))(k':Option Int)(hk:k (X36_0 a0)=(k').map xB):∀ (n:Nat) (v0_3:Int),aS prog (jG eH eM eO bP m71) L f36 0 [1,1,0,1,0,0] (bE (aM prog f36) k xk) n (S36_0 a0 v0_3)=(rK eH eM eO bP m71 L a0 n v0_3 k').map xB
 | 0,_=>rfl
 | n+1,v0_3=>by
  rw[bF];have ih:=aMd eH eM eO bP m71 L a0 k xk k' hk n;refine .trans (b:=B36_0 xB (λv0_3=>(aS prog (jG eH eM eO bP m71) L f36 0 [1,1,0,1,0,0] (bE (aM prog f36) k xk) n) (S36_0 a0 v0_3)) (k (X36_0 a0)) eH eM eO bP m71 a0 v0_3) (by kernel_rfl) ?_;unfold rK B36_0
  repeat' first | with_reducible refine dG ?_ ?_ | with_reducible refine dE λ_=>?_ | with_reducible refine dF λ_=>?_ | with_reducible exact ih _ | with_reducible exact hk | exact rfl
def g36 (eH:Y67)(eM:Y68)(eO:Y69)(bP:Y70)(m71:Y71)(L:Nat)(a0:C4):Option Int:=G36 (λx=>x) (λv0_3=>rK eH eM eO bP m71 L a0 L v0_3 (A36_0 (λx=>x) (λv2_5=>oP eH eM eO bP m71 L a0 L v2_5 (A36_2 (λx=>x) (λv4_7=>oO eH eM eO bP m71 L a0 L v4_7 (A36_4 (λx=>x) (λv6_8=>nU eH eM eO bP m71 L a0 L v6_8 (A36_6 (λx=>x) eH eM eO bP m71 a0)) eH eM eO bP m71 a0)) eH eM eO bP m71 a0)) eH eM eO bP m71 a0)) eH eM eO bP m71 a0
theorem e36 (eH:Y67)(eM:Y68)(eO:Y69)(bP:Y70)(m71:Y71)(L:Nat)(a0:C4):eV prog (jG eH eM eO bP m71) (bI L) f36 (a36.enc a0)=(g36 eH eM eO bP m71 L a0).map xB:=by
 have hin6:∀ (v6_8:Int),aS prog (jG eH eM eO bP m71) L f36 6 [1,1,1,1,1,1,0,1,0,0] (bE (aM prog f36) (bU prog (jG eH eM eO bP m71) L f36 [1,1,1,1,1,1,0,1] (aM prog f36)).n (bU prog (jG eH eM eO bP m71) L f36 [1,1,1,1,1,1,0,1] (aM prog f36)).x) L (S36_6 a0 v6_8)=((λv6_8=>nU eH eM eO bP m71 L a0 L v6_8 (A36_6 (λx=>x) eH eM eO bP m71 a0)) v6_8).map xB:=λv6_8=>aMa eH eM eO bP m71 L a0 _ _ _ (by refine .trans (b:=A36_6 xB eH eM eO bP m71 a0) (by kernel_rfl) ?_;unfold A36_6;repeat' first | with_reducible refine dG ?_ ?_ | with_reducible refine dE λ_=>?_ | with_reducible refine dF λ_=>?_ | exact rfl) L v6_8
 have hin4:∀ (v4_7:Int),aS prog (jG eH eM eO bP m71) L f36 4 [1,1,1,1,1,0,1,0,0] (bE (aM prog f36) (bU prog (jG eH eM eO bP m71) L f36 [1,1,1,1,1,0,1] (aM prog f36)).n (bU prog (jG eH eM eO bP m71) L f36 [1,1,1,1,1,0,1] (aM prog f36)).x) L (S36_4 a0 v4_7)=((λv4_7=>oO eH eM eO bP m71 L a0 L v4_7 (A36_4 (λx=>x) (λv6_8=>nU eH eM eO bP m71 L a0 L v6_8 (A36_6 (λx=>x) eH eM eO bP m71 a0)) eH eM eO bP m71 a0)) v4_7).map xB:=λv4_7=>aMb eH eM eO bP m71 L a0 _ _ _ (by refine .trans (b:=A36_4 xB (λv6_8=>aS prog (jG eH eM eO bP m71) L f36 6 [1,1,1,1,1,1,0,1,0,0] (bE (aM prog f36) (bU prog (jG eH eM eO bP m71) L f36 [1,1,1,1,1,1,0,1] (aM prog f36)).n (bU prog (jG eH eM eO bP m71) L f36 [1,1,1,1,1,1,0,1] (aM prog f36)).x) L (S36_6 a0 v6_8)) eH eM eO bP m71 a0) (by kernel_rfl) ?_;unfold A36_4;repeat' first | with_reducible refine dG ?_ ?_ | with_reducible refine dE λ_=>?_ | with_reducible refine dF λ_=>?_ | with_reducible exact hin6 _ | exact rfl) L v4_7
 have hin2:∀ (v2_5:Int),aS prog (jG eH eM eO bP m71) L f36 2 [1,1,1,0,1,0,0] (bE (aM prog f36) (bU prog (jG eH eM eO bP m71) L f36 [1,1,1,0,1] (aM prog f36)).n (bU prog (jG eH eM eO bP m71) L f36 [1,1,1,0,1] (aM prog f36)).x) L (S36_2 a0 v2_5)=((λv2_5=>oP eH eM eO bP m71 L a0 L v2_5 (A36_2 (λx=>x) (λv4_7=>oO eH eM eO bP m71 L a0 L v4_7 (A36_4 (λx=>x) (λv6_8=>nU eH eM eO bP m71 L a0 L v6_8 (A36_6 (λx=>x) eH eM eO bP m71 a0)) eH eM eO bP m71 a0)) eH eM eO bP m71 a0)) v2_5).map xB:=λv2_5=>aMc eH eM eO bP m71 L a0 _ _ _ (by refine .trans (b:=A36_2 xB (λv4_7=>aS prog (jG eH eM eO bP m71) L f36 4 [1,1,1,1,1,0,1,0,0] (bE (aM prog f36) (bU prog (jG eH eM eO bP m71) L f36 [1,1,1,1,1,0,1] (aM prog f36)).n (bU prog (jG eH eM eO bP m71) L f36 [1,1,1,1,1,0,1] (aM prog f36)).x) L (S36_4 a0 v4_7)) eH eM eO bP m71 a0) (by kernel_rfl) ?_;unfold A36_2;repeat' first | with_reducible refine dG ?_ ?_ | with_reducible refine dE λ_=>?_ | with_reducible refine dF λ_=>?_ | with_reducible exact hin6 _ | with_reducible exact hin4 _ | exact rfl) L v2_5
 have hin0:∀ (v0_3:Int),aS prog (jG eH eM eO bP m71) L f36 0 [1,1,0,1,0,0] (bE (aM prog f36) (bU prog (jG eH eM eO bP m71) L f36 [1,1,0,1] (aM prog f36)).n (bU prog (jG eH eM eO bP m71) L f36 [1,1,0,1] (aM prog f36)).x) L (S36_0 a0 v0_3)=((λv0_3=>rK eH eM eO bP m71 L a0 L v0_3 (A36_0 (λx=>x) (λv2_5=>oP eH eM eO bP m71 L a0 L v2_5 (A36_2 (λx=>x) (λv4_7=>oO eH eM eO bP m71 L a0 L v4_7 (A36_4 (λx=>x) (λv6_8=>nU eH eM eO bP m71 L a0 L v6_8 (A36_6 (λx=>x) eH eM eO bP m71 a0)) eH eM eO bP m71 a0)) eH eM eO bP m71 a0)) eH eM eO bP m71 a0)) v0_3).map xB:=λv0_3=>aMd eH eM eO bP m71 L a0 _ _ _ (by refine .trans (b:=A36_0 xB (λv2_5=>aS prog (jG eH eM eO bP m71) L f36 2 [1,1,1,0,1,0,0] (bE (aM prog f36) (bU prog (jG eH eM eO bP m71) L f36 [1,1,1,0,1] (aM prog f36)).n (bU prog (jG eH eM eO bP m71) L f36 [1,1,1,0,1] (aM prog f36)).x) L (S36_2 a0 v2_5)) eH eM eO bP m71 a0) (by kernel_rfl) ?_;unfold A36_0;repeat' first | with_reducible refine dG ?_ ?_ | with_reducible refine dE λ_=>?_ | with_reducible refine dF λ_=>?_ | with_reducible exact hin6 _ | with_reducible exact hin4 _ | with_reducible exact hin2 _ | exact rfl) L v0_3
 refine .trans (b:=G36 xB (λv0_3=>aS prog (jG eH eM eO bP m71) L f36 0 [1,1,0,1,0,0] (bE (aM prog f36) (bU prog (jG eH eM eO bP m71) L f36 [1,1,0,1] (aM prog f36)).n (bU prog (jG eH eM eO bP m71) L f36 [1,1,0,1] (aM prog f36)).x) L (S36_0 a0 v0_3)) eH eM eO bP m71 a0) (by kernel_rfl) ?_;unfold g36 G36
 repeat' first | with_reducible refine dG ?_ ?_ | with_reducible refine dE λ_=>?_ | with_reducible refine dF λ_=>?_ | with_reducible exact hin6 _ | with_reducible exact hin4 _ | with_reducible exact hin2 _ | with_reducible exact hin0 _ | exact rfl
def w36 (eH:Y67)(eM:Y68)(eO:Y69)(bP:Y70)(m71:Y71)(L:Nat)(x:C4):Option Int:=g36 eH eM eO bP m71 L x
theorem s36 (eH:Y67)(eM:Y68)(eO:Y69)(bP:Y70)(m71:Y71)(h67:Sat prog cxT 67 (c67 eH))(h68:Sat prog cxT 68 (c68 eM))(h69:Sat prog cxT 69 (c69 eO))(h70:Sat prog cxT 70 (xQ bP))(h71:Sat prog cxT 71 (c71 m71))(m:Y36)(hm:∀ (x:C4) t,m x=some t->∃ L,w36 eH eM eO bP m71 L x=some t):Sat prog cxT 36 (c36 m):=
 bS bB aW (by rfl) (fn:=f36) rfl a36 xB aV2 m (jG eH eM eO bP m71) (aI h67 (aI h68 (aI h69 (aI h70 (aI h71 aV))))) aP (w36 eH eM eO bP m71) (λL x=>e36 eH eM eO bP m71 L x) hm bA0
end Go.Proofs.Tryz
