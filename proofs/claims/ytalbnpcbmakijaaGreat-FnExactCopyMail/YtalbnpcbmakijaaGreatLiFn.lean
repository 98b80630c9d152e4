/- A part of the proof of FnExactCopyMail: LiFn, LiFo. -/
import Derived.Test.YtalbnpcbmakijaaGreatLiBase
set_option linter.unusedSimpArgs false
set_option linter.unusedVariables false
set_option maxHeartbeats 0
set_option maxRecDepth 100000
namespace Go.Proofs.Tryz
open Go.IntKind (wrap)
open Go Go.VM Go.RowKit
def aOu (eY:Y116):Env cxT:={ Kc:=cS [(116,aIE eY)],Kw:=cR [],lv:=λi=>[],xv:=λi=>none }
def G115 {B:Type}(u:N10->B)(eY:Y116)(a0_0:Int)(a0_1:Int)(a0_2:Int)(a0_3:Int)(a0_4:(List E9))(a0_5:Int)(a0_6:Int)(a0_7:(List Int))(a0_8:(List Int))(a0_9:(List Int)):Option B:=
 dB (eY a0_4) [] λ(q1:(List E9))=>bif (decide (((List.length ([]:List (Int)))+(List.length a0_7))<=(1000000000:Nat)))then bif (decide (((List.length ([]:List (Int)))+(List.length a0_8))<=(1000000000:Nat)))then bif (decide (((List.length ([]:List (Int)))+(List.length a0_9))<=(1000000000:Nat)))then some (u (a0_0,a0_1,a0_2,a0_3,q1,a0_5,a0_6,(([]:List (Int))++a0_7),(([]:List (Int))++a0_8),(([]:List (Int))++a0_9)))
    else none
   else none
  else none
def aMj (eY:Y116)(L:Nat)(a0_0:Int)(a0_1:Int)(a0_2:Int)(a0_3:Int)(a0_4:(List E9))(a0_5:Int)(a0_6:Int)(a0_7:(List Int))(a0_8:(List Int))(a0_9:(List Int)):Option N10:=G115 (λx=>x) eY a0_0 a0_1 a0_2 a0_3 a0_4 a0_5 a0_6 a0_7 a0_8 a0_9
theorem bFa (eY:Y116)(L:Nat)(a0_0:Int)(a0_1:Int)(a0_2:Int)(a0_3:Int)(a0_4:(List E9))(a0_5:Int)(a0_6:Int)(a0_7:(List Int))(a0_8:(List Int))(a0_9:(List Int)):fK prog (aOu eY) (bJ L) f115 (aZX.enc (a0_0,a0_1,a0_2,a0_3,a0_4,a0_5,a0_6,a0_7,a0_8,a0_9))=(aMj eY L a0_0 a0_1 a0_2 a0_3 a0_4 a0_5 a0_6 a0_7 a0_8 a0_9).map aIf:=by
 refine .trans (b:=G115 aIf eY a0_0 a0_1 a0_2 a0_3 a0_4 a0_5 a0_6 a0_7 a0_8 a0_9) (by kernel_rfl) ?_;unfold aMj G115
 repeat' first | with_reducible refine dP ?_ ?_ | with_reducible refine dL λ_=>?_ | with_reducible refine dO λ_=>?_ | exact rfl
def aQf (eY:Y116)(L:Nat)(x:N10):Option N10:=aMj eY L x.1 x.2.1 x.2.2.1 x.2.2.2.1 x.2.2.2.2.1 x.2.2.2.2.2.1 x.2.2.2.2.2.2.1 x.2.2.2.2.2.2.2.1 x.2.2.2.2.2.2.2.2.1 x.2.2.2.2.2.2.2.2.2
theorem bCf (eY:Y116)(h116:Sat prog cxT 116 (aIE eY))(m:Y115)(hm:∀ (x:N10) t,m x=some t->∃ L,aQf eY L x=some t):Sat prog cxT 115 (aMV m):=
 cD bA aW (by rfl) (fn:=f115) rfl aZX aIf aPy m (aOu eY) (aL h116 aV) aP (aQf eY) (λL x=>bFa eY L x.1 x.2.1 x.2.2.1 x.2.2.2.1 x.2.2.2.2.1 x.2.2.2.2.2.1 x.2.2.2.2.2.2.1 x.2.2.2.2.2.2.2.1 x.2.2.2.2.2.2.2.2.1 x.2.2.2.2.2.2.2.2.2) hm aVV
def aOt:Env cxT:={ Kc:=cS [],Kw:=cR [],lv:=λi=>[],xv:=λi=>none }
def G116 {B:Type}(u:(List E9)->B)(a0:(List E9)):Option B:=
 bif (decide (((List.length ([]:List E9))+(List.length a0))<=(1000000000:Nat)))then some (u ([]++a0))
 else none
def aMi (L:Nat)(a0:(List E9)):Option (List E9):=G116 (λx=>x) a0
theorem bE9 (L:Nat)(a0:(List E9)):fK prog aOt (bJ L) f116 (aZW.enc a0)=(aMi L a0).map aIe:=by
 refine .trans (b:=G116 aIe a0) (by kernel_rfl) ?_;unfold aMi G116
 repeat' first | with_reducible refine dP ?_ ?_ | with_reducible refine dL λ_=>?_ | with_reducible refine dO λ_=>?_ | exact rfl
def aQe (L:Nat)(x:(List E9)):Option (List E9):=aMi L x
theorem bCe (m:Y116)(hm:∀ (x:(List E9)) t,m x=some t->∃ L,aQe L x=some t):Sat prog cxT 116 (aIE m):=
 cD bA aW (by rfl) (fn:=f116) rfl aZW aIe aPx m aOt aV aP (aQe) (λL x=>bE9 L x) hm aVU
def aW0 (vX:Y39)(bM:Y88):Env cxT:={ Kc:=cS [(39,c39 vX),(88,xQ bM)],Kw:=cR [],lv:=λi=>[],xv:=λi=>none }
def G54 {B:Type}(u:Int->B)(vX:Y39)(bM:Y88)(a0:C4)(a1:Int):Option B:=
 dB (vX a0) (0:Int) λ(q1:Int)=>bif (q1 != (0:Int))then some (u q1)
  else dB (bM (a1,((0:Int),(wrap .i64 ((Nat.cast (List.length a0.2.1):Int)-(1:Int)))))) false λ(q2:Bool)=>bif (!q2)then some (u (3:Int))
   else some (u (0:Int))
def g54 (vX:Y39)(bM:Y88)(L:Nat)(a0:C4)(a1:Int):Option Int:=G54 (λx=>x) vX bM a0 a1
theorem e54 (vX:Y39)(bM:Y88)(L:Nat)(a0:C4)(a1:Int):fK prog (aW0 vX bM) (bJ L) f54 (a54.enc (a0,a1))=(g54 vX bM L a0 a1).map n54:=by
 refine .trans (b:=G54 n54 vX bM a0 a1) (by kernel_rfl) ?_;unfold g54 G54
 repeat' first | with_reducible refine dP ?_ ?_ | with_reducible refine dL λ_=>?_ | with_reducible refine dO λ_=>?_ | exact rfl
def w54 (vX:Y39)(bM:Y88)(L:Nat)(x:(C4×Int)):Option Int:=g54 vX bM L x.1 x.2
theorem s54 (vX:Y39)(bM:Y88)(h39:Sat prog cxT 39 (c39 vX))(h88:Sat prog cxT 88 (xQ bM))(m:Y54)(hm:∀ (x:(C4×Int)) t,m x=some t->∃ L,w54 vX bM L x=some t):Sat prog cxT 54 (c54 m):=
 cD bA aW (by rfl) (fn:=f54) rfl a54 n54 aXV m (aW0 vX bM) (aL h39 (aL h88 aV)) aP (w54 vX bM) (λL x=>e54 vX bM L x.1 x.2) hm bDa
def aWZ:Env cxT:={ Kc:=cS [],Kw:=cR [],lv:=λi=>[],xv:=λi=>none }
def G55 {B:Type}(u:R5->B)(a0:Int):Option B:=
 some (u (a0,[],[],([]:List W2),([]:List S10)))
def g55 (L:Nat)(a0:Int):Option R5:=G55 (λx=>x) a0
theorem e55 (L:Nat)(a0:Int):fK prog aWZ (bJ L) f55 (a55.enc a0)=(g55 L a0).map n55:=by
 refine .trans (b:=G55 n55 a0) (by kernel_rfl) ?_;unfold g55 G55
 repeat' first | with_reducible refine dP ?_ ?_ | with_reducible refine dL λ_=>?_ | with_reducible refine dO λ_=>?_ | exact rfl
def w55 (L:Nat)(x:Int):Option R5:=g55 L x
theorem s55 (m:Y55)(hm:∀ (x:Int) t,m x=some t->∃ L,w55 L x=some t):Sat prog cxT 55 (c55 m):=
 cD bA aW (by rfl) (fn:=f55) rfl a55 n55 aXU m aWZ aV aP (w55) (λL x=>e55 L x) hm bC9
def aWY (m14:Y14)(fY:Y48):Env cxT:={ Kc:=cS [(14,c14 m14),(48,c48 fY)],Kw:=cR [],lv:=λi=>[],xv:=λi=>none }
def G57 {B:Type}(u:Int->B)(m14:Y14)(fY:Y48)(a0_0:(List N10))(a0_1:(List M9))(a0_2:(List W2))(a0_3:(List S10))(a1:Int)(a2:Int):Option B:=
 dB (m14 (a0_0,(a0_1,(a0_2,a0_3)))) (0:Int) λ(q1:Int)=>bif (q1 != (0:Int))then some (u q1)
  else dB (fY (a1,a2)) false λ(q2:Bool)=>bif (!q2)then some (u (3:Int))
   else some (u (0:Int))
def g57 (m14:Y14)(fY:Y48)(L:Nat)(a0_0:(List N10))(a0_1:(List M9))(a0_2:(List W2))(a0_3:(List S10))(a1:Int)(a2:Int):Option Int:=G57 (λx=>x) m14 fY a0_0 a0_1 a0_2 a0_3 a1 a2
theorem e57 (m14:Y14)(fY:Y48)(L:Nat)(a0_0:(List N10))(a0_1:(List M9))(a0_2:(List W2))(a0_3:(List S10))(a1:Int)(a2:Int):fK prog (aWY m14 fY) (bJ L) f57 (a57.enc ((a0_0,a0_1,a0_2,a0_3),a1,a2))=(g57 m14 fY L a0_0 a0_1 a0_2 a0_3 a1 a2).map n57:=by
 refine .trans (b:=G57 n57 m14 fY a0_0 a0_1 a0_2 a0_3 a1 a2) (by kernel_rfl) ?_;unfold g57 G57
 repeat' first | with_reducible refine dP ?_ ?_ | with_reducible refine dL λ_=>?_ | with_reducible refine dO λ_=>?_ | exact rfl
def w57 (m14:Y14)(fY:Y48)(L:Nat)(x:(C4×Int×Int)):Option Int:=g57 m14 fY L x.1.1 x.1.2.1 x.1.2.2.1 x.1.2.2.2 x.2.1 x.2.2
theorem s57 (m14:Y14)(fY:Y48)(h14:Sat prog cxT 14 (c14 m14))(h48:Sat prog cxT 48 (c48 fY))(m:Y57)(hm:∀ (x:(C4×Int×Int)) t,m x=some t->∃ L,w57 m14 fY L x=some t):Sat prog cxT 57 (c57 m):=
 cD bA aW (by rfl) (fn:=f57) rfl a57 n57 aXT m (aWY m14 fY) (aL h14 (aL h48 aV)) aP (w57 m14 fY) (λL x=>e57 m14 fY L x.1.1 x.1.2.1 x.1.2.2.1 x.1.2.2.2 x.2.1 x.2.2) hm bC8
def aCl (jN:Y67)(gR:Y115):Env cxT:={ Kc:=cS [(67,c67 jN),(115,aMV gR)],Kw:=cR [],lv:=λi=>if i=0 then[(1,[some 96,some 78,some 66,some 118]),(2,[some 96,some 78,some 66,some 118]),(3,[some 96,some 78,some 66,some 118]),(4,[])]else[],xv:=λi=>if i=0 then some [(2,[some 96,some 78,some 66,some 118]),(3,[some 96,some 78,some 66,some 118])]else none }
def S66_0 (a0_0:(List N10))(a0_1:(List M9))(a0_2:(List W2))(a0_3:(List S10))(v0_1_0:(List N10))(v0_1_1:(List M9))(v0_1_2:(List W2))(v0_1_3:(List S10))(v0_2_0:(List N10))(v0_2_1:(List M9))(v0_2_2:(List W2))(v0_2_3:(List S10))(v0_3_0:(List N10))(v0_3_1:(List M9))(v0_3_2:(List W2))(v0_3_3:(List S10))(v0_4:Int):St cxT.ty:={ slots:=[aK,(.inr (.inr { kind:=0,nm:=64,cells:=[(ls { own:=0,nm:=0,e:=96,o:=false,xs:=v0_1_0 }),(ls { own:=0,nm:=0,e:=78,o:=false,xs:=v0_1_1 }),(ls { own:=0,nm:=0,e:=66,o:=false,xs:=v0_1_2 }),(ls { own:=0,nm:=0,e:=118,o:=false,xs:=v0_1_3 })],s:={ own:=0,nm:=0,e:=0,o:=false,xs:=([]:List (PUnit)) },i:=0,off:=0 })),(.inr (.inr { kind:=0,nm:=128,cells:=[(ls { own:=1,nm:=129,e:=96,o:=true,xs:=v0_2_0 }),(ls { own:=1,nm:=130,e:=78,o:=true,xs:=v0_2_1 }),(ls { own:=1,nm:=131,e:=66,o:=true,xs:=v0_2_2 }),(ls { own:=1,nm:=132,e:=118,o:=true,xs:=v0_2_3 })],s:={ own:=0,nm:=0,e:=0,o:=false,xs:=([]:List (PUnit)) },i:=0,off:=0 })),(.inr (.inr { kind:=0,nm:=192,cells:=[(ls { own:=1,nm:=193,e:=96,o:=true,xs:=v0_3_0 }),(ls { own:=1,nm:=194,e:=78,o:=true,xs:=v0_3_1 }),(ls { own:=1,nm:=195,e:=66,o:=true,xs:=v0_3_2 }),(ls { own:=1,nm:=196,e:=118,o:=true,xs:=v0_3_3 })],s:={ own:=0,nm:=0,e:=0,o:=false,xs:=([]:List (PUnit)) },i:=0,off:=0 })),(.inl (.inl (lv (.int .i64 v0_4))))]++List.replicate 31 aK,D:=[],F:=[],ctr:=1 }
def X66_0 (a0_0:(List N10))(a0_1:(List M9))(a0_2:(List W2))(a0_3:(List S10))(w0_2_0:(List N10))(w0_2_1:(List M9))(w0_2_2:(List W2))(w0_2_3:(List S10))(w0_3_0:(List N10))(w0_3_1:(List M9))(w0_3_2:(List W2))(w0_3_3:(List S10)):St cxT.ty:={ slots:=[aK,aK,(.inr (.inr { kind:=0,nm:=128,cells:=[(ls { own:=1,nm:=129,e:=96,o:=true,xs:=w0_2_0 }),(ls { own:=1,nm:=130,e:=78,o:=true,xs:=w0_2_1 }),(ls { own:=1,nm:=131,e:=66,o:=true,xs:=w0_2_2 }),(ls { own:=1,nm:=132,e:=118,o:=true,xs:=w0_2_3 })],s:={ own:=0,nm:=0,e:=0,o:=false,xs:=([]:List (PUnit)) },i:=0,off:=0 })),(.inr (.inr { kind:=0,nm:=192,cells:=[(ls { own:=1,nm:=193,e:=96,o:=true,xs:=w0_3_0 }),(ls { own:=1,nm:=194,e:=78,o:=true,xs:=w0_3_1 }),(ls { own:=1,nm:=195,e:=66,o:=true,xs:=w0_3_2 }),(ls { own:=1,nm:=196,e:=118,o:=true,xs:=w0_3_3 })],s:={ own:=0,nm:=0,e:=0,o:=false,xs:=([]:List (PUnit)) },i:=0,off:=0 }))]++List.replicate 32 aK,D:=[],F:=[],ctr:=1 }
def G66 {B:Type}(u:C4->B)(hh0:(List N10)->(List M9)->(List W2)->(List S10)->(List N10)->(List M9)->(List W2)->(List S10)->(List N10)->(List M9)->(List W2)->(List S10)->Int->Option B)(jN:Y67)(gR:Y115)(a0_0:(List N10))(a0_1:(List M9))(a0_2:(List W2))(a0_3:(List S10)):Option B:=
 dB (jN a0_1) [] λ(q1:(List M9))=>bif (decide (((List.length ([]:List W2))+(List.length a0_2))<=(1000000000:Nat)))then bif (decide (((List.length ([]:List S10))+(List.length a0_3))<=(1000000000:Nat)))then hh0 a0_0 a0_1 a0_2 a0_3 [] [] ([]:List W2) ([]:List S10) [] q1 (([]:List W2)++a0_2) (([]:List S10)++a0_3) (0:Int)
   else none
  else none
def B66_0 {B:Type}(u:C4->B)(gg:(List N10)->(List M9)->(List W2)->(List S10)->(List N10)->(List M9)->(List W2)->(List S10)->(List N10)->(List M9)->(List W2)->(List S10)->Int->Option B)(kk:(List N10)->(List M9)->(List W2)->(List S10)->(List N10)->(List M9)->(List W2)->(List S10)->Option B)(jN:Y67)(gR:Y115)(a0_0:(List N10))(a0_1:(List M9))(a0_2:(List W2))(a0_3:(List S10))(v0_1_0:(List N10))(v0_1_1:(List M9))(v0_1_2:(List W2))(v0_1_3:(List S10))(v0_2_0:(List N10))(v0_2_1:(List M9))(v0_2_2:(List W2))(v0_2_3:(List S10))(v0_3_0:(List N10))(v0_3_1:(List M9))(v0_3_2:(List W2))(v0_3_3:(List S10))(v0_4:Int):Option B:=
 bif (decide (v0_4 < (Nat.cast (List.length v0_1_0):Int)))then dY (List.getD v0_1_0 v0_4.toNat ((0:Int),((0:Int),((0:Int),((0:Int),(([]:List E9),((0:Int),((0:Int),(([]:List (Int)),(([]:List (Int)),([]:List (Int)))))))))))) λs1_0=>bif ((decide ((0:Int)<=v0_4))&&(decide (v0_4 < (Nat.cast (List.length v0_1_0):Int))))then dB (gR (s1_0.1,(s1_0.2.1,(s1_0.2.2.1,(s1_0.2.2.2.1,(s1_0.2.2.2.2.1,(s1_0.2.2.2.2.2.1,(s1_0.2.2.2.2.2.2.1,(s1_0.2.2.2.2.2.2.2.1,(s1_0.2.2.2.2.2.2.2.2.1,s1_0.2.2.2.2.2.2.2.2.2)))))))))) ((0:Int),(0:Int),(0:Int),(0:Int),[],(0:Int),(0:Int),[],[],[]) λ(q3:N10)=>bif (decide (((List.length v0_3_0)+(List.length (List.cons (q3.1,(q3.2.1,(q3.2.2.1,(q3.2.2.2.1,(q3.2.2.2.2.1,(q3.2.2.2.2.2.1,(q3.2.2.2.2.2.2.1,(q3.2.2.2.2.2.2.2.1,(q3.2.2.2.2.2.2.2.2.1,q3.2.2.2.2.2.2.2.2.2))))))))) [])))<=(1000000000:Nat)))then gg v0_1_0 v0_1_1 v0_1_2 v0_1_3 v0_2_0 v0_2_1 v0_2_2 v0_2_3 (v0_3_0++(List.cons (q3.1,(q3.2.1,(q3.2.2.1,(q3.2.2.2.1,(q3.2.2.2.2.1,(q3.2.2.2.2.2.1,(q3.2.2.2.2.2.2.1,(q3.2.2.2.2.2.2.2.1,(q3.2.2.2.2.2.2.2.2.1,q3.2.2.2.2.2.2.2.2.2))))))))) [])) v0_3_1 v0_3_2 v0_3_3 (wrap .i64 (v0_4+(1:Int)))
    else none
  else none
 else kk v0_2_0 v0_2_1 v0_2_2 v0_2_3 v0_3_0 v0_3_1 v0_3_2 v0_3_3
def A66_0 {B:Type}(u:C4->B)(jN:Y67)(gR:Y115)(a0_0:(List N10))(a0_1:(List M9))(a0_2:(List W2))(a0_3:(List S10))(w0_2_0:(List N10))(w0_2_1:(List M9))(w0_2_2:(List W2))(w0_2_3:(List S10))(w0_3_0:(List N10))(w0_3_1:(List M9))(w0_3_2:(List W2))(w0_3_3:(List S10)):Option B:=
 some (u (w0_3_0,w0_3_1,w0_3_2,w0_3_3))
def yZ (jN:Y67)(gR:Y115)(L:Nat)(a0_0:(List N10))(a0_1:(List M9))(a0_2:(List W2))(a0_3:(List S10)):Nat->(List N10)->(List M9)->(List W2)->(List S10)->(List N10)->(List M9)->(List W2)->(List S10)->(List N10)->(List M9)->(List W2)->(List S10)->Int->((List N10)->(List M9)->(List W2)->(List S10)->(List N10)->(List M9)->(List W2)->(List S10)->Option C4)->Option C4
 | 0,_,_,_,_,_,_,_,_,_,_,_,_,_,_=>none
 | n+1,v0_1_0,v0_1_1,v0_1_2,v0_1_3,v0_2_0,v0_2_1,v0_2_2,v0_2_3,v0_3_0,v0_3_1,v0_3_2,v0_3_3,v0_4,k=>B66_0 (λx=>x) (λv0_1_0 v0_1_1 v0_1_2 v0_1_3 v0_2_0 v0_2_1 v0_2_2 v0_2_3 v0_3_0 v0_3_1 v0_3_2 v0_3_3 v0_4=>yZ jN gR L a0_0 a0_1 a0_2 a0_3 n v0_1_0 v0_1_1 v0_1_2 v0_1_3 v0_2_0 v0_2_1 v0_2_2 v0_2_3 v0_3_0 v0_3_1 v0_3_2 v0_3_3 v0_4 k) k jN gR a0_0 a0_1 a0_2 a0_3 v0_1_0 v0_1_1 v0_1_2 v0_1_3 v0_2_0 v0_2_1 v0_2_2 v0_2_3 v0_3_0 v0_3_1 v0_3_2 v0_3_3 v0_4
theorem aNt (jN:Y67)(gR:Y115)(L:Nat)(a0_0:(List N10))(a0_1:(List M9))(a0_2:(List W2))(a0_3:(List S10))(k:St cxT.ty->Option (V cxT.ty))(xk:Nat->St cxT.ty->Option (V cxT.ty))(k':(List N10)->(List M9)->(List W2)->(List S10)->(List N10)->(List M9)->(List W2)->(List S10)->Option C4)(hk:∀ (w0_2_0:(List N10)) (w0_2_1:(List M9)) (w0_2_2:(List W2)) (w0_2_3:(List S10)) (w0_3_0:(List N10)) (w0_3_1:(List M9)) (w0_3_2:(List W2)) (w0_3_3:(List S10)),k (X66_0 a0_0 a0_1 a0_2 a0_3 w0_2_0 w0_2_1 w0_2_2 w0_2_3 w0_3_0 w0_3_1 w0_3_2 w0_3_3)=(k' w0_2_0 w0_2_1 w0_2_2 w0_2_3 w0_3_0 w0_3_1 w0_3_2 w0_3_3).map n66):∀ (n:Nat) (v0_1_0:(List N10)) (v0_1_1:(List M9)) (v0_1_2:(List W2)) (v0_1_3:(List S10)) (v0_2_0:(List N10)) (v0_2_1:(List M9)) (v0_2_2:(List W2)) (v0_2_3:(List S10)) (v0_3_0:(List N10)) (v0_3_1:(List M9)) (v0_3_2:(List W2)) (v0_3_3:(List S10)) (v0_4:Int),bE prog (aCl jN gR) L f66 0 [1,1,0,1,0,0] (bW (aX prog f66) k xk) n (S66_0 a0_0 a0_1 a0_2 a0_3 v0_1_0 v0_1_1 v0_1_2 v0_1_3 v0_2_0 v0_2_1 v0_2_2 v0_2_3 v0_3_0 v0_3_1 v0_3_2 v0_3_3 v0_4)=(yZ jN gR L a0_0 a0_1 a0_2 a0_3 n v0_1_0 v0_1_1 v0_1_2 v0_1_3 v0_2_0 v0_2_1 v0_2_2 v0_2_3 v0_3_0 v0_3_1 v0_3_2 v0_3_3 v0_4 k').map n66
 | 0,_,_,_,_,_,_,_,_,_,_,_,_,_=>rfl
 | n+1,v0_1_0,v0_1_1,v0_1_2,v0_1_3,v0_2_0,v0_2_1,v0_2_2,v0_2_3,v0_3_0,v0_3_1,v0_3_2,v0_3_3,v0_4=>by
  rw[bP];have ih:=aNt jN gR L a0_0 a0_1 a0_2 a0_3 k xk k' hk n;refine .trans (b:=B66_0 n66 (λv0_1_0 v0_1_1 v0_1_2 v0_1_3 v0_2_0 v0_2_1 v0_2_2 v0_2_3 v0_3_0 v0_3_1 v0_3_2 v0_3_3 v0_4=>(bE prog (aCl jN gR) L f66 0 [1,1,0,1,0,0] (bW (aX prog f66) k xk) n) (S66_0 a0_0 a0_1 a0_2 a0_3 v0_1_0 v0_1_1 v0_1_2 v0_1_3 v0_2_0 v0_2_1 v0_2_2 v0_2_3 v0_3_0 v0_3_1 v0_3_2 v0_3_3 v0_4)) (λw0_2_0 w0_2_1 w0_2_2 w0_2_3 w0_3_0 w0_3_1 w0_3_2 w0_3_3=>k (X66_0 a0_0 a0_1 a0_2 a0_3 w0_2_0 w0_2_1 w0_2_2 w0_2_3 w0_3_0 w0_3_1 w0_3_2 w0_3_3)) jN gR a0_0 a0_1 a0_2 a0_3 v0_1_0 v0_1_1 v0_1_2 v0_1_3 v0_2_0 v0_2_1 v0_2_2 v0_2_3 v0_3_0 v0_3_1 v0_3_2 v0_3_3 v0_4) (by kernel_rfl) ?_;unfold yZ B66_0
  repeat' first | with_reducible refine dP ?_ ?_ | with_reducible refine dL λ_=>?_ | with_reducible refine dO λ_=>?_ | with_reducible exact ih _ _ _ _ _ _ _ _ _ _ _ _ _ | with_reducible exact hk _ _ _ _ _ _ _ _ | exact rfl
def g66 (jN:Y67)(gR:Y115)(L:Nat)(a0_0:(List N10))(a0_1:(List M9))(a0_2:(List W2))(a0_3:(List S10)):Option C4:=G66 (λx=>x) (λv0_1_0 v0_1_1 v0_1_2 v0_1_3 v0_2_0 v0_2_1 v0_2_2 v0_2_3 v0_3_0 v0_3_1 v0_3_2 v0_3_3 v0_4=>yZ jN gR L a0_0 a0_1 a0_2 a0_3 L v0_1_0 v0_1_1 v0_1_2 v0_1_3 v0_2_0 v0_2_1 v0_2_2 v0_2_3 v0_3_0 v0_3_1 v0_3_2 v0_3_3 v0_4 (λw0_2_0 w0_2_1 w0_2_2 w0_2_3 w0_3_0 w0_3_1 w0_3_2 w0_3_3=>A66_0 (λx=>x) jN gR a0_0 a0_1 a0_2 a0_3 w0_2_0 w0_2_1 w0_2_2 w0_2_3 w0_3_0 w0_3_1 w0_3_2 w0_3_3)) jN gR a0_0 a0_1 a0_2 a0_3
theorem e66 (jN:Y67)(gR:Y115)(L:Nat)(a0_0:(List N10))(a0_1:(List M9))(a0_2:(List W2))(a0_3:(List S10)):fK prog (aCl jN gR) (bJ L) f66 (a66.enc (a0_0,a0_1,a0_2,a0_3))=(g66 jN gR L a0_0 a0_1 a0_2 a0_3).map n66:=by
 have hin0:∀ (v0_1_0:(List N10)) (v0_1_1:(List M9)) (v0_1_2:(List W2)) (v0_1_3:(List S10)) (v0_2_0:(List N10)) (v0_2_1:(List M9)) (v0_2_2:(List W2)) (v0_2_3:(List S10)) (v0_3_0:(List N10)) (v0_3_1:(List M9)) (v0_3_2:(List W2)) (v0_3_3:(List S10)) (v0_4:Int),bE prog (aCl jN gR) L f66 0 [1,1,0,1,0,0] (bW (aX prog f66) (bV prog (aCl jN gR) L f66 [1,1,0,1] (aX prog f66)).n (bV prog (aCl jN gR) L f66 [1,1,0,1] (aX prog f66)).x) L (S66_0 a0_0 a0_1 a0_2 a0_3 v0_1_0 v0_1_1 v0_1_2 v0_1_3 v0_2_0 v0_2_1 v0_2_2 v0_2_3 v0_3_0 v0_3_1 v0_3_2 v0_3_3 v0_4)=((λv0_1_0 v0_1_1 v0_1_2 v0_1_3 v0_2_0 v0_2_1 v0_2_2 v0_2_3 v0_3_0 v0_3_1 v0_3_2 v0_3_3 v0_4=>yZ jN gR L a0_0 a0_1 a0_2 a0_3 L v0_1_0 v0_1_1 v0_1_2 v0_1_3 v0_2_0 v0_2_1 v0_2_2 v0_2_3 v0_3_0 v0_3_1 v0_3_2 v0_3_3 v0_4 (λw0_2_0 w0_2_1 w0_2_2 w0_2_3 w0_3_0 w0_3_1 w0_3_2 w0_3_3=>A66_0 (λx=>x) jN gR a0_0 a0_1 a0_2 a0_3 w0_2_0 w0_2_1 w0_2_2 w0_2_3 w0_3_0 w0_3_1 w0_3_2 w0_3_3)) v0_1_0 v0_1_1 v0_1_2 v0_1_3 v0_2_0 v0_2_1 v0_2_2 v0_2_3 v0_3_0 v0_3_1 v0_3_2 v0_3_3 v0_4).map n66:=λv0_1_0 v0_1_1 v0_1_2 v0_1_3 v0_2_0 v0_2_1 v0_2_2 v0_2_3 v0_3_0 v0_3_1 v0_3_2 v0_3_3 v0_4=>aNt jN gR L a0_0 a0_1 a0_2 a0_3 _ _ _ (λw0_2_0 w0_2_1 w0_2_2 w0_2_3 w0_3_0 w0_3_1 w0_3_2 w0_3_3=>by refine .trans (b:=A66_0 n66 jN gR a0_0 a0_1 a0_2 a0_3 w0_2_0 w0_2_1 w0_2_2 w0_2_3 w0_3_0 w0_3_1 w0_3_2 w0_3_3) (by kernel_rfl) ?_;unfold A66_0;repeat' first | with_reducible refine dP ?_ ?_ | with_reducible refine dL λ_=>?_ | with_reducible refine dO λ_=>?_ | exact rfl) L v0_1_0 v0_1_1 v0_1_2 v0_1_3 v0_2_0 v0_2_1 v0_2_2 v0_2_3 v0_3_0 v0_3_1 v0_3_2 v0_3_3 v0_4
 refine .trans (b:=G66 n66 (λv0_1_0 v0_1_1 v0_1_2 v0_1_3 v0_2_0 v0_2_1 v0_2_2 v0_2_3 v0_3_0 v0_3_1 v0_3_2 v0_3_3 v0_4=>bE prog (aCl jN gR) L f66 0 [1,1,0,1,0,0] (bW (aX prog f66) (bV prog (aCl jN gR) L f66 [1,1,0,1] (aX prog f66)).n (bV prog (aCl jN gR) L f66 [1,1,0,1] (aX prog f66)).x) L (S66_0 a0_0 a0_1 a0_2 a0_3 v0_1_0 v0_1_1 v0_1_2 v0_1_3 v0_2_0 v0_2_1 v0_2_2 v0_2_3 v0_3_0 v0_3_1 v0_3_2 v0_3_3 v0_4)) jN gR a0_0 a0_1 a0_2 a0_3) (by kernel_rfl) ?_;unfold g66 G66
 repeat' first | with_reducible refine dP ?_ ?_ | with_reducible refine dL λ_=>?_ | with_reducible refine dO λ_=>?_ | with_reducible exact hin0 _ _ _ _ _ _ _ _ _ _ _ _ _ | exact rfl
def w66 (jN:Y67)(gR:Y115)(L:Nat)(x:C4):Option C4:=g66 jN gR L x.1 x.2.1 x.2.2.1 x.2.2.2
theorem s66 (jN:Y67)(gR:Y115)(h67:Sat prog cxT 67 (c67 jN))(h115:Sat prog cxT 115 (aMV gR))(m:Y66)(hm:∀ (x:C4) t,m x=some t->∃ L,w66 jN gR L x=some t):Sat prog cxT 66 (c66 m):=
 cD bA aW (by rfl) (fn:=f66) rfl a66 n66 aXN m (aCl jN gR) (aL h67 (aL h115 aV)) aP (w66 jN gR) (λL x=>e66 jN gR L x.1 x.2.1 x.2.2.1 x.2.2.2) hm bC2
def aCk (eY:Y116):Env cxT:={ Kc:=cS [(116,aIE eY)],Kw:=cR [],lv:=λi=>if i=0 then[(0,[some 78]),(3,[some 78]),(4,[])]else[],xv:=λi=>if i=0 then some [(3,[some 78])]else none }
def S67_0 (a0:(List M9))(v0_3:(List M9))(v0_4:Int):St cxT.ty:={ slots:=[(.inl (.inl (ls { own:=0,nm:=0,e:=78,o:=false,xs:=a0 }))),aK,aK,(.inl (.inl (ls { own:=1,nm:=192,e:=78,o:=true,xs:=v0_3 }))),(.inl (.inl (lv (.int .i64 v0_4))))]++List.replicate 21 aK,D:=[],F:=[],ctr:=1 }
def X67_0 (a0:(List M9))(w0_3:(List M9)):St cxT.ty:={ slots:=[aK,aK,aK,(.inl (.inl (ls { own:=1,nm:=192,e:=78,o:=true,xs:=w0_3 })))]++List.replicate 22 aK,D:=[],F:=[],ctr:=1 }
def G67 {B:Type}(u:(List M9)->B)(hh0:(List M9)->Int->Option B)(eY:Y116)(a0:(List M9)):Option B:=
 hh0 [] (0:Int)
def B67_0 {B:Type}(u:(List M9)->B)(gg:(List M9)->Int->Option B)(kk:(List M9)->Option B)(eY:Y116)(a0:(List M9))(v0_3:(List M9))(v0_4:Int):Option B:=
 bif (decide (v0_4 < (Nat.cast (List.length a0):Int)))then dY (List.getD a0 v0_4.toNat ((0:Int),((0:Int),((0:Int),((0:Int),((0:Int),((0:Int),((0:Int),(false,[]))))))))) λs1_0=>bif ((decide ((0:Int)<=v0_4))&&(decide (v0_4 < (Nat.cast (List.length a0):Int))))then dB (eY s1_0.2.2.2.2.2.2.2.2) [] λ(q3:(List E9))=>bif (decide (((List.length v0_3)+(List.length (List.cons (s1_0.1,(s1_0.2.1,(s1_0.2.2.1,(s1_0.2.2.2.1,(s1_0.2.2.2.2.1,(s1_0.2.2.2.2.2.1,(s1_0.2.2.2.2.2.2.1,(s1_0.2.2.2.2.2.2.2.1,q3)))))))) [])))<=(1000000000:Nat)))then gg (v0_3++(List.cons (s1_0.1,(s1_0.2.1,(s1_0.2.2.1,(s1_0.2.2.2.1,(s1_0.2.2.2.2.1,(s1_0.2.2.2.2.2.1,(s1_0.2.2.2.2.2.2.1,(s1_0.2.2.2.2.2.2.2.1,q3)))))))) [])) (wrap .i64 (v0_4+(1:Int)))
    else none
  else none
 else kk v0_3
def A67_0 {B:Type}(u:(List M9)->B)(eY:Y116)(a0:(List M9))(w0_3:(List M9)):Option B:=
 some (u w0_3)
def yY (eY:Y116)(L:Nat)(a0:(List M9)):Nat->(List M9)->Int->((List M9)->Option (List M9))->Option (List M9)
 | 0,_,_,_=>none
 | n+1,v0_3,v0_4,k=>B67_0 (λx=>x) (λv0_3 v0_4=>yY eY L a0 n v0_3 v0_4 k) k eY a0 v0_3 v0_4
theorem aNs (eY:Y116)(L:Nat)(a0:(List M9))(k:St cxT.ty->Option (V cxT.ty))(xk:Nat->St cxT.ty->Option (V cxT.ty))(k':(List M9)->Option (List M9))(hk:∀ (w0_3:(List M9)),k (X67_0 a0 w0_3)=(k' w0_3).map n67):∀ (n:Nat) (v0_3:(List M9)) (v0_4:Int),bE prog (aCk eY) L f67 0 [1,1,0,1,0,0] (bW (aX prog f67) k xk) n (S67_0 a0 v0_3 v0_4)=(yY eY L a0 n v0_3 v0_4 k').map n67
 | 0,_,_=>rfl
 | n+1,v0_3,v0_4=>by
  rw[bP];have ih:=aNs eY L a0 k xk k' hk n;refine .trans (b:=B67_0 n67 (λv0_3 v0_4=>(bE prog (aCk eY) L f67 0 [1,1,0,1,0,0] (bW (aX prog f67) k xk) n) (S67_0 a0 v0_3 v0_4)) (λw0_3=>k (X67_0 a0 w0_3)) eY a0 v0_3 v0_4) (by kernel_rfl) ?_;unfold yY B67_0
  repeat' first | with_reducible refine dP ?_ ?_ | with_reducible refine dL λ_=>?_ | with_reducible refine dO λ_=>?_ | with_reducible exact ih _ _ | with_reducible exact hk _ | exact rfl
def g67 (eY:Y116)(L:Nat)(a0:(List M9)):Option (List M9):=G67 (λx=>x) (λv0_3 v0_4=>yY eY L a0 L v0_3 v0_4 (λw0_3=>A67_0 (λx=>x) eY a0 w0_3)) eY a0
theorem e67 (eY:Y116)(L:Nat)(a0:(List M9)):fK prog (aCk eY) (bJ L) f67 (a67.enc a0)=(g67 eY L a0).map n67:=by
 have hin0:∀ (v0_3:(List M9)) (v0_4:Int),bE prog (aCk eY) L f67 0 [1,1,0,1,0,0] (bW (aX prog f67) (bV prog (aCk eY) L f67 [1,1,0,1] (aX prog f67)).n (bV prog (aCk eY) L f67 [1,1,0,1] (aX prog f67)).x) L (S67_0 a0 v0_3 v0_4)=((λv0_3 v0_4=>yY eY L a0 L v0_3 v0_4 (λw0_3=>A67_0 (λx=>x) eY a0 w0_3)) v0_3 v0_4).map n67:=λv0_3 v0_4=>aNs eY L a0 _ _ _ (λw0_3=>by refine .trans (b:=A67_0 n67 eY a0 w0_3) (by kernel_rfl) ?_;unfold A67_0;repeat' first | with_reducible refine dP ?_ ?_ | with_reducible refine dL λ_=>?_ | with_reducible refine dO λ_=>?_ | exact rfl) L v0_3 v0_4
 refine .trans (b:=G67 n67 (λv0_3 v0_4=>bE prog (aCk eY) L f67 0 [1,1,0,1,0,0] (bW (aX prog f67) (bV prog (aCk eY) L f67 [1,1,0,1] (aX prog f67)).n (bV prog (aCk eY) L f67 [1,1,0,1] (aX prog f67)).x) L (S67_0 a0 v0_3 v0_4)) eY a0) (by kernel_rfl) ?_;unfold g67 G67
 repeat' first | with_reducible refine dP ?_ ?_ | with_reducible refine dL λ_=>?_ | with_reducible refine dO λ_=>?_ | with_reducible exact hin0 _ _ | exact rfl
def w67 (eY:Y116)(L:Nat)(x:(List M9)):Option (List M9):=g67 eY L x
theorem s67 (eY:Y116)(h116:Sat prog cxT 116 (aIE eY))(m:Y67)(hm:∀ (x:(List M9)) t,m x=some t->∃ L,w67 eY L x=some t):Sat prog cxT 67 (c67 m):=
 cD bA aW (by rfl) (fn:=f67) rfl a67 n67 aXM m (aCk eY) (aL h116 aV) aP (w67 eY) (λL x=>e67 eY L x) hm bC1
def aWW:Env cxT:={ Kc:=cS [],Kw:=cR [],lv:=λi=>[],xv:=λi=>none }
def G69 {B:Type}(u:(Bool×(List N10)×(List M9)×(List W2)×(List S10))->B)(a0_0:(List N10))(a0_1:(List M9))(a0_2:(List W2))(a0_3:(List S10))(a1:(List M9)):Option B:=
 bif (decide (((List.length a0_1)+(List.length a1))<=(1000000000:Nat)))then some (u ((decide ((Nat.cast (List.length (a0_1++a1)):Int)<=(80:Int))),a0_0,(a0_1++a1),a0_2,a0_3))
 else none
def g69 (L:Nat)(a0_0:(List N10))(a0_1:(List M9))(a0_2:(List W2))(a0_3:(List S10))(a1:(List M9)):Option (Bool×(List N10)×(List M9)×(List W2)×(List S10)):=G69 (λx=>x) a0_0 a0_1 a0_2 a0_3 a1
theorem e69 (L:Nat)(a0_0:(List N10))(a0_1:(List M9))(a0_2:(List W2))(a0_3:(List S10))(a1:(List M9)):aMp prog aWW (bJ L) f69 (a69.enc ((a0_0,a0_1,a0_2,a0_3),a1)) none=(g69 L a0_0 a0_1 a0_2 a0_3 a1).map n69:=by
 refine .trans (b:=G69 n69 a0_0 a0_1 a0_2 a0_3 a1) (by kernel_rfl) ?_;unfold g69 G69
 repeat' first | with_reducible refine dP ?_ ?_ | with_reducible refine dL λ_=>?_ | with_reducible refine dO λ_=>?_ | exact rfl
def w69 (L:Nat)(x:(C4×(List M9))):Option (Bool×(List N10)×(List M9)×(List W2)×(List S10)):=g69 L x.1.1 x.1.2.1 x.1.2.2.1 x.1.2.2.2 x.2
theorem s69 (m:Y69)(hm:∀ (x:(C4×(List M9))) t,m x=some t->∃ L,w69 L x=some t):SatQ prog cxT 69 (c69 m).nres (c69 m).F (c69 m).bx:=
 aTT bA aW (by rfl) (fn:=f69) rfl rfl a69 n69 aXL m aWW aV aP (w69) (λL x=>e69 L x.1.1 x.1.2.1 x.1.2.2.1 x.1.2.2.2 x.2) hm bC0
def aW8 (m54:Y54)(m55:Y55)(zZ:Y66)(jN:Y67):Env cxT:={ Kc:=cS [(54,c54 m54),(55,c55 m55),(66,c66 zZ),(67,c67 jN)],Kw:=cR [],lv:=λi=>[],xv:=λi=>none }
def G22 {B:Type}(u:R5->B)(m54:Y54)(m55:Y55)(zZ:Y66)(jN:Y67)(a0_0:(List N10))(a0_1:(List M9))(a0_2:(List W2))(a0_3:(List S10))(a1:Int):Option B:=
 dB (m54 ((a0_0,(a0_1,(a0_2,a0_3))),a1)) (0:Int) λ(q1:Int)=>bif (q1 != (0:Int))then dB (m55 q1) ((0:Int),[],[],[],[]) λ(q3:R5)=>some (u (q3.1,q3.2.1,q3.2.2.1,q3.2.2.2.1,q3.2.2.2.2))
  else bif (decide ((Nat.cast (List.length a0_1):Int)>=(80:Int)))then dB (m55 (2:Int)) ((0:Int),[],[],[],[]) λ(q3:R5)=>some (u (q3.1,q3.2.1,q3.2.2.1,q3.2.2.2.1,q3.2.2.2.2))
  else dB (zZ (a0_0,(a0_1,(a0_2,a0_3)))) ([],[],[],[]) λ(q2:C4)=>bif (((decide ((0:Int)<=a1))&&(decide (a1<=(wrap .i64 (a1+(1:Int))))))&&(decide ((wrap .i64 (a1+(1:Int)))<=(Nat.cast (List.length a0_1):Int))))then dB (jN (List.drop a1.toNat (List.take (Int.toNat (wrap .i64 (a1+(1:Int)))) a0_1))) [] λ(q4:(List M9))=>bif (decide (((List.length q2.2.1)+(List.length q4))<=(1000000000:Nat)))then some (u ((0:Int),q2.1,(q2.2.1++q4),q2.2.2.1,q2.2.2.2))
     else none
   else none
def g22 (m54:Y54)(m55:Y55)(zZ:Y66)(jN:Y67)(L:Nat)(a0_0:(List N10))(a0_1:(List M9))(a0_2:(List W2))(a0_3:(List S10))(a1:Int):Option R5:=G22 (λx=>x) m54 m55 zZ jN a0_0 a0_1 a0_2 a0_3 a1
theorem e22 (m54:Y54)(m55:Y55)(zZ:Y66)(jN:Y67)(L:Nat)(a0_0:(List N10))(a0_1:(List M9))(a0_2:(List W2))(a0_3:(List S10))(a1:Int):fK prog (aW8 m54 m55 zZ jN) (bJ L) f22 (a22.enc ((a0_0,a0_1,a0_2,a0_3),a1))=(g22 m54 m55 zZ jN L a0_0 a0_1 a0_2 a0_3 a1).map n22:=by
 refine .trans (b:=G22 n22 m54 m55 zZ jN a0_0 a0_1 a0_2 a0_3 a1) (by kernel_rfl) ?_;unfold g22 G22
 repeat' first | with_reducible refine dP ?_ ?_ | with_reducible refine dL λ_=>?_ | with_reducible refine dO λ_=>?_ | exact rfl
def w22 (m54:Y54)(m55:Y55)(zZ:Y66)(jN:Y67)(L:Nat)(x:(C4×Int)):Option R5:=g22 m54 m55 zZ jN L x.1.1 x.1.2.1 x.1.2.2.1 x.1.2.2.2 x.2
theorem s22 (m54:Y54)(m55:Y55)(zZ:Y66)(jN:Y67)(h54:Sat prog cxT 54 (c54 m54))(h55:Sat prog cxT 55 (c55 m55))(h66:Sat prog cxT 66 (c66 zZ))(h67:Sat prog cxT 67 (c67 jN))(m:Y22)(hm:∀ (x:(C4×Int)) t,m x=some t->∃ L,w22 m54 m55 zZ jN L x=some t):Sat prog cxT 22 (c22 m):=
 cD bA aW (by rfl) (fn:=f22) rfl a22 n22 aYh m (aW8 m54 m55 zZ jN) (aL h54 (aL h55 (aL h66 (aL h67 aV)))) aP (w22 m54 m55 zZ jN) (λL x=>e22 m54 m55 zZ jN L x.1.1 x.1.2.1 x.1.2.2.1 x.1.2.2.2 x.2) hm bDw
def aW7 (m57:Y57)(m68:Y68)(wU:Y70)(xL:Y69):Env cxT:={ Kc:=cS [(57,c57 m57),(68,c68 m68),(70,c70 wU)],Kw:=cR [(69,c69 xL)],lv:=λi=>[],xv:=λi=>none }
def G23 {B:Type}(u:R5->B)(m57:Y57)(m68:Y68)(wU:Y70)(xL:Y69)(a0_0:(List N10))(a0_1:(List M9))(a0_2:(List W2))(a0_3:(List S10))(a1:Int):Option B:=
 dB (m57 ((a0_0,(a0_1,(a0_2,a0_3))),(a1,(Nat.cast (List.length a0_1):Int)))) (0:Int) λ(q1:Int)=>bif (q1 != (0:Int))then some (u (q1,[],[],([]:List W2),([]:List S10)))
  else dB (m68 (a0_0,(a0_1,(a0_2,a0_3)))) ([],[],[],[]) λ(q2:C4)=>bif (((decide ((0:Int)<=a1))&&(decide (a1<=(wrap .i64 (a1+(1:Int))))))&&(decide ((wrap .i64 (a1+(1:Int)))<=(Nat.cast (List.length a0_1):Int))))then dB (wU (List.drop a1.toNat (List.take (Int.toNat (wrap .i64 (a1+(1:Int)))) a0_1))) [] λ(q4:(List M9))=>dB (xL ((q2.1,(q2.2.1,(q2.2.2.1,q2.2.2.2))),q4)) (false,[],[],[],[]) λ(q5:(Bool×(List N10)×(List M9)×(List W2)×(List S10)))=>bif (!q5.1)then some (u ((2:Int),[],[],([]:List W2),([]:List S10)))
      else some (u ((0:Int),q5.2.1,q5.2.2.1,q5.2.2.2.1,q5.2.2.2.2))
   else none
def g23 (m57:Y57)(m68:Y68)(wU:Y70)(xL:Y69)(L:Nat)(a0_0:(List N10))(a0_1:(List M9))(a0_2:(List W2))(a0_3:(List S10))(a1:Int):Option R5:=G23 (λx=>x) m57 m68 wU xL a0_0 a0_1 a0_2 a0_3 a1
theorem e23 (m57:Y57)(m68:Y68)(wU:Y70)(xL:Y69)(L:Nat)(a0_0:(List N10))(a0_1:(List M9))(a0_2:(List W2))(a0_3:(List S10))(a1:Int):fK prog (aW7 m57 m68 wU xL) (bJ L) f23 (a23.enc ((a0_0,a0_1,a0_2,a0_3),a1))=(g23 m57 m68 wU xL L a0_0 a0_1 a0_2 a0_3 a1).map n23:=by
 refine .trans (b:=G23 n23 m57 m68 wU xL a0_0 a0_1 a0_2 a0_3 a1) (by kernel_rfl) ?_;unfold g23 G23
 repeat' first | with_reducible refine dP ?_ ?_ | with_reducible refine dL λ_=>?_ | with_reducible refine dO λ_=>?_ | exact rfl
def w23 (m57:Y57)(m68:Y68)(wU:Y70)(xL:Y69)(L:Nat)(x:(C4×Int)):Option R5:=g23 m57 m68 wU xL L x.1.1 x.1.2.1 x.1.2.2.1 x.1.2.2.2 x.2
theorem s23 (m57:Y57)(m68:Y68)(wU:Y70)(xL:Y69)(h57:Sat prog cxT 57 (c57 m57))(h68:Sat prog cxT 68 (c68 m68))(h70:Sat prog cxT 70 (c70 wU))(h69:SatQ prog cxT 69 (c69 xL).nres (c69 xL).F (c69 xL).bx)(m:Y23)(hm:∀ (x:(C4×Int)) t,m x=some t->∃ L,w23 m57 m68 wU xL L x=some t):Sat prog cxT 23 (c23 m):=
 cD bA aW (by rfl) (fn:=f23) rfl a23 n23 aYg m (aW7 m57 m68 wU xL) (aL h57 (aL h68 (aL h70 aV))) (iO h69 aP) (w23 m57 m68 wU xL) (λL x=>e23 m57 m68 wU xL L x.1.1 x.1.2.1 x.1.2.2.1 x.1.2.2.2 x.2) hm bDv
def ev5 (pH:Y11)(oB:Y13)(m22:Y22)(zP:Y23)(yC:Y18)(kG:Y15)(mH:Y19)(wV:Y20)(yV:Y21):Env cxT:={ Kc:=cS [(11,c11 pH),(13,c13 oB),(22,c22 m22),(23,c23 zP),(18,c18 yC),(15,c15 kG),(21,c21 yV)],Kw:=cR [(19,c19 mH),(20,c20 wV)],lv:=λi=>[],xv:=λi=>none }
def G5 {B:Type}(u:Bool->B)(pH:Y11)(oB:Y13)(m22:Y22)(zP:Y23)(yC:Y18)(kG:Y15)(mH:Y19)(wV:Y20)(yV:Y21)(a0_0:(List N10))(a0_1:(List M9))(a0_2:(List W2))(a0_3:(List S10))(a1:Int):Option B:=
 dB (pH (((a0_0,(a0_1,(a0_2,a0_3))).1,((a0_0,(a0_1,(a0_2,a0_3))).2.1,((a0_0,(a0_1,(a0_2,a0_3))).2.2.1,(a0_0,(a0_1,(a0_2,a0_3))).2.2.2))),(1048576:Int))) (0:Int) λ(q1:Int)=>bif (decide (q1 < (0:Int)))then some (u true)
  else dB (oB ((a0_0,(a0_1,(a0_2,a0_3))).1,((a0_0,(a0_1,(a0_2,a0_3))).2.1,((a0_0,(a0_1,(a0_2,a0_3))).2.2.1,(a0_0,(a0_1,(a0_2,a0_3))).2.2.2)))) ([],[],[],[]) λ(q2:C4)=>dB (m22 ((q2.1,(q2.2.1,(q2.2.2.1,q2.2.2.2))),a1)) ((0:Int),[],[],[],[]) λ(q3:R5)=>dB (oB ((a0_0,(a0_1,(a0_2,a0_3))).1,((a0_0,(a0_1,(a0_2,a0_3))).2.1,((a0_0,(a0_1,(a0_2,a0_3))).2.2.1,(a0_0,(a0_1,(a0_2,a0_3))).2.2.2)))) ([],[],[],[]) λ(q4:C4)=>dB (zP ((q2.1,(q2.2.1,(q2.2.2.1,q2.2.2.2))),a1)) ((0:Int),[],[],[],[]) λ(q5:R5)=>dB (yC ((q5.1,(q5.2.1,(q5.2.2.1,(q5.2.2.2.1,q5.2.2.2.2)))),(q3.1,(q3.2.1,(q3.2.2.1,(q3.2.2.2.1,q3.2.2.2.2)))))) false λ(q6:Bool)=>bif (!q6)then some (u false)
       else dB (oB ((a0_0,(a0_1,(a0_2,a0_3))).1,((a0_0,(a0_1,(a0_2,a0_3))).2.1,((a0_0,(a0_1,(a0_2,a0_3))).2.2.1,(a0_0,(a0_1,(a0_2,a0_3))).2.2.2)))) ([],[],[],[]) λ(q7:C4)=>dB (kG ((q2.1,(q2.2.1,(q2.2.2.1,q2.2.2.2))),(q2.1,(q2.2.1,(q2.2.2.1,q2.2.2.2))))) false λ(q8:Bool)=>bif (!q8)then some (u false)
         else dB (mH ((q2.1,(q2.2.1,(q2.2.2.1,q2.2.2.2))),(1:Int))) ((0:Int),[],[],[],[]) λ(q9:R5)=>bif (decide (q9.1 < (0:Int)))then some (u false)
          else dB (yC ((q5.1,(q5.2.1,(q5.2.2.1,(q5.2.2.2.1,q5.2.2.2.2)))),(q3.1,(q3.2.1,(q3.2.2.1,(q3.2.2.2.1,q3.2.2.2.2)))))) false λ(q10:Bool)=>bif (!q6)then some (u false)
           else dB (wV ((q5.1,(q5.2.1,(q5.2.2.1,(q5.2.2.2.1,q5.2.2.2.2)))),(1:Int))) ((0:Int),(0:Int),[],[],[],[]) λ(q11:(Int×Int×(List N10)×(List M9)×(List W2)×(List S10)))=>dB (yV ((q5.1,(q11.2.2.1,(q11.2.2.2.1,(q11.2.2.2.2.1,q11.2.2.2.2.2)))),(1:Int))) (0:Int) λ(q12:Int)=>bif (decide (q12 < (0:Int)))then some (u false)
             else bif (q12 != q11.1)then some (u false)
             else dB (oB ((a0_0,(a0_1,(a0_2,a0_3))).1,((a0_0,(a0_1,(a0_2,a0_3))).2.1,((a0_0,(a0_1,(a0_2,a0_3))).2.2.1,(a0_0,(a0_1,(a0_2,a0_3))).2.2.2)))) ([],[],[],[]) λ(q13:C4)=>dB (zP ((q2.1,(q2.2.1,(q2.2.2.1,q2.2.2.2))),a1)) ((0:Int),[],[],[],[]) λ(q14:R5)=>dB (yC ((q5.1,(q5.2.1,(q5.2.2.1,(q5.2.2.2.1,q5.2.2.2.2)))),(q3.1,(q3.2.1,(q3.2.2.1,(q3.2.2.2.1,q3.2.2.2.2)))))) false λ(q15:Bool)=>bif (!q6)then some (u false)
                else dB (yV ((q5.1,(q11.2.2.1,(q11.2.2.2.1,(q11.2.2.2.2.1,q11.2.2.2.2.2)))),(1:Int))) (0:Int) λ(q16:Int)=>bif (decide (q12 < (0:Int)))then some (u false)
                 else bif (q12 != q11.1)then some (u false)
                 else some (u true)
def g5 (pH:Y11)(oB:Y13)(m22:Y22)(zP:Y23)(yC:Y18)(kG:Y15)(mH:Y19)(wV:Y20)(yV:Y21)(L:Nat)(a0_0:(List N10))(a0_1:(List M9))(a0_2:(List W2))(a0_3:(List S10))(a1:Int):Option Bool:=G5 (λx=>x) pH oB m22 zP yC kG mH wV yV a0_0 a0_1 a0_2 a0_3 a1
theorem e5 (pH:Y11)(oB:Y13)(m22:Y22)(zP:Y23)(yC:Y18)(kG:Y15)(mH:Y19)(wV:Y20)(yV:Y21)(L:Nat)(a0_0:(List N10))(a0_1:(List M9))(a0_2:(List W2))(a0_3:(List S10))(a1:Int):aKT prog (ev5 pH oB m22 zP yC kG mH wV yV) (bJ L) f5 (a5.enc ((a0_0,a0_1,a0_2,a0_3),a1))=(g5 pH oB m22 zP yC kG mH wV yV L a0_0 a0_1 a0_2 a0_3 a1).map n5:=by
 refine .trans (b:=G5 n5 pH oB m22 zP yC kG mH wV yV a0_0 a0_1 a0_2 a0_3 a1) (by kernel_rfl) ?_;unfold g5 G5
 repeat' first | with_reducible refine dP ?_ ?_ | with_reducible refine dL λ_=>?_ | with_reducible refine dO λ_=>?_ | exact rfl
def w5 (pH:Y11)(oB:Y13)(m22:Y22)(zP:Y23)(yC:Y18)(kG:Y15)(mH:Y19)(wV:Y20)(yV:Y21)(L:Nat)(x:(C4×Int)):Option Bool:=g5 pH oB m22 zP yC kG mH wV yV L x.1.1 x.1.2.1 x.1.2.2.1 x.1.2.2.2 x.2
theorem s5 (pH:Y11)(oB:Y13)(m22:Y22)(zP:Y23)(yC:Y18)(kG:Y15)(mH:Y19)(wV:Y20)(yV:Y21)(h11:Sat prog cxT 11 (c11 pH))(h13:Sat prog cxT 13 (c13 oB))(h22:Sat prog cxT 22 (c22 m22))(h23:Sat prog cxT 23 (c23 zP))(h18:Sat prog cxT 18 (c18 yC))(h15:Sat prog cxT 15 (c15 kG))(h19:SatW prog cxT 19 (c19 mH).nres (c19 mH).n (c19 mH).F)(h20:SatW prog cxT 20 (c20 wV).nres (c20 wV).n (c20 wV).F)(h21:Sat prog cxT 21 (c21 yV))(m:Y5)(hm:∀ (x:(C4×Int)) t,m x=some t->∃ L,w5 pH oB m22 zP yC kG mH wV yV L x=some t):Sat prog cxT 5 (c5 m):=
 aNb bA aW (by rfl) (fn:=f5) rfl a5 n5 dd5 m (ev5 pH oB m22 zP yC kG mH wV yV) (aL h11 (aL h13 (aL h22 (aL h23 (aL h18 (aL h15 (aL h21 aV))))))) (iO h19 (iO h20 aP)) (w5 pH oB m22 zP yC kG mH wV yV) (λL x=>e5 pH oB m22 zP yC kG mH wV yV L x.1.1 x.1.2.1 x.1.2.2.1 x.1.2.2.2 x.2) hm hs5
end Go.Proofs.Tryz
set_option maxHeartbeats 0
set_option maxRecDepth 100000
namespace Go.Proofs.Tryz
open Go.IntKind (wrap)
open Go Go.VM Go.RowKit
def aOs:Env cxT:={ Kc:=cS [],Kw:=cR [],lv:=λi=>[],xv:=λi=>none }
def G118 {B:Type}(u:N10->B)(a0_0:Int)(a0_1:Int)(a0_2:Int)(a0_3:Int)(a0_4:(List E9))(a0_5:Int)(a0_6:Int)(a0_7:(List Int))(a0_8:(List Int))(a0_9:(List Int)):Option B:=
 bif (decide ((List.length a0_4)<=(1000000000:Nat)))then bif (decide ((List.length a0_7)<=(1000000000:Nat)))then bif (decide ((List.length a0_8)<=(1000000000:Nat)))then bif (decide ((List.length a0_9)<=(1000000000:Nat)))then some (u (a0_0,a0_1,a0_2,a0_3,a0_4,a0_5,a0_6,a0_7,a0_8,a0_9))
    else none
   else none
  else none
 else none
def aMh (L:Nat)(a0_0:Int)(a0_1:Int)(a0_2:Int)(a0_3:Int)(a0_4:(List E9))(a0_5:Int)(a0_6:Int)(a0_7:(List Int))(a0_8:(List Int))(a0_9:(List Int)):Option N10:=G118 (λx=>x) a0_0 a0_1 a0_2 a0_3 a0_4 a0_5 a0_6 a0_7 a0_8 a0_9
theorem bE8 (L:Nat)(a0_0:Int)(a0_1:Int)(a0_2:Int)(a0_3:Int)(a0_4:(List E9))(a0_5:Int)(a0_6:Int)(a0_7:(List Int))(a0_8:(List Int))(a0_9:(List Int)):fK prog aOs (bJ L) f118 (aZV.enc (a0_0,a0_1,a0_2,a0_3,a0_4,a0_5,a0_6,a0_7,a0_8,a0_9))=(aMh L a0_0 a0_1 a0_2 a0_3 a0_4 a0_5 a0_6 a0_7 a0_8 a0_9).map aEz:=by
 refine .trans (b:=G118 aEz a0_0 a0_1 a0_2 a0_3 a0_4 a0_5 a0_6 a0_7 a0_8 a0_9) (by kernel_rfl) ?_;unfold aMh G118
 repeat' first | with_reducible refine dP ?_ ?_ | with_reducible refine dL λ_=>?_ | with_reducible refine dO λ_=>?_ | exact rfl
def aQd (L:Nat)(x:N10):Option N10:=aMh L x.1 x.2.1 x.2.2.1 x.2.2.2.1 x.2.2.2.2.1 x.2.2.2.2.2.1 x.2.2.2.2.2.2.1 x.2.2.2.2.2.2.2.1 x.2.2.2.2.2.2.2.2.1 x.2.2.2.2.2.2.2.2.2
theorem bCd (m:Y118)(hm:∀ (x:N10) t,m x=some t->∃ L,aQd L x=some t):Sat prog cxT 118 (aSs m):=
 cD bA aW (by rfl) (fn:=f118) rfl aZV aEz aKY m aOs aV aP (aQd) (λL x=>bE8 L x.1 x.2.1 x.2.2.1 x.2.2.2.1 x.2.2.2.2.1 x.2.2.2.2.2.1 x.2.2.2.2.2.2.1 x.2.2.2.2.2.2.2.1 x.2.2.2.2.2.2.2.2.1 x.2.2.2.2.2.2.2.2.2) hm aVT
def G119 {B:Type}(u:(List W2)->B)(a0:(List W2)):Option B:=
 bif ((Nat.cast (List.length a0):Int) == (0:Int))then some (u ([]:List W2))
 else bif (((decide ((0:Int)<=(Nat.cast (List.length a0):Int)))&&(decide ((Nat.cast (List.length a0):Int)<=(Nat.cast (List.length a0):Int))))&&(decide ((Nat.cast (List.length a0):Int)<=(1000000000:Int))))then none
 else none
def aWA (L:Nat)(a0:(List W2)):Option (List W2):=G119 (λx=>x) a0
def G120 {B:Type}(u:(List S10)->B)(a0:(List S10)):Option B:=
 bif ((Nat.cast (List.length a0):Int) == (0:Int))then some (u ([]:List S10))
 else bif (((decide ((0:Int)<=(Nat.cast (List.length a0):Int)))&&(decide ((Nat.cast (List.length a0):Int)<=(Nat.cast (List.length a0):Int))))&&(decide ((Nat.cast (List.length a0):Int)<=(1000000000:Int))))then none
 else none
def aWz (L:Nat)(a0:(List S10)):Option (List S10):=G120 (λx=>x) a0
end Go.Proofs.Tryz
