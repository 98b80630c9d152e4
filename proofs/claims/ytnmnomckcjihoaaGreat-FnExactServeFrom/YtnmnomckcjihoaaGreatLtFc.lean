/- A part of the proof of FnExactServeFrom: LtFc. -/
import Derived.Test.YtnmnomckcjihoaaGreatLtCon
set_option linter.unusedSimpArgs false
set_option linter.unusedVariables false
set_option maxHeartbeats 0
set_option maxRecDepth 100000
namespace Go.Proofs.Tryz
open Go.IntKind (wrap)
open Go Go.VM Go.RowKit
def mB (m29:Int->Option Bool)(m73:Bk->Option Bool)(m74:Vp->Option Bool)(m75:(Vp×Vp)->Option Int)(iC:((List Int)×(List Bk))->Option Int):Env cxT:={ Kc:=dL [(29,c29 m29),(73,c73 m73),(74,c74 m74),(75,c75 m75),(76,c76 iC)],Kw:=dK [],lv:=λi=>if i=0 then[(1,[none,some 83,some 96]),(23,[some 83]),(24,[]),(25,[])]else if i=2 then[(1,[none,some 83,some 96]),(49,[some 96]),(50,[]),(51,[])]else[],xv:=λi=>if i=0 then some [(1,[none,some 83,some 96])]else if i=2 then some []else none }
def S57_0 (a0_0:Int)(a0_1:(List Bk))(a0_2:(List Vp))(v0_1_0:Int)(v0_1_1:(List Bk))(v0_1_2:(List Vp))(v0_25:Int):St cxT.ty:={ slots:=[aI,(.inr (.inr { kind:=0,nm:=64,cells:=[(lv (.int .i64 v0_1_0)),(ls { own:=0,nm:=0,e:=83,o:=false,xs:=v0_1_1 }),(ls { own:=0,nm:=0,e:=96,o:=false,xs:=v0_1_2 })],s:={ own:=0,nm:=0,e:=0,o:=false,xs:=([]:List (PUnit)) },i:=0,off:=0 })),aI,aI,aI,aI,aI,aI,aI,aI,aI,aI,aI,aI,aI,aI,aI,aI,aI,aI,aI,aI,aI,(.inl (.inl (ls { own:=0,nm:=0,e:=83,o:=false,xs:=a0_1 }))),(.inl (.inl (lv (.int .i64 (Nat.cast (List.length a0_1):Int))))),(.inl (.inl (lv (.int .i64 v0_25))))]++List.replicate 55 aI,D:=[],F:=[],ctr:=1 }
def X57_0 (a0_0:Int)(a0_1:(List Bk))(a0_2:(List Vp))(w0_1_0:Int)(w0_1_1:(List Bk))(w0_1_2:(List Vp)):St cxT.ty:={ slots:=[aI,(.inr (.inr { kind:=0,nm:=64,cells:=[(lv (.int .i64 w0_1_0)),(ls { own:=0,nm:=0,e:=83,o:=false,xs:=w0_1_1 }),(ls { own:=0,nm:=0,e:=96,o:=false,xs:=w0_1_2 })],s:={ own:=0,nm:=0,e:=0,o:=false,xs:=([]:List (PUnit)) },i:=0,off:=0 }))]++List.replicate 79 aI,D:=[],F:=[],ctr:=1 }
def S57_2 (a0_0:Int)(a0_1:(List Bk))(a0_2:(List Vp))(v2_1_0:Int)(v2_1_1:(List Bk))(v2_1_2:(List Vp))(v2_49:(List Vp))(v2_50:Int)(v2_51:Int):St cxT.ty:={ slots:=[aI,(.inr (.inr { kind:=0,nm:=64,cells:=[(lv (.int .i64 v2_1_0)),(ls { own:=0,nm:=0,e:=83,o:=false,xs:=v2_1_1 }),(ls { own:=0,nm:=0,e:=96,o:=false,xs:=v2_1_2 })],s:={ own:=0,nm:=0,e:=0,o:=false,xs:=([]:List (PUnit)) },i:=0,off:=0 })),aI,aI,aI,aI,aI,aI,aI,aI,aI,aI,aI,aI,aI,aI,aI,aI,aI,aI,aI,aI,aI,aI,aI,aI,aI,aI,aI,aI,aI,aI,aI,aI,aI,aI,aI,aI,aI,aI,aI,aI,aI,aI,aI,aI,aI,aI,aI,(.inl (.inl (ls { own:=0,nm:=0,e:=96,o:=false,xs:=v2_49 }))),(.inl (.inl (lv (.int .i64 v2_50)))),(.inl (.inl (lv (.int .i64 v2_51))))]++List.replicate 29 aI,D:=[],F:=[],ctr:=1 }
def X57_2 (a0_0:Int)(a0_1:(List Bk))(a0_2:(List Vp)):St cxT.ty:={ slots:=[]++List.replicate 81 aI,D:=[],F:=[],ctr:=1 }
theorem i57 (m29:Int->Option Bool)(m73:Bk->Option Bool)(m74:Vp->Option Bool)(m75:(Vp×Vp)->Option Int)(iC:((List Int)×(List Bk))->Option Int)(L:Nat)(a0_0:Int)(a0_1:(List Bk))(a0_2:(List Vp)):dP prog (mB m29 m73 m74 m75 iC) (aW L) f57 (a57.enc (a0_0,a0_1,a0_2))=
 cK (m29 a0_0) false λ(q1:Bool)=>bif (!q1)then some (n57 (3:Int))
  else bif (decide ((Nat.cast (List.length a0_1):Int) > (8:Int)))then some (n57 (2:Int))
  else bif (decide ((Nat.cast (List.length a0_2):Int) > (4:Int)))then some (n57 (2:Int))
  else bR prog (mB m29 m73 m74 m75 iC) L f57 0 [1,1,1,0,1,0,0] (cA (aT prog f57) (bM prog (mB m29 m73 m74 m75 iC) L f57 [1,1,1,0,1] (aT prog f57)).n (bM prog (mB m29 m73 m74 m75 iC) L f57 [1,1,1,0,1] (aT prog f57)).x) L (S57_0 a0_0 a0_1 a0_2 a0_0 a0_1 a0_2 (0:Int)):=by kernel_rfl
theorem aOQ (m29:Int->Option Bool)(m73:Bk->Option Bool)(m74:Vp->Option Bool)(m75:(Vp×Vp)->Option Int)(iC:((List Int)×(List Bk))->Option Int)(L:Nat)(a0_0:Int)(a0_1:(List Bk))(a0_2:(List Vp))(k:St cxT.ty->Option (V cxT.ty))(xk:Nat->St cxT.ty->Option (V cxT.ty))(g:St cxT.ty->Option (V cxT.ty))(v0_1_0:Int)(v0_1_1:(List Bk))(v0_1_2:(List Vp))(v0_25:Int):dQ prog (mB m29 m73 m74 m75 iC) L f57 0 [1,1,1,0,1,0,0] (cA (aT prog f57) k xk) g (S57_0 a0_0 a0_1 a0_2 v0_1_0 v0_1_1 v0_1_2 v0_25)=
 bif (decide (v0_25 < (Nat.cast (List.length a0_1):Int)))then bif ((decide ((0:Int)<=v0_25))&&(decide (v0_25 < (Nat.cast (List.length a0_1):Int))))then cK (m73 ((List.getD a0_1 (Int.toNat v0_25) ((0:Int),((0:Int),((0:Int),((0:Int),Bool.false))))).1,((List.getD a0_1 (Int.toNat v0_25) ((0:Int),((0:Int),((0:Int),((0:Int),Bool.false))))).2.1,((List.getD a0_1 (Int.toNat v0_25) ((0:Int),((0:Int),((0:Int),((0:Int),Bool.false))))).2.2.1,((List.getD a0_1 (Int.toNat v0_25) ((0:Int),((0:Int),((0:Int),((0:Int),Bool.false))))).2.2.2.1,(List.getD a0_1 (Int.toNat v0_25) ((0:Int),((0:Int),((0:Int),((0:Int),Bool.false))))).2.2.2.2))))) false λ(q3:Bool)=>bif (!q3)then some (n57 (3:Int))
    else bif (decide (v0_25 > (0:Int)))then bif ((decide ((0:Int)<=(wrap Go.IntKind.i64 (v0_25-(1:Int)))))&&(decide ((wrap Go.IntKind.i64 (v0_25-(1:Int))) < (Nat.cast (List.length v0_1_1):Int))))then bif (decide ((List.getD a0_1 (Int.toNat v0_25) ((0:Int),((0:Int),((0:Int),((0:Int),Bool.false))))).1<=(List.getD v0_1_1 (Int.toNat (wrap Go.IntKind.i64 (v0_25-(1:Int)))) ((0:Int),((0:Int),((0:Int),((0:Int),Bool.false))))).1))then some (n57 (1:Int))
      else g (S57_0 a0_0 a0_1 a0_2 v0_1_0 v0_1_1 v0_1_2 (wrap Go.IntKind.i64 (v0_25+(1:Int))))
     else none
    else g (S57_0 a0_0 a0_1 a0_2 v0_1_0 v0_1_1 v0_1_2 (wrap Go.IntKind.i64 (v0_25+(1:Int))))
  else none
 else k (X57_0 a0_0 a0_1 a0_2 v0_1_0 v0_1_1 v0_1_2):=by kernel_rfl
theorem aNe (m29:Int->Option Bool)(m73:Bk->Option Bool)(m74:Vp->Option Bool)(m75:(Vp×Vp)->Option Int)(iC:((List Int)×(List Bk))->Option Int)(L:Nat)(a0_0:Int)(a0_1:(List Bk))(a0_2:(List Vp))(w0_1_0:Int)(w0_1_1:(List Bk))(w0_1_2:(List Vp)):(bM prog (mB m29 m73 m74 m75 iC) L f57 [1,1,1,0,1] (aT prog f57)).n (X57_0 a0_0 a0_1 a0_2 w0_1_0 w0_1_1 w0_1_2)=
 bR prog (mB m29 m73 m74 m75 iC) L f57 2 [1,1,1,1,0,1,0,0] (cA (aT prog f57) (bM prog (mB m29 m73 m74 m75 iC) L f57 [1,1,1,1,0,1] (aT prog f57)).n (bM prog (mB m29 m73 m74 m75 iC) L f57 [1,1,1,1,0,1] (aT prog f57)).x) L (S57_2 a0_0 a0_1 a0_2 w0_1_0 w0_1_1 w0_1_2 w0_1_2 (Nat.cast (List.length w0_1_2):Int) (0:Int)):=by kernel_rfl
theorem aOP (m29:Int->Option Bool)(m73:Bk->Option Bool)(m74:Vp->Option Bool)(m75:(Vp×Vp)->Option Int)(iC:((List Int)×(List Bk))->Option Int)(L:Nat)(a0_0:Int)(a0_1:(List Bk))(a0_2:(List Vp))(k:St cxT.ty->Option (V cxT.ty))(xk:Nat->St cxT.ty->Option (V cxT.ty))(g:St cxT.ty->Option (V cxT.ty))(v2_1_0:Int)(v2_1_1:(List Bk))(v2_1_2:(List Vp))(v2_49:(List Vp))(v2_50:Int)(v2_51:Int):dQ prog (mB m29 m73 m74 m75 iC) L f57 2 [1,1,1,1,0,1,0,0] (cA (aT prog f57) k xk) g (S57_2 a0_0 a0_1 a0_2 v2_1_0 v2_1_1 v2_1_2 v2_49 v2_50 v2_51)=
 bif (decide (v2_51 < v2_50))then bif ((decide ((0:Int)<=v2_51))&&(decide (v2_51 < (Nat.cast (List.length v2_49):Int))))then cK (m74 ((List.getD v2_49 (Int.toNat v2_51) ((0:Int),((0:Int),((0:Int),([]:List (Int)))))).1,((List.getD v2_49 (Int.toNat v2_51) ((0:Int),((0:Int),((0:Int),([]:List (Int)))))).2.1,((List.getD v2_49 (Int.toNat v2_51) ((0:Int),((0:Int),((0:Int),([]:List (Int)))))).2.2.1,(List.getD v2_49 (Int.toNat v2_51) ((0:Int),((0:Int),((0:Int),([]:List (Int)))))).2.2.2)))) false λ(q3:Bool)=>bif (!q3)then some (n57 (3:Int))
    else bif (decide (v2_51 > (0:Int)))then bif ((decide ((0:Int)<=(wrap Go.IntKind.i64 (v2_51-(1:Int)))))&&(decide ((wrap Go.IntKind.i64 (v2_51-(1:Int))) < (Nat.cast (List.length v2_1_2):Int))))then cK (m75 (((List.getD v2_49 (Int.toNat v2_51) ((0:Int),((0:Int),((0:Int),([]:List (Int)))))).1,((List.getD v2_49 (Int.toNat v2_51) ((0:Int),((0:Int),((0:Int),([]:List (Int)))))).2.1,((List.getD v2_49 (Int.toNat v2_51) ((0:Int),((0:Int),((0:Int),([]:List (Int)))))).2.2.1,(List.getD v2_49 (Int.toNat v2_51) ((0:Int),((0:Int),((0:Int),([]:List (Int)))))).2.2.2))),((List.getD v2_1_2 (Int.toNat (wrap Go.IntKind.i64 (v2_51-(1:Int)))) ((0:Int),((0:Int),((0:Int),([]:List (Int)))))).1,((List.getD v2_1_2 (Int.toNat (wrap Go.IntKind.i64 (v2_51-(1:Int)))) ((0:Int),((0:Int),((0:Int),([]:List (Int)))))).2.1,((List.getD v2_1_2 (Int.toNat (wrap Go.IntKind.i64 (v2_51-(1:Int)))) ((0:Int),((0:Int),((0:Int),([]:List (Int)))))).2.2.1,(List.getD v2_1_2 (Int.toNat (wrap Go.IntKind.i64 (v2_51-(1:Int)))) ((0:Int),((0:Int),((0:Int),([]:List (Int)))))).2.2.2))))) (0:Int) λ(q6:Int)=>bif (decide (q6<=(0:Int)))then some (n57 (1:Int))
       else cK (iC ((List.getD v2_49 (Int.toNat v2_51) ((0:Int),((0:Int),((0:Int),([]:List (Int)))))).2.2.2,v2_1_1)) (0:Int) λ(q7:Int)=>bif (q7 != (0:Int))then some (n57 q7)
        else g (S57_2 a0_0 a0_1 a0_2 v2_1_0 v2_1_1 v2_1_2 v2_49 v2_50 (wrap Go.IntKind.i64 (v2_51+(1:Int))))
     else none
    else cK (iC ((List.getD v2_49 (Int.toNat v2_51) ((0:Int),((0:Int),((0:Int),([]:List (Int)))))).2.2.2,v2_1_1)) (0:Int) λ(q4:Int)=>bif (q4 != (0:Int))then some (n57 q4)
     else g (S57_2 a0_0 a0_1 a0_2 v2_1_0 v2_1_1 v2_1_2 v2_49 v2_50 (wrap Go.IntKind.i64 (v2_51+(1:Int))))
  else none
 else k (X57_2 a0_0 a0_1 a0_2):=by kernel_rfl
theorem aNd (m29:Int->Option Bool)(m73:Bk->Option Bool)(m74:Vp->Option Bool)(m75:(Vp×Vp)->Option Int)(iC:((List Int)×(List Bk))->Option Int)(L:Nat)(a0_0:Int)(a0_1:(List Bk))(a0_2:(List Vp)):(bM prog (mB m29 m73 m74 m75 iC) L f57 [1,1,1,1,0,1] (aT prog f57)).n (X57_2 a0_0 a0_1 a0_2)=
 some (n57 (0:Int)):=by kernel_rfl
def qN (m29:Int->Option Bool)(m73:Bk->Option Bool)(m74:Vp->Option Bool)(m75:(Vp×Vp)->Option Int)(iC:((List Int)×(List Bk))->Option Int)(L:Nat)(a0_0:Int)(a0_1:(List Bk))(a0_2:(List Vp)):Nat->Int->(List Bk)->(List Vp)->(List Vp)->Int->Int->(Option Int)->Option Int
 | 0,_,_,_,_,_,_,_=>none
 | n+1,v2_1_0,v2_1_1,v2_1_2,v2_49,v2_50,v2_51,k=>
  bif (decide (v2_51 < v2_50))then bif ((decide ((0:Int)<=v2_51))&&(decide (v2_51 < (Nat.cast (List.length v2_49):Int))))then cK (m74 ((List.getD v2_49 (Int.toNat v2_51) ((0:Int),((0:Int),((0:Int),([]:List (Int)))))).1,((List.getD v2_49 (Int.toNat v2_51) ((0:Int),((0:Int),((0:Int),([]:List (Int)))))).2.1,((List.getD v2_49 (Int.toNat v2_51) ((0:Int),((0:Int),((0:Int),([]:List (Int)))))).2.2.1,(List.getD v2_49 (Int.toNat v2_51) ((0:Int),((0:Int),((0:Int),([]:List (Int)))))).2.2.2)))) false λ(q4:Bool)=>bif (!q4)then some (3:Int)
     else bif (decide (v2_51 > (0:Int)))then bif ((decide ((0:Int)<=(wrap Go.IntKind.i64 (v2_51-(1:Int)))))&&(decide ((wrap Go.IntKind.i64 (v2_51-(1:Int))) < (Nat.cast (List.length v2_1_2):Int))))then cK (m75 (((List.getD v2_49 (Int.toNat v2_51) ((0:Int),((0:Int),((0:Int),([]:List (Int)))))).1,((List.getD v2_49 (Int.toNat v2_51) ((0:Int),((0:Int),((0:Int),([]:List (Int)))))).2.1,((List.getD v2_49 (Int.toNat v2_51) ((0:Int),((0:Int),((0:Int),([]:List (Int)))))).2.2.1,(List.getD v2_49 (Int.toNat v2_51) ((0:Int),((0:Int),((0:Int),([]:List (Int)))))).2.2.2))),((List.getD v2_1_2 (Int.toNat (wrap Go.IntKind.i64 (v2_51-(1:Int)))) ((0:Int),((0:Int),((0:Int),([]:List (Int)))))).1,((List.getD v2_1_2 (Int.toNat (wrap Go.IntKind.i64 (v2_51-(1:Int)))) ((0:Int),((0:Int),((0:Int),([]:List (Int)))))).2.1,((List.getD v2_1_2 (Int.toNat (wrap Go.IntKind.i64 (v2_51-(1:Int)))) ((0:Int),((0:Int),((0:Int),([]:List (Int)))))).2.2.1,(List.getD v2_1_2 (Int.toNat (wrap Go.IntKind.i64 (v2_51-(1:Int)))) ((0:Int),((0:Int),((0:Int),([]:List (Int)))))).2.2.2))))) (0:Int) λ(q7:Int)=>bif (decide (q7<=(0:Int)))then some (1:Int)
        else cK (iC ((List.getD v2_49 (Int.toNat v2_51) ((0:Int),((0:Int),((0:Int),([]:List (Int)))))).2.2.2,v2_1_1)) (0:Int) λ(q8:Int)=>bif (q8 != (0:Int))then some q8
         else qN m29 m73 m74 m75 iC L a0_0 a0_1 a0_2 n v2_1_0 v2_1_1 v2_1_2 v2_49 v2_50 (wrap Go.IntKind.i64 (v2_51+(1:Int))) k
      else none
     else cK (iC ((List.getD v2_49 (Int.toNat v2_51) ((0:Int),((0:Int),((0:Int),([]:List (Int)))))).2.2.2,v2_1_1)) (0:Int) λ(q5:Int)=>bif (q5 != (0:Int))then some q5
      else qN m29 m73 m74 m75 iC L a0_0 a0_1 a0_2 n v2_1_0 v2_1_1 v2_1_2 v2_49 v2_50 (wrap Go.IntKind.i64 (v2_51+(1:Int))) k
   else none
  else k
theorem aJy (m29:Int->Option Bool)(m73:Bk->Option Bool)(m74:Vp->Option Bool)(m75:(Vp×Vp)->Option Int)(iC:((List Int)×(List Bk))->Option Int)(L:Nat)(a0_0:Int)(a0_1:(List Bk))(a0_2:(List Vp))(k:St cxT.ty->Option (V cxT.ty))(xk:Nat->St cxT.ty->Option (V cxT.ty))(k':Option Int)(hk:k (X57_2 a0_0 a0_1 a0_2)=(k').map n57):∀ (n:Nat) (v2_1_0:Int) (v2_1_1:(List Bk)) (v2_1_2:(List Vp)) (v2_49:(List Vp)) (v2_50:Int) (v2_51:Int),bR prog (mB m29 m73 m74 m75 iC) L f57 2 [1,1,1,1,0,1,0,0] (cA (aT prog f57) k xk) n (S57_2 a0_0 a0_1 a0_2 v2_1_0 v2_1_1 v2_1_2 v2_49 v2_50 v2_51)=(qN m29 m73 m74 m75 iC L a0_0 a0_1 a0_2 n v2_1_0 v2_1_1 v2_1_2 v2_49 v2_50 v2_51 k').map n57
 | 0,_,_,_,_,_,_=>rfl
 | n+1,v2_1_0,v2_1_1,v2_1_2,v2_49,v2_50,v2_51=>by
  rw[bS,aOP];have ih:=aJy m29 m73 m74 m75 iC L a0_0 a0_1 a0_2 k xk k' hk n;simp only[qN,aP,aN,aO,aC,aE,ih,hk]
def uB (m29:Int->Option Bool)(m73:Bk->Option Bool)(m74:Vp->Option Bool)(m75:(Vp×Vp)->Option Int)(iC:((List Int)×(List Bk))->Option Int)(L:Nat)(a0_0:Int)(a0_1:(List Bk))(a0_2:(List Vp)):Nat->Int->(List Bk)->(List Vp)->Int->(Int->(List Bk)->(List Vp)->Option Int)->Option Int
 | 0,_,_,_,_,_=>none
 | n+1,v0_1_0,v0_1_1,v0_1_2,v0_25,k=>
  bif (decide (v0_25 < (Nat.cast (List.length a0_1):Int)))then bif ((decide ((0:Int)<=v0_25))&&(decide (v0_25 < (Nat.cast (List.length a0_1):Int))))then cK (m73 ((List.getD a0_1 (Int.toNat v0_25) ((0:Int),((0:Int),((0:Int),((0:Int),Bool.false))))).1,((List.getD a0_1 (Int.toNat v0_25) ((0:Int),((0:Int),((0:Int),((0:Int),Bool.false))))).2.1,((List.getD a0_1 (Int.toNat v0_25) ((0:Int),((0:Int),((0:Int),((0:Int),Bool.false))))).2.2.1,((List.getD a0_1 (Int.toNat v0_25) ((0:Int),((0:Int),((0:Int),((0:Int),Bool.false))))).2.2.2.1,(List.getD a0_1 (Int.toNat v0_25) ((0:Int),((0:Int),((0:Int),((0:Int),Bool.false))))).2.2.2.2))))) false λ(q4:Bool)=>bif (!q4)then some (3:Int)
     else bif (decide (v0_25 > (0:Int)))then bif ((decide ((0:Int)<=(wrap Go.IntKind.i64 (v0_25-(1:Int)))))&&(decide ((wrap Go.IntKind.i64 (v0_25-(1:Int))) < (Nat.cast (List.length v0_1_1):Int))))then bif (decide ((List.getD a0_1 (Int.toNat v0_25) ((0:Int),((0:Int),((0:Int),((0:Int),Bool.false))))).1<=(List.getD v0_1_1 (Int.toNat (wrap Go.IntKind.i64 (v0_25-(1:Int)))) ((0:Int),((0:Int),((0:Int),((0:Int),Bool.false))))).1))then some (1:Int)
       else uB m29 m73 m74 m75 iC L a0_0 a0_1 a0_2 n v0_1_0 v0_1_1 v0_1_2 (wrap Go.IntKind.i64 (v0_25+(1:Int))) k
      else none
     else uB m29 m73 m74 m75 iC L a0_0 a0_1 a0_2 n v0_1_0 v0_1_1 v0_1_2 (wrap Go.IntKind.i64 (v0_25+(1:Int))) k
   else none
  else k v0_1_0 v0_1_1 v0_1_2
theorem aJz (m29:Int->Option Bool)(m73:Bk->Option Bool)(m74:Vp->Option Bool)(m75:(Vp×Vp)->Option Int)(iC:((List Int)×(List Bk))->Option Int)(L:Nat)(a0_0:Int)(a0_1:(List Bk))(a0_2:(List Vp))(k:St cxT.ty->Option (V cxT.ty))(xk:Nat->St cxT.ty->Option (V cxT.ty))(k':Int->(List Bk)->(List Vp)->Option Int)(hk:∀ (w0_1_0:Int) (w0_1_1:(List Bk)) (w0_1_2:(List Vp)),k (X57_0 a0_0 a0_1 a0_2 w0_1_0 w0_1_1 w0_1_2)=(k' w0_1_0 w0_1_1 w0_1_2).map n57):∀ (n:Nat) (v0_1_0:Int) (v0_1_1:(List Bk)) (v0_1_2:(List Vp)) (v0_25:Int),bR prog (mB m29 m73 m74 m75 iC) L f57 0 [1,1,1,0,1,0,0] (cA (aT prog f57) k xk) n (S57_0 a0_0 a0_1 a0_2 v0_1_0 v0_1_1 v0_1_2 v0_25)=(uB m29 m73 m74 m75 iC L a0_0 a0_1 a0_2 n v0_1_0 v0_1_1 v0_1_2 v0_25 k').map n57
 | 0,_,_,_,_=>rfl
 | n+1,v0_1_0,v0_1_1,v0_1_2,v0_25=>by
  rw[bS,aOQ];have ih:=aJz m29 m73 m74 m75 iC L a0_0 a0_1 a0_2 k xk k' hk n;simp only[uB,aP,aN,aO,aC,aE,ih,hk]
def g57 (m29:Int->Option Bool)(m73:Bk->Option Bool)(m74:Vp->Option Bool)(m75:(Vp×Vp)->Option Int)(iC:((List Int)×(List Bk))->Option Int)(L:Nat)(a0_0:Int)(a0_1:(List Bk))(a0_2:(List Vp)):Option Int:=
 cK (m29 a0_0) false λ(q1:Bool)=>bif (!q1)then some (3:Int)
  else bif (decide ((Nat.cast (List.length a0_1):Int) > (8:Int)))then some (2:Int)
  else bif (decide ((Nat.cast (List.length a0_2):Int) > (4:Int)))then some (2:Int)
  else uB m29 m73 m74 m75 iC L a0_0 a0_1 a0_2 L a0_0 a0_1 a0_2 (0:Int) (λ(w0_1_0:Int) (w0_1_1:(List Bk)) (w0_1_2:(List Vp))=>qN m29 m73 m74 m75 iC L a0_0 a0_1 a0_2 L w0_1_0 w0_1_1 w0_1_2 w0_1_2 (Nat.cast (List.length w0_1_2):Int) (0:Int) (some (0:Int)))
theorem e57 (m29:Int->Option Bool)(m73:Bk->Option Bool)(m74:Vp->Option Bool)(m75:(Vp×Vp)->Option Int)(iC:((List Int)×(List Bk))->Option Int)(L:Nat)(a0_0:Int)(a0_1:(List Bk))(a0_2:(List Vp)):dP prog (mB m29 m73 m74 m75 iC) (aW L) f57 (a57.enc (a0_0,a0_1,a0_2))=(g57 m29 m73 m74 m75 iC L a0_0 a0_1 a0_2).map n57:=by
 let K'2:Option Int:=(some (0:Int))
 have hin2:∀ (v2_1_0:Int) (v2_1_1:(List Bk)) (v2_1_2:(List Vp)) (v2_49:(List Vp)) (v2_50:Int) (v2_51:Int),bR prog (mB m29 m73 m74 m75 iC) L f57 2 [1,1,1,1,0,1,0,0] (cA (aT prog f57) (bM prog (mB m29 m73 m74 m75 iC) L f57 [1,1,1,1,0,1] (aT prog f57)).n (bM prog (mB m29 m73 m74 m75 iC) L f57 [1,1,1,1,0,1] (aT prog f57)).x) L (S57_2 a0_0 a0_1 a0_2 v2_1_0 v2_1_1 v2_1_2 v2_49 v2_50 v2_51)=(qN m29 m73 m74 m75 iC L a0_0 a0_1 a0_2 L v2_1_0 v2_1_1 v2_1_2 v2_49 v2_50 v2_51 K'2).map n57:=λv2_1_0 v2_1_1 v2_1_2 v2_49 v2_50 v2_51=>aJy m29 m73 m74 m75 iC L a0_0 a0_1 a0_2 _ _ K'2 (by rw[aNd];simp only[K'2,aP,aN,aO,aC,aE]) L v2_1_0 v2_1_1 v2_1_2 v2_49 v2_50 v2_51
 let K'0:Int->(List Bk)->(List Vp)->Option Int:=(λ(w0_1_0:Int) (w0_1_1:(List Bk)) (w0_1_2:(List Vp))=>qN m29 m73 m74 m75 iC L a0_0 a0_1 a0_2 L w0_1_0 w0_1_1 w0_1_2 w0_1_2 (Nat.cast (List.length w0_1_2):Int) (0:Int) (some (0:Int)))
 have hin0:∀ (v0_1_0:Int) (v0_1_1:(List Bk)) (v0_1_2:(List Vp)) (v0_25:Int),bR prog (mB m29 m73 m74 m75 iC) L f57 0 [1,1,1,0,1,0,0] (cA (aT prog f57) (bM prog (mB m29 m73 m74 m75 iC) L f57 [1,1,1,0,1] (aT prog f57)).n (bM prog (mB m29 m73 m74 m75 iC) L f57 [1,1,1,0,1] (aT prog f57)).x) L (S57_0 a0_0 a0_1 a0_2 v0_1_0 v0_1_1 v0_1_2 v0_25)=(uB m29 m73 m74 m75 iC L a0_0 a0_1 a0_2 L v0_1_0 v0_1_1 v0_1_2 v0_25 K'0).map n57:=λv0_1_0 v0_1_1 v0_1_2 v0_25=>aJz m29 m73 m74 m75 iC L a0_0 a0_1 a0_2 _ _ K'0 (λw0_1_0 w0_1_1 w0_1_2=>by rw[aNe];simp only[K'0,aP,aN,aO,aC,aE,hin2,K'2]) L v0_1_0 v0_1_1 v0_1_2 v0_25
 rw[i57];simp only[g57,aP,aN,aO,aC,aE,hin2,K'2,hin0,K'0]
theorem s57 (m29:Int->Option Bool)(m73:Bk->Option Bool)(m74:Vp->Option Bool)(m75:(Vp×Vp)->Option Int)(iC:((List Int)×(List Bk))->Option Int)(h29:Sat prog cxT 29 (c29 m29))(h73:Sat prog cxT 73 (c73 m73))(h74:Sat prog cxT 74 (c74 m74))(h75:Sat prog cxT 75 (c75 m75))(h76:Sat prog cxT 76 (c76 iC))(m:CZ->Option Int)(hm:∀ (x:CZ) t,m x=some t->∃ L,g57 m29 m73 m74 m75 iC L x.1 x.2.1 x.2.2=some t):Sat prog cxT 57 (c57 m):=
 cT bQ bH (by rfl) (fn:=f57) rfl a57 n57 aQJ m (mB m29 m73 m74 m75 iC) (aY h29 (aY h73 (aY h74 (aY h75 (aY h76 bG))))) aZ (λL x=>g57 m29 m73 m74 m75 iC L x.1 x.2.1 x.2.2) (λL x=>e57 m29 m73 m74 m75 iC L x.1 x.2.1 x.2.2) hm aUk
def mA (iM:((List Bk)×Int)->Option (Int×Bool)):Env cxT:={ Kc:=dL [(93,c93 iM)],Kw:=dK [],lv:=λi=>if i=0 then[(0,[some 2]),(1,[some 83]),(11,[some 2]),(12,[]),(13,[])]else if i=2 then[(0,[some 2]),(26,[some 2]),(27,[]),(28,[])]else[],xv:=λi=>if i=0 then some [(0,[some 2])]else if i=2 then some []else none }
def S76_0 (a0:(List Int))(a1:(List Bk))(v0_13:Int):St cxT.ty:={ slots:=[(.inl (.inl (ls { own:=0,nm:=0,e:=2,o:=false,xs:=a0 }))),(.inl (.inl (ls { own:=0,nm:=0,e:=83,o:=false,xs:=a1 }))),aI,aI,aI,aI,aI,aI,aI,aI,aI,(.inl (.inl (ls { own:=0,nm:=0,e:=2,o:=false,xs:=a0 }))),(.inl (.inl (lv (.int .i64 (Nat.cast (List.length a0):Int))))),(.inl (.inl (lv (.int .i64 v0_13))))]++List.replicate 31 aI,D:=[],F:=[],ctr:=1 }
def X76_0 (a0:(List Int))(a1:(List Bk)):St cxT.ty:={ slots:=[(.inl (.inl (ls { own:=0,nm:=0,e:=2,o:=false,xs:=a0 })))]++List.replicate 44 aI,D:=[],F:=[],ctr:=1 }
def S76_2 (a0:(List Int))(a1:(List Bk))(v2_28:Int):St cxT.ty:={ slots:=[(.inl (.inl (ls { own:=0,nm:=0,e:=2,o:=false,xs:=a0 }))),aI,aI,aI,aI,aI,aI,aI,aI,aI,aI,aI,aI,aI,aI,aI,aI,aI,aI,aI,aI,aI,aI,aI,aI,aI,(.inl (.inl (ls { own:=0,nm:=0,e:=2,o:=false,xs:=a0 }))),(.inl (.inl (lv (.int .i64 (Nat.cast (List.length a0):Int))))),(.inl (.inl (lv (.int .i64 v2_28))))]++List.replicate 16 aI,D:=[],F:=[],ctr:=1 }
def X76_2 (a0:(List Int))(a1:(List Bk)):St cxT.ty:={ slots:=[]++List.replicate 45 aI,D:=[],F:=[],ctr:=1 }
theorem i76 (iM:((List Bk)×Int)->Option (Int×Bool))(L:Nat)(a0:(List Int))(a1:(List Bk)):dP prog (mA iM) (aW L) f76 (a76.enc (a0,a1))=
 bR prog (mA iM) L f76 0 [1,0,1,0,0] (cA (aT prog f76) (bM prog (mA iM) L f76 [1,0,1] (aT prog f76)).n (bM prog (mA iM) L f76 [1,0,1] (aT prog f76)).x) L (S76_0 a0 a1 (0:Int)):=by kernel_rfl
theorem aOI (iM:((List Bk)×Int)->Option (Int×Bool))(L:Nat)(a0:(List Int))(a1:(List Bk))(k:St cxT.ty->Option (V cxT.ty))(xk:Nat->St cxT.ty->Option (V cxT.ty))(g:St cxT.ty->Option (V cxT.ty))(v0_13:Int):dQ prog (mA iM) L f76 0 [1,0,1,0,0] (cA (aT prog f76) k xk) g (S76_0 a0 a1 v0_13)=
 bif (decide (v0_13 < (Nat.cast (List.length a0):Int)))then bif ((decide ((0:Int)<=v0_13))&&(decide (v0_13 < (Nat.cast (List.length a0):Int))))then cK (iM (a1,(List.getD a0 (Int.toNat v0_13) (0:Int)))) ((0:Int),false) λ(q3:(Int×Bool))=>bif (!q3.2)then some (n76 (4:Int))
    else g (S76_0 a0 a1 (wrap Go.IntKind.i64 (v0_13+(1:Int))))
  else none
 else k (X76_0 a0 a1):=by kernel_rfl
theorem aM6 (iM:((List Bk)×Int)->Option (Int×Bool))(L:Nat)(a0:(List Int))(a1:(List Bk)):(bM prog (mA iM) L f76 [1,0,1] (aT prog f76)).n (X76_0 a0 a1)=
 bR prog (mA iM) L f76 2 [1,1,0,1,0,0] (cA (aT prog f76) (bM prog (mA iM) L f76 [1,1,0,1] (aT prog f76)).n (bM prog (mA iM) L f76 [1,1,0,1] (aT prog f76)).x) L (S76_2 a0 a1 (0:Int)):=by kernel_rfl
theorem aOH (iM:((List Bk)×Int)->Option (Int×Bool))(L:Nat)(a0:(List Int))(a1:(List Bk))(k:St cxT.ty->Option (V cxT.ty))(xk:Nat->St cxT.ty->Option (V cxT.ty))(g:St cxT.ty->Option (V cxT.ty))(v2_28:Int):dQ prog (mA iM) L f76 2 [1,1,0,1,0,0] (cA (aT prog f76) k xk) g (S76_2 a0 a1 v2_28)=
 bif (decide (v2_28 < (Nat.cast (List.length a0):Int)))then bif ((decide ((0:Int)<=v2_28))&&(decide (v2_28 < (Nat.cast (List.length a0):Int))))then bif (decide (v2_28 > (0:Int)))then bif ((decide ((0:Int)<=(wrap Go.IntKind.i64 (v2_28-(1:Int)))))&&(decide ((wrap Go.IntKind.i64 (v2_28-(1:Int))) < (Nat.cast (List.length a0):Int))))then bif (decide ((List.getD a0 (Int.toNat v2_28) (0:Int))<=(List.getD a0 (Int.toNat (wrap Go.IntKind.i64 (v2_28-(1:Int)))) (0:Int))))then some (n76 (1:Int))
     else g (S76_2 a0 a1 (wrap Go.IntKind.i64 (v2_28+(1:Int))))
    else none
   else g (S76_2 a0 a1 (wrap Go.IntKind.i64 (v2_28+(1:Int))))
  else none
 else k (X76_2 a0 a1):=by kernel_rfl
theorem aM5 (iM:((List Bk)×Int)->Option (Int×Bool))(L:Nat)(a0:(List Int))(a1:(List Bk)):(bM prog (mA iM) L f76 [1,1,0,1] (aT prog f76)).n (X76_2 a0 a1)=
 some (n76 (0:Int)):=by kernel_rfl
def sH (iM:((List Bk)×Int)->Option (Int×Bool))(L:Nat)(a0:(List Int))(a1:(List Bk)):Nat->Int->(Option Int)->Option Int
 | 0,_,_=>none
 | n+1,v2_28,k=>
  bif (decide (v2_28 < (Nat.cast (List.length a0):Int)))then bif ((decide ((0:Int)<=v2_28))&&(decide (v2_28 < (Nat.cast (List.length a0):Int))))then bif (decide (v2_28 > (0:Int)))then bif ((decide ((0:Int)<=(wrap Go.IntKind.i64 (v2_28-(1:Int)))))&&(decide ((wrap Go.IntKind.i64 (v2_28-(1:Int))) < (Nat.cast (List.length a0):Int))))then bif (decide ((List.getD a0 (Int.toNat v2_28) (0:Int))<=(List.getD a0 (Int.toNat (wrap Go.IntKind.i64 (v2_28-(1:Int)))) (0:Int))))then some (1:Int)
      else sH iM L a0 a1 n (wrap Go.IntKind.i64 (v2_28+(1:Int))) k
     else none
    else sH iM L a0 a1 n (wrap Go.IntKind.i64 (v2_28+(1:Int))) k
   else none
  else k
theorem aJq (iM:((List Bk)×Int)->Option (Int×Bool))(L:Nat)(a0:(List Int))(a1:(List Bk))(k:St cxT.ty->Option (V cxT.ty))(xk:Nat->St cxT.ty->Option (V cxT.ty))(k':Option Int)(hk:k (X76_2 a0 a1)=(k').map n76):∀ (n:Nat) (v2_28:Int),bR prog (mA iM) L f76 2 [1,1,0,1,0,0] (cA (aT prog f76) k xk) n (S76_2 a0 a1 v2_28)=(sH iM L a0 a1 n v2_28 k').map n76
 | 0,_=>rfl
 | n+1,v2_28=>by
  rw[bS,aOH];have ih:=aJq iM L a0 a1 k xk k' hk n;simp only[sH,aP,aN,aO,aC,aE,ih,hk]
def xQ (iM:((List Bk)×Int)->Option (Int×Bool))(L:Nat)(a0:(List Int))(a1:(List Bk)):Nat->Int->(Option Int)->Option Int
 | 0,_,_=>none
 | n+1,v0_13,k=>
  bif (decide (v0_13 < (Nat.cast (List.length a0):Int)))then bif ((decide ((0:Int)<=v0_13))&&(decide (v0_13 < (Nat.cast (List.length a0):Int))))then cK (iM (a1,(List.getD a0 (Int.toNat v0_13) (0:Int)))) ((0:Int),false) λ(q4:(Int×Bool))=>bif (!q4.2)then some (4:Int)
     else xQ iM L a0 a1 n (wrap Go.IntKind.i64 (v0_13+(1:Int))) k
   else none
  else k
theorem aJr (iM:((List Bk)×Int)->Option (Int×Bool))(L:Nat)(a0:(List Int))(a1:(List Bk))(k:St cxT.ty->Option (V cxT.ty))(xk:Nat->St cxT.ty->Option (V cxT.ty))(k':Option Int)(hk:k (X76_0 a0 a1)=(k').map n76):∀ (n:Nat) (v0_13:Int),bR prog (mA iM) L f76 0 [1,0,1,0,0] (cA (aT prog f76) k xk) n (S76_0 a0 a1 v0_13)=(xQ iM L a0 a1 n v0_13 k').map n76
 | 0,_=>rfl
 | n+1,v0_13=>by
  rw[bS,aOI];have ih:=aJr iM L a0 a1 k xk k' hk n;simp only[xQ,aP,aN,aO,aC,aE,ih,hk]
def g76 (iM:((List Bk)×Int)->Option (Int×Bool))(L:Nat)(a0:(List Int))(a1:(List Bk)):Option Int:=
 xQ iM L a0 a1 L (0:Int) (sH iM L a0 a1 L (0:Int) (some (0:Int)))
theorem e76 (iM:((List Bk)×Int)->Option (Int×Bool))(L:Nat)(a0:(List Int))(a1:(List Bk)):dP prog (mA iM) (aW L) f76 (a76.enc (a0,a1))=(g76 iM L a0 a1).map n76:=by
 let K'2:Option Int:=(some (0:Int))
 have hin2:∀ (v2_28:Int),bR prog (mA iM) L f76 2 [1,1,0,1,0,0] (cA (aT prog f76) (bM prog (mA iM) L f76 [1,1,0,1] (aT prog f76)).n (bM prog (mA iM) L f76 [1,1,0,1] (aT prog f76)).x) L (S76_2 a0 a1 v2_28)=(sH iM L a0 a1 L v2_28 K'2).map n76:=λv2_28=>aJq iM L a0 a1 _ _ K'2 (by rw[aM5];simp only[K'2,aP,aN,aO,aC,aE]) L v2_28
 let K'0:Option Int:=(sH iM L a0 a1 L (0:Int) (some (0:Int)))
 have hin0:∀ (v0_13:Int),bR prog (mA iM) L f76 0 [1,0,1,0,0] (cA (aT prog f76) (bM prog (mA iM) L f76 [1,0,1] (aT prog f76)).n (bM prog (mA iM) L f76 [1,0,1] (aT prog f76)).x) L (S76_0 a0 a1 v0_13)=(xQ iM L a0 a1 L v0_13 K'0).map n76:=λv0_13=>aJr iM L a0 a1 _ _ K'0 (by rw[aM6];simp only[K'0,aP,aN,aO,aC,aE,hin2,K'2]) L v0_13
 rw[i76];simp only[g76,aP,aN,aO,aC,aE,hin2,K'2,hin0,K'0]
theorem s76 (iM:((List Bk)×Int)->Option (Int×Bool))(h93:Sat prog cxT 93 (c93 iM))(m:((List Int)×(List Bk))->Option Int)(hm:∀ (x:((List Int)×(List Bk))) t,m x=some t->∃ L,g76 iM L x.1 x.2=some t):Sat prog cxT 76 (c76 m):=
 cT bQ bH (by rfl) (fn:=f76) rfl a76 n76 aQs m (mA iM) (aY h93 bG) aZ (λL x=>g76 iM L x.1 x.2) (λL x=>e76 iM L x.1 x.2) hm aT3
def aK1 (lL:((List Bk)×Int×Unit)->Option (Int×Bool)):Env cxT:={ Kc:=dL [(110,aIr lL)],Kw:=dK [],lv:=λi=>[],xv:=λi=>none }
theorem i93 (lL:((List Bk)×Int×Unit)->Option (Int×Bool))(L:Nat)(a0:(List Bk))(a1:Int):dP prog (aK1 lL) (aW L) f93 (a93.enc (a0,a1))=
 cK (lL (a0,(a1,PUnit.unit))) ((0:Int),false) λ(q1:(Int×Bool))=>some (n93 (q1.1,q1.2)):=by kernel_rfl
def g93 (lL:((List Bk)×Int×Unit)->Option (Int×Bool))(L:Nat)(a0:(List Bk))(a1:Int):Option (Int×Bool):=
 cK (lL (a0,(a1,PUnit.unit))) ((0:Int),false) λ(q1:(Int×Bool))=>some (q1.1,q1.2)
theorem e93 (lL:((List Bk)×Int×Unit)->Option (Int×Bool))(L:Nat)(a0:(List Bk))(a1:Int):dP prog (aK1 lL) (aW L) f93 (a93.enc (a0,a1))=(g93 lL L a0 a1).map n93:=by
 rw[i93];simp only[g93,aP,aN,aO,aC,aE]
theorem s93 (lL:((List Bk)×Int×Unit)->Option (Int×Bool))(h110:Sat prog cxT 110 (aIr lL))(m:((List Bk)×Int)->Option (Int×Bool))(hm:∀ (x:((List Bk)×Int)) t,m x=some t->∃ L,g93 lL L x.1 x.2=some t):Sat prog cxT 93 (c93 m):=
 cT bQ bH (by rfl) (fn:=f93) rfl a93 n93 aQd m (aK1 lL) (aY h110 bG) aZ (λL x=>g93 lL L x.1 x.2) (λL x=>e93 lL L x.1 x.2) hm aTO
def oC (m111:(Bk×Int)->Option Int):Env cxT:={ Kc:=dL [(111,aIq m111)],Kw:=dK [],lv:=λi=>if i=0 then[(0,[some 83]),(1,[]),(2,[]),(8,[]),(9,[]),(10,[])]else[],xv:=λi=>if i=0 then some [(0,[some 83]),(1,[]),(2,[]),(8,[]),(9,[])]else none }
def S110_0 (a0:(List Bk))(a1:Int)(a2:Unit)(v0_9:Int)(v0_10:Int):St cxT.ty:={ slots:=[(.inl (.inl (ls { own:=0,nm:=0,e:=83,o:=false,xs:=a0 }))),(.inl (.inl (lv (.int .i64 a1)))),(.inl (.inl (lv (.func (.func (111:Nat)) #[] #[])))),aI,aI,aI,aI,aI,(.inl (.inl (lv (.int .i64 (Nat.cast (List.length a0):Int))))),(.inl (.inl (lv (.int .i64 v0_9)))),(.inl (.inl (lv (.int .i64 v0_10))))]++List.replicate 38 aI,D:=[],F:=[],ctr:=1 }
def X110_0 (a0:(List Bk))(a1:Int)(a2:Unit)(w0_9:Int):St cxT.ty:={ slots:=[(.inl (.inl (ls { own:=0,nm:=0,e:=83,o:=false,xs:=a0 }))),(.inl (.inl (lv (.int .i64 a1)))),(.inl (.inl (lv (.func (.func (111:Nat)) #[] #[])))),aI,aI,aI,aI,aI,(.inl (.inl (lv (.int .i64 (Nat.cast (List.length a0):Int))))),(.inl (.inl (lv (.int .i64 w0_9))))]++List.replicate 39 aI,D:=[],F:=[],ctr:=1 }
theorem aTG (m111:(Bk×Int)->Option Int)(L:Nat)(a0:(List Bk))(a1:Int)(a2:Unit):dP prog (oC m111) (aW L) f110 (aRH.enc (a0,a1,a2))=
 bR prog (oC m111) L f110 0 [1,1,1,0,0,0] (cA (aT prog f110) (bM prog (oC m111) L f110 [1,1,1,0] (aT prog f110)).n (bM prog (oC m111) L f110 [1,1,1,0] (aT prog f110)).x) L (S110_0 a0 a1 a2 (0:Int) (Nat.cast (List.length a0):Int)):=by kernel_rfl
theorem aKt (m111:(Bk×Int)->Option Int)(L:Nat)(a0:(List Bk))(a1:Int)(a2:Unit)(k:St cxT.ty->Option (V cxT.ty))(xk:Nat->St cxT.ty->Option (V cxT.ty))(g:St cxT.ty->Option (V cxT.ty))(v0_9:Int)(v0_10:Int):dQ prog (oC m111) L f110 0 [1,1,1,0,0,0] (cA (aT prog f110) k xk) g (S110_0 a0 a1 a2 v0_9 v0_10)=
 bif (decide (v0_9 < v0_10))then bif ((decide ((0:Int)<=(wrap Go.IntKind.i64 (Int.fdiv (wrap Go.IntKind.u64 (wrap Go.IntKind.i64 (v0_9+v0_10))) ((2:Int) ^ (min (Int.toNat (1:Int)) (Go.IntKind.bits Go.IntKind.u64)))))))&&(decide ((wrap Go.IntKind.i64 (Int.fdiv (wrap Go.IntKind.u64 (wrap Go.IntKind.i64 (v0_9+v0_10))) ((2:Int) ^ (min (Int.toNat (1:Int)) (Go.IntKind.bits Go.IntKind.u64))))) < (Nat.cast (List.length a0):Int))))then cK (m111 (((List.getD a0 (Int.toNat (wrap Go.IntKind.i64 (Int.fdiv (wrap Go.IntKind.u64 (wrap Go.IntKind.i64 (v0_9+v0_10))) ((2:Int) ^ (min (Int.toNat (1:Int)) (Go.IntKind.bits Go.IntKind.u64)))))) ((0:Int),((0:Int),((0:Int),((0:Int),Bool.false))))).1,((List.getD a0 (Int.toNat (wrap Go.IntKind.i64 (Int.fdiv (wrap Go.IntKind.u64 (wrap Go.IntKind.i64 (v0_9+v0_10))) ((2:Int) ^ (min (Int.toNat (1:Int)) (Go.IntKind.bits Go.IntKind.u64)))))) ((0:Int),((0:Int),((0:Int),((0:Int),Bool.false))))).2.1,((List.getD a0 (Int.toNat (wrap Go.IntKind.i64 (Int.fdiv (wrap Go.IntKind.u64 (wrap Go.IntKind.i64 (v0_9+v0_10))) ((2:Int) ^ (min (Int.toNat (1:Int)) (Go.IntKind.bits Go.IntKind.u64)))))) ((0:Int),((0:Int),((0:Int),((0:Int),Bool.false))))).2.2.1,((List.getD a0 (Int.toNat (wrap Go.IntKind.i64 (Int.fdiv (wrap Go.IntKind.u64 (wrap Go.IntKind.i64 (v0_9+v0_10))) ((2:Int) ^ (min (Int.toNat (1:Int)) (Go.IntKind.bits Go.IntKind.u64)))))) ((0:Int),((0:Int),((0:Int),((0:Int),Bool.false))))).2.2.2.1,(List.getD a0 (Int.toNat (wrap Go.IntKind.i64 (Int.fdiv (wrap Go.IntKind.u64 (wrap Go.IntKind.i64 (v0_9+v0_10))) ((2:Int) ^ (min (Int.toNat (1:Int)) (Go.IntKind.bits Go.IntKind.u64)))))) ((0:Int),((0:Int),((0:Int),((0:Int),Bool.false))))).2.2.2.2)))),a1)) (0:Int) λ(q3:Int)=>bif (decide (q3 < (0:Int)))then g (S110_0 a0 a1 a2 (wrap Go.IntKind.i64 ((wrap Go.IntKind.i64 (Int.fdiv (wrap Go.IntKind.u64 (wrap Go.IntKind.i64 (v0_9+v0_10))) ((2:Int) ^ (min (Int.toNat (1:Int)) (Go.IntKind.bits Go.IntKind.u64)))))+(1:Int))) v0_10)
    else g (S110_0 a0 a1 a2 v0_9 (wrap Go.IntKind.i64 (Int.fdiv (wrap Go.IntKind.u64 (wrap Go.IntKind.i64 (v0_9+v0_10))) ((2:Int) ^ (min (Int.toNat (1:Int)) (Go.IntKind.bits Go.IntKind.u64))))))
  else none
 else k (X110_0 a0 a1 a2 v0_9):=by kernel_rfl
theorem aKa (m111:(Bk×Int)->Option Int)(L:Nat)(a0:(List Bk))(a1:Int)(a2:Unit)(w0_9:Int):(bM prog (oC m111) L f110 [1,1,1,0] (aT prog f110)).n (X110_0 a0 a1 a2 w0_9)=
 bif (decide (w0_9 < (Nat.cast (List.length a0):Int)))then bif ((decide ((0:Int)<=w0_9))&&(decide (w0_9 < (Nat.cast (List.length a0):Int))))then cK (m111 (((List.getD a0 (Int.toNat w0_9) ((0:Int),((0:Int),((0:Int),((0:Int),Bool.false))))).1,((List.getD a0 (Int.toNat w0_9) ((0:Int),((0:Int),((0:Int),((0:Int),Bool.false))))).2.1,((List.getD a0 (Int.toNat w0_9) ((0:Int),((0:Int),((0:Int),((0:Int),Bool.false))))).2.2.1,((List.getD a0 (Int.toNat w0_9) ((0:Int),((0:Int),((0:Int),((0:Int),Bool.false))))).2.2.2.1,(List.getD a0 (Int.toNat w0_9) ((0:Int),((0:Int),((0:Int),((0:Int),Bool.false))))).2.2.2.2)))),a1)) (0:Int) λ(q3:Int)=>some (aAk (w0_9,(q3 == (0:Int))))
  else none
 else some (aAk (w0_9,Bool.false)):=by kernel_rfl
def oT (m111:(Bk×Int)->Option Int)(L:Nat)(a0:(List Bk))(a1:Int)(a2:Unit):Nat->Int->Int->(Int->Option (Int×Bool))->Option (Int×Bool)
 | 0,_,_,_=>none
 | n+1,v0_9,v0_10,k=>
  bif (decide (v0_9 < v0_10))then bif ((decide ((0:Int)<=(wrap Go.IntKind.i64 (Int.fdiv (wrap Go.IntKind.u64 (wrap Go.IntKind.i64 (v0_9+v0_10))) ((2:Int) ^ (min (Int.toNat (1:Int)) (Go.IntKind.bits Go.IntKind.u64)))))))&&(decide ((wrap Go.IntKind.i64 (Int.fdiv (wrap Go.IntKind.u64 (wrap Go.IntKind.i64 (v0_9+v0_10))) ((2:Int) ^ (min (Int.toNat (1:Int)) (Go.IntKind.bits Go.IntKind.u64))))) < (Nat.cast (List.length a0):Int))))then cK (m111 (((List.getD a0 (Int.toNat (wrap Go.IntKind.i64 (Int.fdiv (wrap Go.IntKind.u64 (wrap Go.IntKind.i64 (v0_9+v0_10))) ((2:Int) ^ (min (Int.toNat (1:Int)) (Go.IntKind.bits Go.IntKind.u64)))))) ((0:Int),((0:Int),((0:Int),((0:Int),Bool.false))))).1,((List.getD a0 (Int.toNat (wrap Go.IntKind.i64 (Int.fdiv (wrap Go.IntKind.u64 (wrap Go.IntKind.i64 (v0_9+v0_10))) ((2:Int) ^ (min (Int.toNat (1:Int)) (Go.IntKind.bits Go.IntKind.u64)))))) ((0:Int),((0:Int),((0:Int),((0:Int),Bool.false))))).2.1,((List.getD a0 (Int.toNat (wrap Go.IntKind.i64 (Int.fdiv (wrap Go.IntKind.u64 (wrap Go.IntKind.i64 (v0_9+v0_10))) ((2:Int) ^ (min (Int.toNat (1:Int)) (Go.IntKind.bits Go.IntKind.u64)))))) ((0:Int),((0:Int),((0:Int),((0:Int),Bool.false))))).2.2.1,((List.getD a0 (Int.toNat (wrap Go.IntKind.i64 (Int.fdiv (wrap Go.IntKind.u64 (wrap Go.IntKind.i64 (v0_9+v0_10))) ((2:Int) ^ (min (Int.toNat (1:Int)) (Go.IntKind.bits Go.IntKind.u64)))))) ((0:Int),((0:Int),((0:Int),((0:Int),Bool.false))))).2.2.2.1,(List.getD a0 (Int.toNat (wrap Go.IntKind.i64 (Int.fdiv (wrap Go.IntKind.u64 (wrap Go.IntKind.i64 (v0_9+v0_10))) ((2:Int) ^ (min (Int.toNat (1:Int)) (Go.IntKind.bits Go.IntKind.u64)))))) ((0:Int),((0:Int),((0:Int),((0:Int),Bool.false))))).2.2.2.2)))),a1)) (0:Int) λ(q4:Int)=>bif (decide (q4 < (0:Int)))then oT m111 L a0 a1 a2 n (wrap Go.IntKind.i64 ((wrap Go.IntKind.i64 (Int.fdiv (wrap Go.IntKind.u64 (wrap Go.IntKind.i64 (v0_9+v0_10))) ((2:Int) ^ (min (Int.toNat (1:Int)) (Go.IntKind.bits Go.IntKind.u64)))))+(1:Int))) v0_10 k
     else oT m111 L a0 a1 a2 n v0_9 (wrap Go.IntKind.i64 (Int.fdiv (wrap Go.IntKind.u64 (wrap Go.IntKind.i64 (v0_9+v0_10))) ((2:Int) ^ (min (Int.toNat (1:Int)) (Go.IntKind.bits Go.IntKind.u64))))) k
   else none
  else k v0_9
theorem aGu (m111:(Bk×Int)->Option Int)(L:Nat)(a0:(List Bk))(a1:Int)(a2:Unit)(k:St cxT.ty->Option (V cxT.ty))(xk:Nat->St cxT.ty->Option (V cxT.ty))(k':Int->Option (Int×Bool))(hk:∀ (w0_9:Int),k (X110_0 a0 a1 a2 w0_9)=(k' w0_9).map aAk):∀ (n:Nat) (v0_9:Int) (v0_10:Int),bR prog (oC m111) L f110 0 [1,1,1,0,0,0] (cA (aT prog f110) k xk) n (S110_0 a0 a1 a2 v0_9 v0_10)=(oT m111 L a0 a1 a2 n v0_9 v0_10 k').map aAk
 | 0,_,_=>rfl
 | n+1,v0_9,v0_10=>by
  rw[bS,aKt];have ih:=aGu m111 L a0 a1 a2 k xk k' hk n;simp only[oT,aP,aN,aO,aC,aE,ih,hk]
def aFe (m111:(Bk×Int)->Option Int)(L:Nat)(a0:(List Bk))(a1:Int)(a2:Unit):Option (Int×Bool):=
 oT m111 L a0 a1 a2 L (0:Int) (Nat.cast (List.length a0):Int) (λ(w0_9:Int)=>bif (decide (w0_9 < (Nat.cast (List.length a0):Int)))then bif ((decide ((0:Int)<=w0_9))&&(decide (w0_9 < (Nat.cast (List.length a0):Int))))then cK (m111 (((List.getD a0 (Int.toNat w0_9) ((0:Int),((0:Int),((0:Int),((0:Int),Bool.false))))).1,((List.getD a0 (Int.toNat w0_9) ((0:Int),((0:Int),((0:Int),((0:Int),Bool.false))))).2.1,((List.getD a0 (Int.toNat w0_9) ((0:Int),((0:Int),((0:Int),((0:Int),Bool.false))))).2.2.1,((List.getD a0 (Int.toNat w0_9) ((0:Int),((0:Int),((0:Int),((0:Int),Bool.false))))).2.2.2.1,(List.getD a0 (Int.toNat w0_9) ((0:Int),((0:Int),((0:Int),((0:Int),Bool.false))))).2.2.2.2)))),a1)) (0:Int) λ(q4:Int)=>some (w0_9,(q4 == (0:Int)))
   else none
  else some (w0_9,Bool.false))
theorem aVc (m111:(Bk×Int)->Option Int)(L:Nat)(a0:(List Bk))(a1:Int)(a2:Unit):dP prog (oC m111) (aW L) f110 (aRH.enc (a0,a1,a2))=(aFe m111 L a0 a1 a2).map aAk:=by
 let K'0:Int->Option (Int×Bool):=(λ(w0_9:Int)=>bif (decide (w0_9 < (Nat.cast (List.length a0):Int)))then bif ((decide ((0:Int)<=w0_9))&&(decide (w0_9 < (Nat.cast (List.length a0):Int))))then cK (m111 (((List.getD a0 (Int.toNat w0_9) ((0:Int),((0:Int),((0:Int),((0:Int),Bool.false))))).1,((List.getD a0 (Int.toNat w0_9) ((0:Int),((0:Int),((0:Int),((0:Int),Bool.false))))).2.1,((List.getD a0 (Int.toNat w0_9) ((0:Int),((0:Int),((0:Int),((0:Int),Bool.false))))).2.2.1,((List.getD a0 (Int.toNat w0_9) ((0:Int),((0:Int),((0:Int),((0:Int),Bool.false))))).2.2.2.1,(List.getD a0 (Int.toNat w0_9) ((0:Int),((0:Int),((0:Int),((0:Int),Bool.false))))).2.2.2.2)))),a1)) (0:Int) λ(q5:Int)=>some (w0_9,(q5 == (0:Int)))
    else none
   else some (w0_9,Bool.false))
 have hin0:∀ (v0_9:Int) (v0_10:Int),bR prog (oC m111) L f110 0 [1,1,1,0,0,0] (cA (aT prog f110) (bM prog (oC m111) L f110 [1,1,1,0] (aT prog f110)).n (bM prog (oC m111) L f110 [1,1,1,0] (aT prog f110)).x) L (S110_0 a0 a1 a2 v0_9 v0_10)=(oT m111 L a0 a1 a2 L v0_9 v0_10 K'0).map aAk:=λv0_9 v0_10=>aGu m111 L a0 a1 a2 _ _ K'0 (λw0_9=>by rw[aKa];simp only[K'0,aP,aN,aO,aC,aE]) L v0_9 v0_10
 rw[aTG];simp only[aFe,aP,aN,aO,aC,aE,hin0,K'0]
theorem aTm (m111:(Bk×Int)->Option Int)(h111:Sat prog cxT 111 (aIq m111))(m:((List Bk)×Int×Unit)->Option (Int×Bool))(hm:∀ (x:((List Bk)×Int×Unit)) t,m x=some t->∃ L,aFe m111 L x.1 x.2.1 x.2.2=some t):Sat prog cxT 110 (aIr m):=
 cT bQ bH (by rfl) (fn:=f110) rfl aRH aAk aJ0 m (oC m111) (aY h111 bG) aZ (λL x=>aFe m111 L x.1 x.2.1 x.2.2) (λL x=>aVc m111 L x.1 x.2.1 x.2.2) hm aPF
def ev6 (m24:Int->Option Bool)(fO:CZ->Option Int)(m26:CZ->Option Bool)(m27:DZ->Option Int):Env cxT:={ Kc:=dL [(24,c24 m24),(25,c25 fO),(26,c26 m26),(27,c27 m27)],Kw:=dK [],lv:=λi=>if i=0 then[(1,[none,none,none,none,some 83,some 96,some 64]),(4,[])]else[],xv:=λi=>if i=0 then some []else none }
def S6_0 (a0_0:Int)(a0_1:Int)(a0_2:Bool)(a0_3:Int)(a0_4:(List Bk))(a0_5:(List Vp))(a0_6:(List DZ))(v0_1_0:Int)(v0_1_1:Int)(v0_1_2:Bool)(v0_1_3:Int)(v0_1_4:(List Bk))(v0_1_5:(List Vp))(v0_1_6:(List DZ))(v0_4:Int):St cxT.ty:={ slots:=[aI,(.inr (.inr { kind:=0,nm:=64,cells:=[(lv (.int .i64 v0_1_0)),(lv (.int .i64 v0_1_1)),(lv (.bool v0_1_2)),(lv (.int .i64 v0_1_3)),(ls { own:=0,nm:=0,e:=83,o:=false,xs:=v0_1_4 }),(ls { own:=0,nm:=0,e:=96,o:=false,xs:=v0_1_5 }),(ls { own:=0,nm:=0,e:=64,o:=false,xs:=v0_1_6 })],s:={ own:=0,nm:=0,e:=0,o:=false,xs:=([]:List (PUnit)) },i:=0,off:=0 })),aI,aI,(.inl (.inl (lv (.int .i64 v0_4))))]++List.replicate 65 aI,D:=[],F:=[],ctr:=1 }
def X6_0 (a0_0:Int)(a0_1:Int)(a0_2:Bool)(a0_3:Int)(a0_4:(List Bk))(a0_5:(List Vp))(a0_6:(List DZ)):St cxT.ty:={ slots:=[]++List.replicate 70 aI,D:=[],F:=[],ctr:=1 }
theorem i6 (m24:Int->Option Bool)(fO:CZ->Option Int)(m26:CZ->Option Bool)(m27:DZ->Option Int)(L:Nat)(a0_0:Int)(a0_1:Int)(a0_2:Bool)(a0_3:Int)(a0_4:(List Bk))(a0_5:(List Vp))(a0_6:(List DZ)):dP prog (ev6 m24 fO m26 m27) (aW L) f6 (a6.enc (a0_0,a0_1,a0_2,a0_3,a0_4,a0_5,a0_6))=
 cK (m24 a0_0) false λ(q1:Bool)=>bif (!q1)then some (n6 (3:Int))
  else cK (m24 a0_1) false λ(q2:Bool)=>bif (!q2)then some (n6 (3:Int))
   else bif a0_2 then bif (a0_0 != (0:Int))then some (n6 (1:Int))
    else bif (decide ((Nat.cast (List.length a0_6):Int) > (0:Int)))then some (n6 (1:Int))
    else cK (fO (a0_3,(a0_4,a0_5))) (0:Int) λ(q4:Int)=>bif (q4 != (0:Int))then some (n6 q4)
     else bif (a0_3 != a0_1)then some (n6 (1:Int))
     else some (n6 (0:Int))
   else cK (m26 (a0_3,(a0_4,a0_5))) false λ(q3:Bool)=>bif (!q3)then some (n6 (1:Int))
    else bif (decide ((Nat.cast (List.length a0_6):Int) > (20:Int)))then some (n6 (2:Int))
    else bif ((wrap Go.IntKind.i64 (a0_1-a0_0)) != (Nat.cast (List.length a0_6):Int))then some (n6 (1:Int))
    else bR prog (ev6 m24 fO m26 m27) L f6 0 [1,1,1,1,1,1,0,1,0,0] (cA (aT prog f6) (bM prog (ev6 m24 fO m26 m27) L f6 [1,1,1,1,1,1,0,1] (aT prog f6)).n (bM prog (ev6 m24 fO m26 m27) L f6 [1,1,1,1,1,1,0,1] (aT prog f6)).x) L (S6_0 a0_0 a0_1 a0_2 a0_3 a0_4 a0_5 a0_6 a0_0 a0_1 a0_2 a0_3 a0_4 a0_5 a0_6 (0:Int)):=by kernel_rfl
theorem aTt (m24:Int->Option Bool)(fO:CZ->Option Int)(m26:CZ->Option Bool)(m27:DZ->Option Int)(L:Nat)(a0_0:Int)(a0_1:Int)(a0_2:Bool)(a0_3:Int)(a0_4:(List Bk))(a0_5:(List Vp))(a0_6:(List DZ))(k:St cxT.ty->Option (V cxT.ty))(xk:Nat->St cxT.ty->Option (V cxT.ty))(g:St cxT.ty->Option (V cxT.ty))(v0_1_0:Int)(v0_1_1:Int)(v0_1_2:Bool)(v0_1_3:Int)(v0_1_4:(List Bk))(v0_1_5:(List Vp))(v0_1_6:(List DZ))(v0_4:Int):dQ prog (ev6 m24 fO m26 m27) L f6 0 [1,1,1,1,1,1,0,1,0,0] (cA (aT prog f6) k xk) g (S6_0 a0_0 a0_1 a0_2 a0_3 a0_4 a0_5 a0_6 v0_1_0 v0_1_1 v0_1_2 v0_1_3 v0_1_4 v0_1_5 v0_1_6 v0_4)=
 bif (decide (v0_4 < (Nat.cast (List.length v0_1_6):Int)))then bif ((decide ((0:Int)<=v0_4))&&(decide (v0_4 < (Nat.cast (List.length v0_1_6):Int))))then cK (m27 ((List.getD v0_1_6 (Int.toNat v0_4) ((0:Int),((0:Int),((0:Int),((0:Int),((0:Int),(0:Int))))))).1,((List.getD v0_1_6 (Int.toNat v0_4) ((0:Int),((0:Int),((0:Int),((0:Int),((0:Int),(0:Int))))))).2.1,((List.getD v0_1_6 (Int.toNat v0_4) ((0:Int),((0:Int),((0:Int),((0:Int),((0:Int),(0:Int))))))).2.2.1,((List.getD v0_1_6 (Int.toNat v0_4) ((0:Int),((0:Int),((0:Int),((0:Int),((0:Int),(0:Int))))))).2.2.2.1,((List.getD v0_1_6 (Int.toNat v0_4) ((0:Int),((0:Int),((0:Int),((0:Int),((0:Int),(0:Int))))))).2.2.2.2.1,(List.getD v0_1_6 (Int.toNat v0_4) ((0:Int),((0:Int),((0:Int),((0:Int),((0:Int),(0:Int))))))).2.2.2.2.2)))))) (0:Int) λ(q3:Int)=>bif (q3 != (0:Int))then some (n6 q3)
    else g (S6_0 a0_0 a0_1 a0_2 a0_3 a0_4 a0_5 a0_6 v0_1_0 v0_1_1 v0_1_2 v0_1_3 v0_1_4 v0_1_5 v0_1_6 (wrap Go.IntKind.i64 (v0_4+(1:Int))))
  else none
 else k (X6_0 a0_0 a0_1 a0_2 a0_3 a0_4 a0_5 a0_6):=by kernel_rfl
theorem aTa (m24:Int->Option Bool)(fO:CZ->Option Int)(m26:CZ->Option Bool)(m27:DZ->Option Int)(L:Nat)(a0_0:Int)(a0_1:Int)(a0_2:Bool)(a0_3:Int)(a0_4:(List Bk))(a0_5:(List Vp))(a0_6:(List DZ)):(bM prog (ev6 m24 fO m26 m27) L f6 [1,1,1,1,1,1,0,1] (aT prog f6)).n (X6_0 a0_0 a0_1 a0_2 a0_3 a0_4 a0_5 a0_6)=
 some (n6 (0:Int)):=by kernel_rfl
def aGk (m24:Int->Option Bool)(fO:CZ->Option Int)(m26:CZ->Option Bool)(m27:DZ->Option Int)(L:Nat)(a0_0:Int)(a0_1:Int)(a0_2:Bool)(a0_3:Int)(a0_4:(List Bk))(a0_5:(List Vp))(a0_6:(List DZ)):Nat->Int->Int->Bool->Int->(List Bk)->(List Vp)->(List DZ)->Int->(Option Int)->Option Int
 | 0,_,_,_,_,_,_,_,_,_=>none
 | n+1,v0_1_0,v0_1_1,v0_1_2,v0_1_3,v0_1_4,v0_1_5,v0_1_6,v0_4,k=>
  bif (decide (v0_4 < (Nat.cast (List.length v0_1_6):Int)))then bif ((decide ((0:Int)<=v0_4))&&(decide (v0_4 < (Nat.cast (List.length v0_1_6):Int))))then cK (m27 ((List.getD v0_1_6 (Int.toNat v0_4) ((0:Int),((0:Int),((0:Int),((0:Int),((0:Int),(0:Int))))))).1,((List.getD v0_1_6 (Int.toNat v0_4) ((0:Int),((0:Int),((0:Int),((0:Int),((0:Int),(0:Int))))))).2.1,((List.getD v0_1_6 (Int.toNat v0_4) ((0:Int),((0:Int),((0:Int),((0:Int),((0:Int),(0:Int))))))).2.2.1,((List.getD v0_1_6 (Int.toNat v0_4) ((0:Int),((0:Int),((0:Int),((0:Int),((0:Int),(0:Int))))))).2.2.2.1,((List.getD v0_1_6 (Int.toNat v0_4) ((0:Int),((0:Int),((0:Int),((0:Int),((0:Int),(0:Int))))))).2.2.2.2.1,(List.getD v0_1_6 (Int.toNat v0_4) ((0:Int),((0:Int),((0:Int),((0:Int),((0:Int),(0:Int))))))).2.2.2.2.2)))))) (0:Int) λ(q4:Int)=>bif (q4 != (0:Int))then some q4
     else aGk m24 fO m26 m27 L a0_0 a0_1 a0_2 a0_3 a0_4 a0_5 a0_6 n v0_1_0 v0_1_1 v0_1_2 v0_1_3 v0_1_4 v0_1_5 v0_1_6 (wrap Go.IntKind.i64 (v0_4+(1:Int))) k
   else none
  else k
theorem aPL (m24:Int->Option Bool)(fO:CZ->Option Int)(m26:CZ->Option Bool)(m27:DZ->Option Int)(L:Nat)(a0_0:Int)(a0_1:Int)(a0_2:Bool)(a0_3:Int)(a0_4:(List Bk))(a0_5:(List Vp))(a0_6:(List DZ))(k:St cxT.ty->Option (V cxT.ty))(xk:Nat->St cxT.ty->Option (V cxT.ty))(k':Option Int)(hk:k (X6_0 a0_0 a0_1 a0_2 a0_3 a0_4 a0_5 a0_6)=(k').map n6):∀ (n:Nat) (v0_1_0:Int) (v0_1_1:Int) (v0_1_2:Bool) (v0_1_3:Int) (v0_1_4:(List Bk)) (v0_1_5:(List Vp)) (v0_1_6:(List DZ)) (v0_4:Int),bR prog (ev6 m24 fO m26 m27) L f6 0 [1,1,1,1,1,1,0,1,0,0] (cA (aT prog f6) k xk) n (S6_0 a0_0 a0_1 a0_2 a0_3 a0_4 a0_5 a0_6 v0_1_0 v0_1_1 v0_1_2 v0_1_3 v0_1_4 v0_1_5 v0_1_6 v0_4)=(aGk m24 fO m26 m27 L a0_0 a0_1 a0_2 a0_3 a0_4 a0_5 a0_6 n v0_1_0 v0_1_1 v0_1_2 v0_1_3 v0_1_4 v0_1_5 v0_1_6 v0_4 k').map n6
 | 0,_,_,_,_,_,_,_,_=>rfl
 | n+1,v0_1_0,v0_1_1,v0_1_2,v0_1_3,v0_1_4,v0_1_5,v0_1_6,v0_4=>by
  rw[bS,aTt];have ih:=aPL m24 fO m26 m27 L a0_0 a0_1 a0_2 a0_3 a0_4 a0_5 a0_6 k xk k' hk n;simp only[aGk,aP,aN,aO,aC,aE,ih,hk]
def g6 (m24:Int->Option Bool)(fO:CZ->Option Int)(m26:CZ->Option Bool)(m27:DZ->Option Int)(L:Nat)(a0_0:Int)(a0_1:Int)(a0_2:Bool)(a0_3:Int)(a0_4:(List Bk))(a0_5:(List Vp))(a0_6:(List DZ)):Option Int:=
 cK (m24 a0_0) false λ(q1:Bool)=>bif (!q1)then some (3:Int)
  else cK (m24 a0_1) false λ(q2:Bool)=>bif (!q2)then some (3:Int)
   else bif a0_2 then bif (a0_0 != (0:Int))then some (1:Int)
    else bif (decide ((Nat.cast (List.length a0_6):Int) > (0:Int)))then some (1:Int)
    else cK (fO (a0_3,(a0_4,a0_5))) (0:Int) λ(q4:Int)=>bif (q4 != (0:Int))then some q4
     else bif (a0_3 != a0_1)then some (1:Int)
     else some (0:Int)
   else cK (m26 (a0_3,(a0_4,a0_5))) false λ(q3:Bool)=>bif (!q3)then some (1:Int)
    else bif (decide ((Nat.cast (List.length a0_6):Int) > (20:Int)))then some (2:Int)
    else bif ((wrap Go.IntKind.i64 (a0_1-a0_0)) != (Nat.cast (List.length a0_6):Int))then some (1:Int)
    else aGk m24 fO m26 m27 L a0_0 a0_1 a0_2 a0_3 a0_4 a0_5 a0_6 L a0_0 a0_1 a0_2 a0_3 a0_4 a0_5 a0_6 (0:Int) (some (0:Int))
theorem e6 (m24:Int->Option Bool)(fO:CZ->Option Int)(m26:CZ->Option Bool)(m27:DZ->Option Int)(L:Nat)(a0_0:Int)(a0_1:Int)(a0_2:Bool)(a0_3:Int)(a0_4:(List Bk))(a0_5:(List Vp))(a0_6:(List DZ)):dP prog (ev6 m24 fO m26 m27) (aW L) f6 (a6.enc (a0_0,a0_1,a0_2,a0_3,a0_4,a0_5,a0_6))=(g6 m24 fO m26 m27 L a0_0 a0_1 a0_2 a0_3 a0_4 a0_5 a0_6).map n6:=by
 let K'0:Option Int:=(some (0:Int))
 have hin0:∀ (v0_1_0:Int) (v0_1_1:Int) (v0_1_2:Bool) (v0_1_3:Int) (v0_1_4:(List Bk)) (v0_1_5:(List Vp)) (v0_1_6:(List DZ)) (v0_4:Int),bR prog (ev6 m24 fO m26 m27) L f6 0 [1,1,1,1,1,1,0,1,0,0] (cA (aT prog f6) (bM prog (ev6 m24 fO m26 m27) L f6 [1,1,1,1,1,1,0,1] (aT prog f6)).n (bM prog (ev6 m24 fO m26 m27) L f6 [1,1,1,1,1,1,0,1] (aT prog f6)).x) L (S6_0 a0_0 a0_1 a0_2 a0_3 a0_4 a0_5 a0_6 v0_1_0 v0_1_1 v0_1_2 v0_1_3 v0_1_4 v0_1_5 v0_1_6 v0_4)=(aGk m24 fO m26 m27 L a0_0 a0_1 a0_2 a0_3 a0_4 a0_5 a0_6 L v0_1_0 v0_1_1 v0_1_2 v0_1_3 v0_1_4 v0_1_5 v0_1_6 v0_4 K'0).map n6:=λv0_1_0 v0_1_1 v0_1_2 v0_1_3 v0_1_4 v0_1_5 v0_1_6 v0_4=>aPL m24 fO m26 m27 L a0_0 a0_1 a0_2 a0_3 a0_4 a0_5 a0_6 _ _ K'0 (by rw[aTa];simp only[K'0,aP,aN,aO,aC,aE]) L v0_1_0 v0_1_1 v0_1_2 v0_1_3 v0_1_4 v0_1_5 v0_1_6 v0_4
 rw[i6];simp only[g6,aP,aN,aO,aC,aE,hin0,K'0]
end Go.Proofs.Tryz
