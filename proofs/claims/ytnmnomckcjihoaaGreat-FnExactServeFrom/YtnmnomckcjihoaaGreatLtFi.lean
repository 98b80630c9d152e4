/- A part of the proof of FnExactServeFrom: LtFi. -/
import Derived.Test.YtnmnomckcjihoaaGreatLtCon
set_option linter.unusedSimpArgs false
set_option linter.unusedVariables false
set_option maxHeartbeats 0
set_option maxRecDepth 100000
namespace Go.Proofs.Tryz
open Go.IntKind (wrap)
open Go Go.VM Go.RowKit
def vE:Env cxT:={ Kc:=dL [],Kw:=dK [],lv:=λi=>if i=0 then[(0,[some 83]),(1,[]),(5,[])]else[],xv:=λi=>if i=0 then some [(1,[])]else none }
def S81_0 (a0:(List Bk))(a1:Int)(v0_1:Int)(v0_5:Int):St cxT.ty:={ slots:=[(.inl (.inl (ls { own:=0,nm:=0,e:=83,o:=false,xs:=a0 }))),(.inl (.inl (lv (.int .i64 v0_1)))),aI,aI,aI,(.inl (.inl (lv (.int .i64 v0_5))))]++List.replicate 54 aI,D:=[],F:=[],ctr:=1 }
def X81_0 (a0:(List Bk))(a1:Int)(w0_1:Int):St cxT.ty:={ slots:=[aI,(.inl (.inl (lv (.int .i64 w0_1))))]++List.replicate 58 aI,D:=[],F:=[],ctr:=1 }
theorem i81 (L:Nat)(a0:(List Bk))(a1:Int):dP prog vE (aW L) f81 (a81.enc (a0,a1))=
 bR prog vE L f81 0 [1,0,1,0,0] (cA (aT prog f81) (bM prog vE L f81 [1,0,1] (aT prog f81)).n (bM prog vE L f81 [1,0,1] (aT prog f81)).x) L (S81_0 a0 a1 a1 (0:Int)):=by kernel_rfl
theorem aOG (L:Nat)(a0:(List Bk))(a1:Int)(k:St cxT.ty->Option (V cxT.ty))(xk:Nat->St cxT.ty->Option (V cxT.ty))(g:St cxT.ty->Option (V cxT.ty))(v0_1:Int)(v0_5:Int):dQ prog vE L f81 0 [1,0,1,0,0] (cA (aT prog f81) k xk) g (S81_0 a0 a1 v0_1 v0_5)=
 bif (decide (v0_5 < (Nat.cast (List.length a0):Int)))then bif ((decide ((0:Int)<=v0_5))&&(decide (v0_5 < (Nat.cast (List.length a0):Int))))then bif ((List.getD a0 (Int.toNat v0_5) ((0:Int),((0:Int),((0:Int),((0:Int),Bool.false))))).1 != v0_1)then some (n81 (-(1:Int)))
   else bif ((decide ((0:Int)<=v0_5))&&(decide (v0_5 < (Nat.cast (List.length a0):Int))))then bif ((List.getD a0 (Int.toNat v0_5) ((0:Int),((0:Int),((0:Int),((0:Int),Bool.false))))).2.1 != (wrap Go.IntKind.i64 (v0_1+(1:Int))))then some (n81 (-(1:Int)))
    else bif ((decide ((0:Int)<=v0_5))&&(decide (v0_5 < (Nat.cast (List.length a0):Int))))then bif ((List.getD a0 (Int.toNat v0_5) ((0:Int),((0:Int),((0:Int),((0:Int),Bool.false))))).2.2.1 != (wrap Go.IntKind.i64 ((wrap Go.IntKind.i64 (v0_1+(1:Int)))+(1:Int))))then some (n81 (-(1:Int)))
     else bif ((decide ((0:Int)<=v0_5))&&(decide (v0_5 < (Nat.cast (List.length a0):Int))))then bif ((List.getD a0 (Int.toNat v0_5) ((0:Int),((0:Int),((0:Int),((0:Int),Bool.false))))).2.2.2.1 != (wrap Go.IntKind.i64 ((wrap Go.IntKind.i64 ((wrap Go.IntKind.i64 (v0_1+(1:Int)))+(1:Int)))+(1:Int))))then some (n81 (-(1:Int)))
      else bif ((decide ((0:Int)<=v0_5))&&(decide (v0_5 < (Nat.cast (List.length a0):Int))))then bif (!((List.getD a0 (Int.toNat v0_5) ((0:Int),((0:Int),((0:Int),((0:Int),Bool.false))))).2.2.2.2 == ((Int.tmod (wrap Go.IntKind.i64 ((wrap Go.IntKind.i64 ((wrap Go.IntKind.i64 ((wrap Go.IntKind.i64 (v0_1+(1:Int)))+(1:Int)))+(1:Int)))+(1:Int))) (3:Int)) == (0:Int))))then some (n81 (-(1:Int)))
       else g (S81_0 a0 a1 (wrap Go.IntKind.i64 ((wrap Go.IntKind.i64 ((wrap Go.IntKind.i64 ((wrap Go.IntKind.i64 ((wrap Go.IntKind.i64 (v0_1+(1:Int)))+(1:Int)))+(1:Int)))+(1:Int)))+(1:Int))) (wrap Go.IntKind.i64 (v0_5+(1:Int))))
      else none
     else none
    else none
   else none
  else none
 else k (X81_0 a0 a1 v0_1):=by kernel_rfl
theorem aM4 (L:Nat)(a0:(List Bk))(a1:Int)(w0_1:Int):(bM prog vE L f81 [1,0,1] (aT prog f81)).n (X81_0 a0 a1 w0_1)=
 some (n81 w0_1):=by kernel_rfl
def qL (L:Nat)(a0:(List Bk))(a1:Int):Nat->Int->Int->(Int->Option Int)->Option Int
 | 0,_,_,_=>none
 | n+1,v0_1,v0_5,k=>
  bif (decide (v0_5 < (Nat.cast (List.length a0):Int)))then bif ((decide ((0:Int)<=v0_5))&&(decide (v0_5 < (Nat.cast (List.length a0):Int))))then bif ((List.getD a0 (Int.toNat v0_5) ((0:Int),((0:Int),((0:Int),((0:Int),Bool.false))))).1 != v0_1)then some (-(1:Int))
    else bif ((decide ((0:Int)<=v0_5))&&(decide (v0_5 < (Nat.cast (List.length a0):Int))))then bif ((List.getD a0 (Int.toNat v0_5) ((0:Int),((0:Int),((0:Int),((0:Int),Bool.false))))).2.1 != (wrap Go.IntKind.i64 (v0_1+(1:Int))))then some (-(1:Int))
     else bif ((decide ((0:Int)<=v0_5))&&(decide (v0_5 < (Nat.cast (List.length a0):Int))))then bif ((List.getD a0 (Int.toNat v0_5) ((0:Int),((0:Int),((0:Int),((0:Int),Bool.false))))).2.2.1 != (wrap Go.IntKind.i64 ((wrap Go.IntKind.i64 (v0_1+(1:Int)))+(1:Int))))then some (-(1:Int))
      else bif ((decide ((0:Int)<=v0_5))&&(decide (v0_5 < (Nat.cast (List.length a0):Int))))then bif ((List.getD a0 (Int.toNat v0_5) ((0:Int),((0:Int),((0:Int),((0:Int),Bool.false))))).2.2.2.1 != (wrap Go.IntKind.i64 ((wrap Go.IntKind.i64 ((wrap Go.IntKind.i64 (v0_1+(1:Int)))+(1:Int)))+(1:Int))))then some (-(1:Int))
       else bif ((decide ((0:Int)<=v0_5))&&(decide (v0_5 < (Nat.cast (List.length a0):Int))))then bif (!((List.getD a0 (Int.toNat v0_5) ((0:Int),((0:Int),((0:Int),((0:Int),Bool.false))))).2.2.2.2 == ((Int.tmod (wrap Go.IntKind.i64 ((wrap Go.IntKind.i64 ((wrap Go.IntKind.i64 ((wrap Go.IntKind.i64 (v0_1+(1:Int)))+(1:Int)))+(1:Int)))+(1:Int))) (3:Int)) == (0:Int))))then some (-(1:Int))
        else qL L a0 a1 n (wrap Go.IntKind.i64 ((wrap Go.IntKind.i64 ((wrap Go.IntKind.i64 ((wrap Go.IntKind.i64 ((wrap Go.IntKind.i64 (v0_1+(1:Int)))+(1:Int)))+(1:Int)))+(1:Int)))+(1:Int))) (wrap Go.IntKind.i64 (v0_5+(1:Int))) k
       else none
      else none
     else none
    else none
   else none
  else k v0_1
theorem aJp (L:Nat)(a0:(List Bk))(a1:Int)(k:St cxT.ty->Option (V cxT.ty))(xk:Nat->St cxT.ty->Option (V cxT.ty))(k':Int->Option Int)(hk:∀ (w0_1:Int),k (X81_0 a0 a1 w0_1)=(k' w0_1).map n81):∀ (n:Nat) (v0_1:Int) (v0_5:Int),bR prog vE L f81 0 [1,0,1,0,0] (cA (aT prog f81) k xk) n (S81_0 a0 a1 v0_1 v0_5)=(qL L a0 a1 n v0_1 v0_5 k').map n81
 | 0,_,_=>rfl
 | n+1,v0_1,v0_5=>by
  rw[bS,aOG];have ih:=aJp L a0 a1 k xk k' hk n;simp only[qL,aP,aN,aO,aC,aE,ih,hk]
def g81 (L:Nat)(a0:(List Bk))(a1:Int):Option Int:=
 qL L a0 a1 L a1 (0:Int) (λ(w0_1:Int)=>some w0_1)
theorem e81 (L:Nat)(a0:(List Bk))(a1:Int):dP prog vE (aW L) f81 (a81.enc (a0,a1))=(g81 L a0 a1).map n81:=by
 let K'0:Int->Option Int:=(λ(w0_1:Int)=>some w0_1)
 have hin0:∀ (v0_1:Int) (v0_5:Int),bR prog vE L f81 0 [1,0,1,0,0] (cA (aT prog f81) (bM prog vE L f81 [1,0,1] (aT prog f81)).n (bM prog vE L f81 [1,0,1] (aT prog f81)).x) L (S81_0 a0 a1 v0_1 v0_5)=(qL L a0 a1 L v0_1 v0_5 K'0).map n81:=λv0_1 v0_5=>aJp L a0 a1 _ _ K'0 (λw0_1=>by rw[aM4];simp only[K'0,aP,aN,aO,aC,aE]) L v0_1 v0_5
 rw[i81];simp only[g81,aP,aN,aO,aC,aE,hin0,K'0]
theorem s81 (m:((List Bk)×Int)->Option Int)(hm:∀ (x:((List Bk)×Int)) t,m x=some t->∃ L,g81 L x.1 x.2=some t):Sat prog cxT 81 (c81 m):=
 cT bQ bH (by rfl) (fn:=f81) rfl a81 n81 aQp m vE bG aZ (λL x=>g81 L x.1 x.2) (λL x=>e81 L x.1 x.2) hm aT0
def vD (gC:((List Int)×Int)->Option Int):Env cxT:={ Kc:=dL [(108,aIt gC)],Kw:=dK [],lv:=λi=>if i=0 then[(0,[some 96]),(1,[]),(5,[])]else[],xv:=λi=>if i=0 then some [(1,[])]else none }
def S82_0 (a0:(List Vp))(a1:Int)(v0_1:Int)(v0_5:Int):St cxT.ty:={ slots:=[(.inl (.inl (ls { own:=0,nm:=0,e:=96,o:=false,xs:=a0 }))),(.inl (.inl (lv (.int .i64 v0_1)))),aI,aI,aI,(.inl (.inl (lv (.int .i64 v0_5))))]++List.replicate 43 aI,D:=[],F:=[],ctr:=1 }
def X82_0 (a0:(List Vp))(a1:Int)(w0_1:Int):St cxT.ty:={ slots:=[aI,(.inl (.inl (lv (.int .i64 w0_1))))]++List.replicate 47 aI,D:=[],F:=[],ctr:=1 }
theorem i82 (gC:((List Int)×Int)->Option Int)(L:Nat)(a0:(List Vp))(a1:Int):dP prog (vD gC) (aW L) f82 (a82.enc (a0,a1))=
 bR prog (vD gC) L f82 0 [1,0,1,0,0] (cA (aT prog f82) (bM prog (vD gC) L f82 [1,0,1] (aT prog f82)).n (bM prog (vD gC) L f82 [1,0,1] (aT prog f82)).x) L (S82_0 a0 a1 a1 (0:Int)):=by kernel_rfl
theorem aOF (gC:((List Int)×Int)->Option Int)(L:Nat)(a0:(List Vp))(a1:Int)(k:St cxT.ty->Option (V cxT.ty))(xk:Nat->St cxT.ty->Option (V cxT.ty))(g:St cxT.ty->Option (V cxT.ty))(v0_1:Int)(v0_5:Int):dQ prog (vD gC) L f82 0 [1,0,1,0,0] (cA (aT prog f82) k xk) g (S82_0 a0 a1 v0_1 v0_5)=
 bif (decide (v0_5 < (Nat.cast (List.length a0):Int)))then bif ((decide ((0:Int)<=v0_5))&&(decide (v0_5 < (Nat.cast (List.length a0):Int))))then bif ((List.getD a0 (Int.toNat v0_5) ((0:Int),((0:Int),((0:Int),([]:List (Int)))))).1 != v0_1)then some (n82 (-(1:Int)))
   else bif ((decide ((0:Int)<=v0_5))&&(decide (v0_5 < (Nat.cast (List.length a0):Int))))then bif ((List.getD a0 (Int.toNat v0_5) ((0:Int),((0:Int),((0:Int),([]:List (Int)))))).2.1 != (wrap Go.IntKind.i64 (v0_1+(1:Int))))then some (n82 (-(1:Int)))
    else bif ((decide ((0:Int)<=v0_5))&&(decide (v0_5 < (Nat.cast (List.length a0):Int))))then bif ((List.getD a0 (Int.toNat v0_5) ((0:Int),((0:Int),((0:Int),([]:List (Int)))))).2.2.1 != (wrap Go.IntKind.i64 ((wrap Go.IntKind.i64 (v0_1+(1:Int)))+(1:Int))))then some (n82 (-(1:Int)))
     else bif ((decide ((0:Int)<=v0_5))&&(decide (v0_5 < (Nat.cast (List.length a0):Int))))then cK (gC ((List.getD a0 (Int.toNat v0_5) ((0:Int),((0:Int),((0:Int),([]:List (Int)))))).2.2.2,(wrap Go.IntKind.i64 ((wrap Go.IntKind.i64 ((wrap Go.IntKind.i64 (v0_1+(1:Int)))+(1:Int)))+(1:Int))))) (0:Int) λ(q6:Int)=>bif (decide (q6 < (0:Int)))then some (n82 (-(1:Int)))
       else g (S82_0 a0 a1 q6 (wrap Go.IntKind.i64 (v0_5+(1:Int))))
     else none
    else none
   else none
  else none
 else k (X82_0 a0 a1 v0_1):=by kernel_rfl
theorem aM3 (gC:((List Int)×Int)->Option Int)(L:Nat)(a0:(List Vp))(a1:Int)(w0_1:Int):(bM prog (vD gC) L f82 [1,0,1] (aT prog f82)).n (X82_0 a0 a1 w0_1)=
 some (n82 w0_1):=by kernel_rfl
def qK (gC:((List Int)×Int)->Option Int)(L:Nat)(a0:(List Vp))(a1:Int):Nat->Int->Int->(Int->Option Int)->Option Int
 | 0,_,_,_=>none
 | n+1,v0_1,v0_5,k=>
  bif (decide (v0_5 < (Nat.cast (List.length a0):Int)))then bif ((decide ((0:Int)<=v0_5))&&(decide (v0_5 < (Nat.cast (List.length a0):Int))))then bif ((List.getD a0 (Int.toNat v0_5) ((0:Int),((0:Int),((0:Int),([]:List (Int)))))).1 != v0_1)then some (-(1:Int))
    else bif ((decide ((0:Int)<=v0_5))&&(decide (v0_5 < (Nat.cast (List.length a0):Int))))then bif ((List.getD a0 (Int.toNat v0_5) ((0:Int),((0:Int),((0:Int),([]:List (Int)))))).2.1 != (wrap Go.IntKind.i64 (v0_1+(1:Int))))then some (-(1:Int))
     else bif ((decide ((0:Int)<=v0_5))&&(decide (v0_5 < (Nat.cast (List.length a0):Int))))then bif ((List.getD a0 (Int.toNat v0_5) ((0:Int),((0:Int),((0:Int),([]:List (Int)))))).2.2.1 != (wrap Go.IntKind.i64 ((wrap Go.IntKind.i64 (v0_1+(1:Int)))+(1:Int))))then some (-(1:Int))
      else bif ((decide ((0:Int)<=v0_5))&&(decide (v0_5 < (Nat.cast (List.length a0):Int))))then cK (gC ((List.getD a0 (Int.toNat v0_5) ((0:Int),((0:Int),((0:Int),([]:List (Int)))))).2.2.2,(wrap Go.IntKind.i64 ((wrap Go.IntKind.i64 ((wrap Go.IntKind.i64 (v0_1+(1:Int)))+(1:Int)))+(1:Int))))) (0:Int) λ(q7:Int)=>bif (decide (q7 < (0:Int)))then some (-(1:Int))
        else qK gC L a0 a1 n q7 (wrap Go.IntKind.i64 (v0_5+(1:Int))) k
      else none
     else none
    else none
   else none
  else k v0_1
theorem aJo (gC:((List Int)×Int)->Option Int)(L:Nat)(a0:(List Vp))(a1:Int)(k:St cxT.ty->Option (V cxT.ty))(xk:Nat->St cxT.ty->Option (V cxT.ty))(k':Int->Option Int)(hk:∀ (w0_1:Int),k (X82_0 a0 a1 w0_1)=(k' w0_1).map n82):∀ (n:Nat) (v0_1:Int) (v0_5:Int),bR prog (vD gC) L f82 0 [1,0,1,0,0] (cA (aT prog f82) k xk) n (S82_0 a0 a1 v0_1 v0_5)=(qK gC L a0 a1 n v0_1 v0_5 k').map n82
 | 0,_,_=>rfl
 | n+1,v0_1,v0_5=>by
  rw[bS,aOF];have ih:=aJo gC L a0 a1 k xk k' hk n;simp only[qK,aP,aN,aO,aC,aE,ih,hk]
def g82 (gC:((List Int)×Int)->Option Int)(L:Nat)(a0:(List Vp))(a1:Int):Option Int:=
 qK gC L a0 a1 L a1 (0:Int) (λ(w0_1:Int)=>some w0_1)
theorem e82 (gC:((List Int)×Int)->Option Int)(L:Nat)(a0:(List Vp))(a1:Int):dP prog (vD gC) (aW L) f82 (a82.enc (a0,a1))=(g82 gC L a0 a1).map n82:=by
 let K'0:Int->Option Int:=(λ(w0_1:Int)=>some w0_1)
 have hin0:∀ (v0_1:Int) (v0_5:Int),bR prog (vD gC) L f82 0 [1,0,1,0,0] (cA (aT prog f82) (bM prog (vD gC) L f82 [1,0,1] (aT prog f82)).n (bM prog (vD gC) L f82 [1,0,1] (aT prog f82)).x) L (S82_0 a0 a1 v0_1 v0_5)=(qK gC L a0 a1 L v0_1 v0_5 K'0).map n82:=λv0_1 v0_5=>aJo gC L a0 a1 _ _ K'0 (λw0_1=>by rw[aM3];simp only[K'0,aP,aN,aO,aC,aE]) L v0_1 v0_5
 rw[i82];simp only[g82,aP,aN,aO,aC,aE,hin0,K'0]
theorem s82 (gC:((List Int)×Int)->Option Int)(h108:Sat prog cxT 108 (aIt gC))(m:((List Vp)×Int)->Option Int)(hm:∀ (x:((List Vp)×Int)) t,m x=some t->∃ L,g82 gC L x.1 x.2=some t):Sat prog cxT 82 (c82 m):=
 cT bQ bH (by rfl) (fn:=f82) rfl a82 n82 aQo m (vD gC) (aY h108 bG) aZ (λL x=>g82 gC L x.1 x.2) (λL x=>e82 gC L x.1 x.2) hm aTZ
def oD:Env cxT:={ Kc:=dL [],Kw:=dK [],lv:=λi=>if i=0 then[(0,[some 2]),(1,[]),(5,[])]else[],xv:=λi=>if i=0 then some [(1,[])]else none }
def S108_0 (a0:(List Int))(a1:Int)(v0_1:Int)(v0_5:Int):St cxT.ty:={ slots:=[(.inl (.inl (ls { own:=0,nm:=0,e:=2,o:=false,xs:=a0 }))),(.inl (.inl (lv (.int .i64 v0_1)))),aI,aI,aI,(.inl (.inl (lv (.int .i64 v0_5))))]++List.replicate 15 aI,D:=[],F:=[],ctr:=1 }
def X108_0 (a0:(List Int))(a1:Int)(w0_1:Int):St cxT.ty:={ slots:=[aI,(.inl (.inl (lv (.int .i64 w0_1))))]++List.replicate 19 aI,D:=[],F:=[],ctr:=1 }
theorem aTI (L:Nat)(a0:(List Int))(a1:Int):dP prog oD (aW L) f108 (aRJ.enc (a0,a1))=
 bR prog oD L f108 0 [1,0,1,0,0] (cA (aT prog f108) (bM prog oD L f108 [1,0,1] (aT prog f108)).n (bM prog oD L f108 [1,0,1] (aT prog f108)).x) L (S108_0 a0 a1 a1 (0:Int)):=by kernel_rfl
theorem aKu (L:Nat)(a0:(List Int))(a1:Int)(k:St cxT.ty->Option (V cxT.ty))(xk:Nat->St cxT.ty->Option (V cxT.ty))(g:St cxT.ty->Option (V cxT.ty))(v0_1:Int)(v0_5:Int):dQ prog oD L f108 0 [1,0,1,0,0] (cA (aT prog f108) k xk) g (S108_0 a0 a1 v0_1 v0_5)=
 bif (decide (v0_5 < (Nat.cast (List.length a0):Int)))then bif ((decide ((0:Int)<=v0_5))&&(decide (v0_5 < (Nat.cast (List.length a0):Int))))then bif ((List.getD a0 (Int.toNat v0_5) (0:Int)) != v0_1)then some (aAl (-(1:Int)))
   else g (S108_0 a0 a1 (wrap Go.IntKind.i64 (v0_1+(1:Int))) (wrap Go.IntKind.i64 (v0_5+(1:Int))))
  else none
 else k (X108_0 a0 a1 v0_1):=by kernel_rfl
theorem aKb (L:Nat)(a0:(List Int))(a1:Int)(w0_1:Int):(bM prog oD L f108 [1,0,1] (aT prog f108)).n (X108_0 a0 a1 w0_1)=
 some (aAl w0_1):=by kernel_rfl
def lZ (L:Nat)(a0:(List Int))(a1:Int):Nat->Int->Int->(Int->Option Int)->Option Int
 | 0,_,_,_=>none
 | n+1,v0_1,v0_5,k=>
  bif (decide (v0_5 < (Nat.cast (List.length a0):Int)))then bif ((decide ((0:Int)<=v0_5))&&(decide (v0_5 < (Nat.cast (List.length a0):Int))))then bif ((List.getD a0 (Int.toNat v0_5) (0:Int)) != v0_1)then some (-(1:Int))
    else lZ L a0 a1 n (wrap Go.IntKind.i64 (v0_1+(1:Int))) (wrap Go.IntKind.i64 (v0_5+(1:Int))) k
   else none
  else k v0_1
theorem aGv (L:Nat)(a0:(List Int))(a1:Int)(k:St cxT.ty->Option (V cxT.ty))(xk:Nat->St cxT.ty->Option (V cxT.ty))(k':Int->Option Int)(hk:∀ (w0_1:Int),k (X108_0 a0 a1 w0_1)=(k' w0_1).map aAl):∀ (n:Nat) (v0_1:Int) (v0_5:Int),bR prog oD L f108 0 [1,0,1,0,0] (cA (aT prog f108) k xk) n (S108_0 a0 a1 v0_1 v0_5)=(lZ L a0 a1 n v0_1 v0_5 k').map aAl
 | 0,_,_=>rfl
 | n+1,v0_1,v0_5=>by
  rw[bS,aKu];have ih:=aGv L a0 a1 k xk k' hk n;simp only[lZ,aP,aN,aO,aC,aE,ih,hk]
def aFf (L:Nat)(a0:(List Int))(a1:Int):Option Int:=
 lZ L a0 a1 L a1 (0:Int) (λ(w0_1:Int)=>some w0_1)
theorem aVe (L:Nat)(a0:(List Int))(a1:Int):dP prog oD (aW L) f108 (aRJ.enc (a0,a1))=(aFf L a0 a1).map aAl:=by
 let K'0:Int->Option Int:=(λ(w0_1:Int)=>some w0_1)
 have hin0:∀ (v0_1:Int) (v0_5:Int),bR prog oD L f108 0 [1,0,1,0,0] (cA (aT prog f108) (bM prog oD L f108 [1,0,1] (aT prog f108)).n (bM prog oD L f108 [1,0,1] (aT prog f108)).x) L (S108_0 a0 a1 v0_1 v0_5)=(lZ L a0 a1 L v0_1 v0_5 K'0).map aAl:=λv0_1 v0_5=>aGv L a0 a1 _ _ K'0 (λw0_1=>by rw[aKb];simp only[K'0,aP,aN,aO,aC,aE]) L v0_1 v0_5
 rw[aTI];simp only[aFf,aP,aN,aO,aC,aE,hin0,K'0]
theorem aTo (m:((List Int)×Int)->Option Int)(hm:∀ (x:((List Int)×Int)) t,m x=some t->∃ L,aFf L x.1 x.2=some t):Sat prog cxT 108 (aIt m):=
 cT bQ bH (by rfl) (fn:=f108) rfl aRJ aAl aJ2 m oD bG aZ (λL x=>aFf L x.1 x.2) (λL x=>aVe L x.1 x.2) hm aPH
def aLk (xK:((List Bk)×Int)->Option Int)(xJ:((List Vp)×Int)->Option Int):Env cxT:={ Kc:=dL [(81,c81 xK),(82,c82 xJ)],Kw:=dK [],lv:=λi=>[],xv:=λi=>none }
theorem i65 (xK:((List Bk)×Int)->Option Int)(xJ:((List Vp)×Int)->Option Int)(L:Nat)(a0_0:Int)(a0_1:(List Bk))(a0_2:(List Vp))(a1:Int):dP prog (aLk xK xJ) (aW L) f65 (a65.enc ((a0_0,a0_1,a0_2),a1))=
 cK (xK (a0_1,a1)) (0:Int) λ(q1:Int)=>bif (decide (q1 < (0:Int)))then some (n65 (-(1:Int)))
  else cK (xJ (a0_2,q1)) (0:Int) λ(q2:Int)=>bif (decide (q2 < (0:Int)))then some (n65 (-(1:Int)))
   else some (n65 q2):=by kernel_rfl
def g65 (xK:((List Bk)×Int)->Option Int)(xJ:((List Vp)×Int)->Option Int)(L:Nat)(a0_0:Int)(a0_1:(List Bk))(a0_2:(List Vp))(a1:Int):Option Int:=
 cK (xK (a0_1,a1)) (0:Int) λ(q1:Int)=>bif (decide (q1 < (0:Int)))then some (-(1:Int))
  else cK (xJ (a0_2,q1)) (0:Int) λ(q2:Int)=>bif (decide (q2 < (0:Int)))then some (-(1:Int))
   else some q2
theorem e65 (xK:((List Bk)×Int)->Option Int)(xJ:((List Vp)×Int)->Option Int)(L:Nat)(a0_0:Int)(a0_1:(List Bk))(a0_2:(List Vp))(a1:Int):dP prog (aLk xK xJ) (aW L) f65 (a65.enc ((a0_0,a0_1,a0_2),a1))=(g65 xK xJ L a0_0 a0_1 a0_2 a1).map n65:=by
 rw[i65];simp only[g65,aP,aN,aO,aC,aE]
theorem s65 (xK:((List Bk)×Int)->Option Int)(xJ:((List Vp)×Int)->Option Int)(h81:Sat prog cxT 81 (c81 xK))(h82:Sat prog cxT 82 (c82 xJ))(m:(CZ×Int)->Option Int)(hm:∀ (x:(CZ×Int)) t,m x=some t->∃ L,g65 xK xJ L x.1.1 x.1.2.1 x.1.2.2 x.2=some t):Sat prog cxT 65 (c65 m):=
 cT bQ bH (by rfl) (fn:=f65) rfl a65 n65 aQD m (aLk xK xJ) (aY h81 (aY h82 bG)) aZ (λL x=>g65 xK xJ L x.1.1 x.1.2.1 x.1.2.2 x.2) (λL x=>e65 xK xJ L x.1.1 x.1.2.1 x.1.2.2 x.2) hm aUe
def vH:Env cxT:={ Kc:=dL [],Kw:=dK [],lv:=λi=>if i=0 then[(0,[some 64]),(1,[]),(5,[])]else[],xv:=λi=>if i=0 then some [(1,[])]else none }
def S66_0 (a0:(List DZ))(a1:Int)(v0_1:Int)(v0_5:Int):St cxT.ty:={ slots:=[(.inl (.inl (ls { own:=0,nm:=0,e:=64,o:=false,xs:=a0 }))),(.inl (.inl (lv (.int .i64 v0_1)))),aI,aI,aI,(.inl (.inl (lv (.int .i64 v0_5))))]++List.replicate 61 aI,D:=[],F:=[],ctr:=1 }
def X66_0 (a0:(List DZ))(a1:Int)(w0_1:Int):St cxT.ty:={ slots:=[aI,(.inl (.inl (lv (.int .i64 w0_1))))]++List.replicate 65 aI,D:=[],F:=[],ctr:=1 }
theorem i66 (L:Nat)(a0:(List DZ))(a1:Int):dP prog vH (aW L) f66 (a66.enc (a0,a1))=
 bR prog vH L f66 0 [1,0,1,0,0] (cA (aT prog f66) (bM prog vH L f66 [1,0,1] (aT prog f66)).n (bM prog vH L f66 [1,0,1] (aT prog f66)).x) L (S66_0 a0 a1 a1 (0:Int)):=by kernel_rfl
theorem aOK (L:Nat)(a0:(List DZ))(a1:Int)(k:St cxT.ty->Option (V cxT.ty))(xk:Nat->St cxT.ty->Option (V cxT.ty))(g:St cxT.ty->Option (V cxT.ty))(v0_1:Int)(v0_5:Int):dQ prog vH L f66 0 [1,0,1,0,0] (cA (aT prog f66) k xk) g (S66_0 a0 a1 v0_1 v0_5)=
 bif (decide (v0_5 < (Nat.cast (List.length a0):Int)))then bif ((decide ((0:Int)<=v0_5))&&(decide (v0_5 < (Nat.cast (List.length a0):Int))))then bif ((List.getD a0 (Int.toNat v0_5) ((0:Int),((0:Int),((0:Int),((0:Int),((0:Int),(0:Int))))))).1 != v0_1)then some (n66 (-(1:Int)))
   else bif ((decide ((0:Int)<=v0_5))&&(decide (v0_5 < (Nat.cast (List.length a0):Int))))then bif ((List.getD a0 (Int.toNat v0_5) ((0:Int),((0:Int),((0:Int),((0:Int),((0:Int),(0:Int))))))).2.1 != (wrap Go.IntKind.i64 (v0_1+(1:Int))))then some (n66 (-(1:Int)))
    else bif ((decide ((0:Int)<=v0_5))&&(decide (v0_5 < (Nat.cast (List.length a0):Int))))then bif ((List.getD a0 (Int.toNat v0_5) ((0:Int),((0:Int),((0:Int),((0:Int),((0:Int),(0:Int))))))).2.2.1 != (wrap Go.IntKind.i64 ((wrap Go.IntKind.i64 (v0_1+(1:Int)))+(1:Int))))then some (n66 (-(1:Int)))
     else bif ((decide ((0:Int)<=v0_5))&&(decide (v0_5 < (Nat.cast (List.length a0):Int))))then bif ((List.getD a0 (Int.toNat v0_5) ((0:Int),((0:Int),((0:Int),((0:Int),((0:Int),(0:Int))))))).2.2.2.1 != (wrap Go.IntKind.i64 ((wrap Go.IntKind.i64 ((wrap Go.IntKind.i64 (v0_1+(1:Int)))+(1:Int)))+(1:Int))))then some (n66 (-(1:Int)))
      else bif ((decide ((0:Int)<=v0_5))&&(decide (v0_5 < (Nat.cast (List.length a0):Int))))then bif ((List.getD a0 (Int.toNat v0_5) ((0:Int),((0:Int),((0:Int),((0:Int),((0:Int),(0:Int))))))).2.2.2.2.1 != (wrap Go.IntKind.i64 ((wrap Go.IntKind.i64 ((wrap Go.IntKind.i64 ((wrap Go.IntKind.i64 (v0_1+(1:Int)))+(1:Int)))+(1:Int)))+(1:Int))))then some (n66 (-(1:Int)))
       else bif ((decide ((0:Int)<=v0_5))&&(decide (v0_5 < (Nat.cast (List.length a0):Int))))then bif ((List.getD a0 (Int.toNat v0_5) ((0:Int),((0:Int),((0:Int),((0:Int),((0:Int),(0:Int))))))).2.2.2.2.2 != (wrap Go.IntKind.i64 ((wrap Go.IntKind.i64 ((wrap Go.IntKind.i64 ((wrap Go.IntKind.i64 ((wrap Go.IntKind.i64 (v0_1+(1:Int)))+(1:Int)))+(1:Int)))+(1:Int)))+(1:Int))))then some (n66 (-(1:Int)))
        else g (S66_0 a0 a1 (wrap Go.IntKind.i64 ((wrap Go.IntKind.i64 ((wrap Go.IntKind.i64 ((wrap Go.IntKind.i64 ((wrap Go.IntKind.i64 ((wrap Go.IntKind.i64 (v0_1+(1:Int)))+(1:Int)))+(1:Int)))+(1:Int)))+(1:Int)))+(1:Int))) (wrap Go.IntKind.i64 (v0_5+(1:Int))))
       else none
      else none
     else none
    else none
   else none
  else none
 else k (X66_0 a0 a1 v0_1):=by kernel_rfl
theorem aM8 (L:Nat)(a0:(List DZ))(a1:Int)(w0_1:Int):(bM prog vH L f66 [1,0,1] (aT prog f66)).n (X66_0 a0 a1 w0_1)=
 some (n66 w0_1):=by kernel_rfl
def oR (L:Nat)(a0:(List DZ))(a1:Int):Nat->Int->Int->(Int->Option Int)->Option Int
 | 0,_,_,_=>none
 | n+1,v0_1,v0_5,k=>
  bif (decide (v0_5 < (Nat.cast (List.length a0):Int)))then bif ((decide ((0:Int)<=v0_5))&&(decide (v0_5 < (Nat.cast (List.length a0):Int))))then bif ((List.getD a0 (Int.toNat v0_5) ((0:Int),((0:Int),((0:Int),((0:Int),((0:Int),(0:Int))))))).1 != v0_1)then some (-(1:Int))
    else bif ((decide ((0:Int)<=v0_5))&&(decide (v0_5 < (Nat.cast (List.length a0):Int))))then bif ((List.getD a0 (Int.toNat v0_5) ((0:Int),((0:Int),((0:Int),((0:Int),((0:Int),(0:Int))))))).2.1 != (wrap Go.IntKind.i64 (v0_1+(1:Int))))then some (-(1:Int))
     else bif ((decide ((0:Int)<=v0_5))&&(decide (v0_5 < (Nat.cast (List.length a0):Int))))then bif ((List.getD a0 (Int.toNat v0_5) ((0:Int),((0:Int),((0:Int),((0:Int),((0:Int),(0:Int))))))).2.2.1 != (wrap Go.IntKind.i64 ((wrap Go.IntKind.i64 (v0_1+(1:Int)))+(1:Int))))then some (-(1:Int))
      else bif ((decide ((0:Int)<=v0_5))&&(decide (v0_5 < (Nat.cast (List.length a0):Int))))then bif ((List.getD a0 (Int.toNat v0_5) ((0:Int),((0:Int),((0:Int),((0:Int),((0:Int),(0:Int))))))).2.2.2.1 != (wrap Go.IntKind.i64 ((wrap Go.IntKind.i64 ((wrap Go.IntKind.i64 (v0_1+(1:Int)))+(1:Int)))+(1:Int))))then some (-(1:Int))
       else bif ((decide ((0:Int)<=v0_5))&&(decide (v0_5 < (Nat.cast (List.length a0):Int))))then bif ((List.getD a0 (Int.toNat v0_5) ((0:Int),((0:Int),((0:Int),((0:Int),((0:Int),(0:Int))))))).2.2.2.2.1 != (wrap Go.IntKind.i64 ((wrap Go.IntKind.i64 ((wrap Go.IntKind.i64 ((wrap Go.IntKind.i64 (v0_1+(1:Int)))+(1:Int)))+(1:Int)))+(1:Int))))then some (-(1:Int))
        else bif ((decide ((0:Int)<=v0_5))&&(decide (v0_5 < (Nat.cast (List.length a0):Int))))then bif ((List.getD a0 (Int.toNat v0_5) ((0:Int),((0:Int),((0:Int),((0:Int),((0:Int),(0:Int))))))).2.2.2.2.2 != (wrap Go.IntKind.i64 ((wrap Go.IntKind.i64 ((wrap Go.IntKind.i64 ((wrap Go.IntKind.i64 ((wrap Go.IntKind.i64 (v0_1+(1:Int)))+(1:Int)))+(1:Int)))+(1:Int)))+(1:Int))))then some (-(1:Int))
         else oR L a0 a1 n (wrap Go.IntKind.i64 ((wrap Go.IntKind.i64 ((wrap Go.IntKind.i64 ((wrap Go.IntKind.i64 ((wrap Go.IntKind.i64 ((wrap Go.IntKind.i64 (v0_1+(1:Int)))+(1:Int)))+(1:Int)))+(1:Int)))+(1:Int)))+(1:Int))) (wrap Go.IntKind.i64 (v0_5+(1:Int))) k
        else none
       else none
      else none
     else none
    else none
   else none
  else k v0_1
theorem aJt (L:Nat)(a0:(List DZ))(a1:Int)(k:St cxT.ty->Option (V cxT.ty))(xk:Nat->St cxT.ty->Option (V cxT.ty))(k':Int->Option Int)(hk:∀ (w0_1:Int),k (X66_0 a0 a1 w0_1)=(k' w0_1).map n66):∀ (n:Nat) (v0_1:Int) (v0_5:Int),bR prog vH L f66 0 [1,0,1,0,0] (cA (aT prog f66) k xk) n (S66_0 a0 a1 v0_1 v0_5)=(oR L a0 a1 n v0_1 v0_5 k').map n66
 | 0,_,_=>rfl
 | n+1,v0_1,v0_5=>by
  rw[bS,aOK];have ih:=aJt L a0 a1 k xk k' hk n;simp only[oR,aP,aN,aO,aC,aE,ih,hk]
def g66 (L:Nat)(a0:(List DZ))(a1:Int):Option Int:=
 oR L a0 a1 L a1 (0:Int) (λ(w0_1:Int)=>some w0_1)
theorem e66 (L:Nat)(a0:(List DZ))(a1:Int):dP prog vH (aW L) f66 (a66.enc (a0,a1))=(g66 L a0 a1).map n66:=by
 let K'0:Int->Option Int:=(λ(w0_1:Int)=>some w0_1)
 have hin0:∀ (v0_1:Int) (v0_5:Int),bR prog vH L f66 0 [1,0,1,0,0] (cA (aT prog f66) (bM prog vH L f66 [1,0,1] (aT prog f66)).n (bM prog vH L f66 [1,0,1] (aT prog f66)).x) L (S66_0 a0 a1 v0_1 v0_5)=(oR L a0 a1 L v0_1 v0_5 K'0).map n66:=λv0_1 v0_5=>aJt L a0 a1 _ _ K'0 (λw0_1=>by rw[aM8];simp only[K'0,aP,aN,aO,aC,aE]) L v0_1 v0_5
 rw[i66];simp only[g66,aP,aN,aO,aC,aE,hin0,K'0]
theorem s66 (m:((List DZ)×Int)->Option Int)(hm:∀ (x:((List DZ)×Int)) t,m x=some t->∃ L,g66 L x.1 x.2=some t):Sat prog cxT 66 (c66 m):=
 cT bQ bH (by rfl) (fn:=f66) rfl a66 n66 aQC m vH bG aZ (λL x=>g66 L x.1 x.2) (λL x=>e66 L x.1 x.2) hm aUd
def aLt (zX:(CZ×Int)->Option Int)(wI:((List DZ)×Int)->Option Int):Env cxT:={ Kc:=dL [(65,c65 zX),(66,c66 wI)],Kw:=dK [],lv:=λi=>[],xv:=λi=>none }
theorem i45 (zX:(CZ×Int)->Option Int)(wI:((List DZ)×Int)->Option Int)(L:Nat)(a0_0:Int)(a0_1:Int)(a0_2:Bool)(a0_3:Int)(a0_4:(List Bk))(a0_5:(List Vp))(a0_6:(List DZ))(a1:Int):dP prog (aLt zX wI) (aW L) f45 (a45.enc ((a0_0,a0_1,a0_2,a0_3,a0_4,a0_5,a0_6),a1))=
 cK (zX ((a0_3,(a0_4,a0_5)),a1)) (0:Int) λ(q1:Int)=>bif (decide (q1 < (0:Int)))then some (n45 (-(1:Int)))
  else cK (wI (a0_6,q1)) (0:Int) λ(q2:Int)=>bif (decide (q2 < (0:Int)))then some (n45 (-(1:Int)))
   else some (n45 q2):=by kernel_rfl
def g45 (zX:(CZ×Int)->Option Int)(wI:((List DZ)×Int)->Option Int)(L:Nat)(a0_0:Int)(a0_1:Int)(a0_2:Bool)(a0_3:Int)(a0_4:(List Bk))(a0_5:(List Vp))(a0_6:(List DZ))(a1:Int):Option Int:=
 cK (zX ((a0_3,(a0_4,a0_5)),a1)) (0:Int) λ(q1:Int)=>bif (decide (q1 < (0:Int)))then some (-(1:Int))
  else cK (wI (a0_6,q1)) (0:Int) λ(q2:Int)=>bif (decide (q2 < (0:Int)))then some (-(1:Int))
   else some q2
theorem e45 (zX:(CZ×Int)->Option Int)(wI:((List DZ)×Int)->Option Int)(L:Nat)(a0_0:Int)(a0_1:Int)(a0_2:Bool)(a0_3:Int)(a0_4:(List Bk))(a0_5:(List Vp))(a0_6:(List DZ))(a1:Int):dP prog (aLt zX wI) (aW L) f45 (a45.enc ((a0_0,a0_1,a0_2,a0_3,a0_4,a0_5,a0_6),a1))=(g45 zX wI L a0_0 a0_1 a0_2 a0_3 a0_4 a0_5 a0_6 a1).map n45:=by
 rw[i45];simp only[g45,aP,aN,aO,aC,aE]
theorem s45 (zX:(CZ×Int)->Option Int)(wI:((List DZ)×Int)->Option Int)(h65:Sat prog cxT 65 (c65 zX))(h66:Sat prog cxT 66 (c66 wI))(m:((Int×Int×Bool×Int×(List Bk)×(List Vp)×(List DZ))×Int)->Option Int)(hm:∀ (x:((Int×Int×Bool×Int×(List Bk)×(List Vp)×(List DZ))×Int)) t,m x=some t->∃ L,g45 zX wI L x.1.1 x.1.2.1 x.1.2.2.1 x.1.2.2.2.1 x.1.2.2.2.2.1 x.1.2.2.2.2.2.1 x.1.2.2.2.2.2.2 x.2=some t):Sat prog cxT 45 (c45 m):=
 cT bQ bH (by rfl) (fn:=f45) rfl a45 n45 aQV m (aLt zX wI) (aY h65 (aY h66 bG)) aZ (λL x=>g45 zX wI L x.1.1 x.1.2.1 x.1.2.2.1 x.1.2.2.2.1 x.1.2.2.2.2.1 x.1.2.2.2.2.2.1 x.1.2.2.2.2.2.2 x.2) (λL x=>e45 zX wI L x.1.1 x.1.2.1 x.1.2.2.1 x.1.2.2.2.1 x.1.2.2.2.2.1 x.1.2.2.2.2.2.1 x.1.2.2.2.2.2.2 x.2) hm aUw
def aLG (m45:((Int×Int×Bool×Int×(List Bk)×(List Vp)×(List DZ))×Int)->Option Int):Env cxT:={ Kc:=dL [(45,c45 m45)],Kw:=dK [],lv:=λi=>[],xv:=λi=>none }
theorem i22 (m45:((Int×Int×Bool×Int×(List Bk)×(List Vp)×(List DZ))×Int)->Option Int)(L:Nat)(a0_0:Int)(a0_1:Int)(a0_2:Int)(a0_3:Bool)(a0_4:Int)(a0_5:(List Bk))(a0_6:(List Vp))(a0_7:(List DZ))(a1:Int):dP prog (aLG m45) (aW L) f22 (a22.enc ((a0_0,a0_1,a0_2,a0_3,a0_4,a0_5,a0_6,a0_7),a1))=
 cK (m45 ((a0_1,(a0_2,(a0_3,(a0_4,(a0_5,(a0_6,a0_7)))))),a1)) (0:Int) λ(q1:Int)=>bif (decide (q1 < (0:Int)))then some (n22 (-(1:Int)))
  else some (n22 q1):=by kernel_rfl
def g22 (m45:((Int×Int×Bool×Int×(List Bk)×(List Vp)×(List DZ))×Int)->Option Int)(L:Nat)(a0_0:Int)(a0_1:Int)(a0_2:Int)(a0_3:Bool)(a0_4:Int)(a0_5:(List Bk))(a0_6:(List Vp))(a0_7:(List DZ))(a1:Int):Option Int:=
 cK (m45 ((a0_1,(a0_2,(a0_3,(a0_4,(a0_5,(a0_6,a0_7)))))),a1)) (0:Int) λ(q1:Int)=>bif (decide (q1 < (0:Int)))then some (-(1:Int))
  else some q1
theorem e22 (m45:((Int×Int×Bool×Int×(List Bk)×(List Vp)×(List DZ))×Int)->Option Int)(L:Nat)(a0_0:Int)(a0_1:Int)(a0_2:Int)(a0_3:Bool)(a0_4:Int)(a0_5:(List Bk))(a0_6:(List Vp))(a0_7:(List DZ))(a1:Int):dP prog (aLG m45) (aW L) f22 (a22.enc ((a0_0,a0_1,a0_2,a0_3,a0_4,a0_5,a0_6,a0_7),a1))=(g22 m45 L a0_0 a0_1 a0_2 a0_3 a0_4 a0_5 a0_6 a0_7 a1).map n22:=by
 rw[i22];simp only[g22,aP,aN,aO,aC,aE]
theorem s22 (m45:((Int×Int×Bool×Int×(List Bk)×(List Vp)×(List DZ))×Int)->Option Int)(h45:Sat prog cxT 45 (c45 m45))(m:((Int×Int×Int×Bool×Int×(List Bk)×(List Vp)×(List DZ))×Int)->Option Int)(hm:∀ (x:((Int×Int×Int×Bool×Int×(List Bk)×(List Vp)×(List DZ))×Int)) t,m x=some t->∃ L,g22 m45 L x.1.1 x.1.2.1 x.1.2.2.1 x.1.2.2.2.1 x.1.2.2.2.2.1 x.1.2.2.2.2.2.1 x.1.2.2.2.2.2.2.1 x.1.2.2.2.2.2.2.2 x.2=some t):Sat prog cxT 22 (c22 m):=
 cT bQ bH (by rfl) (fn:=f22) rfl a22 n22 aRe m (aLG m45) (aY h45 bG) aZ (λL x=>g22 m45 L x.1.1 x.1.2.1 x.1.2.2.1 x.1.2.2.2.1 x.1.2.2.2.2.1 x.1.2.2.2.2.2.1 x.1.2.2.2.2.2.2.1 x.1.2.2.2.2.2.2.2 x.2) (λL x=>e22 m45 L x.1.1 x.1.2.1 x.1.2.2.1 x.1.2.2.2.1 x.1.2.2.2.2.1 x.1.2.2.2.2.2.1 x.1.2.2.2.2.2.2.1 x.1.2.2.2.2.2.2.2 x.2) hm aUP
def ev4 (m10:((List CZ)×Int)->Option Int)(qJ:((List DZ)×Int)->Option Int)(sX:(List CZ)->Option (List CZ))(rS:(List DZ)->Option (List DZ))(m12:((List CZ)×(List DZ)×Int)->Option (Int×Int×Int×Bool×Int×(List Bk)×(List Vp)×(List DZ)))(m15:((List CZ)×(List DZ)×Int)->Option (Int×Int×Int×Bool×Int×(List Bk)×(List Vp)×(List DZ)))(tZ:((Int×Int×Int×Bool×Int×(List Bk)×(List Vp)×(List DZ))×(Int×Int×Int×Bool×Int×(List Bk)×(List Vp)×(List DZ)))->Option Bool)(m17:((List CZ)×(List CZ))->Option Bool)(mQ:((List DZ)×(List DZ))->Option Bool)(uU:((List CZ)×Int)->Option (Int×(List CZ)))(kY:((List DZ)×Int)->Option (Int×(List DZ)))(uT:((Int×Int×Int×Bool×Int×(List Bk)×(List Vp)×(List DZ))×Int)->Option (Int×Int×Int×Int×Bool×Int×(List Bk)×(List Vp)×(List DZ)))(xL:((Int×Int×Int×Bool×Int×(List Bk)×(List Vp)×(List DZ))×Int)->Option Int):Env cxT:={ Kc:=dL [(10,c10 m10),(11,c11 qJ),(13,c13 sX),(14,c14 rS),(12,c12 m12),(15,c15 m15),(16,c16 tZ),(17,c17 m17),(18,c18 mQ),(22,c22 xL)],Kw:=dK [(19,c19 uU),(20,c20 kY),(21,c21 uT)],lv:=λi=>[],xv:=λi=>none }
theorem i4 (m10:((List CZ)×Int)->Option Int)(qJ:((List DZ)×Int)->Option Int)(sX:(List CZ)->Option (List CZ))(rS:(List DZ)->Option (List DZ))(m12:((List CZ)×(List DZ)×Int)->Option (Int×Int×Int×Bool×Int×(List Bk)×(List Vp)×(List DZ)))(m15:((List CZ)×(List DZ)×Int)->Option (Int×Int×Int×Bool×Int×(List Bk)×(List Vp)×(List DZ)))(tZ:((Int×Int×Int×Bool×Int×(List Bk)×(List Vp)×(List DZ))×(Int×Int×Int×Bool×Int×(List Bk)×(List Vp)×(List DZ)))->Option Bool)(m17:((List CZ)×(List CZ))->Option Bool)(mQ:((List DZ)×(List DZ))->Option Bool)(uU:((List CZ)×Int)->Option (Int×(List CZ)))(kY:((List DZ)×Int)->Option (Int×(List DZ)))(uT:((Int×Int×Int×Bool×Int×(List Bk)×(List Vp)×(List DZ))×Int)->Option (Int×Int×Int×Int×Bool×Int×(List Bk)×(List Vp)×(List DZ)))(xL:((Int×Int×Int×Bool×Int×(List Bk)×(List Vp)×(List DZ))×Int)->Option Int)(L:Nat)(a0:(List CZ))(a1:(List DZ))(a2:Int):aDz prog (ev4 m10 qJ sX rS m12 m15 tZ m17 mQ uU kY uT xL) (aW L) f4 (a4.enc (a0,a1,a2))=
 cK (m10 (a0,(1048576:Int))) (0:Int) λ(q1:Int)=>bif (decide (q1 < (0:Int)))then some (n4 Bool.true)
  else cK (qJ (a1,q1)) (0:Int) λ(q2:Int)=>bif (decide (q2 < (0:Int)))then some (n4 Bool.true)
   else cK (sX a0) [] λ(q3:(List CZ))=>cK (rS a1) [] λ(q4:(List DZ))=>cK (m12 (q3,(q4,a2))) ((0:Int),(0:Int),(0:Int),false,(0:Int),[],[],[]) λ(q5:(Int×Int×Int×Bool×Int×(List Bk)×(List Vp)×(List DZ)))=>cK (sX a0) [] λ(q6:(List CZ))=>cK (rS a1) [] λ(q7:(List DZ))=>cK (m15 (q3,(q4,a2))) ((0:Int),(0:Int),(0:Int),false,(0:Int),[],[],[]) λ(q8:(Int×Int×Int×Bool×Int×(List Bk)×(List Vp)×(List DZ)))=>cK (tZ ((q8.1,(q8.2.1,(q8.2.2.1,(q8.2.2.2.1,(q8.2.2.2.2.1,(q8.2.2.2.2.2.1,(q8.2.2.2.2.2.2.1,q8.2.2.2.2.2.2.2))))))),(q5.1,(q5.2.1,(q5.2.2.1,(q5.2.2.2.1,(q5.2.2.2.2.1,(q5.2.2.2.2.2.1,(q5.2.2.2.2.2.2.1,q5.2.2.2.2.2.2.2))))))))) false λ(q9:Bool)=>bif (!q9)then some (n4 Bool.false)
          else cK (sX a0) [] λ(q10:(List CZ))=>cK (m17 (q3,q3)) false λ(q11:Bool)=>bif (!q11)then some (n4 Bool.false)
            else cK (rS a1) [] λ(q12:(List DZ))=>cK (mQ (q4,q4)) false λ(q13:Bool)=>bif (!q13)then some (n4 Bool.false)
              else cK (uU (q3,(1:Int))) ((0:Int),[]) λ(q14:(Int×(List CZ)))=>cK (kY (q4,q14.1)) ((0:Int),[]) λ(q15:(Int×(List DZ)))=>bif (decide (q15.1 < (0:Int)))then some (n4 Bool.false)
                else cK (tZ ((q8.1,(q8.2.1,(q8.2.2.1,(q8.2.2.2.1,(q8.2.2.2.2.1,(q8.2.2.2.2.2.1,(q8.2.2.2.2.2.2.1,q8.2.2.2.2.2.2.2))))))),(q5.1,(q5.2.1,(q5.2.2.1,(q5.2.2.2.1,(q5.2.2.2.2.1,(q5.2.2.2.2.2.1,(q5.2.2.2.2.2.2.1,q5.2.2.2.2.2.2.2))))))))) false λ(q16:Bool)=>bif (!q9)then some (n4 Bool.false)
                 else cK (uT ((q8.1,(q8.2.1,(q8.2.2.1,(q8.2.2.2.1,(q8.2.2.2.2.1,(q8.2.2.2.2.2.1,(q8.2.2.2.2.2.2.1,q8.2.2.2.2.2.2.2))))))),(1:Int))) ((0:Int),(0:Int),(0:Int),(0:Int),false,(0:Int),[],[],[]) λ(q17:(Int×Int×Int×Int×Bool×Int×(List Bk)×(List Vp)×(List DZ)))=>cK (xL ((q8.1,(q8.2.1,(q8.2.2.1,(q8.2.2.2.1,(q8.2.2.2.2.1,(q17.2.2.2.2.2.2.1,(q17.2.2.2.2.2.2.2.1,q17.2.2.2.2.2.2.2.2))))))),(1:Int))) (0:Int) λ(q18:Int)=>bif (decide (q18 < (0:Int)))then some (n4 Bool.false)
                   else bif (q18 != q17.1)then some (n4 Bool.false)
                   else cK (sX a0) [] λ(q19:(List CZ))=>cK (rS a1) [] λ(q20:(List DZ))=>cK (m15 (q3,(q4,a2))) ((0:Int),(0:Int),(0:Int),false,(0:Int),[],[],[]) λ(q21:(Int×Int×Int×Bool×Int×(List Bk)×(List Vp)×(List DZ)))=>cK (tZ ((q8.1,(q8.2.1,(q8.2.2.1,(q8.2.2.2.1,(q8.2.2.2.2.1,(q8.2.2.2.2.2.1,(q8.2.2.2.2.2.2.1,q8.2.2.2.2.2.2.2))))))),(q5.1,(q5.2.1,(q5.2.2.1,(q5.2.2.2.1,(q5.2.2.2.2.1,(q5.2.2.2.2.2.1,(q5.2.2.2.2.2.2.1,q5.2.2.2.2.2.2.2))))))))) false λ(q22:Bool)=>bif (!q9)then some (n4 Bool.false)
                       else cK (xL ((q8.1,(q8.2.1,(q8.2.2.1,(q8.2.2.2.1,(q8.2.2.2.2.1,(q17.2.2.2.2.2.2.1,(q17.2.2.2.2.2.2.2.1,q17.2.2.2.2.2.2.2.2))))))),(1:Int))) (0:Int) λ(q23:Int)=>bif (decide (q18 < (0:Int)))then some (n4 Bool.false)
                        else bif (q18 != q17.1)then some (n4 Bool.false)
                        else some (n4 Bool.true):=by kernel_rfl
def g4 (m10:((List CZ)×Int)->Option Int)(qJ:((List DZ)×Int)->Option Int)(sX:(List CZ)->Option (List CZ))(rS:(List DZ)->Option (List DZ))(m12:((List CZ)×(List DZ)×Int)->Option (Int×Int×Int×Bool×Int×(List Bk)×(List Vp)×(List DZ)))(m15:((List CZ)×(List DZ)×Int)->Option (Int×Int×Int×Bool×Int×(List Bk)×(List Vp)×(List DZ)))(tZ:((Int×Int×Int×Bool×Int×(List Bk)×(List Vp)×(List DZ))×(Int×Int×Int×Bool×Int×(List Bk)×(List Vp)×(List DZ)))->Option Bool)(m17:((List CZ)×(List CZ))->Option Bool)(mQ:((List DZ)×(List DZ))->Option Bool)(uU:((List CZ)×Int)->Option (Int×(List CZ)))(kY:((List DZ)×Int)->Option (Int×(List DZ)))(uT:((Int×Int×Int×Bool×Int×(List Bk)×(List Vp)×(List DZ))×Int)->Option (Int×Int×Int×Int×Bool×Int×(List Bk)×(List Vp)×(List DZ)))(xL:((Int×Int×Int×Bool×Int×(List Bk)×(List Vp)×(List DZ))×Int)->Option Int)(L:Nat)(a0:(List CZ))(a1:(List DZ))(a2:Int):Option Bool:=
 cK (m10 (a0,(1048576:Int))) (0:Int) λ(q1:Int)=>bif (decide (q1 < (0:Int)))then some Bool.true
  else cK (qJ (a1,q1)) (0:Int) λ(q2:Int)=>bif (decide (q2 < (0:Int)))then some Bool.true
   else cK (sX a0) [] λ(q3:(List CZ))=>cK (rS a1) [] λ(q4:(List DZ))=>cK (m12 (q3,(q4,a2))) ((0:Int),(0:Int),(0:Int),false,(0:Int),[],[],[]) λ(q5:(Int×Int×Int×Bool×Int×(List Bk)×(List Vp)×(List DZ)))=>cK (sX a0) [] λ(q6:(List CZ))=>cK (rS a1) [] λ(q7:(List DZ))=>cK (m15 (q3,(q4,a2))) ((0:Int),(0:Int),(0:Int),false,(0:Int),[],[],[]) λ(q8:(Int×Int×Int×Bool×Int×(List Bk)×(List Vp)×(List DZ)))=>cK (tZ ((q8.1,(q8.2.1,(q8.2.2.1,(q8.2.2.2.1,(q8.2.2.2.2.1,(q8.2.2.2.2.2.1,(q8.2.2.2.2.2.2.1,q8.2.2.2.2.2.2.2))))))),(q5.1,(q5.2.1,(q5.2.2.1,(q5.2.2.2.1,(q5.2.2.2.2.1,(q5.2.2.2.2.2.1,(q5.2.2.2.2.2.2.1,q5.2.2.2.2.2.2.2))))))))) false λ(q9:Bool)=>bif (!q9)then some Bool.false
          else cK (sX a0) [] λ(q10:(List CZ))=>cK (m17 (q3,q3)) false λ(q11:Bool)=>bif (!q11)then some Bool.false
            else cK (rS a1) [] λ(q12:(List DZ))=>cK (mQ (q4,q4)) false λ(q13:Bool)=>bif (!q13)then some Bool.false
              else cK (uU (q3,(1:Int))) ((0:Int),[]) λ(q14:(Int×(List CZ)))=>cK (kY (q4,q14.1)) ((0:Int),[]) λ(q15:(Int×(List DZ)))=>bif (decide (q15.1 < (0:Int)))then some Bool.false
                else cK (tZ ((q8.1,(q8.2.1,(q8.2.2.1,(q8.2.2.2.1,(q8.2.2.2.2.1,(q8.2.2.2.2.2.1,(q8.2.2.2.2.2.2.1,q8.2.2.2.2.2.2.2))))))),(q5.1,(q5.2.1,(q5.2.2.1,(q5.2.2.2.1,(q5.2.2.2.2.1,(q5.2.2.2.2.2.1,(q5.2.2.2.2.2.2.1,q5.2.2.2.2.2.2.2))))))))) false λ(q16:Bool)=>bif (!q9)then some Bool.false
                 else cK (uT ((q8.1,(q8.2.1,(q8.2.2.1,(q8.2.2.2.1,(q8.2.2.2.2.1,(q8.2.2.2.2.2.1,(q8.2.2.2.2.2.2.1,q8.2.2.2.2.2.2.2))))))),(1:Int))) ((0:Int),(0:Int),(0:Int),(0:Int),false,(0:Int),[],[],[]) λ(q17:(Int×Int×Int×Int×Bool×Int×(List Bk)×(List Vp)×(List DZ)))=>cK (xL ((q8.1,(q8.2.1,(q8.2.2.1,(q8.2.2.2.1,(q8.2.2.2.2.1,(q17.2.2.2.2.2.2.1,(q17.2.2.2.2.2.2.2.1,q17.2.2.2.2.2.2.2.2))))))),(1:Int))) (0:Int) λ(q18:Int)=>bif (decide (q18 < (0:Int)))then some Bool.false
                   else bif (q18 != q17.1)then some Bool.false
                   else cK (sX a0) [] λ(q19:(List CZ))=>cK (rS a1) [] λ(q20:(List DZ))=>cK (m15 (q3,(q4,a2))) ((0:Int),(0:Int),(0:Int),false,(0:Int),[],[],[]) λ(q21:(Int×Int×Int×Bool×Int×(List Bk)×(List Vp)×(List DZ)))=>cK (tZ ((q8.1,(q8.2.1,(q8.2.2.1,(q8.2.2.2.1,(q8.2.2.2.2.1,(q8.2.2.2.2.2.1,(q8.2.2.2.2.2.2.1,q8.2.2.2.2.2.2.2))))))),(q5.1,(q5.2.1,(q5.2.2.1,(q5.2.2.2.1,(q5.2.2.2.2.1,(q5.2.2.2.2.2.1,(q5.2.2.2.2.2.2.1,q5.2.2.2.2.2.2.2))))))))) false λ(q22:Bool)=>bif (!q9)then some Bool.false
                       else cK (xL ((q8.1,(q8.2.1,(q8.2.2.1,(q8.2.2.2.1,(q8.2.2.2.2.1,(q17.2.2.2.2.2.2.1,(q17.2.2.2.2.2.2.2.1,q17.2.2.2.2.2.2.2.2))))))),(1:Int))) (0:Int) λ(q23:Int)=>bif (decide (q18 < (0:Int)))then some Bool.false
                        else bif (q18 != q17.1)then some Bool.false
                        else some Bool.true
theorem e4 (m10:((List CZ)×Int)->Option Int)(qJ:((List DZ)×Int)->Option Int)(sX:(List CZ)->Option (List CZ))(rS:(List DZ)->Option (List DZ))(m12:((List CZ)×(List DZ)×Int)->Option (Int×Int×Int×Bool×Int×(List Bk)×(List Vp)×(List DZ)))(m15:((List CZ)×(List DZ)×Int)->Option (Int×Int×Int×Bool×Int×(List Bk)×(List Vp)×(List DZ)))(tZ:((Int×Int×Int×Bool×Int×(List Bk)×(List Vp)×(List DZ))×(Int×Int×Int×Bool×Int×(List Bk)×(List Vp)×(List DZ)))->Option Bool)(m17:((List CZ)×(List CZ))->Option Bool)(mQ:((List DZ)×(List DZ))->Option Bool)(uU:((List CZ)×Int)->Option (Int×(List CZ)))(kY:((List DZ)×Int)->Option (Int×(List DZ)))(uT:((Int×Int×Int×Bool×Int×(List Bk)×(List Vp)×(List DZ))×Int)->Option (Int×Int×Int×Int×Bool×Int×(List Bk)×(List Vp)×(List DZ)))(xL:((Int×Int×Int×Bool×Int×(List Bk)×(List Vp)×(List DZ))×Int)->Option Int)(L:Nat)(a0:(List CZ))(a1:(List DZ))(a2:Int):aDz prog (ev4 m10 qJ sX rS m12 m15 tZ m17 mQ uU kY uT xL) (aW L) f4 (a4.enc (a0,a1,a2))=(g4 m10 qJ sX rS m12 m15 tZ m17 mQ uU kY uT xL L a0 a1 a2).map n4:=by
 rw[i4];simp only[g4,aP,aN,aO,aC,aE]
theorem s4 (m10:((List CZ)×Int)->Option Int)(qJ:((List DZ)×Int)->Option Int)(sX:(List CZ)->Option (List CZ))(rS:(List DZ)->Option (List DZ))(m12:((List CZ)×(List DZ)×Int)->Option (Int×Int×Int×Bool×Int×(List Bk)×(List Vp)×(List DZ)))(m15:((List CZ)×(List DZ)×Int)->Option (Int×Int×Int×Bool×Int×(List Bk)×(List Vp)×(List DZ)))(tZ:((Int×Int×Int×Bool×Int×(List Bk)×(List Vp)×(List DZ))×(Int×Int×Int×Bool×Int×(List Bk)×(List Vp)×(List DZ)))->Option Bool)(m17:((List CZ)×(List CZ))->Option Bool)(mQ:((List DZ)×(List DZ))->Option Bool)(uU:((List CZ)×Int)->Option (Int×(List CZ)))(kY:((List DZ)×Int)->Option (Int×(List DZ)))(uT:((Int×Int×Int×Bool×Int×(List Bk)×(List Vp)×(List DZ))×Int)->Option (Int×Int×Int×Int×Bool×Int×(List Bk)×(List Vp)×(List DZ)))(xL:((Int×Int×Int×Bool×Int×(List Bk)×(List Vp)×(List DZ))×Int)->Option Int)(h10:Sat prog cxT 10 (c10 m10))(h11:Sat prog cxT 11 (c11 qJ))(h13:Sat prog cxT 13 (c13 sX))(h14:Sat prog cxT 14 (c14 rS))(h12:Sat prog cxT 12 (c12 m12))(h15:Sat prog cxT 15 (c15 m15))(h16:Sat prog cxT 16 (c16 tZ))(h17:Sat prog cxT 17 (c17 m17))(h18:Sat prog cxT 18 (c18 mQ))(h19:SatW prog cxT 19 (c19 uU).nres (c19 uU).n (c19 uU).F)(h20:SatW prog cxT 20 (c20 kY).nres (c20 kY).n (c20 kY).F)(h21:SatW prog cxT 21 (c21 uT).nres (c21 uT).n (c21 uT).F)(h22:Sat prog cxT 22 (c22 xL))(m:((List CZ)×(List DZ)×Int)->Option Bool)(hm:∀ (x:((List CZ)×(List DZ)×Int)) t,m x=some t->∃ L,g4 m10 qJ sX rS m12 m15 tZ m17 mQ uU kY uT xL L x.1 x.2.1 x.2.2=some t):Sat prog cxT 4 (c4 m):=
 aIE bQ bH (by rfl) (fn:=f4) rfl a4 n4 dd4 m (ev4 m10 qJ sX rS m12 m15 tZ m17 mQ uU kY uT xL) (aY h10 (aY h11 (aY h13 (aY h14 (aY h12 (aY h15 (aY h16 (aY h17 (aY h18 (aY h22 bG)))))))))) (gF h19 (gF h20 (gF h21 aZ))) (λL x=>g4 m10 qJ sX rS m12 m15 tZ m17 mQ uU kY uT xL L x.1 x.2.1 x.2.2) (λL x=>e4 m10 qJ sX rS m12 m15 tZ m17 mQ uU kY uT xL L x.1 x.2.1 x.2.2) hm hs4
end Go.Proofs.Tryz
