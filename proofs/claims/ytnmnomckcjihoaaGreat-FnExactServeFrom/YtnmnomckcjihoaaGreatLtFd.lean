/- A part of the proof of FnExactServeFrom: LtFd. -/
import Derived.Test.YtnmnomckcjihoaaGreatLtCon
set_option linter.unusedSimpArgs false
set_option linter.unusedVariables false
set_option maxHeartbeats 0
set_option maxRecDepth 100000
namespace Go.Proofs.Tryz
open Go.IntKind (wrap)
open Go Go.VM Go.RowKit
def aLB (zZ:((List Bk)×(List Bk))->Option Bool)(zY:((List Vp)×(List Vp))->Option Bool):Env cxT:={ Kc:=dL [(60,c60 zZ),(61,c61 zY)],Kw:=dK [],lv:=λi=>[],xv:=λi=>none }
theorem i32 (zZ:((List Bk)×(List Bk))->Option Bool)(zY:((List Vp)×(List Vp))->Option Bool)(L:Nat)(a0_0:Int)(a0_1:(List Bk))(a0_2:(List Vp))(a1_0:Int)(a1_1:(List Bk))(a1_2:(List Vp)):dP prog (aLB zZ zY) (aW L) f32 (a32.enc ((a0_0,a0_1,a0_2),(a1_0,a1_1,a1_2)))=
 bif (a0_0 != a1_0)then some (n32 Bool.false)
 else cK (zZ (a0_1,a1_1)) false λ(q1:Bool)=>bif (!q1)then some (n32 Bool.false)
  else cK (zY (a0_2,a1_2)) false λ(q2:Bool)=>bif (!q2)then some (n32 Bool.false)
   else some (n32 Bool.true):=by kernel_rfl
def g32 (zZ:((List Bk)×(List Bk))->Option Bool)(zY:((List Vp)×(List Vp))->Option Bool)(L:Nat)(a0_0:Int)(a0_1:(List Bk))(a0_2:(List Vp))(a1_0:Int)(a1_1:(List Bk))(a1_2:(List Vp)):Option Bool:=
 bif (a0_0 != a1_0)then some Bool.false
 else cK (zZ (a0_1,a1_1)) false λ(q1:Bool)=>bif (!q1)then some Bool.false
  else cK (zY (a0_2,a1_2)) false λ(q2:Bool)=>bif (!q2)then some Bool.false
   else some Bool.true
theorem e32 (zZ:((List Bk)×(List Bk))->Option Bool)(zY:((List Vp)×(List Vp))->Option Bool)(L:Nat)(a0_0:Int)(a0_1:(List Bk))(a0_2:(List Vp))(a1_0:Int)(a1_1:(List Bk))(a1_2:(List Vp)):dP prog (aLB zZ zY) (aW L) f32 (a32.enc ((a0_0,a0_1,a0_2),(a1_0,a1_1,a1_2)))=(g32 zZ zY L a0_0 a0_1 a0_2 a1_0 a1_1 a1_2).map n32:=by
 rw[i32];simp only[g32,aP,aN,aO,aC,aE]
theorem s32 (zZ:((List Bk)×(List Bk))->Option Bool)(zY:((List Vp)×(List Vp))->Option Bool)(h60:Sat prog cxT 60 (c60 zZ))(h61:Sat prog cxT 61 (c61 zY))(m:(CZ×CZ)->Option Bool)(hm:∀ (x:(CZ×CZ)) t,m x=some t->∃ L,g32 zZ zY L x.1.1 x.1.2.1 x.1.2.2 x.2.1 x.2.2.1 x.2.2.2=some t):Sat prog cxT 32 (c32 m):=
 cT bQ bH (by rfl) (fn:=f32) rfl a32 n32 aQ8 m (aLB zZ zY) (aY h60 (aY h61 bG)) aZ (λL x=>g32 zZ zY L x.1.1 x.1.2.1 x.1.2.2 x.2.1 x.2.2.1 x.2.2.2) (λL x=>e32 zZ zY L x.1.1 x.1.2.1 x.1.2.2 x.2.1 x.2.2.1 x.2.2.2) hm aUJ
def vL (m79:(Bk×Bk)->Option Bool):Env cxT:={ Kc:=dL [(79,c79 m79)],Kw:=dK [],lv:=λi=>if i=0 then[(0,[some 83]),(1,[some 83]),(5,[])]else[],xv:=λi=>if i=0 then some []else none }
def S60_0 (a0:(List Bk))(a1:(List Bk))(v0_5:Int):St cxT.ty:={ slots:=[(.inl (.inl (ls { own:=0,nm:=0,e:=83,o:=false,xs:=a0 }))),(.inl (.inl (ls { own:=0,nm:=0,e:=83,o:=false,xs:=a1 }))),aI,aI,aI,(.inl (.inl (lv (.int .i64 v0_5))))]++List.replicate 21 aI,D:=[],F:=[],ctr:=1 }
def X60_0 (a0:(List Bk))(a1:(List Bk)):St cxT.ty:={ slots:=[]++List.replicate 27 aI,D:=[],F:=[],ctr:=1 }
theorem i60 (m79:(Bk×Bk)->Option Bool)(L:Nat)(a0:(List Bk))(a1:(List Bk)):dP prog (vL m79) (aW L) f60 (a60.enc (a0,a1))=
 bif ((Nat.cast (List.length a0):Int) != (Nat.cast (List.length a1):Int))then some (n60 Bool.false)
 else bR prog (vL m79) L f60 0 [1,1,0,1,0,0] (cA (aT prog f60) (bM prog (vL m79) L f60 [1,1,0,1] (aT prog f60)).n (bM prog (vL m79) L f60 [1,1,0,1] (aT prog f60)).x) L (S60_0 a0 a1 (0:Int)):=by kernel_rfl
theorem aOO (m79:(Bk×Bk)->Option Bool)(L:Nat)(a0:(List Bk))(a1:(List Bk))(k:St cxT.ty->Option (V cxT.ty))(xk:Nat->St cxT.ty->Option (V cxT.ty))(g:St cxT.ty->Option (V cxT.ty))(v0_5:Int):dQ prog (vL m79) L f60 0 [1,1,0,1,0,0] (cA (aT prog f60) k xk) g (S60_0 a0 a1 v0_5)=
 bif (decide (v0_5 < (Nat.cast (List.length a0):Int)))then bif ((decide ((0:Int)<=v0_5))&&(decide (v0_5 < (Nat.cast (List.length a0):Int))))then bif ((decide ((0:Int)<=v0_5))&&(decide (v0_5 < (Nat.cast (List.length a1):Int))))then cK (m79 (((List.getD a0 (Int.toNat v0_5) ((0:Int),((0:Int),((0:Int),((0:Int),Bool.false))))).1,((List.getD a0 (Int.toNat v0_5) ((0:Int),((0:Int),((0:Int),((0:Int),Bool.false))))).2.1,((List.getD a0 (Int.toNat v0_5) ((0:Int),((0:Int),((0:Int),((0:Int),Bool.false))))).2.2.1,((List.getD a0 (Int.toNat v0_5) ((0:Int),((0:Int),((0:Int),((0:Int),Bool.false))))).2.2.2.1,(List.getD a0 (Int.toNat v0_5) ((0:Int),((0:Int),((0:Int),((0:Int),Bool.false))))).2.2.2.2)))),((List.getD a1 (Int.toNat v0_5) ((0:Int),((0:Int),((0:Int),((0:Int),Bool.false))))).1,((List.getD a1 (Int.toNat v0_5) ((0:Int),((0:Int),((0:Int),((0:Int),Bool.false))))).2.1,((List.getD a1 (Int.toNat v0_5) ((0:Int),((0:Int),((0:Int),((0:Int),Bool.false))))).2.2.1,((List.getD a1 (Int.toNat v0_5) ((0:Int),((0:Int),((0:Int),((0:Int),Bool.false))))).2.2.2.1,(List.getD a1 (Int.toNat v0_5) ((0:Int),((0:Int),((0:Int),((0:Int),Bool.false))))).2.2.2.2)))))) false λ(q4:Bool)=>bif (!q4)then some (n60 Bool.false)
     else g (S60_0 a0 a1 (wrap Go.IntKind.i64 (v0_5+(1:Int))))
   else none
  else none
 else k (X60_0 a0 a1):=by kernel_rfl
theorem aNc (m79:(Bk×Bk)->Option Bool)(L:Nat)(a0:(List Bk))(a1:(List Bk)):(bM prog (vL m79) L f60 [1,1,0,1] (aT prog f60)).n (X60_0 a0 a1)=
 some (n60 Bool.true):=by kernel_rfl
def xU (m79:(Bk×Bk)->Option Bool)(L:Nat)(a0:(List Bk))(a1:(List Bk)):Nat->Int->(Option Bool)->Option Bool
 | 0,_,_=>none
 | n+1,v0_5,k=>
  bif (decide (v0_5 < (Nat.cast (List.length a0):Int)))then bif ((decide ((0:Int)<=v0_5))&&(decide (v0_5 < (Nat.cast (List.length a0):Int))))then bif ((decide ((0:Int)<=v0_5))&&(decide (v0_5 < (Nat.cast (List.length a1):Int))))then cK (m79 (((List.getD a0 (Int.toNat v0_5) ((0:Int),((0:Int),((0:Int),((0:Int),Bool.false))))).1,((List.getD a0 (Int.toNat v0_5) ((0:Int),((0:Int),((0:Int),((0:Int),Bool.false))))).2.1,((List.getD a0 (Int.toNat v0_5) ((0:Int),((0:Int),((0:Int),((0:Int),Bool.false))))).2.2.1,((List.getD a0 (Int.toNat v0_5) ((0:Int),((0:Int),((0:Int),((0:Int),Bool.false))))).2.2.2.1,(List.getD a0 (Int.toNat v0_5) ((0:Int),((0:Int),((0:Int),((0:Int),Bool.false))))).2.2.2.2)))),((List.getD a1 (Int.toNat v0_5) ((0:Int),((0:Int),((0:Int),((0:Int),Bool.false))))).1,((List.getD a1 (Int.toNat v0_5) ((0:Int),((0:Int),((0:Int),((0:Int),Bool.false))))).2.1,((List.getD a1 (Int.toNat v0_5) ((0:Int),((0:Int),((0:Int),((0:Int),Bool.false))))).2.2.1,((List.getD a1 (Int.toNat v0_5) ((0:Int),((0:Int),((0:Int),((0:Int),Bool.false))))).2.2.2.1,(List.getD a1 (Int.toNat v0_5) ((0:Int),((0:Int),((0:Int),((0:Int),Bool.false))))).2.2.2.2)))))) false λ(q5:Bool)=>bif (!q5)then some Bool.false
      else xU m79 L a0 a1 n (wrap Go.IntKind.i64 (v0_5+(1:Int))) k
    else none
   else none
  else k
theorem aJx (m79:(Bk×Bk)->Option Bool)(L:Nat)(a0:(List Bk))(a1:(List Bk))(k:St cxT.ty->Option (V cxT.ty))(xk:Nat->St cxT.ty->Option (V cxT.ty))(k':Option Bool)(hk:k (X60_0 a0 a1)=(k').map n60):∀ (n:Nat) (v0_5:Int),bR prog (vL m79) L f60 0 [1,1,0,1,0,0] (cA (aT prog f60) k xk) n (S60_0 a0 a1 v0_5)=(xU m79 L a0 a1 n v0_5 k').map n60
 | 0,_=>rfl
 | n+1,v0_5=>by
  rw[bS,aOO];have ih:=aJx m79 L a0 a1 k xk k' hk n;simp only[xU,aP,aN,aO,aC,aE,ih,hk]
def g60 (m79:(Bk×Bk)->Option Bool)(L:Nat)(a0:(List Bk))(a1:(List Bk)):Option Bool:=
 bif ((Nat.cast (List.length a0):Int) != (Nat.cast (List.length a1):Int))then some Bool.false
 else xU m79 L a0 a1 L (0:Int) (some Bool.true)
theorem e60 (m79:(Bk×Bk)->Option Bool)(L:Nat)(a0:(List Bk))(a1:(List Bk)):dP prog (vL m79) (aW L) f60 (a60.enc (a0,a1))=(g60 m79 L a0 a1).map n60:=by
 let K'0:Option Bool:=(some Bool.true)
 have hin0:∀ (v0_5:Int),bR prog (vL m79) L f60 0 [1,1,0,1,0,0] (cA (aT prog f60) (bM prog (vL m79) L f60 [1,1,0,1] (aT prog f60)).n (bM prog (vL m79) L f60 [1,1,0,1] (aT prog f60)).x) L (S60_0 a0 a1 v0_5)=(xU m79 L a0 a1 L v0_5 K'0).map n60:=λv0_5=>aJx m79 L a0 a1 _ _ K'0 (by rw[aNc];simp only[K'0,aP,aN,aO,aC,aE]) L v0_5
 rw[i60];simp only[g60,aP,aN,aO,aC,aE,hin0,K'0]
theorem s60 (m79:(Bk×Bk)->Option Bool)(h79:Sat prog cxT 79 (c79 m79))(m:((List Bk)×(List Bk))->Option Bool)(hm:∀ (x:((List Bk)×(List Bk))) t,m x=some t->∃ L,g60 m79 L x.1 x.2=some t):Sat prog cxT 60 (c60 m):=
 cT bQ bH (by rfl) (fn:=f60) rfl a60 n60 aQI m (vL m79) (aY h79 bG) aZ (λL x=>g60 m79 L x.1 x.2) (λL x=>e60 m79 L x.1 x.2) hm aUj
def vK (mJ:(Vp×Vp)->Option Bool):Env cxT:={ Kc:=dL [(80,c80 mJ)],Kw:=dK [],lv:=λi=>if i=0 then[(0,[some 96]),(1,[some 96]),(5,[])]else[],xv:=λi=>if i=0 then some []else none }
def S61_0 (a0:(List Vp))(a1:(List Vp))(v0_5:Int):St cxT.ty:={ slots:=[(.inl (.inl (ls { own:=0,nm:=0,e:=96,o:=false,xs:=a0 }))),(.inl (.inl (ls { own:=0,nm:=0,e:=96,o:=false,xs:=a1 }))),aI,aI,aI,(.inl (.inl (lv (.int .i64 v0_5))))]++List.replicate 21 aI,D:=[],F:=[],ctr:=1 }
def X61_0 (a0:(List Vp))(a1:(List Vp)):St cxT.ty:={ slots:=[]++List.replicate 27 aI,D:=[],F:=[],ctr:=1 }
theorem i61 (mJ:(Vp×Vp)->Option Bool)(L:Nat)(a0:(List Vp))(a1:(List Vp)):dP prog (vK mJ) (aW L) f61 (a61.enc (a0,a1))=
 bif ((Nat.cast (List.length a0):Int) != (Nat.cast (List.length a1):Int))then some (n61 Bool.false)
 else bR prog (vK mJ) L f61 0 [1,1,0,1,0,0] (cA (aT prog f61) (bM prog (vK mJ) L f61 [1,1,0,1] (aT prog f61)).n (bM prog (vK mJ) L f61 [1,1,0,1] (aT prog f61)).x) L (S61_0 a0 a1 (0:Int)):=by kernel_rfl
theorem aON (mJ:(Vp×Vp)->Option Bool)(L:Nat)(a0:(List Vp))(a1:(List Vp))(k:St cxT.ty->Option (V cxT.ty))(xk:Nat->St cxT.ty->Option (V cxT.ty))(g:St cxT.ty->Option (V cxT.ty))(v0_5:Int):dQ prog (vK mJ) L f61 0 [1,1,0,1,0,0] (cA (aT prog f61) k xk) g (S61_0 a0 a1 v0_5)=
 bif (decide (v0_5 < (Nat.cast (List.length a0):Int)))then bif ((decide ((0:Int)<=v0_5))&&(decide (v0_5 < (Nat.cast (List.length a0):Int))))then bif ((decide ((0:Int)<=v0_5))&&(decide (v0_5 < (Nat.cast (List.length a1):Int))))then cK (mJ (((List.getD a0 (Int.toNat v0_5) ((0:Int),((0:Int),((0:Int),([]:List (Int)))))).1,((List.getD a0 (Int.toNat v0_5) ((0:Int),((0:Int),((0:Int),([]:List (Int)))))).2.1,((List.getD a0 (Int.toNat v0_5) ((0:Int),((0:Int),((0:Int),([]:List (Int)))))).2.2.1,(List.getD a0 (Int.toNat v0_5) ((0:Int),((0:Int),((0:Int),([]:List (Int)))))).2.2.2))),((List.getD a1 (Int.toNat v0_5) ((0:Int),((0:Int),((0:Int),([]:List (Int)))))).1,((List.getD a1 (Int.toNat v0_5) ((0:Int),((0:Int),((0:Int),([]:List (Int)))))).2.1,((List.getD a1 (Int.toNat v0_5) ((0:Int),((0:Int),((0:Int),([]:List (Int)))))).2.2.1,(List.getD a1 (Int.toNat v0_5) ((0:Int),((0:Int),((0:Int),([]:List (Int)))))).2.2.2))))) false λ(q4:Bool)=>bif (!q4)then some (n61 Bool.false)
     else g (S61_0 a0 a1 (wrap Go.IntKind.i64 (v0_5+(1:Int))))
   else none
  else none
 else k (X61_0 a0 a1):=by kernel_rfl
theorem aNb (mJ:(Vp×Vp)->Option Bool)(L:Nat)(a0:(List Vp))(a1:(List Vp)):(bM prog (vK mJ) L f61 [1,1,0,1] (aT prog f61)).n (X61_0 a0 a1)=
 some (n61 Bool.true):=by kernel_rfl
def xT (mJ:(Vp×Vp)->Option Bool)(L:Nat)(a0:(List Vp))(a1:(List Vp)):Nat->Int->(Option Bool)->Option Bool
 | 0,_,_=>none
 | n+1,v0_5,k=>
  bif (decide (v0_5 < (Nat.cast (List.length a0):Int)))then bif ((decide ((0:Int)<=v0_5))&&(decide (v0_5 < (Nat.cast (List.length a0):Int))))then bif ((decide ((0:Int)<=v0_5))&&(decide (v0_5 < (Nat.cast (List.length a1):Int))))then cK (mJ (((List.getD a0 (Int.toNat v0_5) ((0:Int),((0:Int),((0:Int),([]:List (Int)))))).1,((List.getD a0 (Int.toNat v0_5) ((0:Int),((0:Int),((0:Int),([]:List (Int)))))).2.1,((List.getD a0 (Int.toNat v0_5) ((0:Int),((0:Int),((0:Int),([]:List (Int)))))).2.2.1,(List.getD a0 (Int.toNat v0_5) ((0:Int),((0:Int),((0:Int),([]:List (Int)))))).2.2.2))),((List.getD a1 (Int.toNat v0_5) ((0:Int),((0:Int),((0:Int),([]:List (Int)))))).1,((List.getD a1 (Int.toNat v0_5) ((0:Int),((0:Int),((0:Int),([]:List (Int)))))).2.1,((List.getD a1 (Int.toNat v0_5) ((0:Int),((0:Int),((0:Int),([]:List (Int)))))).2.2.1,(List.getD a1 (Int.toNat v0_5) ((0:Int),((0:Int),((0:Int),([]:List (Int)))))).2.2.2))))) false λ(q5:Bool)=>bif (!q5)then some Bool.false
      else xT mJ L a0 a1 n (wrap Go.IntKind.i64 (v0_5+(1:Int))) k
    else none
   else none
  else k
theorem aJw (mJ:(Vp×Vp)->Option Bool)(L:Nat)(a0:(List Vp))(a1:(List Vp))(k:St cxT.ty->Option (V cxT.ty))(xk:Nat->St cxT.ty->Option (V cxT.ty))(k':Option Bool)(hk:k (X61_0 a0 a1)=(k').map n61):∀ (n:Nat) (v0_5:Int),bR prog (vK mJ) L f61 0 [1,1,0,1,0,0] (cA (aT prog f61) k xk) n (S61_0 a0 a1 v0_5)=(xT mJ L a0 a1 n v0_5 k').map n61
 | 0,_=>rfl
 | n+1,v0_5=>by
  rw[bS,aON];have ih:=aJw mJ L a0 a1 k xk k' hk n;simp only[xT,aP,aN,aO,aC,aE,ih,hk]
def g61 (mJ:(Vp×Vp)->Option Bool)(L:Nat)(a0:(List Vp))(a1:(List Vp)):Option Bool:=
 bif ((Nat.cast (List.length a0):Int) != (Nat.cast (List.length a1):Int))then some Bool.false
 else xT mJ L a0 a1 L (0:Int) (some Bool.true)
theorem e61 (mJ:(Vp×Vp)->Option Bool)(L:Nat)(a0:(List Vp))(a1:(List Vp)):dP prog (vK mJ) (aW L) f61 (a61.enc (a0,a1))=(g61 mJ L a0 a1).map n61:=by
 let K'0:Option Bool:=(some Bool.true)
 have hin0:∀ (v0_5:Int),bR prog (vK mJ) L f61 0 [1,1,0,1,0,0] (cA (aT prog f61) (bM prog (vK mJ) L f61 [1,1,0,1] (aT prog f61)).n (bM prog (vK mJ) L f61 [1,1,0,1] (aT prog f61)).x) L (S61_0 a0 a1 v0_5)=(xT mJ L a0 a1 L v0_5 K'0).map n61:=λv0_5=>aJw mJ L a0 a1 _ _ K'0 (by rw[aNb];simp only[K'0,aP,aN,aO,aC,aE]) L v0_5
 rw[i61];simp only[g61,aP,aN,aO,aC,aE,hin0,K'0]
theorem s61 (mJ:(Vp×Vp)->Option Bool)(h80:Sat prog cxT 80 (c80 mJ))(m:((List Vp)×(List Vp))->Option Bool)(hm:∀ (x:((List Vp)×(List Vp))) t,m x=some t->∃ L,g61 mJ L x.1 x.2=some t):Sat prog cxT 61 (c61 m):=
 cT bQ bH (by rfl) (fn:=f61) rfl a61 n61 aQH m (vK mJ) (aY h80 bG) aZ (λL x=>g61 mJ L x.1 x.2) (λL x=>e61 mJ L x.1 x.2) hm aUi
def oE:Env cxT:={ Kc:=dL [],Kw:=dK [],lv:=λi=>if i=0 then[(0,[some 2]),(1,[some 2]),(5,[])]else[],xv:=λi=>if i=0 then some []else none }
def S107_0 (a0:(List Int))(a1:(List Int))(v0_5:Int):St cxT.ty:={ slots:=[(.inl (.inl (ls { own:=0,nm:=0,e:=2,o:=false,xs:=a0 }))),(.inl (.inl (ls { own:=0,nm:=0,e:=2,o:=false,xs:=a1 }))),aI,aI,aI,(.inl (.inl (lv (.int .i64 v0_5))))]++List.replicate 20 aI,D:=[],F:=[],ctr:=1 }
def X107_0 (a0:(List Int))(a1:(List Int)):St cxT.ty:={ slots:=[]++List.replicate 26 aI,D:=[],F:=[],ctr:=1 }
theorem aTJ (L:Nat)(a0:(List Int))(a1:(List Int)):dP prog oE (aW L) f107 (aRK.enc (a0,a1))=
 bif ((Nat.cast (List.length a0):Int) != (Nat.cast (List.length a1):Int))then some (xH Bool.false)
 else bR prog oE L f107 0 [1,1,0,1,0,0] (cA (aT prog f107) (bM prog oE L f107 [1,1,0,1] (aT prog f107)).n (bM prog oE L f107 [1,1,0,1] (aT prog f107)).x) L (S107_0 a0 a1 (0:Int)):=by kernel_rfl
theorem aKv (L:Nat)(a0:(List Int))(a1:(List Int))(k:St cxT.ty->Option (V cxT.ty))(xk:Nat->St cxT.ty->Option (V cxT.ty))(g:St cxT.ty->Option (V cxT.ty))(v0_5:Int):dQ prog oE L f107 0 [1,1,0,1,0,0] (cA (aT prog f107) k xk) g (S107_0 a0 a1 v0_5)=
 bif (decide (v0_5 < (Nat.cast (List.length a0):Int)))then bif ((decide ((0:Int)<=v0_5))&&(decide (v0_5 < (Nat.cast (List.length a0):Int))))then bif ((decide ((0:Int)<=v0_5))&&(decide (v0_5 < (Nat.cast (List.length a1):Int))))then bif ((List.getD a0 (Int.toNat v0_5) (0:Int)) != (List.getD a1 (Int.toNat v0_5) (0:Int)))then some (xH Bool.false)
    else g (S107_0 a0 a1 (wrap Go.IntKind.i64 (v0_5+(1:Int))))
   else none
  else none
 else k (X107_0 a0 a1):=by kernel_rfl
theorem aKc (L:Nat)(a0:(List Int))(a1:(List Int)):(bM prog oE L f107 [1,1,0,1] (aT prog f107)).n (X107_0 a0 a1)=
 some (xH Bool.true):=by kernel_rfl
def rI (L:Nat)(a0:(List Int))(a1:(List Int)):Nat->Int->(Option Bool)->Option Bool
 | 0,_,_=>none
 | n+1,v0_5,k=>
  bif (decide (v0_5 < (Nat.cast (List.length a0):Int)))then bif ((decide ((0:Int)<=v0_5))&&(decide (v0_5 < (Nat.cast (List.length a0):Int))))then bif ((decide ((0:Int)<=v0_5))&&(decide (v0_5 < (Nat.cast (List.length a1):Int))))then bif ((List.getD a0 (Int.toNat v0_5) (0:Int)) != (List.getD a1 (Int.toNat v0_5) (0:Int)))then some Bool.false
     else rI L a0 a1 n (wrap Go.IntKind.i64 (v0_5+(1:Int))) k
    else none
   else none
  else k
theorem aGw (L:Nat)(a0:(List Int))(a1:(List Int))(k:St cxT.ty->Option (V cxT.ty))(xk:Nat->St cxT.ty->Option (V cxT.ty))(k':Option Bool)(hk:k (X107_0 a0 a1)=(k').map xH):∀ (n:Nat) (v0_5:Int),bR prog oE L f107 0 [1,1,0,1,0,0] (cA (aT prog f107) k xk) n (S107_0 a0 a1 v0_5)=(rI L a0 a1 n v0_5 k').map xH
 | 0,_=>rfl
 | n+1,v0_5=>by
  rw[bS,aKv];have ih:=aGw L a0 a1 k xk k' hk n;simp only[rI,aP,aN,aO,aC,aE,ih,hk]
def aFg (L:Nat)(a0:(List Int))(a1:(List Int)):Option Bool:=
 bif ((Nat.cast (List.length a0):Int) != (Nat.cast (List.length a1):Int))then some Bool.false
 else rI L a0 a1 L (0:Int) (some Bool.true)
theorem aVf (L:Nat)(a0:(List Int))(a1:(List Int)):dP prog oE (aW L) f107 (aRK.enc (a0,a1))=(aFg L a0 a1).map xH:=by
 let K'0:Option Bool:=(some Bool.true)
 have hin0:∀ (v0_5:Int),bR prog oE L f107 0 [1,1,0,1,0,0] (cA (aT prog f107) (bM prog oE L f107 [1,1,0,1] (aT prog f107)).n (bM prog oE L f107 [1,1,0,1] (aT prog f107)).x) L (S107_0 a0 a1 v0_5)=(rI L a0 a1 L v0_5 K'0).map xH:=λv0_5=>aGw L a0 a1 _ _ K'0 (by rw[aKc];simp only[K'0,aP,aN,aO,aC,aE]) L v0_5
 rw[aTJ];simp only[aFg,aP,aN,aO,aC,aE,hin0,K'0]
theorem aTp (m:((List Int)×(List Int))->Option Bool)(hm:∀ (x:((List Int)×(List Int))) t,m x=some t->∃ L,aFg L x.1 x.2=some t):Sat prog cxT 107 (aIu m):=
 cT bQ bH (by rfl) (fn:=f107) rfl aRK xH aJ3 m oE bG aZ (λL x=>aFg L x.1 x.2) (λL x=>aVf L x.1 x.2) hm aPI
def vU (nJ:(DZ×DZ)->Option Bool):Env cxT:={ Kc:=dL [(41,c41 nJ)],Kw:=dK [],lv:=λi=>if i=0 then[(0,[some 64]),(1,[some 64]),(5,[])]else[],xv:=λi=>if i=0 then some []else none }
def S18_0 (a0:(List DZ))(a1:(List DZ))(v0_5:Int):St cxT.ty:={ slots:=[(.inl (.inl (ls { own:=0,nm:=0,e:=64,o:=false,xs:=a0 }))),(.inl (.inl (ls { own:=0,nm:=0,e:=64,o:=false,xs:=a1 }))),aI,aI,aI,(.inl (.inl (lv (.int .i64 v0_5))))]++List.replicate 21 aI,D:=[],F:=[],ctr:=1 }
def X18_0 (a0:(List DZ))(a1:(List DZ)):St cxT.ty:={ slots:=[]++List.replicate 27 aI,D:=[],F:=[],ctr:=1 }
theorem i18 (nJ:(DZ×DZ)->Option Bool)(L:Nat)(a0:(List DZ))(a1:(List DZ)):dP prog (vU nJ) (aW L) f18 (a18.enc (a0,a1))=
 bif ((Nat.cast (List.length a0):Int) != (Nat.cast (List.length a1):Int))then some (n18 Bool.false)
 else bR prog (vU nJ) L f18 0 [1,1,0,1,0,0] (cA (aT prog f18) (bM prog (vU nJ) L f18 [1,1,0,1] (aT prog f18)).n (bM prog (vU nJ) L f18 [1,1,0,1] (aT prog f18)).x) L (S18_0 a0 a1 (0:Int)):=by kernel_rfl
theorem aO7 (nJ:(DZ×DZ)->Option Bool)(L:Nat)(a0:(List DZ))(a1:(List DZ))(k:St cxT.ty->Option (V cxT.ty))(xk:Nat->St cxT.ty->Option (V cxT.ty))(g:St cxT.ty->Option (V cxT.ty))(v0_5:Int):dQ prog (vU nJ) L f18 0 [1,1,0,1,0,0] (cA (aT prog f18) k xk) g (S18_0 a0 a1 v0_5)=
 bif (decide (v0_5 < (Nat.cast (List.length a0):Int)))then bif ((decide ((0:Int)<=v0_5))&&(decide (v0_5 < (Nat.cast (List.length a0):Int))))then bif ((decide ((0:Int)<=v0_5))&&(decide (v0_5 < (Nat.cast (List.length a1):Int))))then cK (nJ (((List.getD a0 (Int.toNat v0_5) ((0:Int),((0:Int),((0:Int),((0:Int),((0:Int),(0:Int))))))).1,((List.getD a0 (Int.toNat v0_5) ((0:Int),((0:Int),((0:Int),((0:Int),((0:Int),(0:Int))))))).2.1,((List.getD a0 (Int.toNat v0_5) ((0:Int),((0:Int),((0:Int),((0:Int),((0:Int),(0:Int))))))).2.2.1,((List.getD a0 (Int.toNat v0_5) ((0:Int),((0:Int),((0:Int),((0:Int),((0:Int),(0:Int))))))).2.2.2.1,((List.getD a0 (Int.toNat v0_5) ((0:Int),((0:Int),((0:Int),((0:Int),((0:Int),(0:Int))))))).2.2.2.2.1,(List.getD a0 (Int.toNat v0_5) ((0:Int),((0:Int),((0:Int),((0:Int),((0:Int),(0:Int))))))).2.2.2.2.2))))),((List.getD a1 (Int.toNat v0_5) ((0:Int),((0:Int),((0:Int),((0:Int),((0:Int),(0:Int))))))).1,((List.getD a1 (Int.toNat v0_5) ((0:Int),((0:Int),((0:Int),((0:Int),((0:Int),(0:Int))))))).2.1,((List.getD a1 (Int.toNat v0_5) ((0:Int),((0:Int),((0:Int),((0:Int),((0:Int),(0:Int))))))).2.2.1,((List.getD a1 (Int.toNat v0_5) ((0:Int),((0:Int),((0:Int),((0:Int),((0:Int),(0:Int))))))).2.2.2.1,((List.getD a1 (Int.toNat v0_5) ((0:Int),((0:Int),((0:Int),((0:Int),((0:Int),(0:Int))))))).2.2.2.2.1,(List.getD a1 (Int.toNat v0_5) ((0:Int),((0:Int),((0:Int),((0:Int),((0:Int),(0:Int))))))).2.2.2.2.2))))))) false λ(q4:Bool)=>bif (!q4)then some (n18 Bool.false)
     else g (S18_0 a0 a1 (wrap Go.IntKind.i64 (v0_5+(1:Int))))
   else none
  else none
 else k (X18_0 a0 a1):=by kernel_rfl
theorem aNv (nJ:(DZ×DZ)->Option Bool)(L:Nat)(a0:(List DZ))(a1:(List DZ)):(bM prog (vU nJ) L f18 [1,1,0,1] (aT prog f18)).n (X18_0 a0 a1)=
 some (n18 Bool.true):=by kernel_rfl
def yC (nJ:(DZ×DZ)->Option Bool)(L:Nat)(a0:(List DZ))(a1:(List DZ)):Nat->Int->(Option Bool)->Option Bool
 | 0,_,_=>none
 | n+1,v0_5,k=>
  bif (decide (v0_5 < (Nat.cast (List.length a0):Int)))then bif ((decide ((0:Int)<=v0_5))&&(decide (v0_5 < (Nat.cast (List.length a0):Int))))then bif ((decide ((0:Int)<=v0_5))&&(decide (v0_5 < (Nat.cast (List.length a1):Int))))then cK (nJ (((List.getD a0 (Int.toNat v0_5) ((0:Int),((0:Int),((0:Int),((0:Int),((0:Int),(0:Int))))))).1,((List.getD a0 (Int.toNat v0_5) ((0:Int),((0:Int),((0:Int),((0:Int),((0:Int),(0:Int))))))).2.1,((List.getD a0 (Int.toNat v0_5) ((0:Int),((0:Int),((0:Int),((0:Int),((0:Int),(0:Int))))))).2.2.1,((List.getD a0 (Int.toNat v0_5) ((0:Int),((0:Int),((0:Int),((0:Int),((0:Int),(0:Int))))))).2.2.2.1,((List.getD a0 (Int.toNat v0_5) ((0:Int),((0:Int),((0:Int),((0:Int),((0:Int),(0:Int))))))).2.2.2.2.1,(List.getD a0 (Int.toNat v0_5) ((0:Int),((0:Int),((0:Int),((0:Int),((0:Int),(0:Int))))))).2.2.2.2.2))))),((List.getD a1 (Int.toNat v0_5) ((0:Int),((0:Int),((0:Int),((0:Int),((0:Int),(0:Int))))))).1,((List.getD a1 (Int.toNat v0_5) ((0:Int),((0:Int),((0:Int),((0:Int),((0:Int),(0:Int))))))).2.1,((List.getD a1 (Int.toNat v0_5) ((0:Int),((0:Int),((0:Int),((0:Int),((0:Int),(0:Int))))))).2.2.1,((List.getD a1 (Int.toNat v0_5) ((0:Int),((0:Int),((0:Int),((0:Int),((0:Int),(0:Int))))))).2.2.2.1,((List.getD a1 (Int.toNat v0_5) ((0:Int),((0:Int),((0:Int),((0:Int),((0:Int),(0:Int))))))).2.2.2.2.1,(List.getD a1 (Int.toNat v0_5) ((0:Int),((0:Int),((0:Int),((0:Int),((0:Int),(0:Int))))))).2.2.2.2.2))))))) false λ(q5:Bool)=>bif (!q5)then some Bool.false
      else yC nJ L a0 a1 n (wrap Go.IntKind.i64 (v0_5+(1:Int))) k
    else none
   else none
  else k
theorem aJQ (nJ:(DZ×DZ)->Option Bool)(L:Nat)(a0:(List DZ))(a1:(List DZ))(k:St cxT.ty->Option (V cxT.ty))(xk:Nat->St cxT.ty->Option (V cxT.ty))(k':Option Bool)(hk:k (X18_0 a0 a1)=(k').map n18):∀ (n:Nat) (v0_5:Int),bR prog (vU nJ) L f18 0 [1,1,0,1,0,0] (cA (aT prog f18) k xk) n (S18_0 a0 a1 v0_5)=(yC nJ L a0 a1 n v0_5 k').map n18
 | 0,_=>rfl
 | n+1,v0_5=>by
  rw[bS,aO7];have ih:=aJQ nJ L a0 a1 k xk k' hk n;simp only[yC,aP,aN,aO,aC,aE,ih,hk]
def g18 (nJ:(DZ×DZ)->Option Bool)(L:Nat)(a0:(List DZ))(a1:(List DZ)):Option Bool:=
 bif ((Nat.cast (List.length a0):Int) != (Nat.cast (List.length a1):Int))then some Bool.false
 else yC nJ L a0 a1 L (0:Int) (some Bool.true)
theorem e18 (nJ:(DZ×DZ)->Option Bool)(L:Nat)(a0:(List DZ))(a1:(List DZ)):dP prog (vU nJ) (aW L) f18 (a18.enc (a0,a1))=(g18 nJ L a0 a1).map n18:=by
 let K'0:Option Bool:=(some Bool.true)
 have hin0:∀ (v0_5:Int),bR prog (vU nJ) L f18 0 [1,1,0,1,0,0] (cA (aT prog f18) (bM prog (vU nJ) L f18 [1,1,0,1] (aT prog f18)).n (bM prog (vU nJ) L f18 [1,1,0,1] (aT prog f18)).x) L (S18_0 a0 a1 v0_5)=(yC nJ L a0 a1 L v0_5 K'0).map n18:=λv0_5=>aJQ nJ L a0 a1 _ _ K'0 (by rw[aNv];simp only[K'0,aP,aN,aO,aC,aE]) L v0_5
 rw[i18];simp only[g18,aP,aN,aO,aC,aE,hin0,K'0]
theorem s18 (nJ:(DZ×DZ)->Option Bool)(h41:Sat prog cxT 41 (c41 nJ))(m:((List DZ)×(List DZ))->Option Bool)(hm:∀ (x:((List DZ)×(List DZ))) t,m x=some t->∃ L,g18 nJ L x.1 x.2=some t):Sat prog cxT 18 (c18 m):=
 cT bQ bH (by rfl) (fn:=f18) rfl a18 n18 aRi m (vU nJ) (aY h41 bG) aZ (λL x=>g18 nJ L x.1 x.2) (λL x=>e18 nJ L x.1 x.2) hm aUT
def ev9 (iX:(CZ×CZ)->Option Bool)(mQ:((List DZ)×(List DZ))->Option Bool):Env cxT:={ Kc:=dL [(32,c32 iX),(18,c18 mQ)],Kw:=dK [],lv:=λi=>[],xv:=λi=>none }
theorem i9 (iX:(CZ×CZ)->Option Bool)(mQ:((List DZ)×(List DZ))->Option Bool)(L:Nat)(a0_0:Int)(a0_1:Int)(a0_2:Bool)(a0_3:Int)(a0_4:(List Bk))(a0_5:(List Vp))(a0_6:(List DZ))(a1_0:Int)(a1_1:Int)(a1_2:Bool)(a1_3:Int)(a1_4:(List Bk))(a1_5:(List Vp))(a1_6:(List DZ)):dP prog (ev9 iX mQ) (aW L) f9 (a9.enc ((a0_0,a0_1,a0_2,a0_3,a0_4,a0_5,a0_6),(a1_0,a1_1,a1_2,a1_3,a1_4,a1_5,a1_6)))=
 bif (a0_0 != a1_0)then some (n9 Bool.false)
 else bif (a0_1 != a1_1)then some (n9 Bool.false)
 else bif (!(a0_2 == a1_2))then some (n9 Bool.false)
 else cK (iX ((a0_3,(a0_4,a0_5)),(a1_3,(a1_4,a1_5)))) false λ(q1:Bool)=>bif (!q1)then some (n9 Bool.false)
  else cK (mQ (a0_6,a1_6)) false λ(q2:Bool)=>bif (!q2)then some (n9 Bool.false)
   else some (n9 Bool.true):=by kernel_rfl
def g9 (iX:(CZ×CZ)->Option Bool)(mQ:((List DZ)×(List DZ))->Option Bool)(L:Nat)(a0_0:Int)(a0_1:Int)(a0_2:Bool)(a0_3:Int)(a0_4:(List Bk))(a0_5:(List Vp))(a0_6:(List DZ))(a1_0:Int)(a1_1:Int)(a1_2:Bool)(a1_3:Int)(a1_4:(List Bk))(a1_5:(List Vp))(a1_6:(List DZ)):Option Bool:=
 bif (a0_0 != a1_0)then some Bool.false
 else bif (a0_1 != a1_1)then some Bool.false
 else bif (!(a0_2 == a1_2))then some Bool.false
 else cK (iX ((a0_3,(a0_4,a0_5)),(a1_3,(a1_4,a1_5)))) false λ(q1:Bool)=>bif (!q1)then some Bool.false
  else cK (mQ (a0_6,a1_6)) false λ(q2:Bool)=>bif (!q2)then some Bool.false
   else some Bool.true
theorem e9 (iX:(CZ×CZ)->Option Bool)(mQ:((List DZ)×(List DZ))->Option Bool)(L:Nat)(a0_0:Int)(a0_1:Int)(a0_2:Bool)(a0_3:Int)(a0_4:(List Bk))(a0_5:(List Vp))(a0_6:(List DZ))(a1_0:Int)(a1_1:Int)(a1_2:Bool)(a1_3:Int)(a1_4:(List Bk))(a1_5:(List Vp))(a1_6:(List DZ)):dP prog (ev9 iX mQ) (aW L) f9 (a9.enc ((a0_0,a0_1,a0_2,a0_3,a0_4,a0_5,a0_6),(a1_0,a1_1,a1_2,a1_3,a1_4,a1_5,a1_6)))=(g9 iX mQ L a0_0 a0_1 a0_2 a0_3 a0_4 a0_5 a0_6 a1_0 a1_1 a1_2 a1_3 a1_4 a1_5 a1_6).map n9:=by
 rw[i9];simp only[g9,aP,aN,aO,aC,aE]
theorem s9 (iX:(CZ×CZ)->Option Bool)(mQ:((List DZ)×(List DZ))->Option Bool)(h32:Sat prog cxT 32 (c32 iX))(h18:Sat prog cxT 18 (c18 mQ))(m:((Int×Int×Bool×Int×(List Bk)×(List Vp)×(List DZ))×(Int×Int×Bool×Int×(List Bk)×(List Vp)×(List DZ)))->Option Bool)(hm:∀ (x:((Int×Int×Bool×Int×(List Bk)×(List Vp)×(List DZ))×(Int×Int×Bool×Int×(List Bk)×(List Vp)×(List DZ)))) t,m x=some t->∃ L,g9 iX mQ L x.1.1 x.1.2.1 x.1.2.2.1 x.1.2.2.2.1 x.1.2.2.2.2.1 x.1.2.2.2.2.2.1 x.1.2.2.2.2.2.2 x.2.1 x.2.2.1 x.2.2.2.1 x.2.2.2.2.1 x.2.2.2.2.2.1 x.2.2.2.2.2.2.1 x.2.2.2.2.2.2.2=some t):Sat prog cxT 9 (c9 m):=
 cT bQ bH (by rfl) (fn:=f9) rfl a9 n9 dd9 m (ev9 iX mQ) (aY h32 (aY h18 bG)) aZ (λL x=>g9 iX mQ L x.1.1 x.1.2.1 x.1.2.2.1 x.1.2.2.2.1 x.1.2.2.2.2.1 x.1.2.2.2.2.2.1 x.1.2.2.2.2.2.2 x.2.1 x.2.2.1 x.2.2.2.1 x.2.2.2.2.1 x.2.2.2.2.2.1 x.2.2.2.2.2.2.1 x.2.2.2.2.2.2.2) (λL x=>e9 iX mQ L x.1.1 x.1.2.1 x.1.2.2.1 x.1.2.2.2.1 x.1.2.2.2.2.1 x.1.2.2.2.2.2.1 x.1.2.2.2.2.2.2 x.2.1 x.2.2.1 x.2.2.2.1 x.2.2.2.2.1 x.2.2.2.2.2.1 x.2.2.2.2.2.2.1 x.2.2.2.2.2.2.2) hm hs9
def aLL:Env cxT:={ Kc:=dL [],Kw:=dK [],lv:=λi=>[],xv:=λi=>none }
theorem i11 (L:Nat)(a0:(List DZ))(a1:Int):dP prog aLL (aW L) f11 (a11.enc (a0,a1))=
 bif (decide ((wrap Go.IntKind.i64 (a1-(Nat.cast (List.length a0):Int))) < (0:Int)))then some (n11 (-(1:Int)))
 else some (n11 (wrap Go.IntKind.i64 (a1-(Nat.cast (List.length a0):Int)))):=by kernel_rfl
def g11 (L:Nat)(a0:(List DZ))(a1:Int):Option Int:=
 bif (decide ((wrap Go.IntKind.i64 (a1-(Nat.cast (List.length a0):Int))) < (0:Int)))then some (-(1:Int))
 else some (wrap Go.IntKind.i64 (a1-(Nat.cast (List.length a0):Int)))
theorem e11 (L:Nat)(a0:(List DZ))(a1:Int):dP prog aLL (aW L) f11 (a11.enc (a0,a1))=(g11 L a0 a1).map n11:=by
 rw[i11];simp only[g11,aP,aN,aO,aC,aE]
theorem s11 (m:((List DZ)×Int)->Option Int)(hm:∀ (x:((List DZ)×Int)) t,m x=some t->∃ L,g11 L x.1 x.2=some t):Sat prog cxT 11 (c11 m):=
 cT bQ bH (by rfl) (fn:=f11) rfl a11 n11 aRp m aLL bG aZ (λL x=>g11 L x.1 x.2) (λL x=>e11 L x.1 x.2) hm aU0
def ev3 (m5:((Int×Int×Bool×Int×(List Bk)×(List Vp)×(List DZ))×Int)->Option Int)(m7:(Int×Int×Bool×Int×(List Bk)×(List Vp)×(List DZ))->Option (Int×Int×Bool×Int×(List Bk)×(List Vp)×(List DZ)))(m6:(Int×Int×Bool×Int×(List Bk)×(List Vp)×(List DZ))->Option Int)(m8:(Int×Int×Bool×Int×(List Bk)×(List Vp)×(List DZ))->Option Int)(m9:((Int×Int×Bool×Int×(List Bk)×(List Vp)×(List DZ))×(Int×Int×Bool×Int×(List Bk)×(List Vp)×(List DZ)))->Option Bool):Env cxT:={ Kc:=dL [(5,c5 m5),(7,c7 m7),(6,c6 m6),(8,c8 m8),(9,c9 m9)],Kw:=dK [],lv:=λi=>[],xv:=λi=>none }
theorem i3 (m5:((Int×Int×Bool×Int×(List Bk)×(List Vp)×(List DZ))×Int)->Option Int)(m7:(Int×Int×Bool×Int×(List Bk)×(List Vp)×(List DZ))->Option (Int×Int×Bool×Int×(List Bk)×(List Vp)×(List DZ)))(m6:(Int×Int×Bool×Int×(List Bk)×(List Vp)×(List DZ))->Option Int)(m8:(Int×Int×Bool×Int×(List Bk)×(List Vp)×(List DZ))->Option Int)(m9:((Int×Int×Bool×Int×(List Bk)×(List Vp)×(List DZ))×(Int×Int×Bool×Int×(List Bk)×(List Vp)×(List DZ)))->Option Bool)(L:Nat)(a0_0:Int)(a0_1:Int)(a0_2:Bool)(a0_3:Int)(a0_4:(List Bk))(a0_5:(List Vp))(a0_6:(List DZ)):aDz prog (ev3 m5 m7 m6 m8 m9) (aW L) f3 (a3.enc (a0_0,a0_1,a0_2,a0_3,a0_4,a0_5,a0_6))=
 cK (m5 ((a0_0,(a0_1,(a0_2,(a0_3,(a0_4,(a0_5,a0_6)))))),(1048576:Int))) (0:Int) λ(q1:Int)=>bif (decide (q1 < (0:Int)))then some (n3 Bool.true)
  else cK (m7 (a0_0,(a0_1,(a0_2,(a0_3,(a0_4,(a0_5,a0_6))))))) ((0:Int),(0:Int),false,(0:Int),[],[],[]) λ(q2:(Int×Int×Bool×Int×(List Bk)×(List Vp)×(List DZ)))=>cK (m6 (q2.1,(q2.2.1,(q2.2.2.1,(q2.2.2.2.1,(q2.2.2.2.2.1,(q2.2.2.2.2.2.1,q2.2.2.2.2.2.2))))))) (0:Int) λ(q3:Int)=>cK (m7 (a0_0,(a0_1,(a0_2,(a0_3,(a0_4,(a0_5,a0_6))))))) ((0:Int),(0:Int),false,(0:Int),[],[],[]) λ(q4:(Int×Int×Bool×Int×(List Bk)×(List Vp)×(List DZ)))=>cK (m8 (q2.1,(q2.2.1,(q2.2.2.1,(q2.2.2.2.1,(q2.2.2.2.2.1,(q2.2.2.2.2.2.1,q2.2.2.2.2.2.2))))))) (0:Int) λ(q5:Int)=>bif (q5 != q3)then some (n3 Bool.false)
      else cK (m7 (a0_0,(a0_1,(a0_2,(a0_3,(a0_4,(a0_5,a0_6))))))) ((0:Int),(0:Int),false,(0:Int),[],[],[]) λ(q6:(Int×Int×Bool×Int×(List Bk)×(List Vp)×(List DZ)))=>cK (m9 ((q2.1,(q2.2.1,(q2.2.2.1,(q2.2.2.2.1,(q2.2.2.2.2.1,(q2.2.2.2.2.2.1,q2.2.2.2.2.2.2)))))),(q2.1,(q2.2.1,(q2.2.2.1,(q2.2.2.2.1,(q2.2.2.2.2.1,(q2.2.2.2.2.2.1,q2.2.2.2.2.2.2)))))))) false λ(q7:Bool)=>bif (!q7)then some (n3 Bool.false)
        else some (n3 Bool.true):=by kernel_rfl
def g3 (m5:((Int×Int×Bool×Int×(List Bk)×(List Vp)×(List DZ))×Int)->Option Int)(m7:(Int×Int×Bool×Int×(List Bk)×(List Vp)×(List DZ))->Option (Int×Int×Bool×Int×(List Bk)×(List Vp)×(List DZ)))(m6:(Int×Int×Bool×Int×(List Bk)×(List Vp)×(List DZ))->Option Int)(m8:(Int×Int×Bool×Int×(List Bk)×(List Vp)×(List DZ))->Option Int)(m9:((Int×Int×Bool×Int×(List Bk)×(List Vp)×(List DZ))×(Int×Int×Bool×Int×(List Bk)×(List Vp)×(List DZ)))->Option Bool)(L:Nat)(a0_0:Int)(a0_1:Int)(a0_2:Bool)(a0_3:Int)(a0_4:(List Bk))(a0_5:(List Vp))(a0_6:(List DZ)):Option Bool:=
 cK (m5 ((a0_0,(a0_1,(a0_2,(a0_3,(a0_4,(a0_5,a0_6)))))),(1048576:Int))) (0:Int) λ(q1:Int)=>bif (decide (q1 < (0:Int)))then some Bool.true
  else cK (m7 (a0_0,(a0_1,(a0_2,(a0_3,(a0_4,(a0_5,a0_6))))))) ((0:Int),(0:Int),false,(0:Int),[],[],[]) λ(q2:(Int×Int×Bool×Int×(List Bk)×(List Vp)×(List DZ)))=>cK (m6 (q2.1,(q2.2.1,(q2.2.2.1,(q2.2.2.2.1,(q2.2.2.2.2.1,(q2.2.2.2.2.2.1,q2.2.2.2.2.2.2))))))) (0:Int) λ(q3:Int)=>cK (m7 (a0_0,(a0_1,(a0_2,(a0_3,(a0_4,(a0_5,a0_6))))))) ((0:Int),(0:Int),false,(0:Int),[],[],[]) λ(q4:(Int×Int×Bool×Int×(List Bk)×(List Vp)×(List DZ)))=>cK (m8 (q2.1,(q2.2.1,(q2.2.2.1,(q2.2.2.2.1,(q2.2.2.2.2.1,(q2.2.2.2.2.2.1,q2.2.2.2.2.2.2))))))) (0:Int) λ(q5:Int)=>bif (q5 != q3)then some Bool.false
      else cK (m7 (a0_0,(a0_1,(a0_2,(a0_3,(a0_4,(a0_5,a0_6))))))) ((0:Int),(0:Int),false,(0:Int),[],[],[]) λ(q6:(Int×Int×Bool×Int×(List Bk)×(List Vp)×(List DZ)))=>cK (m9 ((q2.1,(q2.2.1,(q2.2.2.1,(q2.2.2.2.1,(q2.2.2.2.2.1,(q2.2.2.2.2.2.1,q2.2.2.2.2.2.2)))))),(q2.1,(q2.2.1,(q2.2.2.1,(q2.2.2.2.1,(q2.2.2.2.2.1,(q2.2.2.2.2.2.1,q2.2.2.2.2.2.2)))))))) false λ(q7:Bool)=>bif (!q7)then some Bool.false
        else some Bool.true
theorem e3 (m5:((Int×Int×Bool×Int×(List Bk)×(List Vp)×(List DZ))×Int)->Option Int)(m7:(Int×Int×Bool×Int×(List Bk)×(List Vp)×(List DZ))->Option (Int×Int×Bool×Int×(List Bk)×(List Vp)×(List DZ)))(m6:(Int×Int×Bool×Int×(List Bk)×(List Vp)×(List DZ))->Option Int)(m8:(Int×Int×Bool×Int×(List Bk)×(List Vp)×(List DZ))->Option Int)(m9:((Int×Int×Bool×Int×(List Bk)×(List Vp)×(List DZ))×(Int×Int×Bool×Int×(List Bk)×(List Vp)×(List DZ)))->Option Bool)(L:Nat)(a0_0:Int)(a0_1:Int)(a0_2:Bool)(a0_3:Int)(a0_4:(List Bk))(a0_5:(List Vp))(a0_6:(List DZ)):aDz prog (ev3 m5 m7 m6 m8 m9) (aW L) f3 (a3.enc (a0_0,a0_1,a0_2,a0_3,a0_4,a0_5,a0_6))=(g3 m5 m7 m6 m8 m9 L a0_0 a0_1 a0_2 a0_3 a0_4 a0_5 a0_6).map n3:=by
 rw[i3];simp only[g3,aP,aN,aO,aC,aE]
theorem s3 (m5:((Int×Int×Bool×Int×(List Bk)×(List Vp)×(List DZ))×Int)->Option Int)(m7:(Int×Int×Bool×Int×(List Bk)×(List Vp)×(List DZ))->Option (Int×Int×Bool×Int×(List Bk)×(List Vp)×(List DZ)))(m6:(Int×Int×Bool×Int×(List Bk)×(List Vp)×(List DZ))->Option Int)(m8:(Int×Int×Bool×Int×(List Bk)×(List Vp)×(List DZ))->Option Int)(m9:((Int×Int×Bool×Int×(List Bk)×(List Vp)×(List DZ))×(Int×Int×Bool×Int×(List Bk)×(List Vp)×(List DZ)))->Option Bool)(h5:Sat prog cxT 5 (c5 m5))(h7:Sat prog cxT 7 (c7 m7))(h6:Sat prog cxT 6 (c6 m6))(h8:Sat prog cxT 8 (c8 m8))(h9:Sat prog cxT 9 (c9 m9))(m:(Int×Int×Bool×Int×(List Bk)×(List Vp)×(List DZ))->Option Bool)(hm:∀ (x:(Int×Int×Bool×Int×(List Bk)×(List Vp)×(List DZ))) t,m x=some t->∃ L,g3 m5 m7 m6 m8 m9 L x.1 x.2.1 x.2.2.1 x.2.2.2.1 x.2.2.2.2.1 x.2.2.2.2.2.1 x.2.2.2.2.2.2=some t):Sat prog cxT 3 (c3 m):=
 aIE bQ bH (by rfl) (fn:=f3) rfl a3 n3 dd3 m (ev3 m5 m7 m6 m8 m9) (aY h5 (aY h7 (aY h6 (aY h8 (aY h9 bG))))) aZ (λL x=>g3 m5 m7 m6 m8 m9 L x.1 x.2.1 x.2.2.1 x.2.2.2.1 x.2.2.2.2.1 x.2.2.2.2.2.1 x.2.2.2.2.2.2) (λL x=>e3 m5 m7 m6 m8 m9 L x.1 x.2.1 x.2.2.1 x.2.2.2.1 x.2.2.2.2.1 x.2.2.2.2.2.1 x.2.2.2.2.2.2) hm hs3
end Go.Proofs.Tryz
