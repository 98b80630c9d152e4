/- A part of the proof of FnExactApplyCmd: LpFc, LpFd. -/
import Derived.Test.YtfncedbejffggaaGreatLpBase
set_option linter.unusedSimpArgs false
set_option linter.unusedVariables false
set_option maxHeartbeats 0
set_option maxRecDepth 100000
namespace Go.Proofs.Tryz
open Go.IntKind (wrap)
open Go Go.VM Go.RowKit
def xU (m100:(Bk×Int)->Option Int):Env cxT:={ Kc:=eF [(100,aKz m100)],Kw:=eE [],lv:=λi=>if i=0 then[(0,[some 68]),(1,[]),(2,[]),(8,[]),(9,[]),(10,[])]else[],xv:=λi=>if i=0 then some [(0,[some 68]),(1,[]),(2,[]),(8,[]),(9,[])]else none }
def S99_0 (a0:LB)(a1:Int)(a2:Unit)(x0 x1:Int):St cxT.ty:={ slots:=[(.inl (.inl (ls { own:=0,nm:=0,e:=68,o:=false,xs:=a0 }))),(.inl (.inl (lv (.int .i64 a1)))),(.inl (.inl (lv (.func (.func (100:Nat)) #[] #[])))),aN,aN,aN,aN,aN,(.inl (.inl (lv (.int .i64 (a0.length:Int))))),(.inl (.inl (lv (.int .i64 x0)))),(.inl (.inl (lv (.int .i64 x1))))]++List.replicate 38 aN,D:=[],F:=[],ctr:=1 }
def X99_0 (a0:LB)(a1:Int)(a2:Unit)(x0:Int):St cxT.ty:={ slots:=[(.inl (.inl (ls { own:=0,nm:=0,e:=68,o:=false,xs:=a0 }))),(.inl (.inl (lv (.int .i64 a1)))),(.inl (.inl (lv (.func (.func (100:Nat)) #[] #[])))),aN,aN,aN,aN,aN,(.inl (.inl (lv (.int .i64 (a0.length:Int))))),(.inl (.inl (lv (.int .i64 x0))))]++List.replicate 39 aN,D:=[],F:=[],ctr:=1 }
theorem i99 (m100:(Bk×Int)->Option Int)(L:Nat)(a0:LB)(a1:Int)(a2:Unit):eT prog (xU m100) (bH L) f99 (a99.enc (a0,a1,a2))=
 cE prog (xU m100) L f99 0 [1,1,1,0,0,0] (cW (bI prog f99) (cA prog (xU m100) L f99 [1,1,1,0] (bI prog f99)).n (cA prog (xU m100) L f99 [1,1,1,0] (bI prog f99)).x) L (S99_0 a0 a1 a2 0 (a0.length:Int)):=by kernel_rfl
theorem aQM (m100:(Bk×Int)->Option Int)(L:Nat)(a0:LB)(a1:Int)(a2:Unit)(k:KT)(xk:Nat->KT)(g:KT)(x0 x1:Int):eW prog (xU m100) L f99 0 [1,1,1,0,0,0] (cW (bI prog f99) k xk) g (S99_0 a0 a1 a2 x0 x1)=
 bif (decide (x0 < x1))then bif ((decide (0<=(wrap .i64 (HF x0 x1))))&&(decide ((wrap .i64 (HF x0 x1)) < (a0.length:Int))))then cZ (m100 (((List.getD a0 (Int.toNat (wrap .i64 (HF x0 x1))) ZB).1,((List.getD a0 (Int.toNat (wrap .i64 (HF x0 x1))) ZB).2.1,((List.getD a0 (Int.toNat (wrap .i64 (HF x0 x1))) ZB).2.2.1,((List.getD a0 (Int.toNat (wrap .i64 (HF x0 x1))) ZB).2.2.2.1,(List.getD a0 (Int.toNat (wrap .i64 (HF x0 x1))) ZB).2.2.2.2)))),a1)) 0 λ(q3:Int)=>bif (decide (q3 < 0))then g (S99_0 a0 a1 a2 (wrap .i64 ((wrap .i64 (HF x0 x1))+1)) x1)
    else g (S99_0 a0 a1 a2 x0 (wrap .i64 (HF x0 x1)))
  else none
 else k (X99_0 a0 a1 a2 x0):=by kernel_rfl
theorem aPd (m100:(Bk×Int)->Option Int)(L:Nat)(a0:LB)(a1:Int)(a2:Unit)(x0:Int):(cA prog (xU m100) L f99 [1,1,1,0] (bI prog f99)).n (X99_0 a0 a1 a2 x0)=
 bif (decide (x0 < (a0.length:Int)))then bif ((decide (0<=x0))&&(decide (x0 < (a0.length:Int))))then cZ (m100 (((List.getD a0 x0.toNat ZB).1,((List.getD a0 x0.toNat ZB).2.1,((List.getD a0 x0.toNat ZB).2.2.1,((List.getD a0 x0.toNat ZB).2.2.2.1,(List.getD a0 x0.toNat ZB).2.2.2.2)))),a1)) 0 λ(q3:Int)=>some (n99 (x0,(q3 == 0)))
  else none
 else some (n99 (x0,false)):=by kernel_rfl
def wW (m100:(Bk×Int)->Option Int)(L:Nat)(a0:LB)(a1:Int)(a2:Unit):Nat->Int->Int->(Int->Option (Int×Bool))->Option (Int×Bool)
 | 0,_,_,_=>none
 | n+1,x0,x1,k=>
  bif (decide (x0 < x1))then bif ((decide (0<=(wrap .i64 (HF x0 x1))))&&(decide ((wrap .i64 (HF x0 x1)) < (a0.length:Int))))then cZ (m100 (((List.getD a0 (Int.toNat (wrap .i64 (HF x0 x1))) ZB).1,((List.getD a0 (Int.toNat (wrap .i64 (HF x0 x1))) ZB).2.1,((List.getD a0 (Int.toNat (wrap .i64 (HF x0 x1))) ZB).2.2.1,((List.getD a0 (Int.toNat (wrap .i64 (HF x0 x1))) ZB).2.2.2.1,(List.getD a0 (Int.toNat (wrap .i64 (HF x0 x1))) ZB).2.2.2.2)))),a1)) 0 λ(q4:Int)=>bif (decide (q4 < 0))then wW m100 L a0 a1 a2 n (wrap .i64 ((wrap .i64 (HF x0 x1))+1)) x1 k
     else wW m100 L a0 a1 a2 n x0 (wrap .i64 (HF x0 x1)) k
   else none
  else k x0
theorem aLv (m100:(Bk×Int)->Option Int)(L:Nat)(a0:LB)(a1:Int)(a2:Unit)(k:KT)(xk:Nat->KT)(k':Int->Option (Int×Bool))(hk:∀ (x2:Int),k (X99_0 a0 a1 a2 x2)=(k' x2).map n99):∀ (n:Nat) (x0 x1:Int),cE prog (xU m100) L f99 0 [1,1,1,0,0,0] (cW (bI prog f99) k xk) n (S99_0 a0 a1 a2 x0 x1)=(wW m100 L a0 a1 a2 n x0 x1 k').map n99
 | 0,_,_=>rfl
 | n+1,x0,x1=>by
  rw[cK,aQM];have ih:=aLv m100 L a0 a1 a2 k xk k' hk n;simp only[wW,aU,aS,aT,aD,aE,ih,hk]
def g99 (m100:(Bk×Int)->Option Int)(L:Nat)(a0:LB)(a1:Int)(a2:Unit):Option (Int×Bool):=
 wW m100 L a0 a1 a2 L 0 (a0.length:Int) (λ(x0:Int)=>bif (decide (x0 < (a0.length:Int)))then bif ((decide (0<=x0))&&(decide (x0 < (a0.length:Int))))then cZ (m100 (((List.getD a0 x0.toNat ZB).1,((List.getD a0 x0.toNat ZB).2.1,((List.getD a0 x0.toNat ZB).2.2.1,((List.getD a0 x0.toNat ZB).2.2.2.1,(List.getD a0 x0.toNat ZB).2.2.2.2)))),a1)) 0 λ(q4:Int)=>some (x0,(q4 == 0))
   else none
  else some (x0,false))
theorem e99 (m100:(Bk×Int)->Option Int)(L:Nat)(a0:LB)(a1:Int)(a2:Unit):eT prog (xU m100) (bH L) f99 (a99.enc (a0,a1,a2))=(g99 m100 L a0 a1 a2).map n99:=by
 let K'0:Int->Option (Int×Bool):=(λ(x0:Int)=>bif (decide (x0 < (a0.length:Int)))then bif ((decide (0<=x0))&&(decide (x0 < (a0.length:Int))))then cZ (m100 (((List.getD a0 x0.toNat ZB).1,((List.getD a0 x0.toNat ZB).2.1,((List.getD a0 x0.toNat ZB).2.2.1,((List.getD a0 x0.toNat ZB).2.2.2.1,(List.getD a0 x0.toNat ZB).2.2.2.2)))),a1)) 0 λ(q5:Int)=>some (x0,(q5 == 0))
    else none
   else some (x0,false))
 have hin0:∀ (x1 x2:Int),cE prog (xU m100) L f99 0 [1,1,1,0,0,0] (cW (bI prog f99) (cA prog (xU m100) L f99 [1,1,1,0] (bI prog f99)).n (cA prog (xU m100) L f99 [1,1,1,0] (bI prog f99)).x) L (S99_0 a0 a1 a2 x1 x2)=(wW m100 L a0 a1 a2 L x1 x2 K'0).map n99:=λx1 x2=>aLv m100 L a0 a1 a2 _ _ K'0 (λx0=>by rw[aPd];simp only[K'0,aU,aS,aT,aD,aE]) L x1 x2
 rw[i99];simp only[g99,aU,aS,aT,aD,aE,hin0,K'0]
theorem s99 (m100:(Bk×Int)->Option Int)(h100:Sat prog cxT 100 (aKz m100))(m:(LB×Int×Unit)->Option (Int×Bool))(hm:∀ (x:(LB×Int×Unit)) t,m x=some t->∃ L,g99 m100 L x.1 x.2.1 x.2.2=some t):Sat prog cxT 99 (c99 m):=
 dS bZ bV (by rfl) (fn:=f99) rfl a99 n99 aSr m (xU m100) (bN h100 bU) bP (λL x=>g99 m100 L x.1 x.2.1 x.2.2) (λL x=>e99 m100 L x.1 x.2.1 x.2.2) hm aVN
def aM5 (m99:(LB×Int×Unit)->Option (Int×Bool)):Env cxT:={ Kc:=eF [(99,c99 m99)],Kw:=eE [],lv:=λi=>[],xv:=λi=>none }
theorem i82 (m99:(LB×Int×Unit)->Option (Int×Bool))(L:Nat)(a0:LB)(a1:Int):eT prog (aM5 m99) (bH L) f82 (a82.enc (a0,a1))=
 cZ (m99 (a0,(a1,PUnit.unit))) (0,false) λ(q1:(Int×Bool))=>some (n82 q1):=by kernel_rfl
def g82 (m99:(LB×Int×Unit)->Option (Int×Bool))(L:Nat)(a0:LB)(a1:Int):Option (Int×Bool):=
 cZ (m99 (a0,(a1,PUnit.unit))) (0,false) λ(q1:(Int×Bool))=>some q1
theorem e82 (m99:(LB×Int×Unit)->Option (Int×Bool))(L:Nat)(a0:LB)(a1:Int):eT prog (aM5 m99) (bH L) f82 (a82.enc (a0,a1))=(g82 m99 L a0 a1).map n82:=by
 rw[i82];simp only[g82,aU,aS,aT,aD,aE]
theorem s82 (m99:(LB×Int×Unit)->Option (Int×Bool))(h99:Sat prog cxT 99 (c99 m99))(m:(LB×Int)->Option (Int×Bool))(hm:∀ (x:(LB×Int)) t,m x=some t->∃ L,g82 m99 L x.1 x.2=some t):Sat prog cxT 82 (c82 m):=
 dS bZ bV (by rfl) (fn:=f82) rfl a82 n82 aNL m (aM5 m99) (bN h99 bU) bP (λL x=>g82 m99 L x.1 x.2) (λL x=>e82 m99 L x.1 x.2) hm aVU
def aNn (m51:Int->Option Bool)(m58:Int->Option Bool)(m59:Int->Option Bool):Env cxT:={ Kc:=eF [(51,c51 m51),(58,c58 m58),(59,c59 m59)],Kw:=eE [],lv:=λi=>[],xv:=λi=>none }
theorem i47 (m51:Int->Option Bool)(m58:Int->Option Bool)(m59:Int->Option Bool)(L:Nat)(x0 x1 x2:Int)(x3:LI):eT prog (aNn m51 m58 m59) (bH L) f47 (a47.enc (x0,x1,x2,x3))=
 cZ (m51 x0) false λ(q1:Bool)=>bif q1 then cZ (m58 x1) false λ(q3:Bool)=>bif q3 then cZ (m59 x2) false λ(q5:Bool)=>some (n47 q5)
    else some (n47 false)
  else some (n47 false):=by kernel_rfl
def g47 (m51:Int->Option Bool)(m58:Int->Option Bool)(m59:Int->Option Bool)(L:Nat)(x0 x1 x2:Int)(x3:LI):Option Bool:=
 cZ (m51 x0) false λ(q1:Bool)=>bif q1 then cZ (m58 x1) false λ(q3:Bool)=>bif q3 then cZ (m59 x2) false λ(q5:Bool)=>some q5
    else some false
  else some false
theorem e47 (m51:Int->Option Bool)(m58:Int->Option Bool)(m59:Int->Option Bool)(L:Nat)(x0 x1 x2:Int)(x3:LI):eT prog (aNn m51 m58 m59) (bH L) f47 (a47.enc (x0,x1,x2,x3))=(g47 m51 m58 m59 L x0 x1 x2 x3).map n47:=by
 rw[i47];simp only[g47,aU,aS,aT,aD,aE]
theorem s47 (m51:Int->Option Bool)(m58:Int->Option Bool)(m59:Int->Option Bool)(h51:Sat prog cxT 51 (c51 m51))(h58:Sat prog cxT 58 (c58 m58))(h59:Sat prog cxT 59 (c59 m59))(m:Vp->Option Bool)(hm:∀ (x:Vp) t,m x=some t->∃ L,g47 m51 m58 m59 L x.1 x.2.1 x.2.2.1 x.2.2.2=some t):Sat prog cxT 47 (c47 m):=
 dS bZ bV (by rfl) (fn:=f47) rfl a47 n47 aST m (aNn m51 m58 m59) (bN h51 (bN h58 (bN h59 bU))) bP (λL x=>g47 m51 m58 m59 L x.1 x.2.1 x.2.2.1 x.2.2.2) (λL x=>e47 m51 m58 m59 L x.1 x.2.1 x.2.2.1 x.2.2.2) hm aWm
def oD (iO:(LB×Int)->Option (Int×Bool)):Env cxT:={ Kc:=eF [(82,c82 iO)],Kw:=eE [],lv:=λi=>if i=0 then[(0,[some 2]),(1,[some 68]),(11,[some 2]),(12,[]),(13,[])]else if i=2 then[(0,[some 2]),(26,[some 2]),(27,[]),(28,[])]else[],xv:=λi=>if i=0 then some [(0,[some 2])]else if i=2 then some []else none }
def S49_0 (a0:LI)(a1:LB)(x0:Int):St cxT.ty:={ slots:=[(.inl (.inl (ls { own:=0,nm:=0,e:=2,o:=false,xs:=a0 }))),(.inl (.inl (ls { own:=0,nm:=0,e:=68,o:=false,xs:=a1 }))),aN,aN,aN,aN,aN,aN,aN,aN,aN,(.inl (.inl (ls { own:=0,nm:=0,e:=2,o:=false,xs:=a0 }))),(.inl (.inl (lv (.int .i64 (a0.length:Int))))),(.inl (.inl (lv (.int .i64 x0))))]++List.replicate 31 aN,D:=[],F:=[],ctr:=1 }
def X49_0 (a0:LI)(a1:LB):St cxT.ty:={ slots:=[(.inl (.inl (ls { own:=0,nm:=0,e:=2,o:=false,xs:=a0 })))]++List.replicate 44 aN,D:=[],F:=[],ctr:=1 }
def S49_2 (a0:LI)(a1:LB)(x0:Int):St cxT.ty:={ slots:=[(.inl (.inl (ls { own:=0,nm:=0,e:=2,o:=false,xs:=a0 }))),aN,aN,aN,aN,aN,aN,aN,aN,aN,aN,aN,aN,aN,aN,aN,aN,aN,aN,aN,aN,aN,aN,aN,aN,aN,(.inl (.inl (ls { own:=0,nm:=0,e:=2,o:=false,xs:=a0 }))),(.inl (.inl (lv (.int .i64 (a0.length:Int))))),(.inl (.inl (lv (.int .i64 x0))))]++List.replicate 16 aN,D:=[],F:=[],ctr:=1 }
def X49_2 (a0:LI)(a1:LB):St cxT.ty:={ slots:=[]++List.replicate 45 aN,D:=[],F:=[],ctr:=1 }
theorem i49 (iO:(LB×Int)->Option (Int×Bool))(L:Nat)(a0:LI)(a1:LB):eT prog (oD iO) (bH L) f49 (a49.enc (a0,a1))=
 cE prog (oD iO) L f49 0 [1,0,1,0,0] (cW (bI prog f49) (cA prog (oD iO) L f49 [1,0,1] (bI prog f49)).n (cA prog (oD iO) L f49 [1,0,1] (bI prog f49)).x) L (S49_0 a0 a1 0):=by kernel_rfl
theorem aQ1 (iO:(LB×Int)->Option (Int×Bool))(L:Nat)(a0:LI)(a1:LB)(k:KT)(xk:Nat->KT)(g:KT)(x0:Int):eW prog (oD iO) L f49 0 [1,0,1,0,0] (cW (bI prog f49) k xk) g (S49_0 a0 a1 x0)=
 bif (decide (x0 < (a0.length:Int)))then bif ((decide (0<=x0))&&(decide (x0 < (a0.length:Int))))then cZ (iO (a1,(List.getD a0 x0.toNat 0))) (0,false) λ(q3:(Int×Bool))=>bif (!q3.2)then some (n49 4)
    else g (S49_0 a0 a1 (wrap .i64 (x0+1)))
  else none
 else k (X49_0 a0 a1):=by kernel_rfl
theorem aPs (iO:(LB×Int)->Option (Int×Bool))(L:Nat)(a0:LI)(a1:LB):(cA prog (oD iO) L f49 [1,0,1] (bI prog f49)).n (X49_0 a0 a1)=
 cE prog (oD iO) L f49 2 [1,1,0,1,0,0] (cW (bI prog f49) (cA prog (oD iO) L f49 [1,1,0,1] (bI prog f49)).n (cA prog (oD iO) L f49 [1,1,0,1] (bI prog f49)).x) L (S49_2 a0 a1 0):=by kernel_rfl
theorem aQ0 (iO:(LB×Int)->Option (Int×Bool))(L:Nat)(a0:LI)(a1:LB)(k:KT)(xk:Nat->KT)(g:KT)(x0:Int):eW prog (oD iO) L f49 2 [1,1,0,1,0,0] (cW (bI prog f49) k xk) g (S49_2 a0 a1 x0)=
 bif (decide (x0 < (a0.length:Int)))then bif ((decide (0<=x0))&&(decide (x0 < (a0.length:Int))))then bif (decide (x0 > 0))then bif ((decide (0<=(wrap .i64 (x0-1))))&&(decide ((wrap .i64 (x0-1)) < (a0.length:Int))))then bif (decide ((List.getD a0 x0.toNat 0)<=(List.getD a0 (Int.toNat (wrap .i64 (x0-1))) 0)))then some (n49 1)
     else g (S49_2 a0 a1 (wrap .i64 (x0+1)))
    else none
   else g (S49_2 a0 a1 (wrap .i64 (x0+1)))
  else none
 else k (X49_2 a0 a1):=by kernel_rfl
theorem aPr (iO:(LB×Int)->Option (Int×Bool))(L:Nat)(a0:LI)(a1:LB):(cA prog (oD iO) L f49 [1,1,0,1] (bI prog f49)).n (X49_2 a0 a1)=
 some (n49 0):=by kernel_rfl
def uW (iO:(LB×Int)->Option (Int×Bool))(L:Nat)(a0:LI)(a1:LB):Nat->Int->(Option Int)->Option Int
 | 0,_,_=>none
 | n+1,x0,k=>
  bif (decide (x0 < (a0.length:Int)))then bif ((decide (0<=x0))&&(decide (x0 < (a0.length:Int))))then bif (decide (x0 > 0))then bif ((decide (0<=(wrap .i64 (x0-1))))&&(decide ((wrap .i64 (x0-1)) < (a0.length:Int))))then bif (decide ((List.getD a0 x0.toNat 0)<=(List.getD a0 (Int.toNat (wrap .i64 (x0-1))) 0)))then some 1
      else uW iO L a0 a1 n (wrap .i64 (x0+1)) k
     else none
    else uW iO L a0 a1 n (wrap .i64 (x0+1)) k
   else none
  else k
theorem aLJ (iO:(LB×Int)->Option (Int×Bool))(L:Nat)(a0:LI)(a1:LB)(k:KT)(xk:Nat->KT)(k':Option Int)(hk:k (X49_2 a0 a1)=(k').map n49):∀ (n:Nat) (x0:Int),cE prog (oD iO) L f49 2 [1,1,0,1,0,0] (cW (bI prog f49) k xk) n (S49_2 a0 a1 x0)=(uW iO L a0 a1 n x0 k').map n49
 | 0,_=>rfl
 | n+1,x0=>by
  rw[cK,aQ0];have ih:=aLJ iO L a0 a1 k xk k' hk n;simp only[uW,aU,aS,aT,aD,aE,ih,hk]
def aAq (iO:(LB×Int)->Option (Int×Bool))(L:Nat)(a0:LI)(a1:LB):Nat->Int->(Option Int)->Option Int
 | 0,_,_=>none
 | n+1,x0,k=>
  bif (decide (x0 < (a0.length:Int)))then bif ((decide (0<=x0))&&(decide (x0 < (a0.length:Int))))then cZ (iO (a1,(List.getD a0 x0.toNat 0))) (0,false) λ(q4:(Int×Bool))=>bif (!q4.2)then some 4
     else aAq iO L a0 a1 n (wrap .i64 (x0+1)) k
   else none
  else k
theorem aLK (iO:(LB×Int)->Option (Int×Bool))(L:Nat)(a0:LI)(a1:LB)(k:KT)(xk:Nat->KT)(k':Option Int)(hk:k (X49_0 a0 a1)=(k').map n49):∀ (n:Nat) (x0:Int),cE prog (oD iO) L f49 0 [1,0,1,0,0] (cW (bI prog f49) k xk) n (S49_0 a0 a1 x0)=(aAq iO L a0 a1 n x0 k').map n49
 | 0,_=>rfl
 | n+1,x0=>by
  rw[cK,aQ1];have ih:=aLK iO L a0 a1 k xk k' hk n;simp only[aAq,aU,aS,aT,aD,aE,ih,hk]
def g49 (iO:(LB×Int)->Option (Int×Bool))(L:Nat)(a0:LI)(a1:LB):Option Int:=
 aAq iO L a0 a1 L 0 (uW iO L a0 a1 L 0 (some 0))
theorem e49 (iO:(LB×Int)->Option (Int×Bool))(L:Nat)(a0:LI)(a1:LB):eT prog (oD iO) (bH L) f49 (a49.enc (a0,a1))=(g49 iO L a0 a1).map n49:=by
 let K'2:Option Int:=(some 0)
 have hin2:∀ (x0:Int),cE prog (oD iO) L f49 2 [1,1,0,1,0,0] (cW (bI prog f49) (cA prog (oD iO) L f49 [1,1,0,1] (bI prog f49)).n (cA prog (oD iO) L f49 [1,1,0,1] (bI prog f49)).x) L (S49_2 a0 a1 x0)=(uW iO L a0 a1 L x0 K'2).map n49:=λx0=>aLJ iO L a0 a1 _ _ K'2 (by rw[aPr];simp only[K'2,aU,aS,aT,aD,aE]) L x0
 let K'0:Option Int:=(uW iO L a0 a1 L 0 (some 0))
 have hin0:∀ (x1:Int),cE prog (oD iO) L f49 0 [1,0,1,0,0] (cW (bI prog f49) (cA prog (oD iO) L f49 [1,0,1] (bI prog f49)).n (cA prog (oD iO) L f49 [1,0,1] (bI prog f49)).x) L (S49_0 a0 a1 x1)=(aAq iO L a0 a1 L x1 K'0).map n49:=λx1=>aLK iO L a0 a1 _ _ K'0 (by rw[aPs];simp only[K'0,aU,aS,aT,aD,aE,hin2,K'2]) L x1
 rw[i49];simp only[g49,aU,aS,aT,aD,aE,hin2,K'2,hin0,K'0]
theorem s49 (iO:(LB×Int)->Option (Int×Bool))(h82:Sat prog cxT 82 (c82 iO))(m:(LI×LB)->Option Int)(hm:∀ (x:(LI×LB)) t,m x=some t->∃ L,g49 iO L x.1 x.2=some t):Sat prog cxT 49 (c49 m):=
 dS bZ bV (by rfl) (fn:=f49) rfl a49 n49 aSR m (oD iO) (bN h82 bU) bP (λL x=>g49 iO L x.1 x.2) (λL x=>e49 iO L x.1 x.2) hm aWk
def oE (m45:Int->Option Bool)(m46:Bk->Option Bool)(m47:Vp->Option Bool)(m48:(Vp×Vp)->Option Int)(jT:(LI×LB)->Option Int):Env cxT:={ Kc:=eF [(45,c45 m45),(46,c46 m46),(47,c47 m47),(48,c48 m48),(49,c49 jT)],Kw:=eE [],lv:=λi=>if i=0 then[(1,[none,some 68,some 76]),(23,[some 68]),(24,[]),(25,[])]else if i=2 then[(1,[none,some 68,some 76]),(49,[some 76]),(50,[]),(51,[])]else[],xv:=λi=>if i=0 then some [(1,[none,some 68,some 76])]else if i=2 then some []else none }
def S21_0 (x5:Int)(x0:LB)(x6:LV)(x1:Int)(x2:LB)(x3:LV)(x4:Int):St cxT.ty:={ slots:=[aN,(.inr (.inr { kind:=0,nm:=64,cells:=[(lv (.int .i64 x1)),(ls { own:=0,nm:=0,e:=68,o:=false,xs:=x2 }),(ls { own:=0,nm:=0,e:=76,o:=false,xs:=x3 })],s:={ own:=0,nm:=0,e:=0,o:=false,xs:=([]:List (PUnit)) },i:=0,off:=0 })),aN,aN,aN,aN,aN,aN,aN,aN,aN,aN,aN,aN,aN,aN,aN,aN,aN,aN,aN,aN,aN,(.inl (.inl (ls { own:=0,nm:=0,e:=68,o:=false,xs:=x0 }))),(.inl (.inl (lv (.int .i64 (x0.length:Int))))),(.inl (.inl (lv (.int .i64 x4))))]++List.replicate 55 aN,D:=[],F:=[],ctr:=1 }
def X21_0 (x3:Int)(x4:LB)(x5:LV)(x0:Int)(x1:LB)(x2:LV):St cxT.ty:={ slots:=[aN,(.inr (.inr { kind:=0,nm:=64,cells:=[(lv (.int .i64 x0)),(ls { own:=0,nm:=0,e:=68,o:=false,xs:=x1 }),(ls { own:=0,nm:=0,e:=76,o:=false,xs:=x2 })],s:={ own:=0,nm:=0,e:=0,o:=false,xs:=([]:List (PUnit)) },i:=0,off:=0 }))]++List.replicate 79 aN,D:=[],F:=[],ctr:=1 }
def S21_2 (x6:Int)(x7:LB)(x8:LV)(x0:Int)(x1:LB)(x2:LV)(x3:LV)(x4 x5:Int):St cxT.ty:={ slots:=[aN,(.inr (.inr { kind:=0,nm:=64,cells:=[(lv (.int .i64 x0)),(ls { own:=0,nm:=0,e:=68,o:=false,xs:=x1 }),(ls { own:=0,nm:=0,e:=76,o:=false,xs:=x2 })],s:={ own:=0,nm:=0,e:=0,o:=false,xs:=([]:List (PUnit)) },i:=0,off:=0 })),aN,aN,aN,aN,aN,aN,aN,aN,aN,aN,aN,aN,aN,aN,aN,aN,aN,aN,aN,aN,aN,aN,aN,aN,aN,aN,aN,aN,aN,aN,aN,aN,aN,aN,aN,aN,aN,aN,aN,aN,aN,aN,aN,aN,aN,aN,aN,(.inl (.inl (ls { own:=0,nm:=0,e:=76,o:=false,xs:=x3 }))),(.inl (.inl (lv (.int .i64 x4)))),(.inl (.inl (lv (.int .i64 x5))))]++List.replicate 29 aN,D:=[],F:=[],ctr:=1 }
def X21_2 (x0:Int)(x1:LB)(x2:LV):St cxT.ty:={ slots:=[]++List.replicate 81 aN,D:=[],F:=[],ctr:=1 }
theorem i21 (m45:Int->Option Bool)(m46:Bk->Option Bool)(m47:Vp->Option Bool)(m48:(Vp×Vp)->Option Int)(jT:(LI×LB)->Option Int)(L:Nat)(x0:Int)(x1:LB)(x2:LV):eT prog (oE m45 m46 m47 m48 jT) (bH L) f21 (a21.enc (x0,x1,x2))=
 cZ (m45 x0) false λ(q1:Bool)=>bif (!q1)then some (n21 3)
  else bif (decide ((x1.length:Int) > 8))then some (n21 2)
  else bif (decide ((x2.length:Int) > 4))then some (n21 2)
  else cE prog (oE m45 m46 m47 m48 jT) L f21 0 [1,1,1,0,1,0,0] (cW (bI prog f21) (cA prog (oE m45 m46 m47 m48 jT) L f21 [1,1,1,0,1] (bI prog f21)).n (cA prog (oE m45 m46 m47 m48 jT) L f21 [1,1,1,0,1] (bI prog f21)).x) L (S21_0 x0 x1 x2 x0 x1 x2 0):=by kernel_rfl
theorem aRe (m45:Int->Option Bool)(m46:Bk->Option Bool)(m47:Vp->Option Bool)(m48:(Vp×Vp)->Option Int)(jT:(LI×LB)->Option Int)(L:Nat)(x3:Int)(x1:LB)(x4:LV)(k:KT)(xk:Nat->KT)(g:KT)(x5:Int)(x2:LB)(x6:LV)(x0:Int):eW prog (oE m45 m46 m47 m48 jT) L f21 0 [1,1,1,0,1,0,0] (cW (bI prog f21) k xk) g (S21_0 x3 x1 x4 x5 x2 x6 x0)=
 bif (decide (x0 < (x1.length:Int)))then bif ((decide (0<=x0))&&(decide (x0 < (x1.length:Int))))then cZ (m46 ((List.getD x1 x0.toNat ZB).1,((List.getD x1 x0.toNat ZB).2.1,((List.getD x1 x0.toNat ZB).2.2.1,((List.getD x1 x0.toNat ZB).2.2.2.1,(List.getD x1 x0.toNat ZB).2.2.2.2))))) false λ(q3:Bool)=>bif (!q3)then some (n21 3)
    else bif (decide (x0 > 0))then bif ((decide (0<=(wrap .i64 (x0-1))))&&(decide ((wrap .i64 (x0-1)) < (x2.length:Int))))then bif (decide ((List.getD x1 x0.toNat ZB).1<=(List.getD x2 (Int.toNat (wrap .i64 (x0-1))) ZB).1))then some (n21 1)
      else g (S21_0 x3 x1 x4 x5 x2 x6 (wrap .i64 (x0+1)))
     else none
    else g (S21_0 x3 x1 x4 x5 x2 x6 (wrap .i64 (x0+1)))
  else none
 else k (X21_0 x3 x1 x4 x5 x2 x6):=by kernel_rfl
theorem aPF (m45:Int->Option Bool)(m46:Bk->Option Bool)(m47:Vp->Option Bool)(m48:(Vp×Vp)->Option Int)(jT:(LI×LB)->Option Int)(L:Nat)(x1:Int)(x2:LB)(x3:LV)(x4:Int)(x5:LB)(x0:LV):(cA prog (oE m45 m46 m47 m48 jT) L f21 [1,1,1,0,1] (bI prog f21)).n (X21_0 x1 x2 x3 x4 x5 x0)=
 cE prog (oE m45 m46 m47 m48 jT) L f21 2 [1,1,1,1,0,1,0,0] (cW (bI prog f21) (cA prog (oE m45 m46 m47 m48 jT) L f21 [1,1,1,1,0,1] (bI prog f21)).n (cA prog (oE m45 m46 m47 m48 jT) L f21 [1,1,1,1,0,1] (bI prog f21)).x) L (S21_2 x1 x2 x3 x4 x5 x0 x0 (x0.length:Int) 0):=by kernel_rfl
theorem aRd (m45:Int->Option Bool)(m46:Bk->Option Bool)(m47:Vp->Option Bool)(m48:(Vp×Vp)->Option Int)(jT:(LI×LB)->Option Int)(L:Nat)(x4:Int)(x5:LB)(x6:LV)(k:KT)(xk:Nat->KT)(g:KT)(x8:Int)(x3:LB)(x2:LV)(x1:LV)(x7 x0:Int):eW prog (oE m45 m46 m47 m48 jT) L f21 2 [1,1,1,1,0,1,0,0] (cW (bI prog f21) k xk) g (S21_2 x4 x5 x6 x8 x3 x2 x1 x7 x0)=
 bif (decide (x0 < x7))then bif ((decide (0<=x0))&&(decide (x0 < (x1.length:Int))))then cZ (m47 ((List.getD x1 x0.toNat ZV).1,((List.getD x1 x0.toNat ZV).2.1,((List.getD x1 x0.toNat ZV).2.2.1,(List.getD x1 x0.toNat ZV).2.2.2)))) false λ(q3:Bool)=>bif (!q3)then some (n21 3)
    else bif (decide (x0 > 0))then bif ((decide (0<=(wrap .i64 (x0-1))))&&(decide ((wrap .i64 (x0-1)) < (x2.length:Int))))then cZ (m48 (((List.getD x1 x0.toNat ZV).1,((List.getD x1 x0.toNat ZV).2.1,((List.getD x1 x0.toNat ZV).2.2.1,(List.getD x1 x0.toNat ZV).2.2.2))),((List.getD x2 (Int.toNat (wrap .i64 (x0-1))) ZV).1,((List.getD x2 (Int.toNat (wrap .i64 (x0-1))) ZV).2.1,((List.getD x2 (Int.toNat (wrap .i64 (x0-1))) ZV).2.2.1,(List.getD x2 (Int.toNat (wrap .i64 (x0-1))) ZV).2.2.2))))) 0 λ(q6:Int)=>bif (decide (q6<=0))then some (n21 1)
       else cZ (jT ((List.getD x1 x0.toNat ZV).2.2.2,x3)) 0 λ(q7:Int)=>bif (q7 != 0)then some (n21 q7)
        else g (S21_2 x4 x5 x6 x8 x3 x2 x1 x7 (wrap .i64 (x0+1)))
     else none
    else cZ (jT ((List.getD x1 x0.toNat ZV).2.2.2,x3)) 0 λ(q4:Int)=>bif (q4 != 0)then some (n21 q4)
     else g (S21_2 x4 x5 x6 x8 x3 x2 x1 x7 (wrap .i64 (x0+1)))
  else none
 else k (X21_2 x4 x5 x6):=by kernel_rfl
theorem aPE (m45:Int->Option Bool)(m46:Bk->Option Bool)(m47:Vp->Option Bool)(m48:(Vp×Vp)->Option Int)(jT:(LI×LB)->Option Int)(L:Nat)(x0:Int)(x1:LB)(x2:LV):(cA prog (oE m45 m46 m47 m48 jT) L f21 [1,1,1,1,0,1] (bI prog f21)).n (X21_2 x0 x1 x2)=
 some (n21 0):=by kernel_rfl
def sZ (m45:Int->Option Bool)(m46:Bk->Option Bool)(m47:Vp->Option Bool)(m48:(Vp×Vp)->Option Int)(jT:(LI×LB)->Option Int)(L:Nat)(x5:Int)(x6:LB)(x7:LV):Nat->Int->LB->LV->LV->Int->Int->(Option Int)->Option Int
 | 0,_,_,_,_,_,_,_=>none
 | n+1,x8,x3,x2,x1,x4,x0,k=>
  bif (decide (x0 < x4))then bif ((decide (0<=x0))&&(decide (x0 < (x1.length:Int))))then cZ (m47 ((List.getD x1 x0.toNat ZV).1,((List.getD x1 x0.toNat ZV).2.1,((List.getD x1 x0.toNat ZV).2.2.1,(List.getD x1 x0.toNat ZV).2.2.2)))) false λ(q4:Bool)=>bif (!q4)then some 3
     else bif (decide (x0 > 0))then bif ((decide (0<=(wrap .i64 (x0-1))))&&(decide ((wrap .i64 (x0-1)) < (x2.length:Int))))then cZ (m48 (((List.getD x1 x0.toNat ZV).1,((List.getD x1 x0.toNat ZV).2.1,((List.getD x1 x0.toNat ZV).2.2.1,(List.getD x1 x0.toNat ZV).2.2.2))),((List.getD x2 (Int.toNat (wrap .i64 (x0-1))) ZV).1,((List.getD x2 (Int.toNat (wrap .i64 (x0-1))) ZV).2.1,((List.getD x2 (Int.toNat (wrap .i64 (x0-1))) ZV).2.2.1,(List.getD x2 (Int.toNat (wrap .i64 (x0-1))) ZV).2.2.2))))) 0 λ(q7:Int)=>bif (decide (q7<=0))then some 1
        else cZ (jT ((List.getD x1 x0.toNat ZV).2.2.2,x3)) 0 λ(q8:Int)=>bif (q8 != 0)then some q8
         else sZ m45 m46 m47 m48 jT L x5 x6 x7 n x8 x3 x2 x1 x4 (wrap .i64 (x0+1)) k
      else none
     else cZ (jT ((List.getD x1 x0.toNat ZV).2.2.2,x3)) 0 λ(q5:Int)=>bif (q5 != 0)then some q5
      else sZ m45 m46 m47 m48 jT L x5 x6 x7 n x8 x3 x2 x1 x4 (wrap .i64 (x0+1)) k
   else none
  else k
theorem aLW (m45:Int->Option Bool)(m46:Bk->Option Bool)(m47:Vp->Option Bool)(m48:(Vp×Vp)->Option Int)(jT:(LI×LB)->Option Int)(L:Nat)(x0:Int)(x1:LB)(x2:LV)(k:KT)(xk:Nat->KT)(k':Option Int)(hk:k (X21_2 x0 x1 x2)=(k').map n21):∀ (n:Nat) (x3:Int) (x4:LB) (x5:LV) (x6:LV) (x7 x8:Int),cE prog (oE m45 m46 m47 m48 jT) L f21 2 [1,1,1,1,0,1,0,0] (cW (bI prog f21) k xk) n (S21_2 x0 x1 x2 x3 x4 x5 x6 x7 x8)=(sZ m45 m46 m47 m48 jT L x0 x1 x2 n x3 x4 x5 x6 x7 x8 k').map n21
 | 0,_,_,_,_,_,_=>rfl
 | n+1,x3,x4,x5,x6,x7,x8=>by
  rw[cK,aRd];have ih:=aLW m45 m46 m47 m48 jT L x0 x1 x2 k xk k' hk n;simp only[sZ,aU,aS,aT,aD,aE,ih,hk]
def wY (m45:Int->Option Bool)(m46:Bk->Option Bool)(m47:Vp->Option Bool)(m48:(Vp×Vp)->Option Int)(jT:(LI×LB)->Option Int)(L:Nat)(x5:Int)(x1:LB)(x6:LV):Nat->Int->LB->LV->Int->(Int->LB->LV->Option Int)->Option Int
 | 0,_,_,_,_,_=>none
 | n+1,x3,x2,x4,x0,k=>
  bif (decide (x0 < (x1.length:Int)))then bif ((decide (0<=x0))&&(decide (x0 < (x1.length:Int))))then cZ (m46 ((List.getD x1 x0.toNat ZB).1,((List.getD x1 x0.toNat ZB).2.1,((List.getD x1 x0.toNat ZB).2.2.1,((List.getD x1 x0.toNat ZB).2.2.2.1,(List.getD x1 x0.toNat ZB).2.2.2.2))))) false λ(q4:Bool)=>bif (!q4)then some 3
     else bif (decide (x0 > 0))then bif ((decide (0<=(wrap .i64 (x0-1))))&&(decide ((wrap .i64 (x0-1)) < (x2.length:Int))))then bif (decide ((List.getD x1 x0.toNat ZB).1<=(List.getD x2 (Int.toNat (wrap .i64 (x0-1))) ZB).1))then some 1
       else wY m45 m46 m47 m48 jT L x5 x1 x6 n x3 x2 x4 (wrap .i64 (x0+1)) k
      else none
     else wY m45 m46 m47 m48 jT L x5 x1 x6 n x3 x2 x4 (wrap .i64 (x0+1)) k
   else none
  else k x3 x2 x4
theorem aLX (m45:Int->Option Bool)(m46:Bk->Option Bool)(m47:Vp->Option Bool)(m48:(Vp×Vp)->Option Int)(jT:(LI×LB)->Option Int)(L:Nat)(x0:Int)(x1:LB)(x2:LV)(k:KT)(xk:Nat->KT)(k':Int->LB->LV->Option Int)(hk:∀ (x7:Int) (x8:LB) (x9:LV),k (X21_0 x0 x1 x2 x7 x8 x9)=(k' x7 x8 x9).map n21):∀ (n:Nat) (x3:Int) (x4:LB) (x5:LV) (x6:Int),cE prog (oE m45 m46 m47 m48 jT) L f21 0 [1,1,1,0,1,0,0] (cW (bI prog f21) k xk) n (S21_0 x0 x1 x2 x3 x4 x5 x6)=(wY m45 m46 m47 m48 jT L x0 x1 x2 n x3 x4 x5 x6 k').map n21
 | 0,_,_,_,_=>rfl
 | n+1,x3,x4,x5,x6=>by
  rw[cK,aRe];have ih:=aLX m45 m46 m47 m48 jT L x0 x1 x2 k xk k' hk n;simp only[wY,aU,aS,aT,aD,aE,ih,hk]
def g21 (m45:Int->Option Bool)(m46:Bk->Option Bool)(m47:Vp->Option Bool)(m48:(Vp×Vp)->Option Int)(jT:(LI×LB)->Option Int)(L:Nat)(x0:Int)(x1:LB)(x2:LV):Option Int:=
 cZ (m45 x0) false λ(q1:Bool)=>bif (!q1)then some 3
  else bif (decide ((x1.length:Int) > 8))then some 2
  else bif (decide ((x2.length:Int) > 4))then some 2
  else wY m45 m46 m47 m48 jT L x0 x1 x2 L x0 x1 x2 0 (λ(x4:Int) (x5:LB) (x3:LV)=>sZ m45 m46 m47 m48 jT L x0 x1 x2 L x4 x5 x3 x3 (x3.length:Int) 0 (some 0))
theorem e21 (m45:Int->Option Bool)(m46:Bk->Option Bool)(m47:Vp->Option Bool)(m48:(Vp×Vp)->Option Int)(jT:(LI×LB)->Option Int)(L:Nat)(x0:Int)(x1:LB)(x2:LV):eT prog (oE m45 m46 m47 m48 jT) (bH L) f21 (a21.enc (x0,x1,x2))=(g21 m45 m46 m47 m48 jT L x0 x1 x2).map n21:=by
 let K'2:Option Int:=(some 0)
 have hin2:∀ (x3:Int) (x4:LB) (x5:LV) (x6:LV) (x7 x8:Int),cE prog (oE m45 m46 m47 m48 jT) L f21 2 [1,1,1,1,0,1,0,0] (cW (bI prog f21) (cA prog (oE m45 m46 m47 m48 jT) L f21 [1,1,1,1,0,1] (bI prog f21)).n (cA prog (oE m45 m46 m47 m48 jT) L f21 [1,1,1,1,0,1] (bI prog f21)).x) L (S21_2 x0 x1 x2 x3 x4 x5 x6 x7 x8)=(sZ m45 m46 m47 m48 jT L x0 x1 x2 L x3 x4 x5 x6 x7 x8 K'2).map n21:=λx3 x4 x5 x6 x7 x8=>aLW m45 m46 m47 m48 jT L x0 x1 x2 _ _ K'2 (by rw[aPE];simp only[K'2,aU,aS,aT,aD,aE]) L x3 x4 x5 x6 x7 x8
 let K'0:Int->LB->LV->Option Int:=(λ(xe:Int) (xf:LB) (x9:LV)=>sZ m45 m46 m47 m48 jT L x0 x1 x2 L xe xf x9 x9 (x9.length:Int) 0 (some 0))
 have hin0:∀ (xa:Int) (xb:LB) (xc:LV) (xd:Int),cE prog (oE m45 m46 m47 m48 jT) L f21 0 [1,1,1,0,1,0,0] (cW (bI prog f21) (cA prog (oE m45 m46 m47 m48 jT) L f21 [1,1,1,0,1] (bI prog f21)).n (cA prog (oE m45 m46 m47 m48 jT) L f21 [1,1,1,0,1] (bI prog f21)).x) L (S21_0 x0 x1 x2 xa xb xc xd)=(wY m45 m46 m47 m48 jT L x0 x1 x2 L xa xb xc xd K'0).map n21:=λxa xb xc xd=>aLX m45 m46 m47 m48 jT L x0 x1 x2 _ _ K'0 (λxe xf x9=>by rw[aPF];simp only[K'0,aU,aS,aT,aD,aE,hin2,K'2]) L xa xb xc xd
 rw[i21];simp only[g21,aU,aS,aT,aD,aE,hin2,K'2,hin0,K'0]
theorem s21 (m45:Int->Option Bool)(m46:Bk->Option Bool)(m47:Vp->Option Bool)(m48:(Vp×Vp)->Option Int)(jT:(LI×LB)->Option Int)(h45:Sat prog cxT 45 (c45 m45))(h46:Sat prog cxT 46 (c46 m46))(h47:Sat prog cxT 47 (c47 m47))(h48:Sat prog cxT 48 (c48 m48))(h49:Sat prog cxT 49 (c49 jT))(m:CZ->Option Int)(hm:∀ (x:CZ) t,m x=some t->∃ L,g21 m45 m46 m47 m48 jT L x.1 x.2.1 x.2.2=some t):Sat prog cxT 21 (c21 m):=
 dS bZ bV (by rfl) (fn:=f21) rfl a21 n21 aNQ m (oE m45 m46 m47 m48 jT) (bN h45 (bN h46 (bN h47 (bN h48 (bN h49 bU))))) bP (λL x=>g21 m45 m46 m47 m48 jT L x.1 x.2.1 x.2.2) (λL x=>e21 m45 m46 m47 m48 jT L x.1 x.2.1 x.2.2) hm aWK
def aIN (m81:(Int×Int)->Option Int):Env cxT:={ Kc:=eF [(81,c81 m81)],Kw:=eE [],lv:=λi=>[],xv:=λi=>none }
theorem aVJ (m81:(Int×Int)->Option Int)(L:Nat)(x0 x1:Int)(x2 x3:Int)(x4:Bool)(a1:Int):eT prog (aIN m81) (bH L) f100 (aTV.enc ((x0,x1,x2,x3,x4),a1))=
 cZ (m81 (x0,a1)) 0 λ(q1:Int)=>some (aIb q1):=by kernel_rfl
def aKe (m81:(Int×Int)->Option Int)(L:Nat)(x0 x1:Int)(x2 x3:Int)(x4:Bool)(a1:Int):Option Int:=
 cZ (m81 (x0,a1)) 0 λ(q1:Int)=>some q1
theorem aW8 (m81:(Int×Int)->Option Int)(L:Nat)(x0 x1:Int)(x2 x3:Int)(x4:Bool)(a1:Int):eT prog (aIN m81) (bH L) f100 (aTV.enc ((x0,x1,x2,x3,x4),a1))=(aKe m81 L x0 x1 x2 x3 x4 a1).map aIb:=by
 rw[aVJ];simp only[aKe,aU,aS,aT,aD,aE]
theorem aVo (m81:(Int×Int)->Option Int)(h81:Sat prog cxT 81 (c81 m81))(m:(Bk×Int)->Option Int)(hm:∀ (x:(Bk×Int)) t,m x=some t->∃ L,aKe m81 L x.1.1 x.1.2.1 x.1.2.2.1 x.1.2.2.2.1 x.1.2.2.2.2 x.2=some t):Sat prog cxT 100 (aKz m):=
 dS bZ bV (by rfl) (fn:=f100) rfl aTV aIb aL9 m (aIN m81) (bN h81 bU) bP (λL x=>aKe m81 L x.1.1 x.1.2.1 x.1.2.2.1 x.1.2.2.2.1 x.1.2.2.2.2 x.2) (λL x=>aW8 m81 L x.1.1 x.1.2.1 x.1.2.2.1 x.1.2.2.2.1 x.1.2.2.2.2 x.2) hm aR3
def yL:Env cxT:={ Kc:=eF [],Kw:=eE [],lv:=λi=>if i=0 then[(0,[some 68]),(1,[]),(5,[])]else[],xv:=λi=>if i=0 then some [(0,[some 68]),(1,[])]else none }
def S27_0 (a0:LB)(a1:Int)(x0:LB)(x1 x2:Int):St cxT.ty:={ slots:=[(.inl (.inl (ls { own:=1,nm:=0,e:=68,o:=true,xs:=x0 }))),(.inl (.inl (lv (.int .i64 x1)))),aN,aN,aN,(.inl (.inl (lv (.int .i64 x2))))]++List.replicate 44 aN,D:=[],F:=[],ctr:=1,lo:=1 }
def X27_0 (a0:LB)(a1:Int)(x0:LB)(x1:Int):St cxT.ty:={ slots:=[(.inl (.inl (ls { own:=1,nm:=0,e:=68,o:=true,xs:=x0 }))),(.inl (.inl (lv (.int .i64 x1))))]++List.replicate 48 aN,D:=[],F:=[],ctr:=1,lo:=1 }
theorem i27 (L:Nat)(a0:LB)(a1:Int):wG prog yL (bH L) f27 1 (a27.enc (a0,a1))=
 cE prog yL L f27 0 [1,0,1,0,0] (cW (jZ prog f27 1) (cA prog yL L f27 [1,0,1] (jZ prog f27 1)).n (cA prog yL L f27 [1,0,1] (jZ prog f27 1)).x) L (S27_0 a0 a1 a0 a1 0):=by kernel_rfl
theorem aQ9 (L:Nat)(a0:LB)(a1:Int)(k:St cxT.ty->Option (List (A cxT.ty)))(xk:Nat->St cxT.ty->Option (List (A cxT.ty)))(g:St cxT.ty->Option (List (A cxT.ty)))(x1:LB)(x2 x0:Int):eW prog yL L f27 0 [1,0,1,0,0] (cW (jZ prog f27 1) k xk) g (S27_0 a0 a1 x1 x2 x0)=
 bif (decide (x0 < (x1.length:Int)))then bnd (List.set x1 x0.toNat (x2,((List.getD x1 x0.toNat ZB).2.1,((List.getD x1 x0.toNat ZB).2.2.1,((List.getD x1 x0.toNat ZB).2.2.2.1,(List.getD x1 x0.toNat ZB).2.2.2.2))))) λs1_0=>bnd (List.set s1_0 x0.toNat ((List.getD s1_0 x0.toNat ZB).1,((wrap .i64 (x2+1)),((List.getD s1_0 x0.toNat ZB).2.2.1,((List.getD s1_0 x0.toNat ZB).2.2.2.1,(List.getD s1_0 x0.toNat ZB).2.2.2.2))))) λs1_1=>bnd (List.set s1_1 x0.toNat ((List.getD s1_1 x0.toNat ZB).1,((List.getD s1_1 x0.toNat ZB).2.1,((wrap .i64 ((wrap .i64 (x2+1))+1)),((List.getD s1_1 x0.toNat ZB).2.2.2.1,(List.getD s1_1 x0.toNat ZB).2.2.2.2))))) λs1_2=>bnd (List.set s1_2 x0.toNat ((List.getD s1_2 x0.toNat ZB).1,((List.getD s1_2 x0.toNat ZB).2.1,((List.getD s1_2 x0.toNat ZB).2.2.1,((wrap .i64 ((wrap .i64 ((wrap .i64 (x2+1))+1))+1)),(List.getD s1_2 x0.toNat ZB).2.2.2.2))))) λs1_3=>bif ((decide (0<=x0))&&(decide (x0 < (x1.length:Int))))then bif ((decide (0<=x0))&&(decide (x0 < ((List.length s1_0):Int))))then bif ((decide (0<=x0))&&(decide (x0 < ((List.length s1_1):Int))))then bif ((decide (0<=x0))&&(decide (x0 < ((List.length s1_2):Int))))then bif ((decide (0<=x0))&&(decide (x0 < ((List.length s1_3):Int))))then g (S27_0 a0 a1 (List.set s1_3 x0.toNat ((List.getD s1_3 x0.toNat ZB).1,((List.getD s1_3 x0.toNat ZB).2.1,((List.getD s1_3 x0.toNat ZB).2.2.1,((List.getD s1_3 x0.toNat ZB).2.2.2.1,((Int.tmod (wrap .i64 ((wrap .i64 ((wrap .i64 ((wrap .i64 (x2+1))+1))+1))+1)) 3) == 0)))))) (wrap .i64 ((wrap .i64 ((wrap .i64 ((wrap .i64 ((wrap .i64 (x2+1))+1))+1))+1))+1)) (wrap .i64 (x0+1)))
      else none
     else none
    else none
   else none
  else none
 else k (X27_0 a0 a1 x1 x2):=by kernel_rfl
theorem aPA (L:Nat)(a0:LB)(a1:Int)(x0:LB)(x1:Int):(cA prog yL L f27 [1,0,1] (jZ prog f27 1)).n (X27_0 a0 a1 x0 x1)=
 some (n27 (x1,x0)):=by kernel_rfl
def pX (L:Nat)(a0:LB)(a1:Int):Nat->LB->Int->Int->(LB->Int->Option (Int×LB))->Option (Int×LB)
 | 0,_,_,_,_=>none
 | n+1,x1,x2,x0,k=>
  bif (decide (x0 < (x1.length:Int)))then bnd (List.set x1 x0.toNat (x2,((List.getD x1 x0.toNat ZB).2.1,((List.getD x1 x0.toNat ZB).2.2.1,((List.getD x1 x0.toNat ZB).2.2.2.1,(List.getD x1 x0.toNat ZB).2.2.2.2))))) λs2_0=>bnd (List.set s2_0 x0.toNat ((List.getD s2_0 x0.toNat ZB).1,((wrap .i64 (x2+1)),((List.getD s2_0 x0.toNat ZB).2.2.1,((List.getD s2_0 x0.toNat ZB).2.2.2.1,(List.getD s2_0 x0.toNat ZB).2.2.2.2))))) λs2_1=>bnd (List.set s2_1 x0.toNat ((List.getD s2_1 x0.toNat ZB).1,((List.getD s2_1 x0.toNat ZB).2.1,((wrap .i64 ((wrap .i64 (x2+1))+1)),((List.getD s2_1 x0.toNat ZB).2.2.2.1,(List.getD s2_1 x0.toNat ZB).2.2.2.2))))) λs2_2=>bnd (List.set s2_2 x0.toNat ((List.getD s2_2 x0.toNat ZB).1,((List.getD s2_2 x0.toNat ZB).2.1,((List.getD s2_2 x0.toNat ZB).2.2.1,((wrap .i64 ((wrap .i64 ((wrap .i64 (x2+1))+1))+1)),(List.getD s2_2 x0.toNat ZB).2.2.2.2))))) λs2_3=>bif ((decide (0<=x0))&&(decide (x0 < (x1.length:Int))))then bif ((decide (0<=x0))&&(decide (x0 < ((List.length s2_0):Int))))then bif ((decide (0<=x0))&&(decide (x0 < ((List.length s2_1):Int))))then bif ((decide (0<=x0))&&(decide (x0 < ((List.length s2_2):Int))))then bif ((decide (0<=x0))&&(decide (x0 < ((List.length s2_3):Int))))then pX L a0 a1 n (List.set s2_3 x0.toNat ((List.getD s2_3 x0.toNat ZB).1,((List.getD s2_3 x0.toNat ZB).2.1,((List.getD s2_3 x0.toNat ZB).2.2.1,((List.getD s2_3 x0.toNat ZB).2.2.2.1,((Int.tmod (wrap .i64 ((wrap .i64 ((wrap .i64 ((wrap .i64 (x2+1))+1))+1))+1)) 3) == 0)))))) (wrap .i64 ((wrap .i64 ((wrap .i64 ((wrap .i64 ((wrap .i64 (x2+1))+1))+1))+1))+1)) (wrap .i64 (x0+1)) k
       else none
      else none
     else none
    else none
   else none
  else k x1 x2
theorem aLS (L:Nat)(a0:LB)(a1:Int)(k:St cxT.ty->Option (List (A cxT.ty)))(xk:Nat->St cxT.ty->Option (List (A cxT.ty)))(k':LB->Int->Option (Int×LB))(hk:∀ (x3:LB) (x4:Int),k (X27_0 a0 a1 x3 x4)=(k' x3 x4).map n27):∀ (n:Nat) (x0:LB) (x1 x2:Int),cE prog yL L f27 0 [1,0,1,0,0] (cW (jZ prog f27 1) k xk) n (S27_0 a0 a1 x0 x1 x2)=(pX L a0 a1 n x0 x1 x2 k').map n27
 | 0,_,_,_=>rfl
 | n+1,x0,x1,x2=>by
  rw[cK,aQ9];have ih:=aLS L a0 a1 k xk k' hk n;simp only[pX,aU,aS,aT,aD,aE,ih,hk]
def g27 (L:Nat)(a0:LB)(a1:Int):Option (Int×LB):=
 pX L a0 a1 L a0 a1 0 (λ(x0:LB) (x1:Int)=>some (x1,x0))
theorem e27 (L:Nat)(a0:LB)(a1:Int):wG prog yL (bH L) f27 1 (a27.enc (a0,a1))=(g27 L a0 a1).map n27:=by
 let K'0:LB->Int->Option (Int×LB):=(λ(x3:LB) (x4:Int)=>some (x4,x3))
 have hin0:∀ (x0:LB) (x1 x2:Int),cE prog yL L f27 0 [1,0,1,0,0] (cW (jZ prog f27 1) (cA prog yL L f27 [1,0,1] (jZ prog f27 1)).n (cA prog yL L f27 [1,0,1] (jZ prog f27 1)).x) L (S27_0 a0 a1 x0 x1 x2)=(pX L a0 a1 L x0 x1 x2 K'0).map n27:=λx0 x1 x2=>aLS L a0 a1 _ _ K'0 (λx3 x4=>by rw[aPA];simp only[K'0,aU,aS,aT,aD,aE]) L x0 x1 x2
 rw[i27];simp only[g27,aU,aS,aT,aD,aE,hin0,K'0]
theorem s27 (m:(LB×Int)->Option (Int×LB))(hm:∀ (x:(LB×Int)) t,m x=some t->∃ L,g27 L x.1 x.2=some t):SatW prog cxT 27 (c27 m).nres (c27 m).n (c27 m).F:=
 aDA bZ bV (by rfl) (fn:=f27) rfl rfl a27 n27 aTc m yL bU bP (λL x=>g27 L x.1 x.2) (λL x=>e27 L x.1 x.2) hm aWG
def yH:Env cxT:={ Kc:=eF [],Kw:=eE [],lv:=λi=>if i=0 then[(0,[some 2]),(1,[]),(5,[])]else[],xv:=λi=>if i=0 then some [(0,[some 2]),(1,[])]else none }
def S68_0 (a0:LI)(a1:Int)(x0:LI)(x1 x2:Int):St cxT.ty:={ slots:=[(.inl (.inl (ls { own:=1,nm:=0,e:=2,o:=true,xs:=x0 }))),(.inl (.inl (lv (.int .i64 x1)))),aN,aN,aN,(.inl (.inl (lv (.int .i64 x2))))]++List.replicate 13 aN,D:=[],F:=[],ctr:=1,lo:=1 }
def X68_0 (a0:LI)(a1:Int)(x0:LI)(x1:Int):St cxT.ty:={ slots:=[(.inl (.inl (ls { own:=1,nm:=0,e:=2,o:=true,xs:=x0 }))),(.inl (.inl (lv (.int .i64 x1))))]++List.replicate 17 aN,D:=[],F:=[],ctr:=1,lo:=1 }
theorem i68 (L:Nat)(a0:LI)(a1:Int):wG prog yH (bH L) f68 1 (a68.enc (a0,a1))=
 cE prog yH L f68 0 [1,0,1,0,0] (cW (jZ prog f68 1) (cA prog yH L f68 [1,0,1] (jZ prog f68 1)).n (cA prog yH L f68 [1,0,1] (jZ prog f68 1)).x) L (S68_0 a0 a1 a0 a1 0):=by kernel_rfl
theorem aQZ (L:Nat)(a0:LI)(a1:Int)(k:St cxT.ty->Option (List (A cxT.ty)))(xk:Nat->St cxT.ty->Option (List (A cxT.ty)))(g:St cxT.ty->Option (List (A cxT.ty)))(x1:LI)(x2 x0:Int):eW prog yH L f68 0 [1,0,1,0,0] (cW (jZ prog f68 1) k xk) g (S68_0 a0 a1 x1 x2 x0)=
 bif (decide (x0 < (x1.length:Int)))then bif ((decide (0<=x0))&&(decide (x0 < (x1.length:Int))))then g (S68_0 a0 a1 (List.set x1 x0.toNat x2) (wrap .i64 (x2+1)) (wrap .i64 (x0+1)))
  else none
 else k (X68_0 a0 a1 x1 x2):=by kernel_rfl
theorem aPq (L:Nat)(a0:LI)(a1:Int)(x0:LI)(x1:Int):(cA prog yH L f68 [1,0,1] (jZ prog f68 1)).n (X68_0 a0 a1 x0 x1)=
 some (n68 (x1,x0)):=by kernel_rfl
def pW (L:Nat)(a0:LI)(a1:Int):Nat->LI->Int->Int->(LI->Int->Option (Int×LI))->Option (Int×LI)
 | 0,_,_,_,_=>none
 | n+1,x1,x2,x0,k=>
  bif (decide (x0 < (x1.length:Int)))then bif ((decide (0<=x0))&&(decide (x0 < (x1.length:Int))))then pW L a0 a1 n (List.set x1 x0.toNat x2) (wrap .i64 (x2+1)) (wrap .i64 (x0+1)) k
   else none
  else k x1 x2
theorem aLI (L:Nat)(a0:LI)(a1:Int)(k:St cxT.ty->Option (List (A cxT.ty)))(xk:Nat->St cxT.ty->Option (List (A cxT.ty)))(k':LI->Int->Option (Int×LI))(hk:∀ (x3:LI) (x4:Int),k (X68_0 a0 a1 x3 x4)=(k' x3 x4).map n68):∀ (n:Nat) (x0:LI) (x1 x2:Int),cE prog yH L f68 0 [1,0,1,0,0] (cW (jZ prog f68 1) k xk) n (S68_0 a0 a1 x0 x1 x2)=(pW L a0 a1 n x0 x1 x2 k').map n68
 | 0,_,_,_=>rfl
 | n+1,x0,x1,x2=>by
  rw[cK,aQZ];have ih:=aLI L a0 a1 k xk k' hk n;simp only[pW,aU,aS,aT,aD,aE,ih,hk]
def g68 (L:Nat)(a0:LI)(a1:Int):Option (Int×LI):=
 pW L a0 a1 L a0 a1 0 (λ(x0:LI) (x1:Int)=>some (x1,x0))
theorem e68 (L:Nat)(a0:LI)(a1:Int):wG prog yH (bH L) f68 1 (a68.enc (a0,a1))=(g68 L a0 a1).map n68:=by
 let K'0:LI->Int->Option (Int×LI):=(λ(x3:LI) (x4:Int)=>some (x4,x3))
 have hin0:∀ (x0:LI) (x1 x2:Int),cE prog yH L f68 0 [1,0,1,0,0] (cW (jZ prog f68 1) (cA prog yH L f68 [1,0,1] (jZ prog f68 1)).n (cA prog yH L f68 [1,0,1] (jZ prog f68 1)).x) L (S68_0 a0 a1 x0 x1 x2)=(pW L a0 a1 L x0 x1 x2 K'0).map n68:=λx0 x1 x2=>aLI L a0 a1 _ _ K'0 (λx3 x4=>by rw[aPq];simp only[K'0,aU,aS,aT,aD,aE]) L x0 x1 x2
 rw[i68];simp only[g68,aU,aS,aT,aD,aE,hin0,K'0]
theorem s68 (m:(LI×Int)->Option (Int×LI))(hm:∀ (x:(LI×Int)) t,m x=some t->∃ L,g68 L x.1 x.2=some t):SatW prog cxT 68 (c68 m).nres (c68 m).n (c68 m).F:=
 aDA bZ bV (by rfl) (fn:=f68) rfl rfl a68 n68 aSF m yH bU bP (λL x=>g68 L x.1 x.2) (λL x=>e68 L x.1 x.2) hm aV7
def yK (mU:(LI×Int)->Option (Int×LI)):Env cxT:={ Kc:=eF [],Kw:=eE [(68,{ c68 mU with p:=5 })],lv:=λi=>if i=0 then[(0,[some 76]),(1,[]),(5,[])]else[],xv:=λi=>if i=0 then some [(0,[some 76]),(1,[])]else none }
def S28_0 (a0:LV)(a1:Int)(x0:LV)(x1 x2:Int):St cxT.ty:={ slots:=[(.inl (.inl (ls { own:=1,nm:=0,e:=76,o:=true,xs:=x0 }))),(.inl (.inl (lv (.int .i64 x1)))),aN,aN,aN,(.inl (.inl (lv (.int .i64 x2))))]++List.replicate 35 aN,D:=[],F:=[],ctr:=1,lo:=1 }
def X28_0 (a0:LV)(a1:Int)(x0:LV)(x1:Int):St cxT.ty:={ slots:=[(.inl (.inl (ls { own:=1,nm:=0,e:=76,o:=true,xs:=x0 }))),(.inl (.inl (lv (.int .i64 x1))))]++List.replicate 39 aN,D:=[],F:=[],ctr:=1,lo:=1 }
theorem i28 (mU:(LI×Int)->Option (Int×LI))(L:Nat)(a0:LV)(a1:Int):wG prog (yK mU) (bH L) f28 1 (a28.enc (a0,a1))=
 cE prog (yK mU) L f28 0 [1,0,1,0,0] (cW (jZ prog f28 1) (cA prog (yK mU) L f28 [1,0,1] (jZ prog f28 1)).n (cA prog (yK mU) L f28 [1,0,1] (jZ prog f28 1)).x) L (S28_0 a0 a1 a0 a1 0):=by kernel_rfl
theorem aQ8 (mU:(LI×Int)->Option (Int×LI))(L:Nat)(a0:LV)(a1:Int)(k:St cxT.ty->Option (List (A cxT.ty)))(xk:Nat->St cxT.ty->Option (List (A cxT.ty)))(g:St cxT.ty->Option (List (A cxT.ty)))(x1:LV)(x2 x0:Int):eW prog (yK mU) L f28 0 [1,0,1,0,0] (cW (jZ prog f28 1) k xk) g (S28_0 a0 a1 x1 x2 x0)=
 bif (decide (x0 < (x1.length:Int)))then bnd (List.set x1 x0.toNat (x2,((List.getD x1 x0.toNat ZV).2.1,((List.getD x1 x0.toNat ZV).2.2.1,(List.getD x1 x0.toNat ZV).2.2.2)))) λs1_0=>bnd (List.set s1_0 x0.toNat ((List.getD s1_0 x0.toNat ZV).1,((wrap .i64 (x2+1)),((List.getD s1_0 x0.toNat ZV).2.2.1,(List.getD s1_0 x0.toNat ZV).2.2.2)))) λs1_1=>bnd (List.set s1_1 x0.toNat ((List.getD s1_1 x0.toNat ZV).1,((List.getD s1_1 x0.toNat ZV).2.1,((wrap .i64 ((wrap .i64 (x2+1))+1)),(List.getD s1_1 x0.toNat ZV).2.2.2)))) λs1_2=>bif ((decide (0<=x0))&&(decide (x0 < (x1.length:Int))))then bif ((decide (0<=x0))&&(decide (x0 < ((List.length s1_0):Int))))then bif ((decide (0<=x0))&&(decide (x0 < ((List.length s1_1):Int))))then bif ((decide (0<=x0))&&(decide (x0 < ((List.length s1_2):Int))))then cZ (mU ((List.getD s1_2 x0.toNat ZV).2.2.2,(wrap .i64 ((wrap .i64 ((wrap .i64 (x2+1))+1))+1)))) (0,[]) λ(q6:(Int×LI))=>g (S28_0 a0 a1 (List.set s1_2 x0.toNat ((List.getD s1_2 x0.toNat ZV).1,((List.getD s1_2 x0.toNat ZV).2.1,((List.getD s1_2 x0.toNat ZV).2.2.1,q6.2)))) q6.1 (wrap .i64 (x0+1)))
     else none
    else none
   else none
  else none
 else k (X28_0 a0 a1 x1 x2):=by kernel_rfl
theorem aPz (mU:(LI×Int)->Option (Int×LI))(L:Nat)(a0:LV)(a1:Int)(x0:LV)(x1:Int):(cA prog (yK mU) L f28 [1,0,1] (jZ prog f28 1)).n (X28_0 a0 a1 x0 x1)=
 some (n28 (x1,x0)):=by kernel_rfl
def nO (mU:(LI×Int)->Option (Int×LI))(L:Nat)(a0:LV)(a1:Int):Nat->LV->Int->Int->(LV->Int->Option (Int×LV))->Option (Int×LV)
 | 0,_,_,_,_=>none
 | n+1,x1,x2,x0,k=>
  bif (decide (x0 < (x1.length:Int)))then bnd (List.set x1 x0.toNat (x2,((List.getD x1 x0.toNat ZV).2.1,((List.getD x1 x0.toNat ZV).2.2.1,(List.getD x1 x0.toNat ZV).2.2.2)))) λs2_0=>bnd (List.set s2_0 x0.toNat ((List.getD s2_0 x0.toNat ZV).1,((wrap .i64 (x2+1)),((List.getD s2_0 x0.toNat ZV).2.2.1,(List.getD s2_0 x0.toNat ZV).2.2.2)))) λs2_1=>bnd (List.set s2_1 x0.toNat ((List.getD s2_1 x0.toNat ZV).1,((List.getD s2_1 x0.toNat ZV).2.1,((wrap .i64 ((wrap .i64 (x2+1))+1)),(List.getD s2_1 x0.toNat ZV).2.2.2)))) λs2_2=>bif ((decide (0<=x0))&&(decide (x0 < (x1.length:Int))))then bif ((decide (0<=x0))&&(decide (x0 < ((List.length s2_0):Int))))then bif ((decide (0<=x0))&&(decide (x0 < ((List.length s2_1):Int))))then bif ((decide (0<=x0))&&(decide (x0 < ((List.length s2_2):Int))))then cZ (mU ((List.getD s2_2 x0.toNat ZV).2.2.2,(wrap .i64 ((wrap .i64 ((wrap .i64 (x2+1))+1))+1)))) (0,[]) λ(q7:(Int×LI))=>nO mU L a0 a1 n (List.set s2_2 x0.toNat ((List.getD s2_2 x0.toNat ZV).1,((List.getD s2_2 x0.toNat ZV).2.1,((List.getD s2_2 x0.toNat ZV).2.2.1,q7.2)))) q7.1 (wrap .i64 (x0+1)) k
      else none
     else none
    else none
   else none
  else k x1 x2
theorem aLR (mU:(LI×Int)->Option (Int×LI))(L:Nat)(a0:LV)(a1:Int)(k:St cxT.ty->Option (List (A cxT.ty)))(xk:Nat->St cxT.ty->Option (List (A cxT.ty)))(k':LV->Int->Option (Int×LV))(hk:∀ (x3:LV) (x4:Int),k (X28_0 a0 a1 x3 x4)=(k' x3 x4).map n28):∀ (n:Nat) (x0:LV) (x1 x2:Int),cE prog (yK mU) L f28 0 [1,0,1,0,0] (cW (jZ prog f28 1) k xk) n (S28_0 a0 a1 x0 x1 x2)=(nO mU L a0 a1 n x0 x1 x2 k').map n28
 | 0,_,_,_=>rfl
 | n+1,x0,x1,x2=>by
  rw[cK,aQ8];have ih:=aLR mU L a0 a1 k xk k' hk n;simp only[nO,aU,aS,aT,aD,aE,ih,hk]
def g28 (mU:(LI×Int)->Option (Int×LI))(L:Nat)(a0:LV)(a1:Int):Option (Int×LV):=
 nO mU L a0 a1 L a0 a1 0 (λ(x0:LV) (x1:Int)=>some (x1,x0))
theorem e28 (mU:(LI×Int)->Option (Int×LI))(L:Nat)(a0:LV)(a1:Int):wG prog (yK mU) (bH L) f28 1 (a28.enc (a0,a1))=(g28 mU L a0 a1).map n28:=by
 let K'0:LV->Int->Option (Int×LV):=(λ(x3:LV) (x4:Int)=>some (x4,x3))
 have hin0:∀ (x0:LV) (x1 x2:Int),cE prog (yK mU) L f28 0 [1,0,1,0,0] (cW (jZ prog f28 1) (cA prog (yK mU) L f28 [1,0,1] (jZ prog f28 1)).n (cA prog (yK mU) L f28 [1,0,1] (jZ prog f28 1)).x) L (S28_0 a0 a1 x0 x1 x2)=(nO mU L a0 a1 L x0 x1 x2 K'0).map n28:=λx0 x1 x2=>aLR mU L a0 a1 _ _ K'0 (λx3 x4=>by rw[aPz];simp only[K'0,aU,aS,aT,aD,aE]) L x0 x1 x2
 rw[i28];simp only[g28,aU,aS,aT,aD,aE,hin0,K'0]
theorem s28 (mU:(LI×Int)->Option (Int×LI))(h68:SatW prog cxT 68 (c68 mU).nres (c68 mU).n (c68 mU).F)(m:(LV×Int)->Option (Int×LV))(hm:∀ (x:(LV×Int)) t,m x=some t->∃ L,g28 mU L x.1 x.2=some t):SatW prog cxT 28 (c28 m).nres (c28 m).n (c28 m).F:=
 aDA bZ bV (by rfl) (fn:=f28) rfl rfl a28 n28 aTb m (yK mU) bU (iP h68 bP) (λL x=>g28 mU L x.1 x.2) (λL x=>e28 mU L x.1 x.2) hm aWF
def aNG (vO:(LB×Int)->Option (Int×LB))(vN:(LV×Int)->Option (Int×LV)):Env cxT:={ Kc:=eF [],Kw:=eE [(27,c27 vO),(28,c28 vN)],lv:=λi=>[],xv:=λi=>none }
theorem i11 (vO:(LB×Int)->Option (Int×LB))(vN:(LV×Int)->Option (Int×LV))(L:Nat)(x0:Int)(x1:LB)(x2:LV)(a1:Int):wG prog (aNG vO vN) (bH L) f11 1 (a11.enc ((x0,x1,x2),a1))=
 cZ (vO (x1,a1)) (0,[]) λ(q1:(Int×LB))=>cZ (vN (x2,q1.1)) (0,[]) λ(q2:(Int×LV))=>some (n11 (q2.1,x0,q1.2,q2.2)):=by kernel_rfl
def g11 (vO:(LB×Int)->Option (Int×LB))(vN:(LV×Int)->Option (Int×LV))(L:Nat)(x0:Int)(x1:LB)(x2:LV)(a1:Int):Option CR:=
 cZ (vO (x1,a1)) (0,[]) λ(q1:(Int×LB))=>cZ (vN (x2,q1.1)) (0,[]) λ(q2:(Int×LV))=>some (q2.1,x0,q1.2,q2.2)
theorem e11 (vO:(LB×Int)->Option (Int×LB))(vN:(LV×Int)->Option (Int×LV))(L:Nat)(x0:Int)(x1:LB)(x2:LV)(a1:Int):wG prog (aNG vO vN) (bH L) f11 1 (a11.enc ((x0,x1,x2),a1))=(g11 vO vN L x0 x1 x2 a1).map n11:=by
 rw[i11];simp only[g11,aU,aS,aT,aD,aE]
theorem s11 (vO:(LB×Int)->Option (Int×LB))(vN:(LV×Int)->Option (Int×LV))(h27:SatW prog cxT 27 (c27 vO).nres (c27 vO).n (c27 vO).F)(h28:SatW prog cxT 28 (c28 vN).nres (c28 vN).n (c28 vN).F)(m:(CZ×Int)->Option CR)(hm:∀ (x:(CZ×Int)) t,m x=some t->∃ L,g11 vO vN L x.1.1 x.1.2.1 x.1.2.2 x.2=some t):SatW prog cxT 11 (c11 m).nres (c11 m).n (c11 m).F:=
 aDA bZ bV (by rfl) (fn:=f11) rfl rfl a11 n11 aTn m (aNG vO vN) bU (iP h27 (iP h28 bP)) (λL x=>g11 vO vN L x.1.1 x.1.2.1 x.1.2.2 x.2) (λL x=>e11 vO vN L x.1.1 x.1.2.1 x.1.2.2 x.2) hm aWT
def aNF (mV:(CZ×Int)->Option CR):Env cxT:={ Kc:=eF [],Kw:=eE [(11,c11 mV)],lv:=λi=>[],xv:=λi=>none }
theorem i12 (mV:(CZ×Int)->Option CR)(L:Nat)(x1 x0:Int)(x2:LB)(x3:LV)(a1:Int):wG prog (aNF mV) (bH L) f12 1 (a12.enc ((x1,x0,x2,x3),a1))=
 cZ (mV ((x0,(x2,x3)),a1)) (0,0,[],[]) λ(q1:CR)=>some (n12 (q1.1,x1,x0,q1.2.2.1,q1.2.2.2)):=by kernel_rfl
def g12 (mV:(CZ×Int)->Option CR)(L:Nat)(x1 x0:Int)(x2:LB)(x3:LV)(a1:Int):Option (Int×Int×Int×LB×LV):=
 cZ (mV ((x0,(x2,x3)),a1)) (0,0,[],[]) λ(q1:CR)=>some (q1.1,x1,x0,q1.2.2.1,q1.2.2.2)
theorem e12 (mV:(CZ×Int)->Option CR)(L:Nat)(x0 x1:Int)(x2:LB)(x3:LV)(a1:Int):wG prog (aNF mV) (bH L) f12 1 (a12.enc ((x0,x1,x2,x3),a1))=(g12 mV L x0 x1 x2 x3 a1).map n12:=by
 rw[i12];simp only[g12,aU,aS,aT,aD,aE]
theorem s12 (mV:(CZ×Int)->Option CR)(h11:SatW prog cxT 11 (c11 mV).nres (c11 mV).n (c11 mV).F)(m:(CR×Int)->Option (Int×Int×Int×LB×LV))(hm:∀ (x:(CR×Int)) t,m x=some t->∃ L,g12 mV L x.1.1 x.1.2.1 x.1.2.2.1 x.1.2.2.2 x.2=some t):SatW prog cxT 12 (c12 m).nres (c12 m).n (c12 m).F:=
 aDA bZ bV (by rfl) (fn:=f12) rfl rfl a12 n12 aTm m (aNF mV) bU (iP h11 bP) (λL x=>g12 mV L x.1.1 x.1.2.1 x.1.2.2.1 x.1.2.2.2 x.2) (λL x=>e12 mV L x.1.1 x.1.2.1 x.1.2.2.1 x.1.2.2.2 x.2) hm aWS
def yG:Env cxT:={ Kc:=eF [],Kw:=eE [],lv:=λi=>if i=0 then[(0,[some 68]),(1,[]),(5,[])]else[],xv:=λi=>if i=0 then some [(1,[])]else none }
def S69_0 (a0:LB)(a1 x0 x1:Int):St cxT.ty:={ slots:=[(.inl (.inl (ls { own:=0,nm:=0,e:=68,o:=false,xs:=a0 }))),(.inl (.inl (lv (.int .i64 x0)))),aN,aN,aN,(.inl (.inl (lv (.int .i64 x1))))]++List.replicate 54 aN,D:=[],F:=[],ctr:=1 }
def X69_0 (a0:LB)(a1 x0:Int):St cxT.ty:={ slots:=[aN,(.inl (.inl (lv (.int .i64 x0))))]++List.replicate 58 aN,D:=[],F:=[],ctr:=1 }
theorem i69 (L:Nat)(a0:LB)(a1:Int):eT prog yG (bH L) f69 (a69.enc (a0,a1))=
 cE prog yG L f69 0 [1,0,1,0,0] (cW (bI prog f69) (cA prog yG L f69 [1,0,1] (bI prog f69)).n (cA prog yG L f69 [1,0,1] (bI prog f69)).x) L (S69_0 a0 a1 a1 0):=by kernel_rfl
theorem aQY (L:Nat)(a0:LB)(a1:Int)(k:KT)(xk:Nat->KT)(g:KT)(x1 x0:Int):eW prog yG L f69 0 [1,0,1,0,0] (cW (bI prog f69) k xk) g (S69_0 a0 a1 x1 x0)=
 bif (decide (x0 < (a0.length:Int)))then bif ((decide (0<=x0))&&(decide (x0 < (a0.length:Int))))then bif ((List.getD a0 x0.toNat ZB).1 != x1)then some (n69 (-1))
   else bif ((decide (0<=x0))&&(decide (x0 < (a0.length:Int))))then bif ((List.getD a0 x0.toNat ZB).2.1 != (wrap .i64 (x1+1)))then some (n69 (-1))
    else bif ((decide (0<=x0))&&(decide (x0 < (a0.length:Int))))then bif ((List.getD a0 x0.toNat ZB).2.2.1 != (wrap .i64 ((wrap .i64 (x1+1))+1)))then some (n69 (-1))
     else bif ((decide (0<=x0))&&(decide (x0 < (a0.length:Int))))then bif ((List.getD a0 x0.toNat ZB).2.2.2.1 != (wrap .i64 ((wrap .i64 ((wrap .i64 (x1+1))+1))+1)))then some (n69 (-1))
      else bif ((decide (0<=x0))&&(decide (x0 < (a0.length:Int))))then bif (!((List.getD a0 x0.toNat ZB).2.2.2.2 == ((Int.tmod (wrap .i64 ((wrap .i64 ((wrap .i64 ((wrap .i64 (x1+1))+1))+1))+1)) 3) == 0)))then some (n69 (-1))
       else g (S69_0 a0 a1 (wrap .i64 ((wrap .i64 ((wrap .i64 ((wrap .i64 ((wrap .i64 (x1+1))+1))+1))+1))+1)) (wrap .i64 (x0+1)))
      else none
     else none
    else none
   else none
  else none
 else k (X69_0 a0 a1 x1):=by kernel_rfl
theorem aPp (L:Nat)(a0:LB)(a1 x0:Int):(cA prog yG L f69 [1,0,1] (bI prog f69)).n (X69_0 a0 a1 x0)=
 some (n69 x0):=by kernel_rfl
def sX (L:Nat)(a0:LB)(a1:Int):Nat->Int->Int->(Int->Option Int)->Option Int
 | 0,_,_,_=>none
 | n+1,x1,x0,k=>
  bif (decide (x0 < (a0.length:Int)))then bif ((decide (0<=x0))&&(decide (x0 < (a0.length:Int))))then bif ((List.getD a0 x0.toNat ZB).1 != x1)then some (-1)
    else bif ((decide (0<=x0))&&(decide (x0 < (a0.length:Int))))then bif ((List.getD a0 x0.toNat ZB).2.1 != (wrap .i64 (x1+1)))then some (-1)
     else bif ((decide (0<=x0))&&(decide (x0 < (a0.length:Int))))then bif ((List.getD a0 x0.toNat ZB).2.2.1 != (wrap .i64 ((wrap .i64 (x1+1))+1)))then some (-1)
      else bif ((decide (0<=x0))&&(decide (x0 < (a0.length:Int))))then bif ((List.getD a0 x0.toNat ZB).2.2.2.1 != (wrap .i64 ((wrap .i64 ((wrap .i64 (x1+1))+1))+1)))then some (-1)
       else bif ((decide (0<=x0))&&(decide (x0 < (a0.length:Int))))then bif (!((List.getD a0 x0.toNat ZB).2.2.2.2 == ((Int.tmod (wrap .i64 ((wrap .i64 ((wrap .i64 ((wrap .i64 (x1+1))+1))+1))+1)) 3) == 0)))then some (-1)
        else sX L a0 a1 n (wrap .i64 ((wrap .i64 ((wrap .i64 ((wrap .i64 ((wrap .i64 (x1+1))+1))+1))+1))+1)) (wrap .i64 (x0+1)) k
       else none
      else none
     else none
    else none
   else none
  else k x1
theorem aLH (L:Nat)(a0:LB)(a1:Int)(k:KT)(xk:Nat->KT)(k':Int->Option Int)(hk:∀ (x2:Int),k (X69_0 a0 a1 x2)=(k' x2).map n69):∀ (n:Nat) (x0 x1:Int),cE prog yG L f69 0 [1,0,1,0,0] (cW (bI prog f69) k xk) n (S69_0 a0 a1 x0 x1)=(sX L a0 a1 n x0 x1 k').map n69
 | 0,_,_=>rfl
 | n+1,x0,x1=>by
  rw[cK,aQY];have ih:=aLH L a0 a1 k xk k' hk n;simp only[sX,aU,aS,aT,aD,aE,ih,hk]
def g69 (L:Nat)(a0:LB)(a1:Int):Option Int:=
 sX L a0 a1 L a1 0 (λ(x0:Int)=>some x0)
theorem e69 (L:Nat)(a0:LB)(a1:Int):eT prog yG (bH L) f69 (a69.enc (a0,a1))=(g69 L a0 a1).map n69:=by
 let K'0:Int->Option Int:=(λ(x2:Int)=>some x2)
 have hin0:∀ (x0 x1:Int),cE prog yG L f69 0 [1,0,1,0,0] (cW (bI prog f69) (cA prog yG L f69 [1,0,1] (bI prog f69)).n (cA prog yG L f69 [1,0,1] (bI prog f69)).x) L (S69_0 a0 a1 x0 x1)=(sX L a0 a1 L x0 x1 K'0).map n69:=λx0 x1=>aLH L a0 a1 _ _ K'0 (λx2=>by rw[aPp];simp only[K'0,aU,aS,aT,aD,aE]) L x0 x1
 rw[i69];simp only[g69,aU,aS,aT,aD,aE,hin0,K'0]
theorem s69 (m:(LB×Int)->Option Int)(hm:∀ (x:(LB×Int)) t,m x=some t->∃ L,g69 L x.1 x.2=some t):Sat prog cxT 69 (c69 m):=
 dS bZ bV (by rfl) (fn:=f69) rfl a69 n69 aSE m yG bU bP (λL x=>g69 L x.1 x.2) (λL x=>e69 L x.1 x.2) hm aV6
def xV:Env cxT:={ Kc:=eF [],Kw:=eE [],lv:=λi=>if i=0 then[(0,[some 2]),(1,[]),(5,[])]else[],xv:=λi=>if i=0 then some [(1,[])]else none }
def S97_0 (a0:LI)(a1 x0 x1:Int):St cxT.ty:={ slots:=[(.inl (.inl (ls { own:=0,nm:=0,e:=2,o:=false,xs:=a0 }))),(.inl (.inl (lv (.int .i64 x0)))),aN,aN,aN,(.inl (.inl (lv (.int .i64 x1))))]++List.replicate 15 aN,D:=[],F:=[],ctr:=1 }
def X97_0 (a0:LI)(a1 x0:Int):St cxT.ty:={ slots:=[aN,(.inl (.inl (lv (.int .i64 x0))))]++List.replicate 19 aN,D:=[],F:=[],ctr:=1 }
theorem i97 (L:Nat)(a0:LI)(a1:Int):eT prog xV (bH L) f97 (a97.enc (a0,a1))=
 cE prog xV L f97 0 [1,0,1,0,0] (cW (bI prog f97) (cA prog xV L f97 [1,0,1] (bI prog f97)).n (cA prog xV L f97 [1,0,1] (bI prog f97)).x) L (S97_0 a0 a1 a1 0):=by kernel_rfl
theorem aQN (L:Nat)(a0:LI)(a1:Int)(k:KT)(xk:Nat->KT)(g:KT)(x1 x0:Int):eW prog xV L f97 0 [1,0,1,0,0] (cW (bI prog f97) k xk) g (S97_0 a0 a1 x1 x0)=
 bif (decide (x0 < (a0.length:Int)))then bif ((decide (0<=x0))&&(decide (x0 < (a0.length:Int))))then bif ((List.getD a0 x0.toNat 0) != x1)then some (n97 (-1))
   else g (S97_0 a0 a1 (wrap .i64 (x1+1)) (wrap .i64 (x0+1)))
  else none
 else k (X97_0 a0 a1 x1):=by kernel_rfl
theorem aPe (L:Nat)(a0:LI)(a1 x0:Int):(cA prog xV L f97 [1,0,1] (bI prog f97)).n (X97_0 a0 a1 x0)=
 some (n97 x0):=by kernel_rfl
def sV (L:Nat)(a0:LI)(a1:Int):Nat->Int->Int->(Int->Option Int)->Option Int
 | 0,_,_,_=>none
 | n+1,x1,x0,k=>
  bif (decide (x0 < (a0.length:Int)))then bif ((decide (0<=x0))&&(decide (x0 < (a0.length:Int))))then bif ((List.getD a0 x0.toNat 0) != x1)then some (-1)
    else sV L a0 a1 n (wrap .i64 (x1+1)) (wrap .i64 (x0+1)) k
   else none
  else k x1
theorem aLw (L:Nat)(a0:LI)(a1:Int)(k:KT)(xk:Nat->KT)(k':Int->Option Int)(hk:∀ (x2:Int),k (X97_0 a0 a1 x2)=(k' x2).map n97):∀ (n:Nat) (x0 x1:Int),cE prog xV L f97 0 [1,0,1,0,0] (cW (bI prog f97) k xk) n (S97_0 a0 a1 x0 x1)=(sV L a0 a1 n x0 x1 k').map n97
 | 0,_,_=>rfl
 | n+1,x0,x1=>by
  rw[cK,aQN];have ih:=aLw L a0 a1 k xk k' hk n;simp only[sV,aU,aS,aT,aD,aE,ih,hk]
def g97 (L:Nat)(a0:LI)(a1:Int):Option Int:=
 sV L a0 a1 L a1 0 (λ(x0:Int)=>some x0)
theorem e97 (L:Nat)(a0:LI)(a1:Int):eT prog xV (bH L) f97 (a97.enc (a0,a1))=(g97 L a0 a1).map n97:=by
 let K'0:Int->Option Int:=(λ(x2:Int)=>some x2)
 have hin0:∀ (x0 x1:Int),cE prog xV L f97 0 [1,0,1,0,0] (cW (bI prog f97) (cA prog xV L f97 [1,0,1] (bI prog f97)).n (cA prog xV L f97 [1,0,1] (bI prog f97)).x) L (S97_0 a0 a1 x0 x1)=(sV L a0 a1 L x0 x1 K'0).map n97:=λx0 x1=>aLw L a0 a1 _ _ K'0 (λx2=>by rw[aPe];simp only[K'0,aU,aS,aT,aD,aE]) L x0 x1
 rw[i97];simp only[g97,aU,aS,aT,aD,aE,hin0,K'0]
theorem s97 (m:(LI×Int)->Option Int)(hm:∀ (x:(LI×Int)) t,m x=some t->∃ L,g97 L x.1 x.2=some t):Sat prog cxT 97 (c97 m):=
 dS bZ bV (by rfl) (fn:=f97) rfl a97 n97 aSt m xV bU bP (λL x=>g97 L x.1 x.2) (λL x=>e97 L x.1 x.2) hm aVP
def yF (nZ:(LI×Int)->Option Int):Env cxT:={ Kc:=eF [(97,c97 nZ)],Kw:=eE [],lv:=λi=>if i=0 then[(0,[some 76]),(1,[]),(5,[])]else[],xv:=λi=>if i=0 then some [(1,[])]else none }
def S70_0 (a0:LV)(a1 x0 x1:Int):St cxT.ty:={ slots:=[(.inl (.inl (ls { own:=0,nm:=0,e:=76,o:=false,xs:=a0 }))),(.inl (.inl (lv (.int .i64 x0)))),aN,aN,aN,(.inl (.inl (lv (.int .i64 x1))))]++List.replicate 43 aN,D:=[],F:=[],ctr:=1 }
def X70_0 (a0:LV)(a1 x0:Int):St cxT.ty:={ slots:=[aN,(.inl (.inl (lv (.int .i64 x0))))]++List.replicate 47 aN,D:=[],F:=[],ctr:=1 }
theorem i70 (nZ:(LI×Int)->Option Int)(L:Nat)(a0:LV)(a1:Int):eT prog (yF nZ) (bH L) f70 (a70.enc (a0,a1))=
 cE prog (yF nZ) L f70 0 [1,0,1,0,0] (cW (bI prog f70) (cA prog (yF nZ) L f70 [1,0,1] (bI prog f70)).n (cA prog (yF nZ) L f70 [1,0,1] (bI prog f70)).x) L (S70_0 a0 a1 a1 0):=by kernel_rfl
theorem aQX (nZ:(LI×Int)->Option Int)(L:Nat)(a0:LV)(a1:Int)(k:KT)(xk:Nat->KT)(g:KT)(x1 x0:Int):eW prog (yF nZ) L f70 0 [1,0,1,0,0] (cW (bI prog f70) k xk) g (S70_0 a0 a1 x1 x0)=
 bif (decide (x0 < (a0.length:Int)))then bif ((decide (0<=x0))&&(decide (x0 < (a0.length:Int))))then bif ((List.getD a0 x0.toNat ZV).1 != x1)then some (n70 (-1))
   else bif ((decide (0<=x0))&&(decide (x0 < (a0.length:Int))))then bif ((List.getD a0 x0.toNat ZV).2.1 != (wrap .i64 (x1+1)))then some (n70 (-1))
    else bif ((decide (0<=x0))&&(decide (x0 < (a0.length:Int))))then bif ((List.getD a0 x0.toNat ZV).2.2.1 != (wrap .i64 ((wrap .i64 (x1+1))+1)))then some (n70 (-1))
     else bif ((decide (0<=x0))&&(decide (x0 < (a0.length:Int))))then cZ (nZ ((List.getD a0 x0.toNat ZV).2.2.2,(wrap .i64 ((wrap .i64 ((wrap .i64 (x1+1))+1))+1)))) 0 λ(q6:Int)=>bif (decide (q6 < 0))then some (n70 (-1))
       else g (S70_0 a0 a1 q6 (wrap .i64 (x0+1)))
     else none
    else none
   else none
  else none
 else k (X70_0 a0 a1 x1):=by kernel_rfl
theorem aPo (nZ:(LI×Int)->Option Int)(L:Nat)(a0:LV)(a1 x0:Int):(cA prog (yF nZ) L f70 [1,0,1] (bI prog f70)).n (X70_0 a0 a1 x0)=
 some (n70 x0):=by kernel_rfl
def sW (nZ:(LI×Int)->Option Int)(L:Nat)(a0:LV)(a1:Int):Nat->Int->Int->(Int->Option Int)->Option Int
 | 0,_,_,_=>none
 | n+1,x1,x0,k=>
  bif (decide (x0 < (a0.length:Int)))then bif ((decide (0<=x0))&&(decide (x0 < (a0.length:Int))))then bif ((List.getD a0 x0.toNat ZV).1 != x1)then some (-1)
    else bif ((decide (0<=x0))&&(decide (x0 < (a0.length:Int))))then bif ((List.getD a0 x0.toNat ZV).2.1 != (wrap .i64 (x1+1)))then some (-1)
     else bif ((decide (0<=x0))&&(decide (x0 < (a0.length:Int))))then bif ((List.getD a0 x0.toNat ZV).2.2.1 != (wrap .i64 ((wrap .i64 (x1+1))+1)))then some (-1)
      else bif ((decide (0<=x0))&&(decide (x0 < (a0.length:Int))))then cZ (nZ ((List.getD a0 x0.toNat ZV).2.2.2,(wrap .i64 ((wrap .i64 ((wrap .i64 (x1+1))+1))+1)))) 0 λ(q7:Int)=>bif (decide (q7 < 0))then some (-1)
        else sW nZ L a0 a1 n q7 (wrap .i64 (x0+1)) k
      else none
     else none
    else none
   else none
  else k x1
theorem aLG (nZ:(LI×Int)->Option Int)(L:Nat)(a0:LV)(a1:Int)(k:KT)(xk:Nat->KT)(k':Int->Option Int)(hk:∀ (x2:Int),k (X70_0 a0 a1 x2)=(k' x2).map n70):∀ (n:Nat) (x0 x1:Int),cE prog (yF nZ) L f70 0 [1,0,1,0,0] (cW (bI prog f70) k xk) n (S70_0 a0 a1 x0 x1)=(sW nZ L a0 a1 n x0 x1 k').map n70
 | 0,_,_=>rfl
 | n+1,x0,x1=>by
  rw[cK,aQX];have ih:=aLG nZ L a0 a1 k xk k' hk n;simp only[sW,aU,aS,aT,aD,aE,ih,hk]
def g70 (nZ:(LI×Int)->Option Int)(L:Nat)(a0:LV)(a1:Int):Option Int:=
 sW nZ L a0 a1 L a1 0 (λ(x0:Int)=>some x0)
theorem e70 (nZ:(LI×Int)->Option Int)(L:Nat)(a0:LV)(a1:Int):eT prog (yF nZ) (bH L) f70 (a70.enc (a0,a1))=(g70 nZ L a0 a1).map n70:=by
 let K'0:Int->Option Int:=(λ(x2:Int)=>some x2)
 have hin0:∀ (x0 x1:Int),cE prog (yF nZ) L f70 0 [1,0,1,0,0] (cW (bI prog f70) (cA prog (yF nZ) L f70 [1,0,1] (bI prog f70)).n (cA prog (yF nZ) L f70 [1,0,1] (bI prog f70)).x) L (S70_0 a0 a1 x0 x1)=(sW nZ L a0 a1 L x0 x1 K'0).map n70:=λx0 x1=>aLG nZ L a0 a1 _ _ K'0 (λx2=>by rw[aPo];simp only[K'0,aU,aS,aT,aD,aE]) L x0 x1
 rw[i70];simp only[g70,aU,aS,aT,aD,aE,hin0,K'0]
theorem s70 (nZ:(LI×Int)->Option Int)(h97:Sat prog cxT 97 (c97 nZ))(m:(LV×Int)->Option Int)(hm:∀ (x:(LV×Int)) t,m x=some t->∃ L,g70 nZ L x.1 x.2=some t):Sat prog cxT 70 (c70 m):=
 dS bZ bV (by rfl) (fn:=f70) rfl a70 n70 aSD m (yF nZ) (bN h97 bU) bP (λL x=>g70 nZ L x.1 x.2) (λL x=>e70 nZ L x.1 x.2) hm aV5
def aNB (m69:(LB×Int)->Option Int)(m70:(LV×Int)->Option Int):Env cxT:={ Kc:=eF [(69,c69 m69),(70,c70 m70)],Kw:=eE [],lv:=λi=>[],xv:=λi=>none }
theorem i29 (m69:(LB×Int)->Option Int)(m70:(LV×Int)->Option Int)(L:Nat)(x2:Int)(x0:LB)(x1:LV)(a1:Int):eT prog (aNB m69 m70) (bH L) f29 (a29.enc ((x2,x0,x1),a1))=
 cZ (m69 (x0,a1)) 0 λ(q1:Int)=>bif (decide (q1 < 0))then some (n29 (-1))
  else cZ (m70 (x1,q1)) 0 λ(q2:Int)=>bif (decide (q2 < 0))then some (n29 (-1))
   else some (n29 q2):=by kernel_rfl
def g29 (m69:(LB×Int)->Option Int)(m70:(LV×Int)->Option Int)(L:Nat)(x2:Int)(x0:LB)(x1:LV)(a1:Int):Option Int:=
 cZ (m69 (x0,a1)) 0 λ(q1:Int)=>bif (decide (q1 < 0))then some (-1)
  else cZ (m70 (x1,q1)) 0 λ(q2:Int)=>bif (decide (q2 < 0))then some (-1)
   else some q2
theorem e29 (m69:(LB×Int)->Option Int)(m70:(LV×Int)->Option Int)(L:Nat)(x0:Int)(x1:LB)(x2:LV)(a1:Int):eT prog (aNB m69 m70) (bH L) f29 (a29.enc ((x0,x1,x2),a1))=(g29 m69 m70 L x0 x1 x2 a1).map n29:=by
 rw[i29];simp only[g29,aU,aS,aT,aD,aE]
theorem s29 (m69:(LB×Int)->Option Int)(m70:(LV×Int)->Option Int)(h69:Sat prog cxT 69 (c69 m69))(h70:Sat prog cxT 70 (c70 m70))(m:(CZ×Int)->Option Int)(hm:∀ (x:(CZ×Int)) t,m x=some t->∃ L,g29 m69 m70 L x.1.1 x.1.2.1 x.1.2.2 x.2=some t):Sat prog cxT 29 (c29 m):=
 dS bZ bV (by rfl) (fn:=f29) rfl a29 n29 aTa m (aNB m69 m70) (bN h69 (bN h70 bU)) bP (λL x=>g29 m69 m70 L x.1.1 x.1.2.1 x.1.2.2 x.2) (λL x=>e29 m69 m70 L x.1.1 x.1.2.1 x.1.2.2 x.2) hm aWE
def aNE (m29:(CZ×Int)->Option Int):Env cxT:={ Kc:=eF [(29,c29 m29)],Kw:=eE [],lv:=λi=>[],xv:=λi=>none }
theorem i13 (m29:(CZ×Int)->Option Int)(L:Nat)(x3 x0:Int)(x1:LB)(x2:LV)(a1:Int):eT prog (aNE m29) (bH L) f13 (a13.enc ((x3,x0,x1,x2),a1))=
 cZ (m29 ((x0,(x1,x2)),a1)) 0 λ(q1:Int)=>bif (decide (q1 < 0))then some (n13 (-1))
  else some (n13 q1):=by kernel_rfl
def g13 (m29:(CZ×Int)->Option Int)(L:Nat)(x3 x0:Int)(x1:LB)(x2:LV)(a1:Int):Option Int:=
 cZ (m29 ((x0,(x1,x2)),a1)) 0 λ(q1:Int)=>bif (decide (q1 < 0))then some (-1)
  else some q1
theorem e13 (m29:(CZ×Int)->Option Int)(L:Nat)(x0 x1:Int)(x2:LB)(x3:LV)(a1:Int):eT prog (aNE m29) (bH L) f13 (a13.enc ((x0,x1,x2,x3),a1))=(g13 m29 L x0 x1 x2 x3 a1).map n13:=by
 rw[i13];simp only[g13,aU,aS,aT,aD,aE]
theorem s13 (m29:(CZ×Int)->Option Int)(h29:Sat prog cxT 29 (c29 m29))(m:(CR×Int)->Option Int)(hm:∀ (x:(CR×Int)) t,m x=some t->∃ L,g13 m29 L x.1.1 x.1.2.1 x.1.2.2.1 x.1.2.2.2 x.2=some t):Sat prog cxT 13 (c13 m):=
 dS bZ bV (by rfl) (fn:=f13) rfl a13 n13 aTl m (aNE m29) (bN h29 bU) bP (λL x=>g13 m29 L x.1.1 x.1.2.1 x.1.2.2.1 x.1.2.2.2 x.2) (λL x=>e13 m29 L x.1.1 x.1.2.1 x.1.2.2.1 x.1.2.2.2 x.2) hm aWR
end Go.Proofs.Tryz
