/- A part of the proof of FnExactApplyCmd: LpFb. -/
import Derived.Test.YtfncedbejffggaaGreatLpBase
set_option linter.unusedSimpArgs false
set_option linter.unusedVariables false
set_option maxHeartbeats 0
set_option maxRecDepth 100000
namespace Go.Proofs.Tryz
open Go.IntKind (wrap)
open Go Go.VM Go.RowKit
def yE:Env cxT:={ Kc:=eF [],Kw:=eE [],lv:=λi=>if i=0 then[(0,[none,some 68,some 76]),(1,[]),(5,[])]else[],xv:=λi=>if i=0 then some []else none }
def S74_0 (a0:CZ)(a1 x0:Int):St cxT.ty:={ slots:=[(.inr (.inr { kind:=2,nm:=0,cells:=[],s:={ own:=0,nm:=0,e:=32,o:=false,xs:=(List.cons a0 []) },i:=0,off:=0 })),(.inl (.inl (lv (.int .i64 a1)))),aN,aN,aN,(.inl (.inl (lv (.int .i64 x0))))]++List.replicate 20 aN,D:=[],F:=[],ctr:=1 }
def X74_0 (a0:CZ)(a1:Int):St cxT.ty:={ slots:=[]++List.replicate 26 aN,D:=[],F:=[],ctr:=1 }
theorem i74 (L:Nat)(a0:CZ)(a1:Int):eT prog yE (bH L) f74 (a74.enc (a0,a1))=
 cE prog yE L f74 0 [1,0,1,0,0] (cW (bI prog f74) (cA prog yE L f74 [1,0,1] (bI prog f74)).n (cA prog yE L f74 [1,0,1] (bI prog f74)).x) L (S74_0 a0 a1 0):=by kernel_rfl
theorem aQW (L:Nat)(a0:CZ)(a1:Int)(k:KT)(xk:Nat->KT)(g:KT)(x0:Int):eW prog yE L f74 0 [1,0,1,0,0] (cW (bI prog f74) k xk) g (S74_0 a0 a1 x0)=
 bif (decide (x0 < ((List.length a0.2.1):Int)))then bif ((decide (0<=x0))&&(decide (x0 < ((List.length a0.2.1):Int))))then bif ((List.getD a0.2.1 x0.toNat ZB).1 == a1)then some (n74 x0)
   else g (S74_0 a0 a1 (wrap .i64 (x0+1)))
  else none
 else k (X74_0 a0 a1):=by kernel_rfl
theorem aPn (L:Nat)(a0:CZ)(a1:Int):(cA prog yE L f74 [1,0,1] (bI prog f74)).n (X74_0 a0 a1)=
 some (n74 (-1)):=by kernel_rfl
def aAp (L:Nat)(a0:CZ)(a1:Int):Nat->Int->(Option Int)->Option Int
 | 0,_,_=>none
 | n+1,x0,k=>
  bif (decide (x0 < ((List.length a0.2.1):Int)))then bif ((decide (0<=x0))&&(decide (x0 < ((List.length a0.2.1):Int))))then bif ((List.getD a0.2.1 x0.toNat ZB).1 == a1)then some x0
    else aAp L a0 a1 n (wrap .i64 (x0+1)) k
   else none
  else k
theorem aLF (L:Nat)(a0:CZ)(a1:Int)(k:KT)(xk:Nat->KT)(k':Option Int)(hk:k (X74_0 a0 a1)=(k').map n74):∀ (n:Nat) (x0:Int),cE prog yE L f74 0 [1,0,1,0,0] (cW (bI prog f74) k xk) n (S74_0 a0 a1 x0)=(aAp L a0 a1 n x0 k').map n74
 | 0,_=>rfl
 | n+1,x0=>by
  rw[cK,aQW];have ih:=aLF L a0 a1 k xk k' hk n;simp only[aAp,aU,aS,aT,aD,aE,ih,hk]
def g74 (L:Nat)(a0:CZ)(a1:Int):Option Int:=
 aAp L a0 a1 L 0 (some (-1))
theorem e74 (L:Nat)(a0:CZ)(a1:Int):eT prog yE (bH L) f74 (a74.enc (a0,a1))=(g74 L a0 a1).map n74:=by
 let K'0:Option Int:=(some (-1))
 have hin0:∀ (x0:Int),cE prog yE L f74 0 [1,0,1,0,0] (cW (bI prog f74) (cA prog yE L f74 [1,0,1] (bI prog f74)).n (cA prog yE L f74 [1,0,1] (bI prog f74)).x) L (S74_0 a0 a1 x0)=(aAp L a0 a1 L x0 K'0).map n74:=λx0=>aLF L a0 a1 _ _ K'0 (by rw[aPn];simp only[K'0,aU,aS,aT,aD,aE]) L x0
 rw[i74];simp only[g74,aU,aS,aT,aD,aE,hin0,K'0]
theorem s74 (m:(CZ×Int)->Option Int)(hm:∀ (x:(CZ×Int)) t,m x=some t->∃ L,g74 L x.1 x.2=some t):Sat prog cxT 74 (c74 m):=
 dS bZ bV (by rfl) (fn:=f74) rfl a74 n74 aSA m yE bU bP (λL x=>g74 L x.1 x.2) (λL x=>e74 L x.1 x.2) hm aV1
def mL (m37:Int->Option Bool)(m72:Int->Option Bool)(m39:Int->Option Bool)(fH:(Vp×Vp)->Option Bool)(eI:(CZ×Int)->Option Int):Env cxT:={ Kc:=eF [(37,c37 m37),(72,c72 m72),(39,c39 m39),(73,c73 fH),(74,c74 eI)],Kw:=eE [],lv:=λi=>if i=0 then[(0,[none,some 68,some 76]),(5,[none,none,none,some 2]),(6,[])]else if i=2 then[(5,[none,none,none,some 2]),(7,[])]else[],xv:=λi=>if i=0 then some [(5,[none,none,none,some 2])]else if i=2 then some []else none }
def S33_0 (a0:CZ)(a1 x0:Int)(x1 x2:Int)(x3:LI)(x4:Int):St cxT.ty:={ slots:=[(.inr (.inr { kind:=2,nm:=0,cells:=[],s:={ own:=0,nm:=0,e:=32,o:=false,xs:=(List.cons a0 []) },i:=0,off:=0 })),aN,aN,aN,aN,(.inr (.inr { kind:=0,nm:=320,cells:=[(lv (.int .i64 x0)),(lv (.int .i64 x1)),(lv (.int .i64 x2)),(ls { own:=0,nm:=0,e:=2,o:=false,xs:=x3 })],s:={ own:=0,nm:=0,e:=0,o:=false,xs:=([]:List (PUnit)) },i:=0,off:=0 })),(.inl (.inl (lv (.int .i64 x4))))]++List.replicate 73 aN,D:=[],F:=[],ctr:=1 }
def X33_0 (a0:CZ)(a1 x0:Int)(x1 x2:Int)(x3:LI):St cxT.ty:={ slots:=[aN,aN,aN,aN,aN,(.inr (.inr { kind:=0,nm:=320,cells:=[(lv (.int .i64 x0)),(lv (.int .i64 x1)),(lv (.int .i64 x2)),(ls { own:=0,nm:=0,e:=2,o:=false,xs:=x3 })],s:={ own:=0,nm:=0,e:=0,o:=false,xs:=([]:List (PUnit)) },i:=0,off:=0 }))]++List.replicate 74 aN,D:=[],F:=[],ctr:=1 }
def S33_2 (a0:CZ)(a1 x0:Int)(x1 x2:Int)(x3:LI)(x4:Int):St cxT.ty:={ slots:=[aN,aN,aN,aN,aN,(.inr (.inr { kind:=0,nm:=320,cells:=[(lv (.int .i64 x0)),(lv (.int .i64 x1)),(lv (.int .i64 x2)),(ls { own:=0,nm:=0,e:=2,o:=false,xs:=x3 })],s:={ own:=0,nm:=0,e:=0,o:=false,xs:=([]:List (PUnit)) },i:=0,off:=0 })),aN,(.inl (.inl (lv (.int .i64 x4))))]++List.replicate 72 aN,D:=[],F:=[],ctr:=1 }
def X33_2 (a0:CZ)(a1:Int):St cxT.ty:={ slots:=[]++List.replicate 80 aN,D:=[],F:=[],ctr:=1 }
theorem i33 (m37:Int->Option Bool)(m72:Int->Option Bool)(m39:Int->Option Bool)(fH:(Vp×Vp)->Option Bool)(eI:(CZ×Int)->Option Int)(L:Nat)(a0:CZ)(a1:Int):eT prog (mL m37 m72 m39 fH eI) (bH L) f33 (a33.enc (a0,a1))=
 bif ((decide (0<=a1))&&(decide (a1 < ((List.length a0.2.2):Int))))then cZ (m37 (List.getD a0.2.2 a1.toNat ZV).1) false λ(q2:Bool)=>bif (!q2)then some (n33 3)
   else cZ (m72 (List.getD a0.2.2 a1.toNat ZV).2.1) false λ(q3:Bool)=>bif (!q3)then some (n33 3)
    else cZ (m39 (List.getD a0.2.2 a1.toNat ZV).2.2.1) false λ(q4:Bool)=>bif (!q4)then some (n33 3)
     else bif (decide (a1 > 0))then bif ((decide (0<=(wrap .i64 (a1-1))))&&(decide ((wrap .i64 (a1-1)) < ((List.length a0.2.2):Int))))then cZ (fH (((List.getD a0.2.2 (Int.toNat (wrap .i64 (a1-1))) ZV).1,((List.getD a0.2.2 (Int.toNat (wrap .i64 (a1-1))) ZV).2.1,((List.getD a0.2.2 (Int.toNat (wrap .i64 (a1-1))) ZV).2.2.1,(List.getD a0.2.2 (Int.toNat (wrap .i64 (a1-1))) ZV).2.2.2))),((List.getD a0.2.2 a1.toNat ZV).1,((List.getD a0.2.2 a1.toNat ZV).2.1,((List.getD a0.2.2 a1.toNat ZV).2.2.1,(List.getD a0.2.2 a1.toNat ZV).2.2.2))))) false λ(q7:Bool)=>bif (!q7)then some (n33 1)
        else cE prog (mL m37 m72 m39 fH eI) L f33 0 [1,1,1,1,0,1,0,0] (cW (bI prog f33) (cA prog (mL m37 m72 m39 fH eI) L f33 [1,1,1,1,0,1] (bI prog f33)).n (cA prog (mL m37 m72 m39 fH eI) L f33 [1,1,1,1,0,1] (bI prog f33)).x) L (S33_0 a0 a1 (List.getD a0.2.2 a1.toNat ZV).1 (List.getD a0.2.2 a1.toNat ZV).2.1 (List.getD a0.2.2 a1.toNat ZV).2.2.1 (List.getD a0.2.2 a1.toNat ZV).2.2.2 0)
      else none
     else cE prog (mL m37 m72 m39 fH eI) L f33 0 [1,1,1,1,0,1,0,0] (cW (bI prog f33) (cA prog (mL m37 m72 m39 fH eI) L f33 [1,1,1,1,0,1] (bI prog f33)).n (cA prog (mL m37 m72 m39 fH eI) L f33 [1,1,1,1,0,1] (bI prog f33)).x) L (S33_0 a0 a1 (List.getD a0.2.2 a1.toNat ZV).1 (List.getD a0.2.2 a1.toNat ZV).2.1 (List.getD a0.2.2 a1.toNat ZV).2.2.1 (List.getD a0.2.2 a1.toNat ZV).2.2.2 0)
 else none:=by kernel_rfl
theorem aQ7 (m37:Int->Option Bool)(m72:Int->Option Bool)(m39:Int->Option Bool)(fH:(Vp×Vp)->Option Bool)(eI:(CZ×Int)->Option Int)(L:Nat)(a0:CZ)(a1:Int)(k:KT)(xk:Nat->KT)(g:KT)(x2 x3 x4:Int)(x0:LI)(x1:Int):eW prog (mL m37 m72 m39 fH eI) L f33 0 [1,1,1,1,0,1,0,0] (cW (bI prog f33) k xk) g (S33_0 a0 a1 x2 x3 x4 x0 x1)=
 bif (decide (x1 < (x0.length:Int)))then bif ((decide (0<=x1))&&(decide (x1 < (x0.length:Int))))then cZ (eI (a0,(List.getD x0 x1.toNat 0))) 0 λ(q3:Int)=>bif (decide (q3 < 0))then some (n33 4)
    else g (S33_0 a0 a1 x2 x3 x4 x0 (wrap .i64 (x1+1)))
  else none
 else k (X33_0 a0 a1 x2 x3 x4 x0):=by kernel_rfl
theorem aPy (m37:Int->Option Bool)(m72:Int->Option Bool)(m39:Int->Option Bool)(fH:(Vp×Vp)->Option Bool)(eI:(CZ×Int)->Option Int)(L:Nat)(a0:CZ)(a1 x0:Int)(x1 x2:Int)(x3:LI):(cA prog (mL m37 m72 m39 fH eI) L f33 [1,1,1,1,0,1] (bI prog f33)).n (X33_0 a0 a1 x0 x1 x2 x3)=
 cE prog (mL m37 m72 m39 fH eI) L f33 2 [1,1,1,1,1,0,1,0,0] (cW (bI prog f33) (cA prog (mL m37 m72 m39 fH eI) L f33 [1,1,1,1,1,0,1] (bI prog f33)).n (cA prog (mL m37 m72 m39 fH eI) L f33 [1,1,1,1,1,0,1] (bI prog f33)).x) L (S33_2 a0 a1 x0 x1 x2 x3 1):=by kernel_rfl
theorem aQ6 (m37:Int->Option Bool)(m72:Int->Option Bool)(m39:Int->Option Bool)(fH:(Vp×Vp)->Option Bool)(eI:(CZ×Int)->Option Int)(L:Nat)(a0:CZ)(a1:Int)(k:KT)(xk:Nat->KT)(g:KT)(x2 x3 x4:Int)(x1:LI)(x0:Int):eW prog (mL m37 m72 m39 fH eI) L f33 2 [1,1,1,1,1,0,1,0,0] (cW (bI prog f33) k xk) g (S33_2 a0 a1 x2 x3 x4 x1 x0)=
 bif (decide (x0 < (x1.length:Int)))then bif ((decide (0<=x0))&&(decide (x0 < (x1.length:Int))))then bif ((decide (0<=(wrap .i64 (x0-1))))&&(decide ((wrap .i64 (x0-1)) < (x1.length:Int))))then bif (decide ((List.getD x1 x0.toNat 0)<=(List.getD x1 (Int.toNat (wrap .i64 (x0-1))) 0)))then some (n33 1)
    else g (S33_2 a0 a1 x2 x3 x4 x1 (wrap .i64 (x0+1)))
   else none
  else none
 else k (X33_2 a0 a1):=by kernel_rfl
theorem aPx (m37:Int->Option Bool)(m72:Int->Option Bool)(m39:Int->Option Bool)(fH:(Vp×Vp)->Option Bool)(eI:(CZ×Int)->Option Int)(L:Nat)(a0:CZ)(a1:Int):(cA prog (mL m37 m72 m39 fH eI) L f33 [1,1,1,1,1,0,1] (bI prog f33)).n (X33_2 a0 a1)=
 some (n33 0):=by kernel_rfl
def sY (m37:Int->Option Bool)(m72:Int->Option Bool)(m39:Int->Option Bool)(fH:(Vp×Vp)->Option Bool)(eI:(CZ×Int)->Option Int)(L:Nat)(a0:CZ)(a1:Int):Nat->Int->Int->Int->LI->Int->(Option Int)->Option Int
 | 0,_,_,_,_,_,_=>none
 | n+1,x2,x3,x4,x1,x0,k=>
  bif (decide (x0 < (x1.length:Int)))then bif ((decide (0<=x0))&&(decide (x0 < (x1.length:Int))))then bif ((decide (0<=(wrap .i64 (x0-1))))&&(decide ((wrap .i64 (x0-1)) < (x1.length:Int))))then bif (decide ((List.getD x1 x0.toNat 0)<=(List.getD x1 (Int.toNat (wrap .i64 (x0-1))) 0)))then some 1
     else sY m37 m72 m39 fH eI L a0 a1 n x2 x3 x4 x1 (wrap .i64 (x0+1)) k
    else none
   else none
  else k
theorem aLP (m37:Int->Option Bool)(m72:Int->Option Bool)(m39:Int->Option Bool)(fH:(Vp×Vp)->Option Bool)(eI:(CZ×Int)->Option Int)(L:Nat)(a0:CZ)(a1:Int)(k:KT)(xk:Nat->KT)(k':Option Int)(hk:k (X33_2 a0 a1)=(k').map n33):∀ (n:Nat) (x0 x1 x2:Int) (x3:LI) (x4:Int),cE prog (mL m37 m72 m39 fH eI) L f33 2 [1,1,1,1,1,0,1,0,0] (cW (bI prog f33) k xk) n (S33_2 a0 a1 x0 x1 x2 x3 x4)=(sY m37 m72 m39 fH eI L a0 a1 n x0 x1 x2 x3 x4 k').map n33
 | 0,_,_,_,_,_=>rfl
 | n+1,x0,x1,x2,x3,x4=>by
  rw[cK,aQ6];have ih:=aLP m37 m72 m39 fH eI L a0 a1 k xk k' hk n;simp only[sY,aU,aS,aT,aD,aE,ih,hk]
def uX (m37:Int->Option Bool)(m72:Int->Option Bool)(m39:Int->Option Bool)(fH:(Vp×Vp)->Option Bool)(eI:(CZ×Int)->Option Int)(L:Nat)(a0:CZ)(a1:Int):Nat->Int->Int->Int->LI->Int->(Int->Int->Int->LI->Option Int)->Option Int
 | 0,_,_,_,_,_,_=>none
 | n+1,x2,x3,x4,x0,x1,k=>
  bif (decide (x1 < (x0.length:Int)))then bif ((decide (0<=x1))&&(decide (x1 < (x0.length:Int))))then cZ (eI (a0,(List.getD x0 x1.toNat 0))) 0 λ(q4:Int)=>bif (decide (q4 < 0))then some 4
     else uX m37 m72 m39 fH eI L a0 a1 n x2 x3 x4 x0 (wrap .i64 (x1+1)) k
   else none
  else k x2 x3 x4 x0
theorem aLQ (m37:Int->Option Bool)(m72:Int->Option Bool)(m39:Int->Option Bool)(fH:(Vp×Vp)->Option Bool)(eI:(CZ×Int)->Option Int)(L:Nat)(a0:CZ)(a1:Int)(k:KT)(xk:Nat->KT)(k':Int->Int->Int->LI->Option Int)(hk:∀ (x5 x6 x7:Int) (x8:LI),k (X33_0 a0 a1 x5 x6 x7 x8)=(k' x5 x6 x7 x8).map n33):∀ (n:Nat) (x0 x1 x2:Int) (x3:LI) (x4:Int),cE prog (mL m37 m72 m39 fH eI) L f33 0 [1,1,1,1,0,1,0,0] (cW (bI prog f33) k xk) n (S33_0 a0 a1 x0 x1 x2 x3 x4)=(uX m37 m72 m39 fH eI L a0 a1 n x0 x1 x2 x3 x4 k').map n33
 | 0,_,_,_,_,_=>rfl
 | n+1,x0,x1,x2,x3,x4=>by
  rw[cK,aQ7];have ih:=aLQ m37 m72 m39 fH eI L a0 a1 k xk k' hk n;simp only[uX,aU,aS,aT,aD,aE,ih,hk]
def g33 (m37:Int->Option Bool)(m72:Int->Option Bool)(m39:Int->Option Bool)(fH:(Vp×Vp)->Option Bool)(eI:(CZ×Int)->Option Int)(L:Nat)(a0:CZ)(a1:Int):Option Int:=
 bif ((decide (0<=a1))&&(decide (a1 < ((List.length a0.2.2):Int))))then cZ (m37 (List.getD a0.2.2 a1.toNat ZV).1) false λ(q2:Bool)=>bif (!q2)then some 3
   else cZ (m72 (List.getD a0.2.2 a1.toNat ZV).2.1) false λ(q3:Bool)=>bif (!q3)then some 3
    else cZ (m39 (List.getD a0.2.2 a1.toNat ZV).2.2.1) false λ(q4:Bool)=>bif (!q4)then some 3
     else bif (decide (a1 > 0))then bif ((decide (0<=(wrap .i64 (a1-1))))&&(decide ((wrap .i64 (a1-1)) < ((List.length a0.2.2):Int))))then cZ (fH (((List.getD a0.2.2 (Int.toNat (wrap .i64 (a1-1))) ZV).1,((List.getD a0.2.2 (Int.toNat (wrap .i64 (a1-1))) ZV).2.1,((List.getD a0.2.2 (Int.toNat (wrap .i64 (a1-1))) ZV).2.2.1,(List.getD a0.2.2 (Int.toNat (wrap .i64 (a1-1))) ZV).2.2.2))),((List.getD a0.2.2 a1.toNat ZV).1,((List.getD a0.2.2 a1.toNat ZV).2.1,((List.getD a0.2.2 a1.toNat ZV).2.2.1,(List.getD a0.2.2 a1.toNat ZV).2.2.2))))) false λ(q7:Bool)=>bif (!q7)then some 1
        else uX m37 m72 m39 fH eI L a0 a1 L (List.getD a0.2.2 a1.toNat ZV).1 (List.getD a0.2.2 a1.toNat ZV).2.1 (List.getD a0.2.2 a1.toNat ZV).2.2.1 (List.getD a0.2.2 a1.toNat ZV).2.2.2 0 (λ(x0 x1 x2:Int) (x3:LI)=>sY m37 m72 m39 fH eI L a0 a1 L x0 x1 x2 x3 1 (some 0))
      else none
     else uX m37 m72 m39 fH eI L a0 a1 L (List.getD a0.2.2 a1.toNat ZV).1 (List.getD a0.2.2 a1.toNat ZV).2.1 (List.getD a0.2.2 a1.toNat ZV).2.2.1 (List.getD a0.2.2 a1.toNat ZV).2.2.2 0 (λ(x0 x1 x2:Int) (x3:LI)=>sY m37 m72 m39 fH eI L a0 a1 L x0 x1 x2 x3 1 (some 0))
 else none
theorem e33 (m37:Int->Option Bool)(m72:Int->Option Bool)(m39:Int->Option Bool)(fH:(Vp×Vp)->Option Bool)(eI:(CZ×Int)->Option Int)(L:Nat)(a0:CZ)(a1:Int):eT prog (mL m37 m72 m39 fH eI) (bH L) f33 (a33.enc (a0,a1))=(g33 m37 m72 m39 fH eI L a0 a1).map n33:=by
 let K'2:Option Int:=(some 0)
 have hin2:∀ (x0 x1 x2:Int) (x3:LI) (x4:Int),cE prog (mL m37 m72 m39 fH eI) L f33 2 [1,1,1,1,1,0,1,0,0] (cW (bI prog f33) (cA prog (mL m37 m72 m39 fH eI) L f33 [1,1,1,1,1,0,1] (bI prog f33)).n (cA prog (mL m37 m72 m39 fH eI) L f33 [1,1,1,1,1,0,1] (bI prog f33)).x) L (S33_2 a0 a1 x0 x1 x2 x3 x4)=(sY m37 m72 m39 fH eI L a0 a1 L x0 x1 x2 x3 x4 K'2).map n33:=λx0 x1 x2 x3 x4=>aLP m37 m72 m39 fH eI L a0 a1 _ _ K'2 (by rw[aPx];simp only[K'2,aU,aS,aT,aD,aE]) L x0 x1 x2 x3 x4
 let K'0:Int->Int->Int->LI->Option Int:=(λ(xa xb xc:Int) (xd:LI)=>sY m37 m72 m39 fH eI L a0 a1 L xa xb xc xd 1 (some 0))
 have hin0:∀ (x5 x6 x7:Int) (x8:LI) (x9:Int),cE prog (mL m37 m72 m39 fH eI) L f33 0 [1,1,1,1,0,1,0,0] (cW (bI prog f33) (cA prog (mL m37 m72 m39 fH eI) L f33 [1,1,1,1,0,1] (bI prog f33)).n (cA prog (mL m37 m72 m39 fH eI) L f33 [1,1,1,1,0,1] (bI prog f33)).x) L (S33_0 a0 a1 x5 x6 x7 x8 x9)=(uX m37 m72 m39 fH eI L a0 a1 L x5 x6 x7 x8 x9 K'0).map n33:=λx5 x6 x7 x8 x9=>aLQ m37 m72 m39 fH eI L a0 a1 _ _ K'0 (λxa xb xc xd=>by rw[aPy];simp only[K'0,aU,aS,aT,aD,aE,hin2,K'2]) L x5 x6 x7 x8 x9
 rw[i33];simp only[g33,aU,aS,aT,aD,aE,hin2,K'2,hin0,K'0]
theorem s33 (m37:Int->Option Bool)(m72:Int->Option Bool)(m39:Int->Option Bool)(fH:(Vp×Vp)->Option Bool)(eI:(CZ×Int)->Option Int)(h37:Sat prog cxT 37 (c37 m37))(h72:Sat prog cxT 72 (c72 m72))(h39:Sat prog cxT 39 (c39 m39))(h73:Sat prog cxT 73 (c73 fH))(h74:Sat prog cxT 74 (c74 eI))(m:(CZ×Int)->Option Int)(hm:∀ (x:(CZ×Int)) t,m x=some t->∃ L,g33 m37 m72 m39 fH eI L x.1 x.2=some t):Sat prog cxT 33 (c33 m):=
 dS bZ bV (by rfl) (fn:=f33) rfl a33 n33 aS6 m (mL m37 m72 m39 fH eI) (bN h37 (bN h72 (bN h39 (bN h73 (bN h74 bU))))) bP (λL x=>g33 m37 m72 m39 fH eI L x.1 x.2) (λL x=>e33 m37 m72 m39 fH eI L x.1 x.2) hm aWA
def oF (m31:Int->Option Bool)(m32:Bk->Option Bool)(kH:(CZ×Int)->Option Int):Env cxT:={ Kc:=eF [(31,c31 m31),(32,c32 m32),(33,c33 kH)],Kw:=eE [],lv:=λi=>if i=0 then[(0,[none,some 68,some 76]),(3,[])]else if i=2 then[(0,[none,some 68,some 76]),(4,[])]else[],xv:=λi=>if i=0 then some [(0,[none,some 68,some 76])]else if i=2 then some []else none }
def S16_0 (a0:CZ)(x0:Int):St cxT.ty:={ slots:=[(.inr (.inr { kind:=2,nm:=0,cells:=[],s:={ own:=0,nm:=0,e:=32,o:=false,xs:=(List.cons a0 []) },i:=0,off:=0 })),aN,aN,(.inl (.inl (lv (.int .i64 x0))))]++List.replicate 77 aN,D:=[],F:=[],ctr:=1 }
def X16_0 (a0:CZ):St cxT.ty:={ slots:=[(.inr (.inr { kind:=2,nm:=0,cells:=[],s:={ own:=0,nm:=0,e:=32,o:=false,xs:=(List.cons a0 []) },i:=0,off:=0 }))]++List.replicate 80 aN,D:=[],F:=[],ctr:=1 }
def S16_2 (a0:CZ)(x0:Int):St cxT.ty:={ slots:=[(.inr (.inr { kind:=2,nm:=0,cells:=[],s:={ own:=0,nm:=0,e:=32,o:=false,xs:=(List.cons a0 []) },i:=0,off:=0 })),aN,aN,aN,(.inl (.inl (lv (.int .i64 x0))))]++List.replicate 76 aN,D:=[],F:=[],ctr:=1 }
def X16_2 (a0:CZ):St cxT.ty:={ slots:=[]++List.replicate 81 aN,D:=[],F:=[],ctr:=1 }
theorem i16 (m31:Int->Option Bool)(m32:Bk->Option Bool)(kH:(CZ×Int)->Option Int)(L:Nat)(a0:CZ):eT prog (oF m31 m32 kH) (bH L) f16 (a16.enc a0)=
 cZ (m31 a0.1) false λ(q1:Bool)=>bif (!q1)then some (n16 3)
  else bif (decide (((List.length a0.2.1):Int) > 8))then some (n16 2)
  else bif (decide (((List.length a0.2.2):Int) > 4))then some (n16 2)
  else cE prog (oF m31 m32 kH) L f16 0 [1,1,1,0,1,0,0] (cW (bI prog f16) (cA prog (oF m31 m32 kH) L f16 [1,1,1,0,1] (bI prog f16)).n (cA prog (oF m31 m32 kH) L f16 [1,1,1,0,1] (bI prog f16)).x) L (S16_0 a0 0):=by kernel_rfl
theorem aRi (m31:Int->Option Bool)(m32:Bk->Option Bool)(kH:(CZ×Int)->Option Int)(L:Nat)(a0:CZ)(k:KT)(xk:Nat->KT)(g:KT)(x0:Int):eW prog (oF m31 m32 kH) L f16 0 [1,1,1,0,1,0,0] (cW (bI prog f16) k xk) g (S16_0 a0 x0)=
 bif (decide (x0 < ((List.length a0.2.1):Int)))then bif ((decide (0<=x0))&&(decide (x0 < ((List.length a0.2.1):Int))))then cZ (m32 ((List.getD a0.2.1 x0.toNat ZB).1,((List.getD a0.2.1 x0.toNat ZB).2.1,((List.getD a0.2.1 x0.toNat ZB).2.2.1,((List.getD a0.2.1 x0.toNat ZB).2.2.2.1,(List.getD a0.2.1 x0.toNat ZB).2.2.2.2))))) false λ(q3:Bool)=>bif (!q3)then some (n16 3)
    else bif (decide (x0 > 0))then bif ((decide (0<=x0))&&(decide (x0 < ((List.length a0.2.1):Int))))then bif ((decide (0<=(wrap .i64 (x0-1))))&&(decide ((wrap .i64 (x0-1)) < ((List.length a0.2.1):Int))))then bif (decide ((List.getD a0.2.1 x0.toNat ZB).1<=(List.getD a0.2.1 (Int.toNat (wrap .i64 (x0-1))) ZB).1))then some (n16 1)
       else g (S16_0 a0 (wrap .i64 (x0+1)))
      else none
     else none
    else g (S16_0 a0 (wrap .i64 (x0+1)))
  else none
 else k (X16_0 a0):=by kernel_rfl
theorem aPJ (m31:Int->Option Bool)(m32:Bk->Option Bool)(kH:(CZ×Int)->Option Int)(L:Nat)(a0:CZ):(cA prog (oF m31 m32 kH) L f16 [1,1,1,0,1] (bI prog f16)).n (X16_0 a0)=
 cE prog (oF m31 m32 kH) L f16 2 [1,1,1,1,0,1,0,0] (cW (bI prog f16) (cA prog (oF m31 m32 kH) L f16 [1,1,1,1,0,1] (bI prog f16)).n (cA prog (oF m31 m32 kH) L f16 [1,1,1,1,0,1] (bI prog f16)).x) L (S16_2 a0 0):=by kernel_rfl
theorem aRh (m31:Int->Option Bool)(m32:Bk->Option Bool)(kH:(CZ×Int)->Option Int)(L:Nat)(a0:CZ)(k:KT)(xk:Nat->KT)(g:KT)(x0:Int):eW prog (oF m31 m32 kH) L f16 2 [1,1,1,1,0,1,0,0] (cW (bI prog f16) k xk) g (S16_2 a0 x0)=
 bif (decide (x0 < ((List.length a0.2.2):Int)))then cZ (kH (a0,x0)) 0 λ(q2:Int)=>bif (q2 != 0)then some (n16 q2)
   else g (S16_2 a0 (wrap .i64 (x0+1)))
 else k (X16_2 a0):=by kernel_rfl
theorem aPI (m31:Int->Option Bool)(m32:Bk->Option Bool)(kH:(CZ×Int)->Option Int)(L:Nat)(a0:CZ):(cA prog (oF m31 m32 kH) L f16 [1,1,1,1,0,1] (bI prog f16)).n (X16_2 a0)=
 some (n16 0):=by kernel_rfl
def wZ (m31:Int->Option Bool)(m32:Bk->Option Bool)(kH:(CZ×Int)->Option Int)(L:Nat)(a0:CZ):Nat->Int->(Option Int)->Option Int
 | 0,_,_=>none
 | n+1,x0,k=>
  bif (decide (x0 < ((List.length a0.2.2):Int)))then cZ (kH (a0,x0)) 0 λ(q3:Int)=>bif (q3 != 0)then some q3
    else wZ m31 m32 kH L a0 n (wrap .i64 (x0+1)) k
  else k
theorem aL0 (m31:Int->Option Bool)(m32:Bk->Option Bool)(kH:(CZ×Int)->Option Int)(L:Nat)(a0:CZ)(k:KT)(xk:Nat->KT)(k':Option Int)(hk:k (X16_2 a0)=(k').map n16):∀ (n:Nat) (x0:Int),cE prog (oF m31 m32 kH) L f16 2 [1,1,1,1,0,1,0,0] (cW (bI prog f16) k xk) n (S16_2 a0 x0)=(wZ m31 m32 kH L a0 n x0 k').map n16
 | 0,_=>rfl
 | n+1,x0=>by
  rw[cK,aRh];have ih:=aL0 m31 m32 kH L a0 k xk k' hk n;simp only[wZ,aU,aS,aT,aD,aE,ih,hk]
def xA (m31:Int->Option Bool)(m32:Bk->Option Bool)(kH:(CZ×Int)->Option Int)(L:Nat)(a0:CZ):Nat->Int->(Option Int)->Option Int
 | 0,_,_=>none
 | n+1,x0,k=>
  bif (decide (x0 < ((List.length a0.2.1):Int)))then bif ((decide (0<=x0))&&(decide (x0 < ((List.length a0.2.1):Int))))then cZ (m32 ((List.getD a0.2.1 x0.toNat ZB).1,((List.getD a0.2.1 x0.toNat ZB).2.1,((List.getD a0.2.1 x0.toNat ZB).2.2.1,((List.getD a0.2.1 x0.toNat ZB).2.2.2.1,(List.getD a0.2.1 x0.toNat ZB).2.2.2.2))))) false λ(q4:Bool)=>bif (!q4)then some 3
     else bif (decide (x0 > 0))then bif ((decide (0<=x0))&&(decide (x0 < ((List.length a0.2.1):Int))))then bif ((decide (0<=(wrap .i64 (x0-1))))&&(decide ((wrap .i64 (x0-1)) < ((List.length a0.2.1):Int))))then bif (decide ((List.getD a0.2.1 x0.toNat ZB).1<=(List.getD a0.2.1 (Int.toNat (wrap .i64 (x0-1))) ZB).1))then some 1
        else xA m31 m32 kH L a0 n (wrap .i64 (x0+1)) k
       else none
      else none
     else xA m31 m32 kH L a0 n (wrap .i64 (x0+1)) k
   else none
  else k
theorem aL1 (m31:Int->Option Bool)(m32:Bk->Option Bool)(kH:(CZ×Int)->Option Int)(L:Nat)(a0:CZ)(k:KT)(xk:Nat->KT)(k':Option Int)(hk:k (X16_0 a0)=(k').map n16):∀ (n:Nat) (x0:Int),cE prog (oF m31 m32 kH) L f16 0 [1,1,1,0,1,0,0] (cW (bI prog f16) k xk) n (S16_0 a0 x0)=(xA m31 m32 kH L a0 n x0 k').map n16
 | 0,_=>rfl
 | n+1,x0=>by
  rw[cK,aRi];have ih:=aL1 m31 m32 kH L a0 k xk k' hk n;simp only[xA,aU,aS,aT,aD,aE,ih,hk]
def g16 (m31:Int->Option Bool)(m32:Bk->Option Bool)(kH:(CZ×Int)->Option Int)(L:Nat)(a0:CZ):Option Int:=
 cZ (m31 a0.1) false λ(q1:Bool)=>bif (!q1)then some 3
  else bif (decide (((List.length a0.2.1):Int) > 8))then some 2
  else bif (decide (((List.length a0.2.2):Int) > 4))then some 2
  else xA m31 m32 kH L a0 L 0 (wZ m31 m32 kH L a0 L 0 (some 0))
theorem e16 (m31:Int->Option Bool)(m32:Bk->Option Bool)(kH:(CZ×Int)->Option Int)(L:Nat)(a0:CZ):eT prog (oF m31 m32 kH) (bH L) f16 (a16.enc a0)=(g16 m31 m32 kH L a0).map n16:=by
 let K'2:Option Int:=(some 0)
 have hin2:∀ (x0:Int),cE prog (oF m31 m32 kH) L f16 2 [1,1,1,1,0,1,0,0] (cW (bI prog f16) (cA prog (oF m31 m32 kH) L f16 [1,1,1,1,0,1] (bI prog f16)).n (cA prog (oF m31 m32 kH) L f16 [1,1,1,1,0,1] (bI prog f16)).x) L (S16_2 a0 x0)=(wZ m31 m32 kH L a0 L x0 K'2).map n16:=λx0=>aL0 m31 m32 kH L a0 _ _ K'2 (by rw[aPI];simp only[K'2,aU,aS,aT,aD,aE]) L x0
 let K'0:Option Int:=(wZ m31 m32 kH L a0 L 0 (some 0))
 have hin0:∀ (x1:Int),cE prog (oF m31 m32 kH) L f16 0 [1,1,1,0,1,0,0] (cW (bI prog f16) (cA prog (oF m31 m32 kH) L f16 [1,1,1,0,1] (bI prog f16)).n (cA prog (oF m31 m32 kH) L f16 [1,1,1,0,1] (bI prog f16)).x) L (S16_0 a0 x1)=(xA m31 m32 kH L a0 L x1 K'0).map n16:=λx1=>aL1 m31 m32 kH L a0 _ _ K'0 (by rw[aPJ];simp only[K'0,aU,aS,aT,aD,aE,hin2,K'2]) L x1
 rw[i16];simp only[g16,aU,aS,aT,aD,aE,hin2,K'2,hin0,K'0]
theorem s16 (m31:Int->Option Bool)(m32:Bk->Option Bool)(kH:(CZ×Int)->Option Int)(h31:Sat prog cxT 31 (c31 m31))(h32:Sat prog cxT 32 (c32 m32))(h33:Sat prog cxT 33 (c33 kH))(m:CZ->Option Int)(hm:∀ (x:CZ) t,m x=some t->∃ L,g16 m31 m32 kH L x=some t):Sat prog cxT 16 (c16 m):=
 dS bZ bV (by rfl) (fn:=f16) rfl a16 n16 aTi m (oF m31 m32 kH) (bN h31 (bN h32 (bN h33 bU))) bP (λL x=>g16 m31 m32 kH L x) (λL x=>e16 m31 m32 kH L x) hm aWO
def yD:Env cxT:={ Kc:=eF [],Kw:=eE [],lv:=λi=>if i=0 then[(0,[none,some 68,some 76]),(3,[]),(5,[])]else[],xv:=λi=>if i=0 then some []else none }
def S75_0 (a0:CZ)(x7 x8:Int)(x9 xa:Int)(xb xc:Int)(x0 x1:Int)(x2 x3:Int)(x4 x5 x6:Int):St cxT.ty:={ slots:=[(.inr (.inr { kind:=2,nm:=0,cells:=[],s:={ own:=0,nm:=0,e:=32,o:=false,xs:=(List.cons a0 []) },i:=0,off:=0 })),aN,aN,(.inr (.inr { kind:=0,nm:=192,cells:=[(lv (.int .i64 x0)),(lv (.int .i64 x1)),(lv (.int .i64 x2)),(lv (.int .i64 x3)),(lv (.int .i64 x4)),(lv (.int .i64 x5))],s:={ own:=0,nm:=0,e:=0,o:=false,xs:=([]:List (PUnit)) },i:=0,off:=0 })),aN,(.inl (.inl (lv (.int .i64 x6))))]++List.replicate 37 aN,D:=[],F:=[],ctr:=1 }
def X75_0 (a0:CZ)(x0 x1:Int)(x2 x3:Int)(x4 x5:Int):St cxT.ty:={ slots:=[]++List.replicate 43 aN,D:=[],F:=[],ctr:=1 }
theorem i75 (L:Nat)(a0:CZ)(x0 x1:Int)(x2 x3:Int)(x4 x5:Int):eT prog yD (bH L) f75 (a75.enc (a0,(x0,x1,x2,x3,x4,x5)))=
 cE prog yD L f75 0 [1,0,1,0,0] (cW (bI prog f75) (cA prog yD L f75 [1,0,1] (bI prog f75)).n (cA prog yD L f75 [1,0,1] (bI prog f75)).x) L (S75_0 a0 x0 x1 x2 x3 x4 x5 x0 x1 x2 x3 x4 x5 0):=by kernel_rfl
theorem aQV (L:Nat)(a0:CZ)(x1 x2:Int)(x3 x4:Int)(x5 x6:Int)(k:KT)(xk:Nat->KT)(g:KT)(xa xb:Int)(xc x7:Int)(x8 x9 x0:Int):eW prog yD L f75 0 [1,0,1,0,0] (cW (bI prog f75) k xk) g (S75_0 a0 x1 x2 x3 x4 x5 x6 xa xb xc x7 x8 x9 x0)=
 bif (decide (x0 < ((List.length a0.2.2):Int)))then bif ((decide (0<=x0))&&(decide (x0 < ((List.length a0.2.2):Int))))then bif ((List.getD a0.2.2 x0.toNat ZV).1 == x7)then bif ((List.getD a0.2.2 x0.toNat ZV).2.1 == x8)then bif ((List.getD a0.2.2 x0.toNat ZV).2.2.1 == x9)then some (n75 x0)
     else g (S75_0 a0 x1 x2 x3 x4 x5 x6 xa xb xc x7 x8 x9 (wrap .i64 (x0+1)))
    else g (S75_0 a0 x1 x2 x3 x4 x5 x6 xa xb xc x7 x8 x9 (wrap .i64 (x0+1)))
   else g (S75_0 a0 x1 x2 x3 x4 x5 x6 xa xb xc x7 x8 x9 (wrap .i64 (x0+1)))
  else none
 else k (X75_0 a0 x1 x2 x3 x4 x5 x6):=by kernel_rfl
theorem aPm (L:Nat)(a0:CZ)(x0 x1:Int)(x2 x3:Int)(x4 x5:Int):(cA prog yD L f75 [1,0,1] (bI prog f75)).n (X75_0 a0 x0 x1 x2 x3 x4 x5)=
 some (n75 (-1)):=by kernel_rfl
def uV (L:Nat)(a0:CZ)(x4 x5:Int)(x6 x7:Int)(x8 x9:Int):Nat->Int->Int->Int->Int->Int->Int->Int->(Option Int)->Option Int
 | 0,_,_,_,_,_,_,_,_=>none
 | n+1,xa,xb,xc,x1,x2,x3,x0,k=>
  bif (decide (x0 < ((List.length a0.2.2):Int)))then bif ((decide (0<=x0))&&(decide (x0 < ((List.length a0.2.2):Int))))then bif ((List.getD a0.2.2 x0.toNat ZV).1 == x1)then bif ((List.getD a0.2.2 x0.toNat ZV).2.1 == x2)then bif ((List.getD a0.2.2 x0.toNat ZV).2.2.1 == x3)then some x0
      else uV L a0 x4 x5 x6 x7 x8 x9 n xa xb xc x1 x2 x3 (wrap .i64 (x0+1)) k
     else uV L a0 x4 x5 x6 x7 x8 x9 n xa xb xc x1 x2 x3 (wrap .i64 (x0+1)) k
    else uV L a0 x4 x5 x6 x7 x8 x9 n xa xb xc x1 x2 x3 (wrap .i64 (x0+1)) k
   else none
  else k
theorem aLE (L:Nat)(a0:CZ)(x0 x1:Int)(x2 x3:Int)(x4 x5:Int)(k:KT)(xk:Nat->KT)(k':Option Int)(hk:k (X75_0 a0 x0 x1 x2 x3 x4 x5)=(k').map n75):∀ (n:Nat) (x6 x7:Int) (x8 x9:Int) (xa xb xc:Int),cE prog yD L f75 0 [1,0,1,0,0] (cW (bI prog f75) k xk) n (S75_0 a0 x0 x1 x2 x3 x4 x5 x6 x7 x8 x9 xa xb xc)=(uV L a0 x0 x1 x2 x3 x4 x5 n x6 x7 x8 x9 xa xb xc k').map n75
 | 0,_,_,_,_,_,_,_=>rfl
 | n+1,x6,x7,x8,x9,xa,xb,xc=>by
  rw[cK,aQV];have ih:=aLE L a0 x0 x1 x2 x3 x4 x5 k xk k' hk n;simp only[uV,aU,aS,aT,aD,aE,ih,hk]
def g75 (L:Nat)(a0:CZ)(x0 x1:Int)(x2 x3:Int)(x4 x5:Int):Option Int:=
 uV L a0 x0 x1 x2 x3 x4 x5 L x0 x1 x2 x3 x4 x5 0 (some (-1))
theorem e75 (L:Nat)(a0:CZ)(x0 x1:Int)(x2 x3:Int)(x4 x5:Int):eT prog yD (bH L) f75 (a75.enc (a0,(x0,x1,x2,x3,x4,x5)))=(g75 L a0 x0 x1 x2 x3 x4 x5).map n75:=by
 let K'0:Option Int:=(some (-1))
 have hin0:∀ (x6 x7:Int) (x8 x9:Int) (xa xb xc:Int),cE prog yD L f75 0 [1,0,1,0,0] (cW (bI prog f75) (cA prog yD L f75 [1,0,1] (bI prog f75)).n (cA prog yD L f75 [1,0,1] (bI prog f75)).x) L (S75_0 a0 x0 x1 x2 x3 x4 x5 x6 x7 x8 x9 xa xb xc)=(uV L a0 x0 x1 x2 x3 x4 x5 L x6 x7 x8 x9 xa xb xc K'0).map n75:=λx6 x7 x8 x9 xa xb xc=>aLE L a0 x0 x1 x2 x3 x4 x5 _ _ K'0 (by rw[aPm];simp only[K'0,aU,aS,aT,aD,aE]) L x6 x7 x8 x9 xa xb xc
 rw[i75];simp only[g75,aU,aS,aT,aD,aE,hin0,K'0]
theorem s75 (m:(CZ×DZ)->Option Int)(hm:∀ (x:(CZ×DZ)) t,m x=some t->∃ L,g75 L x.1 x.2.1 x.2.2.1 x.2.2.2.1 x.2.2.2.2.1 x.2.2.2.2.2.1 x.2.2.2.2.2.2=some t):Sat prog cxT 75 (c75 m):=
 dS bZ bV (by rfl) (fn:=f75) rfl a75 n75 aNM m yD bU bP (λL x=>g75 L x.1 x.2.1 x.2.2.1 x.2.2.2.1 x.2.2.2.2.1 x.2.2.2.2.2.1 x.2.2.2.2.2.2) (λL x=>e75 L x.1 x.2.1 x.2.2.1 x.2.2.2.1 x.2.2.2.2.1 x.2.2.2.2.2.1 x.2.2.2.2.2.2) hm aV0
def yA (fP:(LI×Int)->Option Bool):Env cxT:={ Kc:=eF [(76,c76 fP)],Kw:=eE [],lv:=λi=>if i=0 then[(0,[none,some 68,some 76]),(1,[]),(5,[])]else[],xv:=λi=>if i=0 then some []else none }
def S78_0 (a0:CZ)(a1 x0:Int):St cxT.ty:={ slots:=[(.inr (.inr { kind:=2,nm:=0,cells:=[],s:={ own:=0,nm:=0,e:=32,o:=false,xs:=(List.cons a0 []) },i:=0,off:=0 })),(.inl (.inl (lv (.int .i64 a1)))),aN,aN,aN,(.inl (.inl (lv (.int .i64 x0))))]++List.replicate 19 aN,D:=[],F:=[],ctr:=1 }
def X78_0 (a0:CZ)(a1:Int):St cxT.ty:={ slots:=[]++List.replicate 25 aN,D:=[],F:=[],ctr:=1 }
theorem i78 (fP:(LI×Int)->Option Bool)(L:Nat)(a0:CZ)(a1:Int):eT prog (yA fP) (bH L) f78 (a78.enc (a0,a1))=
 cE prog (yA fP) L f78 0 [1,0,1,0,0] (cW (bI prog f78) (cA prog (yA fP) L f78 [1,0,1] (bI prog f78)).n (cA prog (yA fP) L f78 [1,0,1] (bI prog f78)).x) L (S78_0 a0 a1 0):=by kernel_rfl
theorem aQS (fP:(LI×Int)->Option Bool)(L:Nat)(a0:CZ)(a1:Int)(k:KT)(xk:Nat->KT)(g:KT)(x0:Int):eW prog (yA fP) L f78 0 [1,0,1,0,0] (cW (bI prog f78) k xk) g (S78_0 a0 a1 x0)=
 bif (decide (x0 < ((List.length a0.2.2):Int)))then bif ((decide (0<=x0))&&(decide (x0 < ((List.length a0.2.2):Int))))then cZ (fP ((List.getD a0.2.2 x0.toNat ZV).2.2.2,a1)) false λ(q3:Bool)=>bif q3 then some (n78 true)
    else g (S78_0 a0 a1 (wrap .i64 (x0+1)))
  else none
 else k (X78_0 a0 a1):=by kernel_rfl
theorem aPj (fP:(LI×Int)->Option Bool)(L:Nat)(a0:CZ)(a1:Int):(cA prog (yA fP) L f78 [1,0,1] (bI prog f78)).n (X78_0 a0 a1)=
 some (n78 false):=by kernel_rfl
def aAm (fP:(LI×Int)->Option Bool)(L:Nat)(a0:CZ)(a1:Int):Nat->Int->(Option Bool)->Option Bool
 | 0,_,_=>none
 | n+1,x0,k=>
  bif (decide (x0 < ((List.length a0.2.2):Int)))then bif ((decide (0<=x0))&&(decide (x0 < ((List.length a0.2.2):Int))))then cZ (fP ((List.getD a0.2.2 x0.toNat ZV).2.2.2,a1)) false λ(q4:Bool)=>bif q4 then some true
     else aAm fP L a0 a1 n (wrap .i64 (x0+1)) k
   else none
  else k
theorem aLB (fP:(LI×Int)->Option Bool)(L:Nat)(a0:CZ)(a1:Int)(k:KT)(xk:Nat->KT)(k':Option Bool)(hk:k (X78_0 a0 a1)=(k').map n78):∀ (n:Nat) (x0:Int),cE prog (yA fP) L f78 0 [1,0,1,0,0] (cW (bI prog f78) k xk) n (S78_0 a0 a1 x0)=(aAm fP L a0 a1 n x0 k').map n78
 | 0,_=>rfl
 | n+1,x0=>by
  rw[cK,aQS];have ih:=aLB fP L a0 a1 k xk k' hk n;simp only[aAm,aU,aS,aT,aD,aE,ih,hk]
def g78 (fP:(LI×Int)->Option Bool)(L:Nat)(a0:CZ)(a1:Int):Option Bool:=
 aAm fP L a0 a1 L 0 (some false)
theorem e78 (fP:(LI×Int)->Option Bool)(L:Nat)(a0:CZ)(a1:Int):eT prog (yA fP) (bH L) f78 (a78.enc (a0,a1))=(g78 fP L a0 a1).map n78:=by
 let K'0:Option Bool:=(some false)
 have hin0:∀ (x0:Int),cE prog (yA fP) L f78 0 [1,0,1,0,0] (cW (bI prog f78) (cA prog (yA fP) L f78 [1,0,1] (bI prog f78)).n (cA prog (yA fP) L f78 [1,0,1] (bI prog f78)).x) L (S78_0 a0 a1 x0)=(aAm fP L a0 a1 L x0 K'0).map n78:=λx0=>aLB fP L a0 a1 _ _ K'0 (by rw[aPj];simp only[K'0,aU,aS,aT,aD,aE]) L x0
 rw[i78];simp only[g78,aU,aS,aT,aD,aE,hin0,K'0]
theorem s78 (fP:(LI×Int)->Option Bool)(h76:Sat prog cxT 76 (c76 fP))(m:(CZ×Int)->Option Bool)(hm:∀ (x:(CZ×Int)) t,m x=some t->∃ L,g78 fP L x.1 x.2=some t):Sat prog cxT 78 (c78 m):=
 dS bZ bV (by rfl) (fn:=f78) rfl a78 n78 aSy m (yA fP) (bN h76 bU) bP (λL x=>g78 fP L x.1 x.2) (λL x=>e78 fP L x.1 x.2) hm aVY
def aIM (m98:Int->Option Bool):Env cxT:={ Kc:=eF [(98,c98 m98)],Kw:=eE [],lv:=λi=>[],xv:=λi=>none }
theorem aVG (m98:Int->Option Bool)(L:Nat)(a0 a1:Int):eT prog (aIM m98) (bH L) f107 (aTS.enc (a0,a1))=
 cZ (m98 a0) false λ(q1:Bool)=>bif q1 then cZ (m98 a1) false λ(q3:Bool)=>bif (!q3)then some (aEQ true)
    else some (aEQ (decide (a0 < a1)))
  else some (aEQ (decide (a0 < a1))):=by kernel_rfl
def aKc (m98:Int->Option Bool)(L:Nat)(a0 a1:Int):Option Bool:=
 cZ (m98 a0) false λ(q1:Bool)=>bif q1 then cZ (m98 a1) false λ(q3:Bool)=>bif (!q3)then some true
    else some (decide (a0 < a1))
  else some (decide (a0 < a1))
theorem aW5 (m98:Int->Option Bool)(L:Nat)(a0 a1:Int):eT prog (aIM m98) (bH L) f107 (aTS.enc (a0,a1))=(aKc m98 L a0 a1).map aEQ:=by
 rw[aVG];simp only[aKc,aU,aS,aT,aD,aE]
theorem aVl (m98:Int->Option Bool)(h98:Sat prog cxT 98 (c98 m98))(m:(Int×Int)->Option Bool)(hm:∀ (x:(Int×Int)) t,m x=some t->∃ L,aKc m98 L x.1 x.2=some t):Sat prog cxT 107 (aKw m):=
 dS bZ bV (by rfl) (fn:=f107) rfl aTS aEQ aL6 m (aIM m98) (bN h98 bU) bP (λL x=>aKc m98 L x.1 x.2) (λL x=>aW5 m98 L x.1 x.2) hm aR0
def aIL:Env cxT:={ Kc:=eF [],Kw:=eE [],lv:=λi=>[],xv:=λi=>none }
theorem aVF (L:Nat)(a0:Int):eT prog aIL (bH L) f108 (aTR.enc a0)=
 some (aIa (a0 != a0)):=by kernel_rfl
def aKb (L:Nat)(a0:Int):Option Bool:=
 some (a0 != a0)
theorem aW4 (L:Nat)(a0:Int):eT prog aIL (bH L) f108 (aTR.enc a0)=(aKb L a0).map aIa:=by
 rw[aVF];simp only[aKb,aU,aS,aT,aD,aE]
theorem aVk (m:Int->Option Bool)(hm:∀ (x:Int) t,m x=some t->∃ L,aKb L x=some t):Sat prog cxT 108 (aKv m):=
 dS bZ bV (by rfl) (fn:=f108) rfl aTR aIa aL5 m aIL bU bP (λL x=>aKb L x) (λL x=>aW4 L x) hm aRZ
def xX (m107:(Int×Int)->Option Bool)(m108:Int->Option Bool):Env cxT:={ Kc:=eF [(107,aKw m107),(108,aKv m108)],Kw:=eE [],lv:=λi=>if i=0 then[(0,[some 2]),(1,[]),(6,[]),(7,[]),(8,[])]else[],xv:=λi=>if i=0 then some [(0,[some 2]),(1,[]),(6,[]),(7,[])]else none }
def S92_0 (a0:LI)(a1 x0 x1:Int):St cxT.ty:={ slots:=[(.inl (.inl (ls { own:=0,nm:=0,e:=2,o:=false,xs:=a0 }))),(.inl (.inl (lv (.int .i64 a1)))),aN,aN,aN,aN,(.inl (.inl (lv (.int .i64 (a0.length:Int))))),(.inl (.inl (lv (.int .i64 x0)))),(.inl (.inl (lv (.int .i64 x1))))]++List.replicate 45 aN,D:=[],F:=[],ctr:=1 }
def X92_0 (a0:LI)(a1 x0:Int):St cxT.ty:={ slots:=[(.inl (.inl (ls { own:=0,nm:=0,e:=2,o:=false,xs:=a0 }))),(.inl (.inl (lv (.int .i64 a1)))),aN,aN,aN,aN,(.inl (.inl (lv (.int .i64 (a0.length:Int))))),(.inl (.inl (lv (.int .i64 x0))))]++List.replicate 46 aN,D:=[],F:=[],ctr:=1 }
theorem i92 (m107:(Int×Int)->Option Bool)(m108:Int->Option Bool)(L:Nat)(a0:LI)(a1:Int):eT prog (xX m107 m108) (bH L) f92 (a92.enc (a0,a1))=
 cE prog (xX m107 m108) L f92 0 [1,1,1,0,0,0] (cW (bI prog f92) (cA prog (xX m107 m108) L f92 [1,1,1,0] (bI prog f92)).n (cA prog (xX m107 m108) L f92 [1,1,1,0] (bI prog f92)).x) L (S92_0 a0 a1 0 (a0.length:Int)):=by kernel_rfl
theorem aQP (m107:(Int×Int)->Option Bool)(m108:Int->Option Bool)(L:Nat)(a0:LI)(a1:Int)(k:KT)(xk:Nat->KT)(g:KT)(x0 x1:Int):eW prog (xX m107 m108) L f92 0 [1,1,1,0,0,0] (cW (bI prog f92) k xk) g (S92_0 a0 a1 x0 x1)=
 bif (decide (x0 < x1))then bif ((decide (0<=(wrap .i64 (HF x0 x1))))&&(decide ((wrap .i64 (HF x0 x1)) < (a0.length:Int))))then cZ (m107 ((List.getD a0 (Int.toNat (wrap .i64 (HF x0 x1))) 0),a1)) false λ(q3:Bool)=>bif q3 then g (S92_0 a0 a1 (wrap .i64 ((wrap .i64 (HF x0 x1))+1)) x1)
    else g (S92_0 a0 a1 x0 (wrap .i64 (HF x0 x1)))
  else none
 else k (X92_0 a0 a1 x0):=by kernel_rfl
theorem aPg (m107:(Int×Int)->Option Bool)(m108:Int->Option Bool)(L:Nat)(a0:LI)(a1 x0:Int):(cA prog (xX m107 m108) L f92 [1,1,1,0] (bI prog f92)).n (X92_0 a0 a1 x0)=
 bif (decide (x0 < (a0.length:Int)))then bif ((decide (0<=x0))&&(decide (x0 < (a0.length:Int))))then bif ((List.getD a0 x0.toNat 0) == a1)then some (n92 (x0,true))
   else bif ((decide (0<=x0))&&(decide (x0 < (a0.length:Int))))then cZ (m108 (List.getD a0 x0.toNat 0)) false λ(q4:Bool)=>bif q4 then cZ (m108 a1) false λ(q6:Bool)=>some (n92 (x0,q6))
     else some (n92 (x0,false))
   else none
  else none
 else some (n92 (x0,false)):=by kernel_rfl
def wX (m107:(Int×Int)->Option Bool)(m108:Int->Option Bool)(L:Nat)(a0:LI)(a1:Int):Nat->Int->Int->(Int->Option (Int×Bool))->Option (Int×Bool)
 | 0,_,_,_=>none
 | n+1,x0,x1,k=>
  bif (decide (x0 < x1))then bif ((decide (0<=(wrap .i64 (HF x0 x1))))&&(decide ((wrap .i64 (HF x0 x1)) < (a0.length:Int))))then cZ (m107 ((List.getD a0 (Int.toNat (wrap .i64 (HF x0 x1))) 0),a1)) false λ(q4:Bool)=>bif q4 then wX m107 m108 L a0 a1 n (wrap .i64 ((wrap .i64 (HF x0 x1))+1)) x1 k
     else wX m107 m108 L a0 a1 n x0 (wrap .i64 (HF x0 x1)) k
   else none
  else k x0
theorem aLy (m107:(Int×Int)->Option Bool)(m108:Int->Option Bool)(L:Nat)(a0:LI)(a1:Int)(k:KT)(xk:Nat->KT)(k':Int->Option (Int×Bool))(hk:∀ (x2:Int),k (X92_0 a0 a1 x2)=(k' x2).map n92):∀ (n:Nat) (x0 x1:Int),cE prog (xX m107 m108) L f92 0 [1,1,1,0,0,0] (cW (bI prog f92) k xk) n (S92_0 a0 a1 x0 x1)=(wX m107 m108 L a0 a1 n x0 x1 k').map n92
 | 0,_,_=>rfl
 | n+1,x0,x1=>by
  rw[cK,aQP];have ih:=aLy m107 m108 L a0 a1 k xk k' hk n;simp only[wX,aU,aS,aT,aD,aE,ih,hk]
def g92 (m107:(Int×Int)->Option Bool)(m108:Int->Option Bool)(L:Nat)(a0:LI)(a1:Int):Option (Int×Bool):=
 wX m107 m108 L a0 a1 L 0 (a0.length:Int) (λ(x0:Int)=>bif (decide (x0 < (a0.length:Int)))then bif ((decide (0<=x0))&&(decide (x0 < (a0.length:Int))))then bif ((List.getD a0 x0.toNat 0) == a1)then some (x0,true)
    else bif ((decide (0<=x0))&&(decide (x0 < (a0.length:Int))))then cZ (m108 (List.getD a0 x0.toNat 0)) false λ(q5:Bool)=>bif q5 then cZ (m108 a1) false λ(q7:Bool)=>some (x0,q7)
      else some (x0,false)
    else none
   else none
  else some (x0,false))
theorem e92 (m107:(Int×Int)->Option Bool)(m108:Int->Option Bool)(L:Nat)(a0:LI)(a1:Int):eT prog (xX m107 m108) (bH L) f92 (a92.enc (a0,a1))=(g92 m107 m108 L a0 a1).map n92:=by
 let K'0:Int->Option (Int×Bool):=(λ(x0:Int)=>bif (decide (x0 < (a0.length:Int)))then bif ((decide (0<=x0))&&(decide (x0 < (a0.length:Int))))then bif ((List.getD a0 x0.toNat 0) == a1)then some (x0,true)
     else bif ((decide (0<=x0))&&(decide (x0 < (a0.length:Int))))then cZ (m108 (List.getD a0 x0.toNat 0)) false λ(q6:Bool)=>bif q6 then cZ (m108 a1) false λ(q8:Bool)=>some (x0,q8)
       else some (x0,false)
     else none
    else none
   else some (x0,false))
 have hin0:∀ (x1 x2:Int),cE prog (xX m107 m108) L f92 0 [1,1,1,0,0,0] (cW (bI prog f92) (cA prog (xX m107 m108) L f92 [1,1,1,0] (bI prog f92)).n (cA prog (xX m107 m108) L f92 [1,1,1,0] (bI prog f92)).x) L (S92_0 a0 a1 x1 x2)=(wX m107 m108 L a0 a1 L x1 x2 K'0).map n92:=λx1 x2=>aLy m107 m108 L a0 a1 _ _ K'0 (λx0=>by rw[aPg];simp only[K'0,aU,aS,aT,aD,aE]) L x1 x2
 rw[i92];simp only[g92,aU,aS,aT,aD,aE,hin0,K'0]
theorem s92 (m107:(Int×Int)->Option Bool)(m108:Int->Option Bool)(h107:Sat prog cxT 107 (aKw m107))(h108:Sat prog cxT 108 (aKv m108))(m:(LI×Int)->Option (Int×Bool))(hm:∀ (x:(LI×Int)) t,m x=some t->∃ L,g92 m107 m108 L x.1 x.2=some t):Sat prog cxT 92 (c92 m):=
 dS bZ bV (by rfl) (fn:=f92) rfl a92 n92 aNI m (xX m107 m108) (bN h107 (bN h108 bU)) bP (λL x=>g92 m107 m108 L x.1 x.2) (λL x=>e92 m107 m108 L x.1 x.2) hm aVR
def qA:Env cxT:={ Kc:=eF [],Kw:=eE [],lv:=λi=>if i=0 then[(0,[some 2]),(1,[]),(7,[]),(8,[])]else[],xv:=λi=>if i=0 then some []else none }
def S103_0 (a0:LI)(a1 x0:Int):St cxT.ty:={ slots:=[(.inl (.inl (ls { own:=0,nm:=0,e:=2,o:=false,xs:=a0 }))),(.inl (.inl (lv (.int .i64 a1)))),aN,aN,aN,aN,aN,(.inl (.inl (lv (.int .i64 (a0.length:Int))))),(.inl (.inl (lv (.int .i64 x0))))]++List.replicate 10 aN,D:=[],F:=[],ctr:=1 }
def X103_0 (a0:LI)(a1:Int):St cxT.ty:={ slots:=[]++List.replicate 19 aN,D:=[],F:=[],ctr:=1 }
theorem aVI (L:Nat)(a0:LI)(a1:Int):eT prog qA (bH L) f103 (aTU.enc (a0,a1))=
 cE prog qA L f103 0 [1,0,1,0,0] (cW (bI prog f103) (cA prog qA L f103 [1,0,1] (bI prog f103)).n (cA prog qA L f103 [1,0,1] (bI prog f103)).x) L (S103_0 a0 a1 0):=by kernel_rfl
theorem aMF (L:Nat)(a0:LI)(a1:Int)(k:KT)(xk:Nat->KT)(g:KT)(x0:Int):eW prog qA L f103 0 [1,0,1,0,0] (cW (bI prog f103) k xk) g (S103_0 a0 a1 x0)=
 bif (decide (x0 < (a0.length:Int)))then bif ((decide (0<=x0))&&(decide (x0 < (a0.length:Int))))then bif (a1 == (List.getD a0 x0.toNat 0))then some (aCz x0)
   else g (S103_0 a0 a1 (wrap .i64 (x0+1)))
  else none
 else k (X103_0 a0 a1):=by kernel_rfl
theorem aMo (L:Nat)(a0:LI)(a1:Int):(cA prog qA L f103 [1,0,1] (bI prog f103)).n (X103_0 a0 a1)=
 some (aCz (-1)):=by kernel_rfl
def qX (L:Nat)(a0:LI)(a1:Int):Nat->Int->(Option Int)->Option Int
 | 0,_,_=>none
 | n+1,x0,k=>
  bif (decide (x0 < (a0.length:Int)))then bif ((decide (0<=x0))&&(decide (x0 < (a0.length:Int))))then bif (a1 == (List.getD a0 x0.toNat 0))then some x0
    else qX L a0 a1 n (wrap .i64 (x0+1)) k
   else none
  else k
theorem aIv (L:Nat)(a0:LI)(a1:Int)(k:KT)(xk:Nat->KT)(k':Option Int)(hk:k (X103_0 a0 a1)=(k').map aCz):∀ (n:Nat) (x0:Int),cE prog qA L f103 0 [1,0,1,0,0] (cW (bI prog f103) k xk) n (S103_0 a0 a1 x0)=(qX L a0 a1 n x0 k').map aCz
 | 0,_=>rfl
 | n+1,x0=>by
  rw[cK,aMF];have ih:=aIv L a0 a1 k xk k' hk n;simp only[qX,aU,aS,aT,aD,aE,ih,hk]
def aKd (L:Nat)(a0:LI)(a1:Int):Option Int:=
 qX L a0 a1 L 0 (some (-1))
theorem aW7 (L:Nat)(a0:LI)(a1:Int):eT prog qA (bH L) f103 (aTU.enc (a0,a1))=(aKd L a0 a1).map aCz:=by
 let K'0:Option Int:=(some (-1))
 have hin0:∀ (x0:Int),cE prog qA L f103 0 [1,0,1,0,0] (cW (bI prog f103) (cA prog qA L f103 [1,0,1] (bI prog f103)).n (cA prog qA L f103 [1,0,1] (bI prog f103)).x) L (S103_0 a0 a1 x0)=(qX L a0 a1 L x0 K'0).map aCz:=λx0=>aIv L a0 a1 _ _ K'0 (by rw[aMo];simp only[K'0,aU,aS,aT,aD,aE]) L x0
 rw[aVI];simp only[aKd,aU,aS,aT,aD,aE,hin0,K'0]
theorem aVn (m:(LI×Int)->Option Int)(hm:∀ (x:(LI×Int)) t,m x=some t->∃ L,aKd L x.1 x.2=some t):Sat prog cxT 103 (aKy m):=
 dS bZ bV (by rfl) (fn:=f103) rfl aTU aCz aL8 m qA bU bP (λL x=>aKd L x.1 x.2) (λL x=>aW7 L x.1 x.2) hm aR2
def aM4 (nG:(LI×Int)->Option Int):Env cxT:={ Kc:=eF [(103,aKy nG)],Kw:=eE [],lv:=λi=>[],xv:=λi=>none }
theorem i87 (nG:(LI×Int)->Option Int)(L:Nat)(a0:LI)(a1:Int):eT prog (aM4 nG) (bH L) f87 (a87.enc (a0,a1))=
 cZ (nG (a0,a1)) 0 λ(q1:Int)=>some (n87 (decide (q1>=0))):=by kernel_rfl
def g87 (nG:(LI×Int)->Option Int)(L:Nat)(a0:LI)(a1:Int):Option Bool:=
 cZ (nG (a0,a1)) 0 λ(q1:Int)=>some (decide (q1>=0))
theorem e87 (nG:(LI×Int)->Option Int)(L:Nat)(a0:LI)(a1:Int):eT prog (aM4 nG) (bH L) f87 (a87.enc (a0,a1))=(g87 nG L a0 a1).map n87:=by
 rw[i87];simp only[g87,aU,aS,aT,aD,aE]
theorem s87 (nG:(LI×Int)->Option Int)(h103:Sat prog cxT 103 (aKy nG))(m:(LI×Int)->Option Bool)(hm:∀ (x:(LI×Int)) t,m x=some t->∃ L,g87 nG L x.1 x.2=some t):Sat prog cxT 87 (c87 m):=
 dS bZ bV (by rfl) (fn:=f87) rfl a87 n87 aNK m (aM4 nG) (bN h103 bU) bP (λL x=>g87 nG L x.1 x.2) (λL x=>e87 nG L x.1 x.2) hm aVT
def pZ (m48:(Vp×Vp)->Option Int):Env cxT:={ Kc:=eF [(48,c48 m48)],Kw:=eE [],lv:=λi=>if i=0 then[(0,[some 76]),(2,[]),(4,[none,none,none,some 2]),(8,[]),(9,[]),(10,[])]else[],xv:=λi=>if i=0 then some [(0,[some 76]),(2,[]),(4,[none,none,none,some 2]),(8,[]),(9,[])]else none }
def S104_0 (a0:LV)(x6 x7 x8:Int)(x9:LI)(a2:Unit)(x0 x1 x2:Int)(x3:LI)(x4 x5:Int):St cxT.ty:={ slots:=[(.inl (.inl (ls { own:=0,nm:=0,e:=76,o:=false,xs:=a0 }))),aN,(.inl (.inl (lv (.func (.func (48:Nat)) #[] #[])))),aN,(.inr (.inr { kind:=0,nm:=256,cells:=[(lv (.int .i64 x0)),(lv (.int .i64 x1)),(lv (.int .i64 x2)),(ls { own:=0,nm:=0,e:=2,o:=false,xs:=x3 })],s:={ own:=0,nm:=0,e:=0,o:=false,xs:=([]:List (PUnit)) },i:=0,off:=0 })),aN,aN,aN,(.inl (.inl (lv (.int .i64 (a0.length:Int))))),(.inl (.inl (lv (.int .i64 x4)))),(.inl (.inl (lv (.int .i64 x5))))]++List.replicate 38 aN,D:=[],F:=[],ctr:=1 }
def X104_0 (a0:LV)(x5 x6 x7:Int)(x8:LI)(a2:Unit)(x0 x1 x2:Int)(x3:LI)(x4:Int):St cxT.ty:={ slots:=[(.inl (.inl (ls { own:=0,nm:=0,e:=76,o:=false,xs:=a0 }))),aN,(.inl (.inl (lv (.func (.func (48:Nat)) #[] #[])))),aN,(.inr (.inr { kind:=0,nm:=256,cells:=[(lv (.int .i64 x0)),(lv (.int .i64 x1)),(lv (.int .i64 x2)),(ls { own:=0,nm:=0,e:=2,o:=false,xs:=x3 })],s:={ own:=0,nm:=0,e:=0,o:=false,xs:=([]:List (PUnit)) },i:=0,off:=0 })),aN,aN,aN,(.inl (.inl (lv (.int .i64 (a0.length:Int))))),(.inl (.inl (lv (.int .i64 x4))))]++List.replicate 39 aN,D:=[],F:=[],ctr:=1 }
theorem aVH (m48:(Vp×Vp)->Option Int)(L:Nat)(a0:LV)(x0 x1 x2:Int)(x3:LI)(a2:Unit):eT prog (pZ m48) (bH L) f104 (aTT.enc (a0,(x0,x1,x2,x3),a2))=
 cE prog (pZ m48) L f104 0 [1,1,1,0,0,0] (cW (bI prog f104) (cA prog (pZ m48) L f104 [1,1,1,0] (bI prog f104)).n (cA prog (pZ m48) L f104 [1,1,1,0] (bI prog f104)).x) L (S104_0 a0 x0 x1 x2 x3 a2 x0 x1 x2 x3 0 (a0.length:Int)):=by kernel_rfl
theorem aME (m48:(Vp×Vp)->Option Int)(L:Nat)(a0:LV)(x6 x7 x8:Int)(x9:LI)(a2:Unit)(k:KT)(xk:Nat->KT)(g:KT)(x2 x3 x4:Int)(x5:LI)(x0 x1:Int):eW prog (pZ m48) L f104 0 [1,1,1,0,0,0] (cW (bI prog f104) k xk) g (S104_0 a0 x6 x7 x8 x9 a2 x2 x3 x4 x5 x0 x1)=
 bif (decide (x0 < x1))then bif ((decide (0<=(wrap .i64 (HF x0 x1))))&&(decide ((wrap .i64 (HF x0 x1)) < (a0.length:Int))))then cZ (m48 (((List.getD a0 (Int.toNat (wrap .i64 (HF x0 x1))) ZV).1,((List.getD a0 (Int.toNat (wrap .i64 (HF x0 x1))) ZV).2.1,((List.getD a0 (Int.toNat (wrap .i64 (HF x0 x1))) ZV).2.2.1,(List.getD a0 (Int.toNat (wrap .i64 (HF x0 x1))) ZV).2.2.2))),(x2,(x3,(x4,x5))))) 0 λ(q3:Int)=>bif (decide (q3 < 0))then g (S104_0 a0 x6 x7 x8 x9 a2 x2 x3 x4 x5 (wrap .i64 ((wrap .i64 (HF x0 x1))+1)) x1)
    else g (S104_0 a0 x6 x7 x8 x9 a2 x2 x3 x4 x5 x0 (wrap .i64 (HF x0 x1)))
  else none
 else k (X104_0 a0 x6 x7 x8 x9 a2 x2 x3 x4 x5 x0):=by kernel_rfl
theorem aMn (m48:(Vp×Vp)->Option Int)(L:Nat)(a0:LV)(x5 x6 x7:Int)(x8:LI)(a2:Unit)(x1 x2 x3:Int)(x4:LI)(x0:Int):(cA prog (pZ m48) L f104 [1,1,1,0] (bI prog f104)).n (X104_0 a0 x5 x6 x7 x8 a2 x1 x2 x3 x4 x0)=
 bif (decide (x0 < (a0.length:Int)))then bif ((decide (0<=x0))&&(decide (x0 < (a0.length:Int))))then cZ (m48 (((List.getD a0 x0.toNat ZV).1,((List.getD a0 x0.toNat ZV).2.1,((List.getD a0 x0.toNat ZV).2.2.1,(List.getD a0 x0.toNat ZV).2.2.2))),(x1,(x2,(x3,x4))))) 0 λ(q3:Int)=>some (aCy (x0,(q3 == 0)))
  else none
 else some (aCy (x0,false)):=by kernel_rfl
def qW (m48:(Vp×Vp)->Option Int)(L:Nat)(a0:LV)(x6 x7 x8:Int)(x9:LI)(a2:Unit):Nat->Int->Int->Int->LI->Int->Int->(Int->Int->Int->LI->Int->Option (Int×Bool))->Option (Int×Bool)
 | 0,_,_,_,_,_,_,_=>none
 | n+1,x2,x3,x4,x5,x0,x1,k=>
  bif (decide (x0 < x1))then bif ((decide (0<=(wrap .i64 (HF x0 x1))))&&(decide ((wrap .i64 (HF x0 x1)) < (a0.length:Int))))then cZ (m48 (((List.getD a0 (Int.toNat (wrap .i64 (HF x0 x1))) ZV).1,((List.getD a0 (Int.toNat (wrap .i64 (HF x0 x1))) ZV).2.1,((List.getD a0 (Int.toNat (wrap .i64 (HF x0 x1))) ZV).2.2.1,(List.getD a0 (Int.toNat (wrap .i64 (HF x0 x1))) ZV).2.2.2))),(x2,(x3,(x4,x5))))) 0 λ(q4:Int)=>bif (decide (q4 < 0))then qW m48 L a0 x6 x7 x8 x9 a2 n x2 x3 x4 x5 (wrap .i64 ((wrap .i64 (HF x0 x1))+1)) x1 k
     else qW m48 L a0 x6 x7 x8 x9 a2 n x2 x3 x4 x5 x0 (wrap .i64 (HF x0 x1)) k
   else none
  else k x2 x3 x4 x5 x0
theorem aIu (m48:(Vp×Vp)->Option Int)(L:Nat)(a0:LV)(x0 x1 x2:Int)(x3:LI)(a2:Unit)(k:KT)(xk:Nat->KT)(k':Int->Int->Int->LI->Int->Option (Int×Bool))(hk:∀ (xa xb xc:Int) (xd:LI) (xe:Int),k (X104_0 a0 x0 x1 x2 x3 a2 xa xb xc xd xe)=(k' xa xb xc xd xe).map aCy):∀ (n:Nat) (x4 x5 x6:Int) (x7:LI) (x8 x9:Int),cE prog (pZ m48) L f104 0 [1,1,1,0,0,0] (cW (bI prog f104) k xk) n (S104_0 a0 x0 x1 x2 x3 a2 x4 x5 x6 x7 x8 x9)=(qW m48 L a0 x0 x1 x2 x3 a2 n x4 x5 x6 x7 x8 x9 k').map aCy
 | 0,_,_,_,_,_,_=>rfl
 | n+1,x4,x5,x6,x7,x8,x9=>by
  rw[cK,aME];have ih:=aIu m48 L a0 x0 x1 x2 x3 a2 k xk k' hk n;simp only[qW,aU,aS,aT,aD,aE,ih,hk]
def aG1 (m48:(Vp×Vp)->Option Int)(L:Nat)(a0:LV)(x1 x2 x3:Int)(x4:LI)(a2:Unit):Option (Int×Bool):=
 qW m48 L a0 x1 x2 x3 x4 a2 L x1 x2 x3 x4 0 (a0.length:Int) (λ(x5 x6 x7:Int) (x8:LI) (x0:Int)=>bif (decide (x0 < (a0.length:Int)))then bif ((decide (0<=x0))&&(decide (x0 < (a0.length:Int))))then cZ (m48 (((List.getD a0 x0.toNat ZV).1,((List.getD a0 x0.toNat ZV).2.1,((List.getD a0 x0.toNat ZV).2.2.1,(List.getD a0 x0.toNat ZV).2.2.2))),(x5,(x6,(x7,x8))))) 0 λ(q4:Int)=>some (x0,(q4 == 0))
   else none
  else some (x0,false))
theorem aW6 (m48:(Vp×Vp)->Option Int)(L:Nat)(a0:LV)(x1 x2 x3:Int)(x4:LI)(a2:Unit):eT prog (pZ m48) (bH L) f104 (aTT.enc (a0,(x1,x2,x3,x4),a2))=(aG1 m48 L a0 x1 x2 x3 x4 a2).map aCy:=by
 let K'0:Int->Int->Int->LI->Int->Option (Int×Bool):=(λ(xb xc xd:Int) (xe:LI) (x0:Int)=>bif (decide (x0 < (a0.length:Int)))then bif ((decide (0<=x0))&&(decide (x0 < (a0.length:Int))))then cZ (m48 (((List.getD a0 x0.toNat ZV).1,((List.getD a0 x0.toNat ZV).2.1,((List.getD a0 x0.toNat ZV).2.2.1,(List.getD a0 x0.toNat ZV).2.2.2))),(xb,(xc,(xd,xe))))) 0 λ(q5:Int)=>some (x0,(q5 == 0))
    else none
   else some (x0,false))
 have hin0:∀ (x5 x6 x7:Int) (x8:LI) (x9 xa:Int),cE prog (pZ m48) L f104 0 [1,1,1,0,0,0] (cW (bI prog f104) (cA prog (pZ m48) L f104 [1,1,1,0] (bI prog f104)).n (cA prog (pZ m48) L f104 [1,1,1,0] (bI prog f104)).x) L (S104_0 a0 x1 x2 x3 x4 a2 x5 x6 x7 x8 x9 xa)=(qW m48 L a0 x1 x2 x3 x4 a2 L x5 x6 x7 x8 x9 xa K'0).map aCy:=λx5 x6 x7 x8 x9 xa=>aIu m48 L a0 x1 x2 x3 x4 a2 _ _ K'0 (λxb xc xd xe x0=>by rw[aMn];simp only[K'0,aU,aS,aT,aD,aE]) L x5 x6 x7 x8 x9 xa
 rw[aVH];simp only[aG1,aU,aS,aT,aD,aE,hin0,K'0]
theorem aVm (m48:(Vp×Vp)->Option Int)(h48:Sat prog cxT 48 (c48 m48))(m:(LV×Vp×Unit)->Option (Int×Bool))(hm:∀ (x:(LV×Vp×Unit)) t,m x=some t->∃ L,aG1 m48 L x.1 x.2.1.1 x.2.1.2.1 x.2.1.2.2.1 x.2.1.2.2.2 x.2.2=some t):Sat prog cxT 104 (aKx m):=
 dS bZ bV (by rfl) (fn:=f104) rfl aTT aCy aL7 m (pZ m48) (bN h48 bU) bP (λL x=>aG1 m48 L x.1 x.2.1.1 x.2.1.2.1 x.2.1.2.2.1 x.2.1.2.2.2 x.2.2) (λL x=>aW6 m48 L x.1 x.2.1.1 x.2.1.2.1 x.2.1.2.2.1 x.2.1.2.2.2 x.2.2) hm aR1
def aM3 (nE:(LV×Vp×Unit)->Option (Int×Bool)):Env cxT:={ Kc:=eF [(104,aKx nE)],Kw:=eE [],lv:=λi=>[],xv:=λi=>none }
theorem i89 (nE:(LV×Vp×Unit)->Option (Int×Bool))(L:Nat)(a0:LV)(a1 a2 a3:Int):eT prog (aM3 nE) (bH L) f89 (a89.enc (a0,a1,a2,a3))=
 cZ (nE (a0,((a1,(a2,(a3,[]))),PUnit.unit))) (0,false) λ(q1:(Int×Bool))=>some (n89 q1):=by kernel_rfl
def g89 (nE:(LV×Vp×Unit)->Option (Int×Bool))(L:Nat)(a0:LV)(a1 a2 a3:Int):Option (Int×Bool):=
 cZ (nE (a0,((a1,(a2,(a3,[]))),PUnit.unit))) (0,false) λ(q1:(Int×Bool))=>some q1
theorem e89 (nE:(LV×Vp×Unit)->Option (Int×Bool))(L:Nat)(a0:LV)(a1 a2 a3:Int):eT prog (aM3 nE) (bH L) f89 (a89.enc (a0,a1,a2,a3))=(g89 nE L a0 a1 a2 a3).map n89:=by
 rw[i89];simp only[g89,aU,aS,aT,aD,aE]
theorem s89 (nE:(LV×Vp×Unit)->Option (Int×Bool))(h104:Sat prog cxT 104 (aKx nE))(m:(LV×Int×Int×Int)->Option (Int×Bool))(hm:∀ (x:(LV×Int×Int×Int)) t,m x=some t->∃ L,g89 nE L x.1 x.2.1 x.2.2.1 x.2.2.2=some t):Sat prog cxT 89 (c89 m):=
 dS bZ bV (by rfl) (fn:=f89) rfl a89 n89 aNJ m (aM3 nE) (bN h104 bU) bP (λL x=>g89 nE L x.1 x.2.1 x.2.2.1 x.2.2.2) (λL x=>e89 nE L x.1 x.2.1 x.2.2.1 x.2.2.2) hm aVS
end Go.Proofs.Tryz
