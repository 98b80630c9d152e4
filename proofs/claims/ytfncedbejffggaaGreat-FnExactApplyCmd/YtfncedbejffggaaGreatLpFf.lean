/- A part of the proof of FnExactApplyCmd: LpFf, LpFg, LpPh, LpIa. -/
import Derived.Test.YtfncedbejffggaaGreatLpFb
import Derived.Test.YtfncedbejffggaaGreatLpPa
import Derived.Test.YtfncedbejffggaaGreatLpBase
import Derived.Test.YtfncedbejffggaaGreatVmPl
import Derived.WalkKit
import Derived.OwnWalk
import Derived.OwnWalkIn
import Derived.Below
import Derived.WalkMore
import Derived.Deep.RegionLaw
import Derived.Shelf.RegionOpenPlain
set_option linter.unusedSimpArgs false
set_option linter.unusedVariables false
set_option maxHeartbeats 0
set_option maxRecDepth 100000
namespace Go.Proofs.Tryz
open Go.IntKind (wrap)
open Go Go.VM Go.RowKit
def yI (eI:(CZ×Int)->Option Int)(oQ:(CZ×Int)->Option Bool):Env cxT:={ Kc:=eF [(74,c74 eI),(78,c78 oQ)],Kw:=eE [],lv:=λi=>if i=0 then[(0,[none,some 68,some 76]),(3,[]),(6,[])]else[],xv:=λi=>if i=0 then some [(0,[none,some 68,some 76]),(3,[]),(6,[])]else none }
def S42_0 (xa:Int)(xb:LB)(xc:LV)(xd xe:Int)(xf xg:Int)(xh xi x0:Int)(x1:LB)(x2:LV)(x3 x4:Int)(x5 x6:Int)(x7 x8 x9:Int):St cxT.ty:={ slots:=[(.inr (.inr { kind:=0,nm:=0,cells:=[(lv (.int .i64 x0)),(ls { own:=1,nm:=2,e:=68,o:=true,xs:=x1 }),(ls { own:=1,nm:=3,e:=76,o:=true,xs:=x2 })],s:={ own:=0,nm:=0,e:=0,o:=false,xs:=([]:List (PUnit)) },i:=0,off:=0 })),aN,aN,(.inr (.inr { kind:=0,nm:=192,cells:=[(lv (.int .i64 x3)),(lv (.int .i64 x4)),(lv (.int .i64 x5)),(lv (.int .i64 x6)),(lv (.int .i64 x7)),(lv (.int .i64 x8))],s:={ own:=0,nm:=0,e:=0,o:=false,xs:=([]:List (PUnit)) },i:=0,off:=0 })),aN,aN,(.inl (.inl (lv (.int .i64 x9))))]++List.replicate 138 aN,D:=[],F:=[],ctr:=1,lo:=1 }
def X42_0 (xa:Int)(xb:LB)(xc:LV)(xd xe:Int)(xf xg:Int)(xh xi x0:Int)(x1:LB)(x2:LV)(x3 x4:Int)(x5 x6:Int)(x7 x8 x9:Int):St cxT.ty:={ slots:=[(.inr (.inr { kind:=0,nm:=0,cells:=[(lv (.int .i64 x0)),(ls { own:=1,nm:=2,e:=68,o:=true,xs:=x1 }),(ls { own:=1,nm:=3,e:=76,o:=true,xs:=x2 })],s:={ own:=0,nm:=0,e:=0,o:=false,xs:=([]:List (PUnit)) },i:=0,off:=0 })),aN,aN,(.inr (.inr { kind:=0,nm:=192,cells:=[(lv (.int .i64 x3)),(lv (.int .i64 x4)),(lv (.int .i64 x5)),(lv (.int .i64 x6)),(lv (.int .i64 x7)),(lv (.int .i64 x8))],s:={ own:=0,nm:=0,e:=0,o:=false,xs:=([]:List (PUnit)) },i:=0,off:=0 })),aN,aN,(.inl (.inl (lv (.int .i64 x9))))]++List.replicate 138 aN,D:=[],F:=[],ctr:=1,lo:=1 }
theorem i42 (eI:(CZ×Int)->Option Int)(oQ:(CZ×Int)->Option Bool)(L:Nat)(x1:Int)(x0:LB)(x2:LV)(x3 x6:Int)(x5 x7:Int)(x4 x8:Int):wH prog (yI eI oQ) (bH L) f42 (a42.enc ((x1,x0,x2),(x3,x6,x5,x7,x4,x8))) none=
 cZ (eI ((x1,(x0,x2)),x5)) 0 λ(q1:Int)=>bif (x3 == 1)then bif (decide (q1>=0))then some (n42 (7,x1,x0,x2))
   else bif (decide ((x0.length:Int)>=8))then some (n42 (2,x1,x0,x2))
   else cE prog (yI eI oQ) L f42 0 [1,1,0,1,0,1,1,1,0,0,0] (cW (λst=>iS prog f42 st none) (cA prog (yI eI oQ) L f42 [1,1,0,1,0,1,1,1,0] (λst=>iS prog f42 st none)).n (cA prog (yI eI oQ) L f42 [1,1,0,1,0,1,1,1,0] (λst=>iS prog f42 st none)).x) L (S42_0 x1 x0 x2 x3 x6 x5 x7 x4 x8 x1 x0 x2 x3 x6 x5 x7 x4 x8 0)
  else bif (decide (q1 < 0))then some (n42 (4,x1,x0,x2))
  else bif (x3 == 2)then bif ((decide (0<=q1))&&(decide (q1 < (x0.length:Int))))then some (n42 (0,x1,(List.set x0 q1.toNat ((List.getD x0 q1.toNat ZB).1,((List.getD x0 q1.toNat ZB).2.1,(x4,((List.getD x0 q1.toNat ZB).2.2.2.1,(List.getD x0 q1.toNat ZB).2.2.2.2))))),x2))
   else none
  else bif (x3 == 3)then bif ((decide (0<=q1))&&(decide (q1 < (x0.length:Int))))then some (n42 (0,x1,(List.set x0 q1.toNat ((List.getD x0 q1.toNat ZB).1,((List.getD x0 q1.toNat ZB).2.1,((List.getD x0 q1.toNat ZB).2.2.1,(x4,(List.getD x0 q1.toNat ZB).2.2.2.2))))),x2))
   else none
  else bif (x3 == 9)then bif ((decide (0<=q1))&&(decide (q1 < (x0.length:Int))))then some (n42 (0,x1,(List.set x0 q1.toNat ((List.getD x0 q1.toNat ZB).1,((List.getD x0 q1.toNat ZB).2.1,((List.getD x0 q1.toNat ZB).2.2.1,((List.getD x0 q1.toNat ZB).2.2.2.1,(x4 == 1)))))),x2))
   else none
  else bif (x3 == 4)then bif ((decide (0<=q1))&&(decide (q1 < (x0.length:Int))))then bif ((List.getD x0 q1.toNat ZB).2.2.2.1 != 3)then some (n42 (10,x1,x0,x2))
    else cZ (oQ ((x1,(x0,x2)),x5)) false λ(q4:Bool)=>bif q4 then some (n42 (8,x1,x0,x2))
     else bif (((decide ((0:Int)<=0))&&(decide (0<=q1)))&&(decide (q1<=(x0.length:Int))))then bif (decide (((List.length ([]:LB))+(List.length (List.drop (Int.toNat 0) (List.take q1.toNat x0))))<=(1000000000:Nat)))then bif (((decide (0<=(wrap .i64 (q1+1))))&&(decide ((wrap .i64 (q1+1))<=(x0.length:Int))))&&(decide ((x0.length:Int)<=(x0.length:Int))))then bif (decide (((List.length ([]++(List.drop (Int.toNat 0) (List.take q1.toNat x0))))+(List.length (List.drop (Int.toNat (wrap .i64 (q1+1))) (List.take (Int.toNat (x0.length:Int)) x0))))<=(1000000000:Nat)))then some (n42 (0,x1,(([]++(List.drop (Int.toNat 0) (List.take q1.toNat x0)))++(List.drop (Int.toNat (wrap .i64 (q1+1))) (List.take (Int.toNat (x0.length:Int)) x0))),x2))
        else none
       else none
      else none
     else none
   else none
  else some (n42 (0,x1,x0,x2)):=by kernel_rfl
theorem aQ2 (eI:(CZ×Int)->Option Int)(oQ:(CZ×Int)->Option Bool)(L:Nat)(x3:Int)(x4:LB)(x5:LV)(x6 x7:Int)(x8 x9:Int)(xa xb:Int)(k:St cxT.ty->Option (List (A cxT.ty)))(xk:Nat->St cxT.ty->Option (List (A cxT.ty)))(g:St cxT.ty->Option (List (A cxT.ty)))(xc:Int)(x1:LB)(xd:LV)(xe xf:Int)(x2 xg:Int)(xh xi x0:Int):eW prog (yI eI oQ) L f42 0 [1,1,0,1,0,1,1,1,0,0,0] (cW (λst=>iS prog f42 st none) k xk) g (S42_0 x3 x4 x5 x6 x7 x8 x9 xa xb xc x1 xd xe xf x2 xg xh xi x0)=
 bif (decide (x0 < (x1.length:Int)))then bif ((decide (0<=x0))&&(decide (x0 < (x1.length:Int))))then bif (decide ((List.getD x1 x0.toNat ZB).1 < x2))then g (S42_0 x3 x4 x5 x6 x7 x8 x9 xa xb xc x1 xd xe xf x2 xg xh xi (wrap .i64 (x0+1)))
   else k (X42_0 x3 x4 x5 x6 x7 x8 x9 xa xb xc x1 xd xe xf x2 xg xh xi x0)
  else none
 else k (X42_0 x3 x4 x5 x6 x7 x8 x9 xa xb xc x1 xd xe xf x2 xg xh xi x0):=by kernel_rfl
theorem aPt (eI:(CZ×Int)->Option Int)(oQ:(CZ×Int)->Option Bool)(L:Nat)(x7:Int)(x8:LB)(x9:LV)(xa xb:Int)(xc xd:Int)(xe xf x5:Int)(x0:LB)(x6:LV)(xg xh:Int)(x2 x3:Int)(x4 xi x1:Int):(cA prog (yI eI oQ) L f42 [1,1,0,1,0,1,1,1,0] (λst=>iS prog f42 st none)).n (X42_0 x7 x8 x9 xa xb xc xd xe xf x5 x0 x6 xg xh x2 x3 x4 xi x1)=
 bif (((decide ((0:Int)<=0))&&(decide (0<=x1)))&&(decide (x1<=(x0.length:Int))))then bif (decide (((List.length ([]:LB))+(List.length (List.drop (Int.toNat 0) (List.take x1.toNat x0))))<=(1000000000:Nat)))then bif (decide (((List.length ([]++(List.drop (Int.toNat 0) (List.take x1.toNat x0))))+(List.length (List.cons (x2,(x3,(x4,(1,true)))) [])))<=(1000000000:Nat)))then bif (((decide (0<=x1))&&(decide (x1<=(x0.length:Int))))&&(decide ((x0.length:Int)<=(x0.length:Int))))then bif (decide (((List.length (([]++(List.drop (Int.toNat 0) (List.take x1.toNat x0)))++(List.cons (x2,(x3,(x4,(1,true)))) [])))+(List.length (List.drop x1.toNat (List.take (Int.toNat (x0.length:Int)) x0))))<=(1000000000:Nat)))then some (n42 (0,x5,((([]++(List.drop (Int.toNat 0) (List.take x1.toNat x0)))++(List.cons (x2,(x3,(x4,(1,true)))) []))++(List.drop x1.toNat (List.take (Int.toNat (x0.length:Int)) x0))),x6))
     else none
    else none
   else none
  else none
 else none:=by kernel_rfl
def aAr (eI:(CZ×Int)->Option Int)(oQ:(CZ×Int)->Option Bool)(L:Nat)(xa:Int)(xb:LB)(xc:LV)(xd xe:Int)(xf xg:Int)(xh xi:Int):Nat->Int->LB->LV->Int->Int->Int->Int->Int->Int->Int->(Int->LB->LV->Int->Int->Int->Int->Int->Int->Int->Option CR)->Option CR
 | 0,_,_,_,_,_,_,_,_,_,_,_=>none
 | n+1,x3,x1,x4,x5,x6,x2,x7,x8,x9,x0,k=>
  bif (decide (x0 < (x1.length:Int)))then bif ((decide (0<=x0))&&(decide (x0 < (x1.length:Int))))then bif (decide ((List.getD x1 x0.toNat ZB).1 < x2))then aAr eI oQ L xa xb xc xd xe xf xg xh xi n x3 x1 x4 x5 x6 x2 x7 x8 x9 (wrap .i64 (x0+1)) k
    else k x3 x1 x4 x5 x6 x2 x7 x8 x9 x0
   else none
  else k x3 x1 x4 x5 x6 x2 x7 x8 x9 x0
theorem aLL (eI:(CZ×Int)->Option Int)(oQ:(CZ×Int)->Option Bool)(L:Nat)(x0:Int)(x1:LB)(x2:LV)(x3 x4:Int)(x5 x6:Int)(x7 x8:Int)(k:St cxT.ty->Option (List (A cxT.ty)))(xk:Nat->St cxT.ty->Option (List (A cxT.ty)))(k':Int->LB->LV->Int->Int->Int->Int->Int->Int->Int->Option CR)(hk:∀ (xj:Int) (xl:LB) (xm:LV) (xn xo:Int) (xp xq:Int) (xr xs xt:Int),k (X42_0 x0 x1 x2 x3 x4 x5 x6 x7 x8 xj xl xm xn xo xp xq xr xs xt)=(k' xj xl xm xn xo xp xq xr xs xt).map n42):∀ (n:Nat) (x9:Int) (xa:LB) (xb:LV) (xc xd:Int) (xe xf:Int) (xg xh xi:Int),cE prog (yI eI oQ) L f42 0 [1,1,0,1,0,1,1,1,0,0,0] (cW (λst=>iS prog f42 st none) k xk) n (S42_0 x0 x1 x2 x3 x4 x5 x6 x7 x8 x9 xa xb xc xd xe xf xg xh xi)=(aAr eI oQ L x0 x1 x2 x3 x4 x5 x6 x7 x8 n x9 xa xb xc xd xe xf xg xh xi k').map n42
 | 0,_,_,_,_,_,_,_,_,_,_=>rfl
 | n+1,x9,xa,xb,xc,xd,xe,xf,xg,xh,xi=>by
  rw[cK,aQ2];have ih:=aLL eI oQ L x0 x1 x2 x3 x4 x5 x6 x7 x8 k xk k' hk n;simp only[aAr,aU,aS,aT,aD,aE,ih,hk]
def g42 (eI:(CZ×Int)->Option Int)(oQ:(CZ×Int)->Option Bool)(L:Nat)(x1:Int)(x0:LB)(x2:LV)(x5 xb:Int)(x7 xc:Int)(x6 xd:Int):Option CR:=
 cZ (eI ((x1,(x0,x2)),x7)) 0 λ(q1:Int)=>bif (x5 == 1)then bif (decide (q1>=0))then some (7,x1,x0,x2)
   else bif (decide ((x0.length:Int)>=8))then some (2,x1,x0,x2)
   else aAr eI oQ L x1 x0 x2 x5 xb x7 xc x6 xd L x1 x0 x2 x5 xb x7 xc x6 xd 0 (λ(xe:Int) (x3:LB) (xf:LV) (xg xh:Int) (x8 x9:Int) (xa xi x4:Int)=>bif (((decide ((0:Int)<=0))&&(decide (0<=x4)))&&(decide (x4<=(x3.length:Int))))then bif (decide (((List.length ([]:LB))+(List.length (List.drop (Int.toNat 0) (List.take x4.toNat x3))))<=(1000000000:Nat)))then bif (decide (((List.length ([]++(List.drop (Int.toNat 0) (List.take x4.toNat x3))))+(List.length (List.cons (x8,(x9,(xa,(1,true)))) [])))<=(1000000000:Nat)))then bif (((decide (0<=x4))&&(decide (x4<=(x3.length:Int))))&&(decide ((x3.length:Int)<=(x3.length:Int))))then bif (decide (((List.length (([]++(List.drop (Int.toNat 0) (List.take x4.toNat x3)))++(List.cons (x8,(x9,(xa,(1,true)))) [])))+(List.length (List.drop x4.toNat (List.take (Int.toNat (x3.length:Int)) x3))))<=(1000000000:Nat)))then some (0,xe,((([]++(List.drop (Int.toNat 0) (List.take x4.toNat x3)))++(List.cons (x8,(x9,(xa,(1,true)))) []))++(List.drop x4.toNat (List.take (Int.toNat (x3.length:Int)) x3))),xf)
        else none
       else none
      else none
     else none
    else none)
  else bif (decide (q1 < 0))then some (4,x1,x0,x2)
  else bif (x5 == 2)then bif ((decide (0<=q1))&&(decide (q1 < (x0.length:Int))))then some (0,x1,(List.set x0 q1.toNat ((List.getD x0 q1.toNat ZB).1,((List.getD x0 q1.toNat ZB).2.1,(x6,((List.getD x0 q1.toNat ZB).2.2.2.1,(List.getD x0 q1.toNat ZB).2.2.2.2))))),x2)
   else none
  else bif (x5 == 3)then bif ((decide (0<=q1))&&(decide (q1 < (x0.length:Int))))then some (0,x1,(List.set x0 q1.toNat ((List.getD x0 q1.toNat ZB).1,((List.getD x0 q1.toNat ZB).2.1,((List.getD x0 q1.toNat ZB).2.2.1,(x6,(List.getD x0 q1.toNat ZB).2.2.2.2))))),x2)
   else none
  else bif (x5 == 9)then bif ((decide (0<=q1))&&(decide (q1 < (x0.length:Int))))then some (0,x1,(List.set x0 q1.toNat ((List.getD x0 q1.toNat ZB).1,((List.getD x0 q1.toNat ZB).2.1,((List.getD x0 q1.toNat ZB).2.2.1,((List.getD x0 q1.toNat ZB).2.2.2.1,(x6 == 1)))))),x2)
   else none
  else bif (x5 == 4)then bif ((decide (0<=q1))&&(decide (q1 < (x0.length:Int))))then bif ((List.getD x0 q1.toNat ZB).2.2.2.1 != 3)then some (10,x1,x0,x2)
    else cZ (oQ ((x1,(x0,x2)),x7)) false λ(q4:Bool)=>bif q4 then some (8,x1,x0,x2)
     else bif (((decide ((0:Int)<=0))&&(decide (0<=q1)))&&(decide (q1<=(x0.length:Int))))then bif (decide (((List.length ([]:LB))+(List.length (List.drop (Int.toNat 0) (List.take q1.toNat x0))))<=(1000000000:Nat)))then bif (((decide (0<=(wrap .i64 (q1+1))))&&(decide ((wrap .i64 (q1+1))<=(x0.length:Int))))&&(decide ((x0.length:Int)<=(x0.length:Int))))then bif (decide (((List.length ([]++(List.drop (Int.toNat 0) (List.take q1.toNat x0))))+(List.length (List.drop (Int.toNat (wrap .i64 (q1+1))) (List.take (Int.toNat (x0.length:Int)) x0))))<=(1000000000:Nat)))then some (0,x1,(([]++(List.drop (Int.toNat 0) (List.take q1.toNat x0)))++(List.drop (Int.toNat (wrap .i64 (q1+1))) (List.take (Int.toNat (x0.length:Int)) x0))),x2)
        else none
       else none
      else none
     else none
   else none
  else some (0,x1,x0,x2)
theorem e42 (eI:(CZ×Int)->Option Int)(oQ:(CZ×Int)->Option Bool)(L:Nat)(x2:Int)(x3:LB)(x4:LV)(x5 x6:Int)(x7 x8:Int)(x9 xa:Int):wH prog (yI eI oQ) (bH L) f42 (a42.enc ((x2,x3,x4),(x5,x6,x7,x8,x9,xa))) none=(g42 eI oQ L x2 x3 x4 x5 x6 x7 x8 x9 xa).map n42:=by
 let K'0:Int->LB->LV->Int->Int->Int->Int->Int->Int->Int->Option CR:=(λ(xo:Int) (x0:LB) (xp:LV) (xq xr:Int) (xb xc:Int) (xd xs x1:Int)=>bif (((decide ((0:Int)<=0))&&(decide (0<=x1)))&&(decide (x1<=(x0.length:Int))))then bif (decide (((List.length ([]:LB))+(List.length (List.drop (Int.toNat 0) (List.take x1.toNat x0))))<=(1000000000:Nat)))then bif (decide (((List.length ([]++(List.drop (Int.toNat 0) (List.take x1.toNat x0))))+(List.length (List.cons (xb,(xc,(xd,(1,true)))) [])))<=(1000000000:Nat)))then bif (((decide (0<=x1))&&(decide (x1<=(x0.length:Int))))&&(decide ((x0.length:Int)<=(x0.length:Int))))then bif (decide (((List.length (([]++(List.drop (Int.toNat 0) (List.take x1.toNat x0)))++(List.cons (xb,(xc,(xd,(1,true)))) [])))+(List.length (List.drop x1.toNat (List.take (Int.toNat (x0.length:Int)) x0))))<=(1000000000:Nat)))then some (0,xo,((([]++(List.drop (Int.toNat 0) (List.take x1.toNat x0)))++(List.cons (xb,(xc,(xd,(1,true)))) []))++(List.drop x1.toNat (List.take (Int.toNat (x0.length:Int)) x0))),xp)
       else none
      else none
     else none
    else none
   else none)
 have hin0:∀ (xe:Int) (xf:LB) (xg:LV) (xh xi:Int) (xj xk:Int) (xl xm xn:Int),cE prog (yI eI oQ) L f42 0 [1,1,0,1,0,1,1,1,0,0,0] (cW (λst=>iS prog f42 st none) (cA prog (yI eI oQ) L f42 [1,1,0,1,0,1,1,1,0] (λst=>iS prog f42 st none)).n (cA prog (yI eI oQ) L f42 [1,1,0,1,0,1,1,1,0] (λst=>iS prog f42 st none)).x) L (S42_0 x2 x3 x4 x5 x6 x7 x8 x9 xa xe xf xg xh xi xj xk xl xm xn)=(aAr eI oQ L x2 x3 x4 x5 x6 x7 x8 x9 xa L xe xf xg xh xi xj xk xl xm xn K'0).map n42:=λxe xf xg xh xi xj xk xl xm xn=>aLL eI oQ L x2 x3 x4 x5 x6 x7 x8 x9 xa _ _ K'0 (λxo x0 xp xq xr xb xc xd xs x1=>by rw[aPt];simp only[K'0,aU,aS,aT,aD,aE]) L xe xf xg xh xi xj xk xl xm xn
 rw[i42];simp only[g42,aU,aS,aT,aD,aE,hin0,K'0]
theorem s42 (eI:(CZ×Int)->Option Int)(oQ:(CZ×Int)->Option Bool)(h74:Sat prog cxT 74 (c74 eI))(h78:Sat prog cxT 78 (c78 oQ))(m:(CZ×DZ)->Option CR)(hm:∀ (x:(CZ×DZ)) t,m x=some t->∃ L,g42 eI oQ L x.1.1 x.1.2.1 x.1.2.2 x.2.1 x.2.2.1 x.2.2.2.1 x.2.2.2.2.1 x.2.2.2.2.2.1 x.2.2.2.2.2.2=some t):SatQ prog cxT 42 (c42 m).nres (c42 m).F (c42 m).bx:=
 aDB bZ bV (by rfl) (fn:=f42) rfl rfl a42 n42 aSY m (yI eI oQ) (bN h74 (bN h78 bU)) bP (λL x=>g42 eI oQ L x.1.1 x.1.2.1 x.1.2.2 x.2.1 x.2.2.1 x.2.2.2.1 x.2.2.2.2.1 x.2.2.2.2.2.1 x.2.2.2.2.2.2) (λL x=>e42 eI oQ L x.1.1 x.1.2.1 x.1.2.2 x.2.1 x.2.2.1 x.2.2.2.1 x.2.2.2.2.1 x.2.2.2.2.2.1 x.2.2.2.2.2.2) hm aWr
def kT (jG:(CZ×DZ)->Option Int)(fH:(Vp×Vp)->Option Bool)(eI:(CZ×Int)->Option Int)(fP:(LI×Int)->Option Bool)(jC:(LI×Int)->Option LI):Env cxT:={ Kc:=eF [(75,c75 jG),(73,c73 fH),(74,c74 eI),(76,c76 fP),(77,c77 jC)],Kw:=eE [],lv:=λi=>if i=0 then[(0,[none,some 68,some 76]),(6,[none,none,none,some 2]),(7,[])]else if i=3 then[(0,[none,some 68,some 76]),(3,[]),(5,[]),(8,[some 2]),(9,[])]else[],xv:=λi=>if i=0 then some [(0,[none,some 68,some 76]),(6,[none,none,none,some 2]),(7,[])]else if i=3 then some [(0,[none,some 68,some 76]),(5,[]),(8,[some 2])]else none }
def S41_0 (x8:Int)(x9:LB)(xa:LV)(xb xc:Int)(xd xe:Int)(xf xg x0:Int)(x1:LB)(x2:LV)(x3 x4 x5:Int)(x6:LI)(x7:Int):St cxT.ty:={ slots:=[(.inr (.inr { kind:=0,nm:=0,cells:=[(lv (.int .i64 x0)),(ls { own:=1,nm:=2,e:=68,o:=true,xs:=x1 }),(ls { own:=1,nm:=3,e:=76,o:=true,xs:=x2 })],s:={ own:=0,nm:=0,e:=0,o:=false,xs:=([]:List (PUnit)) },i:=0,off:=0 })),aN,aN,aN,aN,aN,(.inr (.inr { kind:=0,nm:=384,cells:=[(lv (.int .i64 x3)),(lv (.int .i64 x4)),(lv (.int .i64 x5)),(ls { own:=1,nm:=388,e:=2,o:=true,xs:=x6 })],s:={ own:=0,nm:=0,e:=0,o:=false,xs:=([]:List (PUnit)) },i:=0,off:=0 })),(.inl (.inl (lv (.int .i64 x7))))]++List.replicate 203 aN,D:=[],F:=[],ctr:=1,lo:=1 }
def X41_0 (x8:Int)(x9:LB)(xa:LV)(xb xc:Int)(xd xe:Int)(xf xg x0:Int)(x1:LB)(x2:LV)(x3 x4 x5:Int)(x6:LI)(x7:Int):St cxT.ty:={ slots:=[(.inr (.inr { kind:=0,nm:=0,cells:=[(lv (.int .i64 x0)),(ls { own:=1,nm:=2,e:=68,o:=true,xs:=x1 }),(ls { own:=1,nm:=3,e:=76,o:=true,xs:=x2 })],s:={ own:=0,nm:=0,e:=0,o:=false,xs:=([]:List (PUnit)) },i:=0,off:=0 })),aN,aN,aN,aN,aN,(.inr (.inr { kind:=0,nm:=384,cells:=[(lv (.int .i64 x3)),(lv (.int .i64 x4)),(lv (.int .i64 x5)),(ls { own:=1,nm:=388,e:=2,o:=true,xs:=x6 })],s:={ own:=0,nm:=0,e:=0,o:=false,xs:=([]:List (PUnit)) },i:=0,off:=0 })),(.inl (.inl (lv (.int .i64 x7))))]++List.replicate 203 aN,D:=[],F:=[],ctr:=1,lo:=1 }
def S41_3 (xc:Int)(xd:LB)(xe:LV)(xf xg:Int)(xh xi:Int)(xj xk x0:Int)(x1:LB)(x2:LV)(x3 x4:Int)(x5 x6:Int)(x7 x8 x9:Int)(xa:LI)(xb:Int):St cxT.ty:={ slots:=[(.inr (.inr { kind:=0,nm:=0,cells:=[(lv (.int .i64 x0)),(ls { own:=1,nm:=2,e:=68,o:=true,xs:=x1 }),(ls { own:=1,nm:=3,e:=76,o:=true,xs:=x2 })],s:={ own:=0,nm:=0,e:=0,o:=false,xs:=([]:List (PUnit)) },i:=0,off:=0 })),aN,aN,(.inr (.inr { kind:=0,nm:=192,cells:=[(lv (.int .i64 x3)),(lv (.int .i64 x4)),(lv (.int .i64 x5)),(lv (.int .i64 x6)),(lv (.int .i64 x7)),(lv (.int .i64 x8))],s:={ own:=0,nm:=0,e:=0,o:=false,xs:=([]:List (PUnit)) },i:=0,off:=0 })),aN,(.inl (.inl (lv (.int .i64 x9)))),aN,aN,(.inl (.inl (ls { own:=1,nm:=512,e:=2,o:=true,xs:=xa }))),(.inl (.inl (lv (.int .i64 xb))))]++List.replicate 201 aN,D:=[],F:=[],ctr:=1,lo:=1 }
def X41_3 (x5:Int)(x6:LB)(x7:LV)(x8 x9:Int)(xa xb:Int)(xc xd x0:Int)(x1:LB)(x2:LV)(x3:Int)(x4:LI):St cxT.ty:={ slots:=[(.inr (.inr { kind:=0,nm:=0,cells:=[(lv (.int .i64 x0)),(ls { own:=1,nm:=2,e:=68,o:=true,xs:=x1 }),(ls { own:=1,nm:=3,e:=76,o:=true,xs:=x2 })],s:={ own:=0,nm:=0,e:=0,o:=false,xs:=([]:List (PUnit)) },i:=0,off:=0 })),aN,aN,aN,aN,(.inl (.inl (lv (.int .i64 x3)))),aN,aN,(.inl (.inl (ls { own:=1,nm:=512,e:=2,o:=true,xs:=x4 })))]++List.replicate 202 aN,D:=[],F:=[],ctr:=1,lo:=1 }
theorem i41 (jG:(CZ×DZ)->Option Int)(fH:(Vp×Vp)->Option Bool)(eI:(CZ×Int)->Option Int)(fP:(LI×Int)->Option Bool)(jC:(LI×Int)->Option LI)(L:Nat)(x1:Int)(x2:LB)(x0:LV)(x3 x8:Int)(x4 x5:Int)(x6 x7:Int):wH prog (kT jG fH eI fP jC) (bH L) f41 (a41.enc ((x1,x2,x0),(x3,x8,x4,x5,x6,x7))) none=
 cZ (jG ((x1,(x2,x0)),(x3,(x8,(x4,(x5,(x6,x7))))))) 0 λ(q1:Int)=>bif (x3 == 5)then bif (decide (q1>=0))then some (uC (7,x1,x2,x0))
   else bif (decide ((x0.length:Int)>=4))then some (uC (2,x1,x2,x0))
   else cE prog (kT jG fH eI fP jC) L f41 0 [1,1,0,1,0,1,1,1,1,0,0,0] (cW (λst=>iS prog f41 st none) (cA prog (kT jG fH eI fP jC) L f41 [1,1,0,1,0,1,1,1,1,0] (λst=>iS prog f41 st none)).n (cA prog (kT jG fH eI fP jC) L f41 [1,1,0,1,0,1,1,1,1,0] (λst=>iS prog f41 st none)).x) L (S41_0 x1 x2 x0 x3 x8 x4 x5 x6 x7 x1 x2 x0 x5 x6 x7 [] 0)
  else bif (decide (q1 < 0))then some (uC (4,x1,x2,x0))
  else bif (x3 == 7)then cZ (eI ((x1,(x2,x0)),x4)) 0 λ(q3:Int)=>bif (decide (q3 < 0))then some (uC (4,x1,x2,x0))
    else bif (x3 == 8)then bif ((decide (0<=q1))&&(decide (q1 < (x0.length:Int))))then cZ (fP ((List.getD x0 q1.toNat ZV).2.2.2,x4)) false λ(q6:Bool)=>bif (!q6)then some (uC (4,x1,x2,x0))
       else bif (x3 == 6)then bif (((decide ((0:Int)<=0))&&(decide (0<=q1)))&&(decide (q1<=(x0.length:Int))))then bif (decide (((List.length ([]:LV))+(List.length (List.drop (Int.toNat 0) (List.take q1.toNat x0))))<=(1000000000:Nat)))then bif (((decide (0<=(wrap .i64 (q1+1))))&&(decide ((wrap .i64 (q1+1))<=(x0.length:Int))))&&(decide ((x0.length:Int)<=(x0.length:Int))))then bif (decide (((List.length ([]++(List.drop (Int.toNat 0) (List.take q1.toNat x0))))+(List.length (List.drop (Int.toNat (wrap .i64 (q1+1))) (List.take (Int.toNat (x0.length:Int)) x0))))<=(1000000000:Nat)))then none
           else none
          else none
         else none
        else none
       else bif (x3 == 7)then bif ((decide (0<=q1))&&(decide (q1 < (x0.length:Int))))then cZ (fP ((List.getD x0 q1.toNat ZV).2.2.2,x4)) false λ(q9:Bool)=>bif q6 then some (uC (7,x1,x2,x0))
          else bif ((decide (0<=q1))&&(decide (q1 < (x0.length:Int))))then cZ (jC ((List.getD x0 q1.toNat ZV).2.2.2,x4)) [] λ(q11:LI)=>bif ((decide (0<=q1))&&(decide (q1 < (x0.length:Int))))then some (uC (0,x1,x2,(List.set x0 q1.toNat ((List.getD x0 q1.toNat ZV).1,((List.getD x0 q1.toNat ZV).2.1,((List.getD x0 q1.toNat ZV).2.2.1,q11))))))
            else none
          else none
        else none
       else bif (x3 == 8)then cE prog (kT jG fH eI fP jC) L f41 3 [1,1,1,1,0,1,0,1,1,1,1,1,0,1,0,1,0,0] (cW (λst=>iS prog f41 st none) (cA prog (kT jG fH eI fP jC) L f41 [1,1,1,1,0,1,0,1,1,1,1,1,0,1,0,1] (λst=>iS prog f41 st none)).n (cA prog (kT jG fH eI fP jC) L f41 [1,1,1,1,0,1,0,1,1,1,1,1,0,1,0,1] (λst=>iS prog f41 st none)).x) L (S41_3 x1 x2 x0 x3 x8 x4 x5 x6 x7 x1 x2 x0 x3 x8 x4 x5 x6 x7 q1 [] 0)
       else some (uC (0,x1,x2,x0))
     else none
    else bif (x3 == 6)then bif (((decide ((0:Int)<=0))&&(decide (0<=q1)))&&(decide (q1<=(x0.length:Int))))then bif (decide (((List.length ([]:LV))+(List.length (List.drop (Int.toNat 0) (List.take q1.toNat x0))))<=(1000000000:Nat)))then bif (((decide (0<=(wrap .i64 (q1+1))))&&(decide ((wrap .i64 (q1+1))<=(x0.length:Int))))&&(decide ((x0.length:Int)<=(x0.length:Int))))then bif (decide (((List.length ([]++(List.drop (Int.toNat 0) (List.take q1.toNat x0))))+(List.length (List.drop (Int.toNat (wrap .i64 (q1+1))) (List.take (Int.toNat (x0.length:Int)) x0))))<=(1000000000:Nat)))then none
        else none
       else none
      else none
     else none
    else bif (x3 == 7)then bif ((decide (0<=q1))&&(decide (q1 < (x0.length:Int))))then cZ (fP ((List.getD x0 q1.toNat ZV).2.2.2,x4)) false λ(q6:Bool)=>bif q6 then some (uC (7,x1,x2,x0))
       else bif ((decide (0<=q1))&&(decide (q1 < (x0.length:Int))))then cZ (jC ((List.getD x0 q1.toNat ZV).2.2.2,x4)) [] λ(q8:LI)=>bif ((decide (0<=q1))&&(decide (q1 < (x0.length:Int))))then some (uC (0,x1,x2,(List.set x0 q1.toNat ((List.getD x0 q1.toNat ZV).1,((List.getD x0 q1.toNat ZV).2.1,((List.getD x0 q1.toNat ZV).2.2.1,q8))))))
         else none
       else none
     else none
    else bif (x3 == 8)then cE prog (kT jG fH eI fP jC) L f41 3 [1,1,1,1,0,1,0,1,1,1,1,1,0,1,0,1,0,0] (cW (λst=>iS prog f41 st none) (cA prog (kT jG fH eI fP jC) L f41 [1,1,1,1,0,1,0,1,1,1,1,1,0,1,0,1] (λst=>iS prog f41 st none)).n (cA prog (kT jG fH eI fP jC) L f41 [1,1,1,1,0,1,0,1,1,1,1,1,0,1,0,1] (λst=>iS prog f41 st none)).x) L (S41_3 x1 x2 x0 x3 x8 x4 x5 x6 x7 x1 x2 x0 x3 x8 x4 x5 x6 x7 q1 [] 0)
    else some (uC (0,x1,x2,x0))
  else bif (x3 == 8)then bif ((decide (0<=q1))&&(decide (q1 < (x0.length:Int))))then cZ (fP ((List.getD x0 q1.toNat ZV).2.2.2,x4)) false λ(q4:Bool)=>bif (!q4)then some (uC (4,x1,x2,x0))
     else bif (x3 == 6)then bif (((decide ((0:Int)<=0))&&(decide (0<=q1)))&&(decide (q1<=(x0.length:Int))))then bif (decide (((List.length ([]:LV))+(List.length (List.drop (Int.toNat 0) (List.take q1.toNat x0))))<=(1000000000:Nat)))then bif (((decide (0<=(wrap .i64 (q1+1))))&&(decide ((wrap .i64 (q1+1))<=(x0.length:Int))))&&(decide ((x0.length:Int)<=(x0.length:Int))))then bif (decide (((List.length ([]++(List.drop (Int.toNat 0) (List.take q1.toNat x0))))+(List.length (List.drop (Int.toNat (wrap .i64 (q1+1))) (List.take (Int.toNat (x0.length:Int)) x0))))<=(1000000000:Nat)))then none
         else none
        else none
       else none
      else none
     else bif (x3 == 7)then bif ((decide (0<=q1))&&(decide (q1 < (x0.length:Int))))then cZ (fP ((List.getD x0 q1.toNat ZV).2.2.2,x4)) false λ(q7:Bool)=>bif q4 then some (uC (7,x1,x2,x0))
        else bif ((decide (0<=q1))&&(decide (q1 < (x0.length:Int))))then cZ (jC ((List.getD x0 q1.toNat ZV).2.2.2,x4)) [] λ(q9:LI)=>bif ((decide (0<=q1))&&(decide (q1 < (x0.length:Int))))then some (uC (0,x1,x2,(List.set x0 q1.toNat ((List.getD x0 q1.toNat ZV).1,((List.getD x0 q1.toNat ZV).2.1,((List.getD x0 q1.toNat ZV).2.2.1,q9))))))
          else none
        else none
      else none
     else bif (x3 == 8)then cE prog (kT jG fH eI fP jC) L f41 3 [1,1,1,1,0,1,0,1,1,1,1,1,0,1,0,1,0,0] (cW (λst=>iS prog f41 st none) (cA prog (kT jG fH eI fP jC) L f41 [1,1,1,1,0,1,0,1,1,1,1,1,0,1,0,1] (λst=>iS prog f41 st none)).n (cA prog (kT jG fH eI fP jC) L f41 [1,1,1,1,0,1,0,1,1,1,1,1,0,1,0,1] (λst=>iS prog f41 st none)).x) L (S41_3 x1 x2 x0 x3 x8 x4 x5 x6 x7 x1 x2 x0 x3 x8 x4 x5 x6 x7 q1 [] 0)
     else some (uC (0,x1,x2,x0))
   else none
  else bif (x3 == 6)then bif (((decide ((0:Int)<=0))&&(decide (0<=q1)))&&(decide (q1<=(x0.length:Int))))then bif (decide (((List.length ([]:LV))+(List.length (List.drop (Int.toNat 0) (List.take q1.toNat x0))))<=(1000000000:Nat)))then bif (((decide (0<=(wrap .i64 (q1+1))))&&(decide ((wrap .i64 (q1+1))<=(x0.length:Int))))&&(decide ((x0.length:Int)<=(x0.length:Int))))then bif (decide (((List.length ([]++(List.drop (Int.toNat 0) (List.take q1.toNat x0))))+(List.length (List.drop (Int.toNat (wrap .i64 (q1+1))) (List.take (Int.toNat (x0.length:Int)) x0))))<=(1000000000:Nat)))then none
      else none
     else none
    else none
   else none
  else bif (x3 == 7)then bif ((decide (0<=q1))&&(decide (q1 < (x0.length:Int))))then cZ (fP ((List.getD x0 q1.toNat ZV).2.2.2,x4)) false λ(q4:Bool)=>bif q4 then some (uC (7,x1,x2,x0))
     else bif ((decide (0<=q1))&&(decide (q1 < (x0.length:Int))))then cZ (jC ((List.getD x0 q1.toNat ZV).2.2.2,x4)) [] λ(q6:LI)=>bif ((decide (0<=q1))&&(decide (q1 < (x0.length:Int))))then some (uC (0,x1,x2,(List.set x0 q1.toNat ((List.getD x0 q1.toNat ZV).1,((List.getD x0 q1.toNat ZV).2.1,((List.getD x0 q1.toNat ZV).2.2.1,q6))))))
       else none
     else none
   else none
  else bif (x3 == 8)then cE prog (kT jG fH eI fP jC) L f41 3 [1,1,1,1,0,1,0,1,1,1,1,1,0,1,0,1,0,0] (cW (λst=>iS prog f41 st none) (cA prog (kT jG fH eI fP jC) L f41 [1,1,1,1,0,1,0,1,1,1,1,1,0,1,0,1] (λst=>iS prog f41 st none)).n (cA prog (kT jG fH eI fP jC) L f41 [1,1,1,1,0,1,0,1,1,1,1,1,0,1,0,1] (λst=>iS prog f41 st none)).x) L (S41_3 x1 x2 x0 x3 x8 x4 x5 x6 x7 x1 x2 x0 x3 x8 x4 x5 x6 x7 q1 [] 0)
  else some (uC (0,x1,x2,x0)):=by kernel_rfl
theorem aQ4 (jG:(CZ×DZ)->Option Int)(fH:(Vp×Vp)->Option Bool)(eI:(CZ×Int)->Option Int)(fP:(LI×Int)->Option Bool)(jC:(LI×Int)->Option LI)(L:Nat)(x6:Int)(x7:LB)(x8:LV)(x9 xa:Int)(xb xc:Int)(xd xe:Int)(k:St cxT.ty->Option (List (A cxT.ty)))(xk:Nat->St cxT.ty->Option (List (A cxT.ty)))(g:St cxT.ty->Option (List (A cxT.ty)))(xf:Int)(xg:LB)(x1:LV)(x2 x3 x4:Int)(x5:LI)(x0:Int):eW prog (kT jG fH eI fP jC) L f41 0 [1,1,0,1,0,1,1,1,1,0,0,0] (cW (λst=>iS prog f41 st none) k xk) g (S41_0 x6 x7 x8 x9 xa xb xc xd xe xf xg x1 x2 x3 x4 x5 x0)=
 bif (decide (x0 < (x1.length:Int)))then bif ((decide (0<=x0))&&(decide (x0 < (x1.length:Int))))then cZ (fH (((List.getD x1 x0.toNat ZV).1,((List.getD x1 x0.toNat ZV).2.1,((List.getD x1 x0.toNat ZV).2.2.1,(List.getD x1 x0.toNat ZV).2.2.2))),(x2,(x3,(x4,x5))))) false λ(q3:Bool)=>bif q3 then g (S41_0 x6 x7 x8 x9 xa xb xc xd xe xf xg x1 x2 x3 x4 x5 (wrap .i64 (x0+1)))
    else k (X41_0 x6 x7 x8 x9 xa xb xc xd xe xf xg x1 x2 x3 x4 x5 x0)
  else none
 else k (X41_0 x6 x7 x8 x9 xa xb xc xd xe xf xg x1 x2 x3 x4 x5 x0):=by kernel_rfl
theorem aPv (jG:(CZ×DZ)->Option Int)(fH:(Vp×Vp)->Option Bool)(eI:(CZ×Int)->Option Int)(fP:(LI×Int)->Option Bool)(jC:(LI×Int)->Option LI)(L:Nat)(x6:Int)(x7:LB)(x8:LV)(x9 xa:Int)(xb xc:Int)(xd xe xf:Int)(xg:LB)(x0:LV)(x2 x3 x4:Int)(x5:LI)(x1:Int):(cA prog (kT jG fH eI fP jC) L f41 [1,1,0,1,0,1,1,1,1,0] (λst=>iS prog f41 st none)).n (X41_0 x6 x7 x8 x9 xa xb xc xd xe xf xg x0 x2 x3 x4 x5 x1)=
 bif (((decide ((0:Int)<=0))&&(decide (0<=x1)))&&(decide (x1<=(x0.length:Int))))then bif (decide (((List.length ([]:LV))+(List.length (List.drop (Int.toNat 0) (List.take x1.toNat x0))))<=(1000000000:Nat)))then bif (decide (((List.length ([]++(List.drop (Int.toNat 0) (List.take x1.toNat x0))))+(List.length (List.cons (x2,(x3,(x4,x5))) [])))<=(1000000000:Nat)))then bif (((decide (0<=x1))&&(decide (x1<=(x0.length:Int))))&&(decide ((x0.length:Int)<=(x0.length:Int))))then bif (decide (((List.length (([]++(List.drop (Int.toNat 0) (List.take x1.toNat x0)))++(List.cons (x2,(x3,(x4,x5))) [])))+(List.length (List.drop x1.toNat (List.take (Int.toNat (x0.length:Int)) x0))))<=(1000000000:Nat)))then none
     else none
    else none
   else none
  else none
 else none:=by kernel_rfl
theorem aQ3 (jG:(CZ×DZ)->Option Int)(fH:(Vp×Vp)->Option Bool)(eI:(CZ×Int)->Option Int)(fP:(LI×Int)->Option Bool)(jC:(LI×Int)->Option LI)(L:Nat)(x4:Int)(x5:LB)(x6:LV)(x7 x8:Int)(x9 xa:Int)(xb xc:Int)(k:St cxT.ty->Option (List (A cxT.ty)))(xk:Nat->St cxT.ty->Option (List (A cxT.ty)))(g:St cxT.ty->Option (List (A cxT.ty)))(xd:Int)(xe:LB)(x1:LV)(xg xh:Int)(xf xi:Int)(xj xl x0:Int)(x3:LI)(x2:Int):eW prog (kT jG fH eI fP jC) L f41 3 [1,1,1,1,0,1,0,1,1,1,1,1,0,1,0,1,0,0] (cW (λst=>iS prog f41 st none) k xk) g (S41_3 x4 x5 x6 x7 x8 x9 xa xb xc xd xe x1 xg xh xf xi xj xl x0 x3 x2)=
 bif ((decide (0<=x0))&&(decide (x0 < (x1.length:Int))))then bif (decide (x2 < ((List.length (List.getD x1 x0.toNat ZV).2.2.2):Int)))then bif ((decide (0<=x0))&&(decide (x0 < (x1.length:Int))))then bif ((decide (0<=x2))&&(decide (x2 < ((List.length (List.getD x1 x0.toNat ZV).2.2.2):Int))))then bif ((List.getD (List.getD x1 x0.toNat ZV).2.2.2 x2.toNat 0) != xf)then bif ((decide (0<=x0))&&(decide (x0 < (x1.length:Int))))then bif ((decide (0<=x2))&&(decide (x2 < ((List.length (List.getD x1 x0.toNat ZV).2.2.2):Int))))then bif (decide ((x3.length+(List.length (List.cons (List.getD (List.getD x1 x0.toNat ZV).2.2.2 x2.toNat 0) [])))<=(1000000000:Nat)))then g (S41_3 x4 x5 x6 x7 x8 x9 xa xb xc xd xe x1 xg xh xf xi xj xl x0 (x3++(List.cons (List.getD (List.getD x1 x0.toNat ZV).2.2.2 x2.toNat 0) [])) (wrap .i64 (x2+1)))
        else none
       else none
      else none
     else g (S41_3 x4 x5 x6 x7 x8 x9 xa xb xc xd xe x1 xg xh xf xi xj xl x0 x3 (wrap .i64 (x2+1)))
    else none
   else none
  else k (X41_3 x4 x5 x6 x7 x8 x9 xa xb xc xd xe x1 x0 x3)
 else none:=by kernel_rfl
theorem aPu (jG:(CZ×DZ)->Option Int)(fH:(Vp×Vp)->Option Bool)(eI:(CZ×Int)->Option Int)(fP:(LI×Int)->Option Bool)(jC:(LI×Int)->Option LI)(L:Nat)(x5:Int)(x6:LB)(x7:LV)(x8 x9:Int)(xa xb:Int)(xc xd x2:Int)(x3:LB)(x1:LV)(x0:Int)(x4:LI):(cA prog (kT jG fH eI fP jC) L f41 [1,1,1,1,0,1,0,1,1,1,1,1,0,1,0,1] (λst=>iS prog f41 st none)).n (X41_3 x5 x6 x7 x8 x9 xa xb xc xd x2 x3 x1 x0 x4)=
 bif ((decide (0<=x0))&&(decide (x0 < (x1.length:Int))))then some (uC (0,x2,x3,(List.set x1 x0.toNat ((List.getD x1 x0.toNat ZV).1,((List.getD x1 x0.toNat ZV).2.1,((List.getD x1 x0.toNat ZV).2.2.1,x4))))))
 else none:=by kernel_rfl
def qV (jG:(CZ×DZ)->Option Int)(fH:(Vp×Vp)->Option Bool)(eI:(CZ×Int)->Option Int)(fP:(LI×Int)->Option Bool)(jC:(LI×Int)->Option LI)(L:Nat)(x7:Int)(x8:LB)(x9:LV)(xa xb:Int)(xc xd:Int)(xe xf:Int):Nat->Int->LB->LV->Int->Int->Int->Int->Int->Int->Int->LI->Int->(Int->LB->LV->Int->LI->Option CR)->Option CR
 | 0,_,_,_,_,_,_,_,_,_,_,_,_,_=>none
 | n+1,x4,x5,x1,xg,xh,x6,xi,xj,xk,x0,x3,x2,k=>
  bif ((decide (0<=x0))&&(decide (x0 < (x1.length:Int))))then bif (decide (x2 < ((List.length (List.getD x1 x0.toNat ZV).2.2.2):Int)))then bif ((decide (0<=x0))&&(decide (x0 < (x1.length:Int))))then bif ((decide (0<=x2))&&(decide (x2 < ((List.length (List.getD x1 x0.toNat ZV).2.2.2):Int))))then bif ((List.getD (List.getD x1 x0.toNat ZV).2.2.2 x2.toNat 0) != x6)then bif ((decide (0<=x0))&&(decide (x0 < (x1.length:Int))))then bif ((decide (0<=x2))&&(decide (x2 < ((List.length (List.getD x1 x0.toNat ZV).2.2.2):Int))))then bif (decide ((x3.length+(List.length (List.cons (List.getD (List.getD x1 x0.toNat ZV).2.2.2 x2.toNat 0) [])))<=(1000000000:Nat)))then qV jG fH eI fP jC L x7 x8 x9 xa xb xc xd xe xf n x4 x5 x1 xg xh x6 xi xj xk x0 (x3++(List.cons (List.getD (List.getD x1 x0.toNat ZV).2.2.2 x2.toNat 0) [])) (wrap .i64 (x2+1)) k
         else none
        else none
       else none
      else qV jG fH eI fP jC L x7 x8 x9 xa xb xc xd xe xf n x4 x5 x1 xg xh x6 xi xj xk x0 x3 (wrap .i64 (x2+1)) k
     else none
    else none
   else k x4 x5 x1 x0 x3
  else none
theorem aLM (jG:(CZ×DZ)->Option Int)(fH:(Vp×Vp)->Option Bool)(eI:(CZ×Int)->Option Int)(fP:(LI×Int)->Option Bool)(jC:(LI×Int)->Option LI)(L:Nat)(x0:Int)(x1:LB)(x2:LV)(x3 x4:Int)(x5 x6:Int)(x7 x8:Int)(k:St cxT.ty->Option (List (A cxT.ty)))(xk:Nat->St cxT.ty->Option (List (A cxT.ty)))(k':Int->LB->LV->Int->LI->Option CR)(hk:∀ (xm:Int) (xn:LB) (xo:LV) (xp:Int) (xq:LI),k (X41_3 x0 x1 x2 x3 x4 x5 x6 x7 x8 xm xn xo xp xq)=(k' xm xn xo xp xq).map uC):∀ (n:Nat) (x9:Int) (xa:LB) (xb:LV) (xc xd:Int) (xe xf:Int) (xg xh xi:Int) (xj:LI) (xl:Int),cE prog (kT jG fH eI fP jC) L f41 3 [1,1,1,1,0,1,0,1,1,1,1,1,0,1,0,1,0,0] (cW (λst=>iS prog f41 st none) k xk) n (S41_3 x0 x1 x2 x3 x4 x5 x6 x7 x8 x9 xa xb xc xd xe xf xg xh xi xj xl)=(qV jG fH eI fP jC L x0 x1 x2 x3 x4 x5 x6 x7 x8 n x9 xa xb xc xd xe xf xg xh xi xj xl k').map uC
 | 0,_,_,_,_,_,_,_,_,_,_,_,_=>rfl
 | n+1,x9,xa,xb,xc,xd,xe,xf,xg,xh,xi,xj,xl=>by
  rw[cK,aQ3];have ih:=aLM jG fH eI fP jC L x0 x1 x2 x3 x4 x5 x6 x7 x8 k xk k' hk n;simp only[qV,aU,aS,aT,aD,aE,ih,hk]
def aDX (jG:(CZ×DZ)->Option Int)(fH:(Vp×Vp)->Option Bool)(eI:(CZ×Int)->Option Int)(fP:(LI×Int)->Option Bool)(jC:(LI×Int)->Option LI)(L:Nat)(x8:Int)(x9:LB)(xa:LV)(xb xc:Int)(xd xe:Int)(xf xg:Int):Nat->Int->LB->LV->Int->Int->Int->LI->Int->(Int->LB->LV->Int->Int->Int->LI->Int->Option CR)->Option CR
 | 0,_,_,_,_,_,_,_,_,_=>none
 | n+1,x6,x7,x1,x2,x3,x4,x5,x0,k=>
  bif (decide (x0 < (x1.length:Int)))then bif ((decide (0<=x0))&&(decide (x0 < (x1.length:Int))))then cZ (fH (((List.getD x1 x0.toNat ZV).1,((List.getD x1 x0.toNat ZV).2.1,((List.getD x1 x0.toNat ZV).2.2.1,(List.getD x1 x0.toNat ZV).2.2.2))),(x2,(x3,(x4,x5))))) false λ(q4:Bool)=>bif q4 then aDX jG fH eI fP jC L x8 x9 xa xb xc xd xe xf xg n x6 x7 x1 x2 x3 x4 x5 (wrap .i64 (x0+1)) k
     else k x6 x7 x1 x2 x3 x4 x5 x0
   else none
  else k x6 x7 x1 x2 x3 x4 x5 x0
theorem aLN (jG:(CZ×DZ)->Option Int)(fH:(Vp×Vp)->Option Bool)(eI:(CZ×Int)->Option Int)(fP:(LI×Int)->Option Bool)(jC:(LI×Int)->Option LI)(L:Nat)(x0:Int)(x1:LB)(x2:LV)(x3 x4:Int)(x5 x6:Int)(x7 x8:Int)(k:St cxT.ty->Option (List (A cxT.ty)))(xk:Nat->St cxT.ty->Option (List (A cxT.ty)))(k':Int->LB->LV->Int->Int->Int->LI->Int->Option CR)(hk:∀ (xh:Int) (xi:LB) (xj:LV) (xl xm xn:Int) (xo:LI) (xp:Int),k (X41_0 x0 x1 x2 x3 x4 x5 x6 x7 x8 xh xi xj xl xm xn xo xp)=(k' xh xi xj xl xm xn xo xp).map uC):∀ (n:Nat) (x9:Int) (xa:LB) (xb:LV) (xc xd xe:Int) (xf:LI) (xg:Int),cE prog (kT jG fH eI fP jC) L f41 0 [1,1,0,1,0,1,1,1,1,0,0,0] (cW (λst=>iS prog f41 st none) k xk) n (S41_0 x0 x1 x2 x3 x4 x5 x6 x7 x8 x9 xa xb xc xd xe xf xg)=(aDX jG fH eI fP jC L x0 x1 x2 x3 x4 x5 x6 x7 x8 n x9 xa xb xc xd xe xf xg k').map uC
 | 0,_,_,_,_,_,_,_,_=>rfl
 | n+1,x9,xa,xb,xc,xd,xe,xf,xg=>by
  rw[cK,aQ4];have ih:=aLN jG fH eI fP jC L x0 x1 x2 x3 x4 x5 x6 x7 x8 k xk k' hk n;simp only[aDX,aU,aS,aT,aD,aE,ih,hk]
def g41 (jG:(CZ×DZ)->Option Int)(fH:(Vp×Vp)->Option Bool)(eI:(CZ×Int)->Option Int)(fP:(LI×Int)->Option Bool)(jC:(LI×Int)->Option LI)(L:Nat)(x1:Int)(x2:LB)(x0:LV)(x4 xa:Int)(x6 x7:Int)(x8 x9:Int):Option CR:=
 cZ (jG ((x1,(x2,x0)),(x4,(xa,(x6,(x7,(x8,x9))))))) 0 λ(q1:Int)=>bif (x4 == 5)then bif (decide (q1>=0))then some (7,x1,x2,x0)
   else bif (decide ((x0.length:Int)>=4))then some (2,x1,x2,x0)
   else aDX jG fH eI fP jC L x1 x2 x0 x4 xa x6 x7 x8 x9 L x1 x2 x0 x7 x8 x9 [] 0 (λ(xk:Int) (xl:LB) (xb:LV) (xg xh xi:Int) (xj:LI) (xc:Int)=>bif (((decide ((0:Int)<=0))&&(decide (0<=xc)))&&(decide (xc<=(xb.length:Int))))then bif (decide (((List.length ([]:LV))+(List.length (List.drop (Int.toNat 0) (List.take xc.toNat xb))))<=(1000000000:Nat)))then bif (decide (((List.length ([]++(List.drop (Int.toNat 0) (List.take xc.toNat xb))))+(List.length (List.cons (xg,(xh,(xi,xj))) [])))<=(1000000000:Nat)))then bif (((decide (0<=xc))&&(decide (xc<=(xb.length:Int))))&&(decide ((xb.length:Int)<=(xb.length:Int))))then bif (decide (((List.length (([]++(List.drop (Int.toNat 0) (List.take xc.toNat xb)))++(List.cons (xg,(xh,(xi,xj))) [])))+(List.length (List.drop xc.toNat (List.take (Int.toNat (xb.length:Int)) xb))))<=(1000000000:Nat)))then none
        else none
       else none
      else none
     else none
    else none)
  else bif (decide (q1 < 0))then some (4,x1,x2,x0)
  else bif (x4 == 7)then cZ (eI ((x1,(x2,x0)),x6)) 0 λ(q3:Int)=>bif (decide (q3 < 0))then some (4,x1,x2,x0)
    else bif (x4 == 8)then bif ((decide (0<=q1))&&(decide (q1 < (x0.length:Int))))then cZ (fP ((List.getD x0 q1.toNat ZV).2.2.2,x6)) false λ(q6:Bool)=>bif (!q6)then some (4,x1,x2,x0)
       else bif (x4 == 6)then bif (((decide ((0:Int)<=0))&&(decide (0<=q1)))&&(decide (q1<=(x0.length:Int))))then bif (decide (((List.length ([]:LV))+(List.length (List.drop (Int.toNat 0) (List.take q1.toNat x0))))<=(1000000000:Nat)))then bif (((decide (0<=(wrap .i64 (q1+1))))&&(decide ((wrap .i64 (q1+1))<=(x0.length:Int))))&&(decide ((x0.length:Int)<=(x0.length:Int))))then bif (decide (((List.length ([]++(List.drop (Int.toNat 0) (List.take q1.toNat x0))))+(List.length (List.drop (Int.toNat (wrap .i64 (q1+1))) (List.take (Int.toNat (x0.length:Int)) x0))))<=(1000000000:Nat)))then none
           else none
          else none
         else none
        else none
       else bif (x4 == 7)then bif ((decide (0<=q1))&&(decide (q1 < (x0.length:Int))))then cZ (fP ((List.getD x0 q1.toNat ZV).2.2.2,x6)) false λ(q9:Bool)=>bif q6 then some (7,x1,x2,x0)
          else bif ((decide (0<=q1))&&(decide (q1 < (x0.length:Int))))then cZ (jC ((List.getD x0 q1.toNat ZV).2.2.2,x6)) [] λ(q11:LI)=>bif ((decide (0<=q1))&&(decide (q1 < (x0.length:Int))))then some (0,x1,x2,(List.set x0 q1.toNat ((List.getD x0 q1.toNat ZV).1,((List.getD x0 q1.toNat ZV).2.1,((List.getD x0 q1.toNat ZV).2.2.1,q11)))))
            else none
          else none
        else none
       else bif (x4 == 8)then qV jG fH eI fP jC L x1 x2 x0 x4 xa x6 x7 x8 x9 L x1 x2 x0 x4 xa x6 x7 x8 x9 q1 [] 0 (λ(xd:Int) (xe:LB) (x5:LV) (x3:Int) (xf:LI)=>bif ((decide (0<=x3))&&(decide (x3 < (x5.length:Int))))then some (0,xd,xe,(List.set x5 x3.toNat ((List.getD x5 x3.toNat ZV).1,((List.getD x5 x3.toNat ZV).2.1,((List.getD x5 x3.toNat ZV).2.2.1,xf)))))
         else none)
       else some (0,x1,x2,x0)
     else none
    else bif (x4 == 6)then bif (((decide ((0:Int)<=0))&&(decide (0<=q1)))&&(decide (q1<=(x0.length:Int))))then bif (decide (((List.length ([]:LV))+(List.length (List.drop (Int.toNat 0) (List.take q1.toNat x0))))<=(1000000000:Nat)))then bif (((decide (0<=(wrap .i64 (q1+1))))&&(decide ((wrap .i64 (q1+1))<=(x0.length:Int))))&&(decide ((x0.length:Int)<=(x0.length:Int))))then bif (decide (((List.length ([]++(List.drop (Int.toNat 0) (List.take q1.toNat x0))))+(List.length (List.drop (Int.toNat (wrap .i64 (q1+1))) (List.take (Int.toNat (x0.length:Int)) x0))))<=(1000000000:Nat)))then none
        else none
       else none
      else none
     else none
    else bif (x4 == 7)then bif ((decide (0<=q1))&&(decide (q1 < (x0.length:Int))))then cZ (fP ((List.getD x0 q1.toNat ZV).2.2.2,x6)) false λ(q6:Bool)=>bif q6 then some (7,x1,x2,x0)
       else bif ((decide (0<=q1))&&(decide (q1 < (x0.length:Int))))then cZ (jC ((List.getD x0 q1.toNat ZV).2.2.2,x6)) [] λ(q8:LI)=>bif ((decide (0<=q1))&&(decide (q1 < (x0.length:Int))))then some (0,x1,x2,(List.set x0 q1.toNat ((List.getD x0 q1.toNat ZV).1,((List.getD x0 q1.toNat ZV).2.1,((List.getD x0 q1.toNat ZV).2.2.1,q8)))))
         else none
       else none
     else none
    else bif (x4 == 8)then qV jG fH eI fP jC L x1 x2 x0 x4 xa x6 x7 x8 x9 L x1 x2 x0 x4 xa x6 x7 x8 x9 q1 [] 0 (λ(xd:Int) (xe:LB) (x5:LV) (x3:Int) (xf:LI)=>bif ((decide (0<=x3))&&(decide (x3 < (x5.length:Int))))then some (0,xd,xe,(List.set x5 x3.toNat ((List.getD x5 x3.toNat ZV).1,((List.getD x5 x3.toNat ZV).2.1,((List.getD x5 x3.toNat ZV).2.2.1,xf)))))
      else none)
    else some (0,x1,x2,x0)
  else bif (x4 == 8)then bif ((decide (0<=q1))&&(decide (q1 < (x0.length:Int))))then cZ (fP ((List.getD x0 q1.toNat ZV).2.2.2,x6)) false λ(q4:Bool)=>bif (!q4)then some (4,x1,x2,x0)
     else bif (x4 == 6)then bif (((decide ((0:Int)<=0))&&(decide (0<=q1)))&&(decide (q1<=(x0.length:Int))))then bif (decide (((List.length ([]:LV))+(List.length (List.drop (Int.toNat 0) (List.take q1.toNat x0))))<=(1000000000:Nat)))then bif (((decide (0<=(wrap .i64 (q1+1))))&&(decide ((wrap .i64 (q1+1))<=(x0.length:Int))))&&(decide ((x0.length:Int)<=(x0.length:Int))))then bif (decide (((List.length ([]++(List.drop (Int.toNat 0) (List.take q1.toNat x0))))+(List.length (List.drop (Int.toNat (wrap .i64 (q1+1))) (List.take (Int.toNat (x0.length:Int)) x0))))<=(1000000000:Nat)))then none
         else none
        else none
       else none
      else none
     else bif (x4 == 7)then bif ((decide (0<=q1))&&(decide (q1 < (x0.length:Int))))then cZ (fP ((List.getD x0 q1.toNat ZV).2.2.2,x6)) false λ(q7:Bool)=>bif q4 then some (7,x1,x2,x0)
        else bif ((decide (0<=q1))&&(decide (q1 < (x0.length:Int))))then cZ (jC ((List.getD x0 q1.toNat ZV).2.2.2,x6)) [] λ(q9:LI)=>bif ((decide (0<=q1))&&(decide (q1 < (x0.length:Int))))then some (0,x1,x2,(List.set x0 q1.toNat ((List.getD x0 q1.toNat ZV).1,((List.getD x0 q1.toNat ZV).2.1,((List.getD x0 q1.toNat ZV).2.2.1,q9)))))
          else none
        else none
      else none
     else bif (x4 == 8)then qV jG fH eI fP jC L x1 x2 x0 x4 xa x6 x7 x8 x9 L x1 x2 x0 x4 xa x6 x7 x8 x9 q1 [] 0 (λ(xd:Int) (xe:LB) (x5:LV) (x3:Int) (xf:LI)=>bif ((decide (0<=x3))&&(decide (x3 < (x5.length:Int))))then some (0,xd,xe,(List.set x5 x3.toNat ((List.getD x5 x3.toNat ZV).1,((List.getD x5 x3.toNat ZV).2.1,((List.getD x5 x3.toNat ZV).2.2.1,xf)))))
       else none)
     else some (0,x1,x2,x0)
   else none
  else bif (x4 == 6)then bif (((decide ((0:Int)<=0))&&(decide (0<=q1)))&&(decide (q1<=(x0.length:Int))))then bif (decide (((List.length ([]:LV))+(List.length (List.drop (Int.toNat 0) (List.take q1.toNat x0))))<=(1000000000:Nat)))then bif (((decide (0<=(wrap .i64 (q1+1))))&&(decide ((wrap .i64 (q1+1))<=(x0.length:Int))))&&(decide ((x0.length:Int)<=(x0.length:Int))))then bif (decide (((List.length ([]++(List.drop (Int.toNat 0) (List.take q1.toNat x0))))+(List.length (List.drop (Int.toNat (wrap .i64 (q1+1))) (List.take (Int.toNat (x0.length:Int)) x0))))<=(1000000000:Nat)))then none
      else none
     else none
    else none
   else none
  else bif (x4 == 7)then bif ((decide (0<=q1))&&(decide (q1 < (x0.length:Int))))then cZ (fP ((List.getD x0 q1.toNat ZV).2.2.2,x6)) false λ(q4:Bool)=>bif q4 then some (7,x1,x2,x0)
     else bif ((decide (0<=q1))&&(decide (q1 < (x0.length:Int))))then cZ (jC ((List.getD x0 q1.toNat ZV).2.2.2,x6)) [] λ(q6:LI)=>bif ((decide (0<=q1))&&(decide (q1 < (x0.length:Int))))then some (0,x1,x2,(List.set x0 q1.toNat ((List.getD x0 q1.toNat ZV).1,((List.getD x0 q1.toNat ZV).2.1,((List.getD x0 q1.toNat ZV).2.2.1,q6)))))
       else none
     else none
   else none
  else bif (x4 == 8)then qV jG fH eI fP jC L x1 x2 x0 x4 xa x6 x7 x8 x9 L x1 x2 x0 x4 xa x6 x7 x8 x9 q1 [] 0 (λ(xd:Int) (xe:LB) (x5:LV) (x3:Int) (xf:LI)=>bif ((decide (0<=x3))&&(decide (x3 < (x5.length:Int))))then some (0,xd,xe,(List.set x5 x3.toNat ((List.getD x5 x3.toNat ZV).1,((List.getD x5 x3.toNat ZV).2.1,((List.getD x5 x3.toNat ZV).2.2.1,xf)))))
    else none)
  else some (0,x1,x2,x0)
theorem e41 (jG:(CZ×DZ)->Option Int)(fH:(Vp×Vp)->Option Bool)(eI:(CZ×Int)->Option Int)(fP:(LI×Int)->Option Bool)(jC:(LI×Int)->Option LI)(L:Nat)(x2:Int)(x3:LB)(x4:LV)(x5 x6:Int)(x7 x8:Int)(x9 xa:Int):wH prog (kT jG fH eI fP jC) (bH L) f41 (a41.enc ((x2,x3,x4),(x5,x6,x7,x8,x9,xa))) none=(g41 jG fH eI fP jC L x2 x3 x4 x5 x6 x7 x8 x9 xa).map uC:=by
 let K'3:Int->LB->LV->Int->LI->Option CR:=(λ(y1:Int) (y2:LB) (xc:LV) (xb:Int) (y3:LI)=>bif ((decide (0<=xb))&&(decide (xb < (xc.length:Int))))then some (0,y1,y2,(List.set xc xb.toNat ((List.getD xc xb.toNat ZV).1,((List.getD xc xb.toNat ZV).2.1,((List.getD xc xb.toNat ZV).2.2.1,y3)))))
   else none)
 have hin3:∀ (xd:Int) (xe:LB) (xf:LV) (xg xh:Int) (xi xj:Int) (xk xl xm:Int) (xn:LI) (xo:Int),cE prog (kT jG fH eI fP jC) L f41 3 [1,1,1,1,0,1,0,1,1,1,1,1,0,1,0,1,0,0] (cW (λst=>iS prog f41 st none) (cA prog (kT jG fH eI fP jC) L f41 [1,1,1,1,0,1,0,1,1,1,1,1,0,1,0,1] (λst=>iS prog f41 st none)).n (cA prog (kT jG fH eI fP jC) L f41 [1,1,1,1,0,1,0,1,1,1,1,1,0,1,0,1] (λst=>iS prog f41 st none)).x) L (S41_3 x2 x3 x4 x5 x6 x7 x8 x9 xa xd xe xf xg xh xi xj xk xl xm xn xo)=(qV jG fH eI fP jC L x2 x3 x4 x5 x6 x7 x8 x9 xa L xd xe xf xg xh xi xj xk xl xm xn xo K'3).map uC:=λxd xe xf xg xh xi xj xk xl xm xn xo=>aLM jG fH eI fP jC L x2 x3 x4 x5 x6 x7 x8 x9 xa _ _ K'3 (λy1 y2 xc xb y3=>by rw[aPu];simp only[K'3,aU,aS,aT,aD,aE]) L xd xe xf xg xh xi xj xk xl xm xn xo
 let K'0:Int->LB->LV->Int->Int->Int->LI->Int->Option CR:=(λ(y4:Int) (y5:LB) (x0:LV) (xx xy xz:Int) (y0:LI) (x1:Int)=>bif (((decide ((0:Int)<=0))&&(decide (0<=x1)))&&(decide (x1<=(x0.length:Int))))then bif (decide (((List.length ([]:LV))+(List.length (List.drop (Int.toNat 0) (List.take x1.toNat x0))))<=(1000000000:Nat)))then bif (decide (((List.length ([]++(List.drop (Int.toNat 0) (List.take x1.toNat x0))))+(List.length (List.cons (xx,(xy,(xz,y0))) [])))<=(1000000000:Nat)))then bif (((decide (0<=x1))&&(decide (x1<=(x0.length:Int))))&&(decide ((x0.length:Int)<=(x0.length:Int))))then bif (decide (((List.length (([]++(List.drop (Int.toNat 0) (List.take x1.toNat x0)))++(List.cons (xx,(xy,(xz,y0))) [])))+(List.length (List.drop x1.toNat (List.take (Int.toNat (x0.length:Int)) x0))))<=(1000000000:Nat)))then none
       else none
      else none
     else none
    else none
   else none)
 have hin0:∀ (xp:Int) (xq:LB) (xr:LV) (xs xt xu:Int) (xv:LI) (xw:Int),cE prog (kT jG fH eI fP jC) L f41 0 [1,1,0,1,0,1,1,1,1,0,0,0] (cW (λst=>iS prog f41 st none) (cA prog (kT jG fH eI fP jC) L f41 [1,1,0,1,0,1,1,1,1,0] (λst=>iS prog f41 st none)).n (cA prog (kT jG fH eI fP jC) L f41 [1,1,0,1,0,1,1,1,1,0] (λst=>iS prog f41 st none)).x) L (S41_0 x2 x3 x4 x5 x6 x7 x8 x9 xa xp xq xr xs xt xu xv xw)=(aDX jG fH eI fP jC L x2 x3 x4 x5 x6 x7 x8 x9 xa L xp xq xr xs xt xu xv xw K'0).map uC:=λxp xq xr xs xt xu xv xw=>aLN jG fH eI fP jC L x2 x3 x4 x5 x6 x7 x8 x9 xa _ _ K'0 (λy4 y5 x0 xx xy xz y0 x1=>by rw[aPv];simp only[K'0,aU,aS,aT,aD,aE,hin3,K'3]) L xp xq xr xs xt xu xv xw
 rw[i41];simp only[g41,aU,aS,aT,aD,aE,hin3,K'3,hin0,K'0]
theorem s41 (jG:(CZ×DZ)->Option Int)(fH:(Vp×Vp)->Option Bool)(eI:(CZ×Int)->Option Int)(fP:(LI×Int)->Option Bool)(jC:(LI×Int)->Option LI)(h75:Sat prog cxT 75 (c75 jG))(h73:Sat prog cxT 73 (c73 fH))(h74:Sat prog cxT 74 (c74 eI))(h76:Sat prog cxT 76 (c76 fP))(h77:Sat prog cxT 77 (c77 jC))(m:(CZ×DZ)->Option CR)(hm:∀ (x:(CZ×DZ)) t,m x=some t->∃ L,g41 jG fH eI fP jC L x.1.1 x.1.2.1 x.1.2.2 x.2.1 x.2.2.1 x.2.2.2.1 x.2.2.2.2.1 x.2.2.2.2.2.1 x.2.2.2.2.2.2=some t):SatQ prog cxT 41 (c41 m).nres (c41 m).F (c41 m).bx:=
 aDB bZ bV (by rfl) (fn:=f41) rfl rfl a41 uC aNO m (kT jG fH eI fP jC) (bN h75 (bN h73 (bN h74 (bN h76 (bN h77 bU))))) bP (λL x=>g41 jG fH eI fP jC L x.1.1 x.1.2.1 x.1.2.2 x.2.1 x.2.2.1 x.2.2.2.1 x.2.2.2.2.1 x.2.2.2.2.2.1 x.2.2.2.2.2.2) (λL x=>e41 jG fH eI fP jC L x.1.1 x.1.2.1 x.1.2.2 x.2.1 x.2.2.1 x.2.2.2.1 x.2.2.2.2.1 x.2.2.2.2.2.1 x.2.2.2.2.2.2) hm aWs
def yJ:Env cxT:={ Kc:=eF [],Kw:=eE [],lv:=λi=>if i=0 then[(1,[none,some 68,some 76]),(2,[none,some 68,some 76]),(3,[none,some 68,some 76]),(4,[])]else[],xv:=λi=>if i=0 then some [(2,[none,some 68,some 76]),(3,[none,some 68,some 76])]else none }
def S40_0 (xa:Int)(xb:LB)(xc:LV)(x0:Int)(x1:LB)(x2:LV)(x3:Int)(x4:LB)(x5:LV)(x6:Int)(x7:LB)(x8:LV)(x9:Int):St cxT.ty:={ slots:=[aN,(.inr (.inr { kind:=0,nm:=64,cells:=[(lv (.int .i64 x0)),(ls { own:=0,nm:=0,e:=68,o:=false,xs:=x1 }),(ls { own:=0,nm:=0,e:=76,o:=false,xs:=x2 })],s:={ own:=0,nm:=0,e:=0,o:=false,xs:=([]:List (PUnit)) },i:=0,off:=0 })),(.inr (.inr { kind:=0,nm:=128,cells:=[(lv (.int .i64 x3)),(ls { own:=1,nm:=130,e:=68,o:=true,xs:=x4 }),(ls { own:=1,nm:=131,e:=76,o:=true,xs:=x5 })],s:={ own:=0,nm:=0,e:=0,o:=false,xs:=([]:List (PUnit)) },i:=0,off:=0 })),(.inr (.inr { kind:=0,nm:=192,cells:=[(lv (.int .i64 x6)),(ls { own:=1,nm:=194,e:=68,o:=true,xs:=x7 }),(ls { own:=1,nm:=195,e:=76,o:=true,xs:=x8 })],s:={ own:=0,nm:=0,e:=0,o:=false,xs:=([]:List (PUnit)) },i:=0,off:=0 })),(.inl (.inl (lv (.int .i64 x9))))]++List.replicate 32 aN,D:=[],F:=[],ctr:=1 }
def X40_0 (x6:Int)(x7:LB)(x8:LV)(x0:Int)(x1:LB)(x2:LV)(x3:Int)(x4:LB)(x5:LV):St cxT.ty:={ slots:=[aN,aN,(.inr (.inr { kind:=0,nm:=128,cells:=[(lv (.int .i64 x0)),(ls { own:=1,nm:=130,e:=68,o:=true,xs:=x1 }),(ls { own:=1,nm:=131,e:=76,o:=true,xs:=x2 })],s:={ own:=0,nm:=0,e:=0,o:=false,xs:=([]:List (PUnit)) },i:=0,off:=0 })),(.inr (.inr { kind:=0,nm:=192,cells:=[(lv (.int .i64 x3)),(ls { own:=1,nm:=194,e:=68,o:=true,xs:=x4 }),(ls { own:=1,nm:=195,e:=76,o:=true,xs:=x5 })],s:={ own:=0,nm:=0,e:=0,o:=false,xs:=([]:List (PUnit)) },i:=0,off:=0 }))]++List.replicate 33 aN,D:=[],F:=[],ctr:=1 }
theorem i40 (L:Nat)(x1:Int)(x0:LB)(x2:LV):eT prog yJ (bH L) f40 (a40.enc (x1,x0,x2))=
 bif (decide (((List.length ([]:LB))+x0.length)<=(1000000000:Nat)))then cE prog yJ L f40 0 [1,1,0,1,0,0] (cW (bI prog f40) (cA prog yJ L f40 [1,1,0,1] (bI prog f40)).n (cA prog yJ L f40 [1,1,0,1] (bI prog f40)).x) L (S40_0 x1 x0 x2 x1 x0 x2 0 [] [] x1 ([]++x0) [] 0)
 else none:=by kernel_rfl
theorem aQ5 (L:Nat)(x3:Int)(x4:LB)(x5:LV)(k:KT)(xk:Nat->KT)(g:KT)(xb:Int)(xc:LB)(x1:LV)(x6:Int)(x7:LB)(x8:LV)(x9:Int)(xa:LB)(x2:LV)(x0:Int):eW prog yJ L f40 0 [1,1,0,1,0,0] (cW (bI prog f40) k xk) g (S40_0 x3 x4 x5 xb xc x1 x6 x7 x8 x9 xa x2 x0)=
 bif (decide (x0 < (x1.length:Int)))then bif ((decide (0<=x0))&&(decide (x0 < (x1.length:Int))))then bif (decide (((List.length ([]:List (Int)))+(List.length (List.getD x1 x0.toNat ZV).2.2.2))<=(1000000000:Nat)))then bif (decide ((x2.length+(List.length (List.cons ((List.getD x1 x0.toNat ZV).1,((List.getD x1 x0.toNat ZV).2.1,((List.getD x1 x0.toNat ZV).2.2.1,([]++(List.getD x1 x0.toNat ZV).2.2.2)))) [])))<=(1000000000:Nat)))then g (S40_0 x3 x4 x5 xb xc x1 x6 x7 x8 x9 xa (x2++(List.cons ((List.getD x1 x0.toNat ZV).1,((List.getD x1 x0.toNat ZV).2.1,((List.getD x1 x0.toNat ZV).2.2.1,([]++(List.getD x1 x0.toNat ZV).2.2.2)))) [])) (wrap .i64 (x0+1)))
    else none
   else none
  else none
 else k (X40_0 x3 x4 x5 x6 x7 x8 x9 xa x2):=by kernel_rfl
theorem aPw (L:Nat)(x3:Int)(x4:LB)(x5:LV)(x6:Int)(x7:LB)(x8:LV)(x0:Int)(x1:LB)(x2:LV):(cA prog yJ L f40 [1,1,0,1] (bI prog f40)).n (X40_0 x3 x4 x5 x6 x7 x8 x0 x1 x2)=
 some (n40 (x0,x1,x2)):=by kernel_rfl
def aAs (L:Nat)(x8:Int)(x9:LB)(xa:LV):Nat->Int->LB->LV->Int->LB->LV->Int->LB->LV->Int->(Int->LB->LV->Int->LB->LV->Option CZ)->Option CZ
 | 0,_,_,_,_,_,_,_,_,_,_,_=>none
 | n+1,xb,xc,x1,x3,x4,x5,x6,x7,x2,x0,k=>
  bif (decide (x0 < (x1.length:Int)))then bif ((decide (0<=x0))&&(decide (x0 < (x1.length:Int))))then bif (decide (((List.length ([]:List (Int)))+(List.length (List.getD x1 x0.toNat ZV).2.2.2))<=(1000000000:Nat)))then bif (decide ((x2.length+(List.length (List.cons ((List.getD x1 x0.toNat ZV).1,((List.getD x1 x0.toNat ZV).2.1,((List.getD x1 x0.toNat ZV).2.2.1,([]++(List.getD x1 x0.toNat ZV).2.2.2)))) [])))<=(1000000000:Nat)))then aAs L x8 x9 xa n xb xc x1 x3 x4 x5 x6 x7 (x2++(List.cons ((List.getD x1 x0.toNat ZV).1,((List.getD x1 x0.toNat ZV).2.1,((List.getD x1 x0.toNat ZV).2.2.1,([]++(List.getD x1 x0.toNat ZV).2.2.2)))) [])) (wrap .i64 (x0+1)) k
     else none
    else none
   else none
  else k x3 x4 x5 x6 x7 x2
theorem aLO (L:Nat)(x0:Int)(x1:LB)(x2:LV)(k:KT)(xk:Nat->KT)(k':Int->LB->LV->Int->LB->LV->Option CZ)(hk:∀ (xd:Int) (xe:LB) (xf:LV) (xg:Int) (xh:LB) (xi:LV),k (X40_0 x0 x1 x2 xd xe xf xg xh xi)=(k' xd xe xf xg xh xi).map n40):∀ (n:Nat) (x3:Int) (x4:LB) (x5:LV) (x6:Int) (x7:LB) (x8:LV) (x9:Int) (xa:LB) (xb:LV) (xc:Int),cE prog yJ L f40 0 [1,1,0,1,0,0] (cW (bI prog f40) k xk) n (S40_0 x0 x1 x2 x3 x4 x5 x6 x7 x8 x9 xa xb xc)=(aAs L x0 x1 x2 n x3 x4 x5 x6 x7 x8 x9 xa xb xc k').map n40
 | 0,_,_,_,_,_,_,_,_,_,_=>rfl
 | n+1,x3,x4,x5,x6,x7,x8,x9,xa,xb,xc=>by
  rw[cK,aQ5];have ih:=aLO L x0 x1 x2 k xk k' hk n;simp only[aAs,aU,aS,aT,aD,aE,ih,hk]
def g40 (L:Nat)(x1:Int)(x0:LB)(x2:LV):Option CZ:=
 bif (decide (((List.length ([]:LB))+x0.length)<=(1000000000:Nat)))then aAs L x1 x0 x2 L x1 x0 x2 0 [] [] x1 ([]++x0) [] 0 (λ(x6:Int) (x7:LB) (x8:LV) (x3:Int) (x4:LB) (x5:LV)=>some (x3,x4,x5))
 else none
theorem e40 (L:Nat)(x0:Int)(x1:LB)(x2:LV):eT prog yJ (bH L) f40 (a40.enc (x0,x1,x2))=(g40 L x0 x1 x2).map n40:=by
 let K'0:Int->LB->LV->Int->LB->LV->Option CZ:=(λ(xg:Int) (xh:LB) (xi:LV) (xd:Int) (xe:LB) (xf:LV)=>some (xd,xe,xf))
 have hin0:∀ (x3:Int) (x4:LB) (x5:LV) (x6:Int) (x7:LB) (x8:LV) (x9:Int) (xa:LB) (xb:LV) (xc:Int),cE prog yJ L f40 0 [1,1,0,1,0,0] (cW (bI prog f40) (cA prog yJ L f40 [1,1,0,1] (bI prog f40)).n (cA prog yJ L f40 [1,1,0,1] (bI prog f40)).x) L (S40_0 x0 x1 x2 x3 x4 x5 x6 x7 x8 x9 xa xb xc)=(aAs L x0 x1 x2 L x3 x4 x5 x6 x7 x8 x9 xa xb xc K'0).map n40:=λx3 x4 x5 x6 x7 x8 x9 xa xb xc=>aLO L x0 x1 x2 _ _ K'0 (λxg xh xi xd xe xf=>by rw[aPw];simp only[K'0,aU,aS,aT,aD,aE]) L x3 x4 x5 x6 x7 x8 x9 xa xb xc
 rw[i40];simp only[g40,aU,aS,aT,aD,aE,hin0,K'0]
theorem s40 (m:CZ->Option CZ)(hm:∀ (x:CZ) t,m x=some t->∃ L,g40 L x.1 x.2.1 x.2.2=some t):Sat prog cxT 40 (c40 m):=
 dS bZ bV (by rfl) (fn:=f40) rfl a40 n40 aSZ m yJ bU bP (λL x=>g40 L x.1 x.2.1 x.2.2) (λL x=>e40 L x.1 x.2.1 x.2.2) hm aWt
def aNC (m40:CZ->Option CZ)(m34:(Int×Int×Int)->Option Bool)(qH:(CZ×DZ)->Option CR)(uD:(CZ×DZ)->Option CR):Env cxT:={ Kc:=eF [(40,c40 m40),(34,c34 m34)],Kw:=eE [(41,c41 qH),(42,c42 uD)],lv:=λi=>[],xv:=λi=>none }
theorem i18 (m40:CZ->Option CZ)(m34:(Int×Int×Int)->Option Bool)(qH:(CZ×DZ)->Option CR)(uD:(CZ×DZ)->Option CR)(L:Nat)(x0:Int)(x7:LB)(x8:LV)(x1 x2:Int)(x3 x4:Int)(x5 x6:Int):eT prog (aNC m40 m34 qH uD) (bH L) f18 (a18.enc ((x0,x7,x8),(x1,x2,x3,x4,x5,x6)))=
 bif (x0 == 1000000)then some (n18 (3,0,[],[]))
 else bif (x2 != (-1))then bif (x2 != x0)then some (n18 (9,0,[],[]))
  else cZ (m40 (x0,(x7,x8))) (0,[],[]) λ(q2:CZ)=>cZ (m34 (x1,(5,8))) false λ(q3:Bool)=>bif q3 then cZ (qH (q2,(x1,(x2,(x3,(x4,(x5,x6))))))) (0,0,[],[]) λ(q5:CR)=>bif (q5.1 != 0)then some (n18 (q5.1,0,[],[]))
      else some (n18 (0,(wrap .i64 (x0+1)),q5.2.2.1,q5.2.2.2))
    else cZ (uD (q2,(x1,(x2,(x3,(x4,(x5,x6))))))) (0,0,[],[]) λ(q4:CR)=>bif (q4.1 != 0)then some (n18 (q4.1,0,[],[]))
     else some (n18 (0,(wrap .i64 (x0+1)),q4.2.2.1,q4.2.2.2))
 else cZ (m40 (x0,(x7,x8))) (0,[],[]) λ(q1:CZ)=>cZ (m34 (x1,(5,8))) false λ(q2:Bool)=>bif q2 then cZ (qH (q1,(x1,(x2,(x3,(x4,(x5,x6))))))) (0,0,[],[]) λ(q4:CR)=>bif (q4.1 != 0)then some (n18 (q4.1,0,[],[]))
     else some (n18 (0,(wrap .i64 (x0+1)),q4.2.2.1,q4.2.2.2))
   else cZ (uD (q1,(x1,(x2,(x3,(x4,(x5,x6))))))) (0,0,[],[]) λ(q3:CR)=>bif (q3.1 != 0)then some (n18 (q3.1,0,[],[]))
    else some (n18 (0,(wrap .i64 (x0+1)),q3.2.2.1,q3.2.2.2)):=by kernel_rfl
def g18 (m40:CZ->Option CZ)(m34:(Int×Int×Int)->Option Bool)(qH:(CZ×DZ)->Option CR)(uD:(CZ×DZ)->Option CR)(L:Nat)(x0:Int)(x7:LB)(x8:LV)(x1 x2:Int)(x3 x4:Int)(x5 x6:Int):Option CR:=
 bif (x0 == 1000000)then some (3,0,[],[])
 else bif (x2 != (-1))then bif (x2 != x0)then some (9,0,[],[])
  else cZ (m40 (x0,(x7,x8))) (0,[],[]) λ(q2:CZ)=>cZ (m34 (x1,(5,8))) false λ(q3:Bool)=>bif q3 then cZ (qH (q2,(x1,(x2,(x3,(x4,(x5,x6))))))) (0,0,[],[]) λ(q5:CR)=>bif (q5.1 != 0)then some (q5.1,0,[],[])
      else some (0,(wrap .i64 (x0+1)),q5.2.2.1,q5.2.2.2)
    else cZ (uD (q2,(x1,(x2,(x3,(x4,(x5,x6))))))) (0,0,[],[]) λ(q4:CR)=>bif (q4.1 != 0)then some (q4.1,0,[],[])
     else some (0,(wrap .i64 (x0+1)),q4.2.2.1,q4.2.2.2)
 else cZ (m40 (x0,(x7,x8))) (0,[],[]) λ(q1:CZ)=>cZ (m34 (x1,(5,8))) false λ(q2:Bool)=>bif q2 then cZ (qH (q1,(x1,(x2,(x3,(x4,(x5,x6))))))) (0,0,[],[]) λ(q4:CR)=>bif (q4.1 != 0)then some (q4.1,0,[],[])
     else some (0,(wrap .i64 (x0+1)),q4.2.2.1,q4.2.2.2)
   else cZ (uD (q1,(x1,(x2,(x3,(x4,(x5,x6))))))) (0,0,[],[]) λ(q3:CR)=>bif (q3.1 != 0)then some (q3.1,0,[],[])
    else some (0,(wrap .i64 (x0+1)),q3.2.2.1,q3.2.2.2)
theorem e18 (m40:CZ->Option CZ)(m34:(Int×Int×Int)->Option Bool)(qH:(CZ×DZ)->Option CR)(uD:(CZ×DZ)->Option CR)(L:Nat)(x0:Int)(x1:LB)(x2:LV)(x3 x4:Int)(x5 x6:Int)(x7 x8:Int):eT prog (aNC m40 m34 qH uD) (bH L) f18 (a18.enc ((x0,x1,x2),(x3,x4,x5,x6,x7,x8)))=(g18 m40 m34 qH uD L x0 x1 x2 x3 x4 x5 x6 x7 x8).map n18:=by
 rw[i18];simp only[g18,aU,aS,aT,aD,aE]
theorem s18 (m40:CZ->Option CZ)(m34:(Int×Int×Int)->Option Bool)(qH:(CZ×DZ)->Option CR)(uD:(CZ×DZ)->Option CR)(h40:Sat prog cxT 40 (c40 m40))(h34:Sat prog cxT 34 (c34 m34))(h41:SatQ prog cxT 41 (c41 qH).nres (c41 qH).F (c41 qH).bx)(h42:SatQ prog cxT 42 (c42 uD).nres (c42 uD).F (c42 uD).bx)(m:(CZ×DZ)->Option CR)(hm:∀ (x:(CZ×DZ)) t,m x=some t->∃ L,g18 m40 m34 qH uD L x.1.1 x.1.2.1 x.1.2.2 x.2.1 x.2.2.1 x.2.2.2.1 x.2.2.2.2.1 x.2.2.2.2.2.1 x.2.2.2.2.2.2=some t):Sat prog cxT 18 (c18 m):=
 dS bZ bV (by rfl) (fn:=f18) rfl a18 n18 aTh m (aNC m40 m34 qH uD) (bN h40 (bN h34 bU)) (iP h41 (iP h42 bP)) (λL x=>g18 m40 m34 qH uD L x.1.1 x.1.2.1 x.1.2.2 x.2.1 x.2.2.1 x.2.2.2.1 x.2.2.2.2.1 x.2.2.2.2.2.1 x.2.2.2.2.2.2) (λL x=>e18 m40 m34 qH uD L x.1.1 x.1.2.1 x.1.2.2 x.2.1 x.2.2.1 x.2.2.2.1 x.2.2.2.2.1 x.2.2.2.2.2.1 x.2.2.2.2.2.2) hm aWN
def ev5 (m16:CZ->Option Int)(m17:DZ->Option Int)(m18:(CZ×DZ)->Option CR):Env cxT:={ Kc:=eF [(16,c16 m16),(17,c17 m17),(18,c18 m18)],Kw:=eE [],lv:=λi=>[],xv:=λi=>none }
theorem i5 (m16:CZ->Option Int)(m17:DZ->Option Int)(m18:(CZ×DZ)->Option CR)(L:Nat)(x0:Int)(x1:LB)(x2:LV)(x3 x4:Int)(x5 x6:Int)(x7 x8:Int):eT prog (ev5 m16 m17 m18) (bH L) f5 (a5.enc ((x0,x1,x2),(x3,x4,x5,x6,x7,x8)))=
 cZ (m16 (x0,(x1,x2))) 0 λ(q1:Int)=>bif (q1 != 0)then some (n5 (q1,0,[],[]))
  else cZ (m17 (x3,(x4,(x5,(x6,(x7,x8)))))) 0 λ(q2:Int)=>bif (q2 != 0)then some (n5 (q2,0,[],[]))
   else cZ (m18 ((x0,(x1,x2)),(x3,(x4,(x5,(x6,(x7,x8))))))) (0,0,[],[]) λ(q3:CR)=>some (n5 (q3.1,q3.2.1,q3.2.2.1,q3.2.2.2)):=by kernel_rfl
def g5 (m16:CZ->Option Int)(m17:DZ->Option Int)(m18:(CZ×DZ)->Option CR)(L:Nat)(x0:Int)(x1:LB)(x2:LV)(x3 x4:Int)(x5 x6:Int)(x7 x8:Int):Option CR:=
 cZ (m16 (x0,(x1,x2))) 0 λ(q1:Int)=>bif (q1 != 0)then some (q1,0,[],[])
  else cZ (m17 (x3,(x4,(x5,(x6,(x7,x8)))))) 0 λ(q2:Int)=>bif (q2 != 0)then some (q2,0,[],[])
   else cZ (m18 ((x0,(x1,x2)),(x3,(x4,(x5,(x6,(x7,x8))))))) (0,0,[],[]) λ(q3:CR)=>some (q3.1,q3.2.1,q3.2.2.1,q3.2.2.2)
theorem e5 (m16:CZ->Option Int)(m17:DZ->Option Int)(m18:(CZ×DZ)->Option CR)(L:Nat)(x0:Int)(x1:LB)(x2:LV)(x3 x4:Int)(x5 x6:Int)(x7 x8:Int):eT prog (ev5 m16 m17 m18) (bH L) f5 (a5.enc ((x0,x1,x2),(x3,x4,x5,x6,x7,x8)))=(g5 m16 m17 m18 L x0 x1 x2 x3 x4 x5 x6 x7 x8).map n5:=by
 rw[i5];simp only[g5,aU,aS,aT,aD,aE]
theorem s5 (m16:CZ->Option Int)(m17:DZ->Option Int)(m18:(CZ×DZ)->Option CR)(h16:Sat prog cxT 16 (c16 m16))(h17:Sat prog cxT 17 (c17 m17))(h18:Sat prog cxT 18 (c18 m18))(m:(CZ×DZ)->Option CR)(hm:∀ (x:(CZ×DZ)) t,m x=some t->∃ L,g5 m16 m17 m18 L x.1.1 x.1.2.1 x.1.2.2 x.2.1 x.2.2.1 x.2.2.2.1 x.2.2.2.2.1 x.2.2.2.2.2.1 x.2.2.2.2.2.2=some t):Sat prog cxT 5 (c5 m):=
 dS bZ bV (by rfl) (fn:=f5) rfl a5 n5 dd5 m (ev5 m16 m17 m18) (bN h16 (bN h17 (bN h18 bU))) bP (λL x=>g5 m16 m17 m18 L x.1.1 x.1.2.1 x.1.2.2 x.2.1 x.2.2.1 x.2.2.2.1 x.2.2.2.2.1 x.2.2.2.2.2.1 x.2.2.2.2.2.2) (λL x=>e5 m16 m17 m18 L x.1.1 x.1.2.1 x.1.2.2 x.2.1 x.2.2.1 x.2.2.2.1 x.2.2.2.2.1 x.2.2.2.2.2.1 x.2.2.2.2.2.2) hm hs5
def yO:Env cxT:={ Kc:=eF [],Kw:=eE [],lv:=λi=>if i=0 then[(2,[none,some 68,some 76]),(3,[none,some 68,some 76]),(16,[some 76]),(17,[]),(18,[])]else[],xv:=λi=>if i=0 then some [(2,[none,some 68,some 76]),(3,[none,some 68,some 76])]else none }
def S23_0 (x8:Int)(x9:LB)(x0:LV)(x1:Int)(x2:LB)(x3:LV)(x4:Int)(x5:LB)(x6:LV)(x7:Int):St cxT.ty:={ slots:=[aN,aN,(.inr (.inr { kind:=0,nm:=128,cells:=[(lv (.int .i64 x1)),(ls { own:=1,nm:=130,e:=68,o:=true,xs:=x2 }),(ls { own:=1,nm:=131,e:=76,o:=true,xs:=x3 })],s:={ own:=0,nm:=0,e:=0,o:=false,xs:=([]:List (PUnit)) },i:=0,off:=0 })),(.inr (.inr { kind:=0,nm:=192,cells:=[(lv (.int .i64 x4)),(ls { own:=1,nm:=194,e:=68,o:=true,xs:=x5 }),(ls { own:=1,nm:=195,e:=76,o:=true,xs:=x6 })],s:={ own:=0,nm:=0,e:=0,o:=false,xs:=([]:List (PUnit)) },i:=0,off:=0 })),aN,aN,aN,aN,aN,aN,aN,aN,aN,aN,aN,aN,(.inl (.inl (ls { own:=0,nm:=0,e:=76,o:=false,xs:=x0 }))),(.inl (.inl (lv (.int .i64 (x0.length:Int))))),(.inl (.inl (lv (.int .i64 x7))))]++List.replicate 15 aN,D:=[],F:=[],ctr:=1 }
def X23_0 (x6:Int)(x7:LB)(x8:LV)(x0:Int)(x1:LB)(x2:LV)(x3:Int)(x4:LB)(x5:LV):St cxT.ty:={ slots:=[aN,aN,(.inr (.inr { kind:=0,nm:=128,cells:=[(lv (.int .i64 x0)),(ls { own:=1,nm:=130,e:=68,o:=true,xs:=x1 }),(ls { own:=1,nm:=131,e:=76,o:=true,xs:=x2 })],s:={ own:=0,nm:=0,e:=0,o:=false,xs:=([]:List (PUnit)) },i:=0,off:=0 })),(.inr (.inr { kind:=0,nm:=192,cells:=[(lv (.int .i64 x3)),(ls { own:=1,nm:=194,e:=68,o:=true,xs:=x4 }),(ls { own:=1,nm:=195,e:=76,o:=true,xs:=x5 })],s:={ own:=0,nm:=0,e:=0,o:=false,xs:=([]:List (PUnit)) },i:=0,off:=0 }))]++List.replicate 30 aN,D:=[],F:=[],ctr:=1 }
theorem i23 (L:Nat)(x1:Int)(x0:LB)(x2:LV):eT prog yO (bH L) f23 (a23.enc (x1,x0,x2))=
 bif (decide (x0.length<=(1000000000:Nat)))then cE prog yO L f23 0 [1,1,1,0,1,0,0] (cW (bI prog f23) (cA prog yO L f23 [1,1,1,0,1] (bI prog f23)).n (cA prog yO L f23 [1,1,1,0,1] (bI prog f23)).x) L (S23_0 x1 x0 x2 0 [] [] x1 x0 [] 0)
 else none:=by kernel_rfl
theorem aRc (L:Nat)(x3:Int)(x4:LB)(x0:LV)(k:KT)(xk:Nat->KT)(g:KT)(x5:Int)(x6:LB)(x7:LV)(x8:Int)(x9:LB)(x2:LV)(x1:Int):eW prog yO L f23 0 [1,1,1,0,1,0,0] (cW (bI prog f23) k xk) g (S23_0 x3 x4 x0 x5 x6 x7 x8 x9 x2 x1)=
 bif (decide (x1 < (x0.length:Int)))then bif ((decide (0<=x1))&&(decide (x1 < (x0.length:Int))))then bif (decide ((List.length (List.getD x0 x1.toNat ZV).2.2.2)<=(1000000000:Nat)))then bif (decide ((x2.length+(List.length (List.cons ((List.getD x0 x1.toNat ZV).1,((List.getD x0 x1.toNat ZV).2.1,((List.getD x0 x1.toNat ZV).2.2.1,(List.getD x0 x1.toNat ZV).2.2.2))) [])))<=(1000000000:Nat)))then g (S23_0 x3 x4 x0 x5 x6 x7 x8 x9 (x2++(List.cons ((List.getD x0 x1.toNat ZV).1,((List.getD x0 x1.toNat ZV).2.1,((List.getD x0 x1.toNat ZV).2.2.1,(List.getD x0 x1.toNat ZV).2.2.2))) [])) (wrap .i64 (x1+1)))
    else none
   else none
  else none
 else k (X23_0 x3 x4 x0 x5 x6 x7 x8 x9 x2):=by kernel_rfl
theorem aPD (L:Nat)(x3:Int)(x4:LB)(x5:LV)(x6:Int)(x7:LB)(x8:LV)(x0:Int)(x1:LB)(x2:LV):(cA prog yO L f23 [1,1,1,0,1] (bI prog f23)).n (X23_0 x3 x4 x5 x6 x7 x8 x0 x1 x2)=
 some (n23 (x0,x1,x2)):=by kernel_rfl
def aAv (L:Nat)(x8:Int)(x9:LB)(x1:LV):Nat->Int->LB->LV->Int->LB->LV->Int->(Int->LB->LV->Int->LB->LV->Option CZ)->Option CZ
 | 0,_,_,_,_,_,_,_,_=>none
 | n+1,x3,x4,x5,x6,x7,x2,x0,k=>
  bif (decide (x0 < (x1.length:Int)))then bif ((decide (0<=x0))&&(decide (x0 < (x1.length:Int))))then bif (decide ((List.length (List.getD x1 x0.toNat ZV).2.2.2)<=(1000000000:Nat)))then bif (decide ((x2.length+(List.length (List.cons ((List.getD x1 x0.toNat ZV).1,((List.getD x1 x0.toNat ZV).2.1,((List.getD x1 x0.toNat ZV).2.2.1,(List.getD x1 x0.toNat ZV).2.2.2))) [])))<=(1000000000:Nat)))then aAv L x8 x9 x1 n x3 x4 x5 x6 x7 (x2++(List.cons ((List.getD x1 x0.toNat ZV).1,((List.getD x1 x0.toNat ZV).2.1,((List.getD x1 x0.toNat ZV).2.2.1,(List.getD x1 x0.toNat ZV).2.2.2))) [])) (wrap .i64 (x0+1)) k
     else none
    else none
   else none
  else k x3 x4 x5 x6 x7 x2
theorem aLV (L:Nat)(x0:Int)(x1:LB)(x2:LV)(k:KT)(xk:Nat->KT)(k':Int->LB->LV->Int->LB->LV->Option CZ)(hk:∀ (xa:Int) (xb:LB) (xc:LV) (xd:Int) (xe:LB) (xf:LV),k (X23_0 x0 x1 x2 xa xb xc xd xe xf)=(k' xa xb xc xd xe xf).map n23):∀ (n:Nat) (x3:Int) (x4:LB) (x5:LV) (x6:Int) (x7:LB) (x8:LV) (x9:Int),cE prog yO L f23 0 [1,1,1,0,1,0,0] (cW (bI prog f23) k xk) n (S23_0 x0 x1 x2 x3 x4 x5 x6 x7 x8 x9)=(aAv L x0 x1 x2 n x3 x4 x5 x6 x7 x8 x9 k').map n23
 | 0,_,_,_,_,_,_,_=>rfl
 | n+1,x3,x4,x5,x6,x7,x8,x9=>by
  rw[cK,aRc];have ih:=aLV L x0 x1 x2 k xk k' hk n;simp only[aAv,aU,aS,aT,aD,aE,ih,hk]
def g23 (L:Nat)(x1:Int)(x0:LB)(x2:LV):Option CZ:=
 bif (decide (x0.length<=(1000000000:Nat)))then aAv L x1 x0 x2 L 0 [] [] x1 x0 [] 0 (λ(x6:Int) (x7:LB) (x8:LV) (x3:Int) (x4:LB) (x5:LV)=>some (x3,x4,x5))
 else none
theorem e23 (L:Nat)(x0:Int)(x1:LB)(x2:LV):eT prog yO (bH L) f23 (a23.enc (x0,x1,x2))=(g23 L x0 x1 x2).map n23:=by
 let K'0:Int->LB->LV->Int->LB->LV->Option CZ:=(λ(xd:Int) (xe:LB) (xf:LV) (xa:Int) (xb:LB) (xc:LV)=>some (xa,xb,xc))
 have hin0:∀ (x3:Int) (x4:LB) (x5:LV) (x6:Int) (x7:LB) (x8:LV) (x9:Int),cE prog yO L f23 0 [1,1,1,0,1,0,0] (cW (bI prog f23) (cA prog yO L f23 [1,1,1,0,1] (bI prog f23)).n (cA prog yO L f23 [1,1,1,0,1] (bI prog f23)).x) L (S23_0 x0 x1 x2 x3 x4 x5 x6 x7 x8 x9)=(aAv L x0 x1 x2 L x3 x4 x5 x6 x7 x8 x9 K'0).map n23:=λx3 x4 x5 x6 x7 x8 x9=>aLV L x0 x1 x2 _ _ K'0 (λxd xe xf xa xb xc=>by rw[aPD];simp only[K'0,aU,aS,aT,aD,aE]) L x3 x4 x5 x6 x7 x8 x9
 rw[i23];simp only[g23,aU,aS,aT,aD,aE,hin0,K'0]
theorem s23 (m:CZ->Option CZ)(hm:∀ (x:CZ) t,m x=some t->∃ L,g23 L x.1 x.2.1 x.2.2=some t):Sat prog cxT 23 (c23 m):=
 dS bZ bV (by rfl) (fn:=f23) rfl a23 n23 aNP m yO bU bP (λL x=>g23 L x.1 x.2.1 x.2.2) (λL x=>e23 L x.1 x.2.1 x.2.2) hm aWJ
def ev3 (m4:(CZ×Int)->Option Int)(m6:CZ->Option CZ)(m7:DZ->Option DZ)(m5:(CZ×DZ)->Option CR)(m8:(CZ×DZ)->Option CR)(m9:(CR×CR)->Option Bool)(oK:(CZ×CZ)->Option Bool)(mV:(CZ×Int)->Option CR)(xO:(CR×Int)->Option (Int×Int×Int×LB×LV))(m13:(CR×Int)->Option Int):Env cxT:={ Kc:=eF [(4,c4 m4),(6,c6 m6),(7,c7 m7),(5,c5 m5),(8,c8 m8),(9,c9 m9),(10,c10 oK),(13,c13 m13)],Kw:=eE [(11,c11 mV),(12,c12 xO)],lv:=λi=>[],xv:=λi=>none }
theorem i3 (m4:(CZ×Int)->Option Int)(m6:CZ->Option CZ)(m7:DZ->Option DZ)(m5:(CZ×DZ)->Option CR)(m8:(CZ×DZ)->Option CR)(m9:(CR×CR)->Option Bool)(oK:(CZ×CZ)->Option Bool)(mV:(CZ×Int)->Option CR)(xO:(CR×Int)->Option (Int×Int×Int×LB×LV))(m13:(CR×Int)->Option Int)(L:Nat)(x0:Int)(x1:LB)(x2:LV)(x3 x4:Int)(x5 x6:Int)(x7 x8:Int):aIG prog (ev3 m4 m6 m7 m5 m8 m9 oK mV xO m13) (bH L) f3 (a3.enc ((x0,x1,x2),(x3,x4,x5,x6,x7,x8)))=
 cZ (m4 (((List.getD (List.cons (x0,(x1,x2)) []) (0:Nat) (0,([],[]))).1,((List.getD (List.cons (x0,(x1,x2)) []) (0:Nat) (0,([],[]))).2.1,(List.getD (List.cons (x0,(x1,x2)) []) (0:Nat) (0,([],[]))).2.2)),1048576)) 0 λ(q1:Int)=>bif (decide (q1 < 0))then some (n3 true)
  else cZ (m6 ((List.getD (List.cons (x0,(x1,x2)) []) (0:Nat) (0,([],[]))).1,((List.getD (List.cons (x0,(x1,x2)) []) (0:Nat) (0,([],[]))).2.1,(List.getD (List.cons (x0,(x1,x2)) []) (0:Nat) (0,([],[]))).2.2))) (0,[],[]) λ(q2:CZ)=>cZ (m7 (x3,(x4,(x5,(x6,(x7,x8)))))) (0,0,0,0,0,0) λ(q3:DZ)=>cZ (m5 (q2,(q3.1,q3.2))) (0,0,[],[]) λ(q4:CR)=>cZ (m6 ((List.getD (List.cons (x0,(x1,x2)) []) (0:Nat) (0,([],[]))).1,((List.getD (List.cons (x0,(x1,x2)) []) (0:Nat) (0,([],[]))).2.1,(List.getD (List.cons (x0,(x1,x2)) []) (0:Nat) (0,([],[]))).2.2))) (0,[],[]) λ(q5:CZ)=>cZ (m7 (x3,(x4,(x5,(x6,(x7,x8)))))) (0,0,0,0,0,0) λ(q6:DZ)=>cZ (m8 (q2,(q3.1,q3.2))) (0,0,[],[]) λ(q7:CR)=>cZ (m9 (q7,q4)) false λ(q8:Bool)=>bif (!q8)then some (n3 false)
         else cZ (m6 ((List.getD (List.cons (x0,(x1,x2)) []) (0:Nat) (0,([],[]))).1,((List.getD (List.cons (x0,(x1,x2)) []) (0:Nat) (0,([],[]))).2.1,(List.getD (List.cons (x0,(x1,x2)) []) (0:Nat) (0,([],[]))).2.2))) (0,[],[]) λ(q9:CZ)=>cZ (oK (q2,q2)) false λ(q10:Bool)=>bif (!q10)then some (n3 false)
           else cZ (mV (q2,1)) (0,0,[],[]) λ(q11:CR)=>bif (decide (q11.1 < 0))then some (n3 false)
            else cZ (m9 (q7,q4)) false λ(q12:Bool)=>bif (!q8)then some (n3 false)
             else cZ (xO (q7,1)) (0,0,0,[],[]) λ(q13:(Int×Int×Int×LB×LV))=>cZ (m13 ((q7.1,(q7.2.1,q13.2.2.2)),1)) 0 λ(q14:Int)=>bif (decide (q14 < 0))then some (n3 false)
               else bif (q14 != q13.1)then some (n3 false)
               else cZ (m6 ((List.getD (List.cons (x0,(x1,x2)) []) (0:Nat) (0,([],[]))).1,((List.getD (List.cons (x0,(x1,x2)) []) (0:Nat) (0,([],[]))).2.1,(List.getD (List.cons (x0,(x1,x2)) []) (0:Nat) (0,([],[]))).2.2))) (0,[],[]) λ(q15:CZ)=>cZ (m7 (x3,(x4,(x5,(x6,(x7,x8)))))) (0,0,0,0,0,0) λ(q16:DZ)=>cZ (m8 (q2,(q3.1,q3.2))) (0,0,[],[]) λ(q17:CR)=>cZ (m9 (q7,q4)) false λ(q18:Bool)=>bif (!q8)then some (n3 false)
                   else cZ (m13 ((q7.1,(q7.2.1,q13.2.2.2)),1)) 0 λ(q19:Int)=>bif (decide (q14 < 0))then some (n3 false)
                    else bif (q14 != q13.1)then some (n3 false)
                    else some (n3 true):=by kernel_rfl
def g3 (m4:(CZ×Int)->Option Int)(m6:CZ->Option CZ)(m7:DZ->Option DZ)(m5:(CZ×DZ)->Option CR)(m8:(CZ×DZ)->Option CR)(m9:(CR×CR)->Option Bool)(oK:(CZ×CZ)->Option Bool)(mV:(CZ×Int)->Option CR)(xO:(CR×Int)->Option (Int×Int×Int×LB×LV))(m13:(CR×Int)->Option Int)(L:Nat)(x0:Int)(x1:LB)(x2:LV)(x3 x4:Int)(x5 x6:Int)(x7 x8:Int):Option Bool:=
 cZ (m4 (((List.getD (List.cons (x0,(x1,x2)) []) (0:Nat) (0,([],[]))).1,((List.getD (List.cons (x0,(x1,x2)) []) (0:Nat) (0,([],[]))).2.1,(List.getD (List.cons (x0,(x1,x2)) []) (0:Nat) (0,([],[]))).2.2)),1048576)) 0 λ(q1:Int)=>bif (decide (q1 < 0))then some true
  else cZ (m6 ((List.getD (List.cons (x0,(x1,x2)) []) (0:Nat) (0,([],[]))).1,((List.getD (List.cons (x0,(x1,x2)) []) (0:Nat) (0,([],[]))).2.1,(List.getD (List.cons (x0,(x1,x2)) []) (0:Nat) (0,([],[]))).2.2))) (0,[],[]) λ(q2:CZ)=>cZ (m7 (x3,(x4,(x5,(x6,(x7,x8)))))) (0,0,0,0,0,0) λ(q3:DZ)=>cZ (m5 (q2,(q3.1,q3.2))) (0,0,[],[]) λ(q4:CR)=>cZ (m6 ((List.getD (List.cons (x0,(x1,x2)) []) (0:Nat) (0,([],[]))).1,((List.getD (List.cons (x0,(x1,x2)) []) (0:Nat) (0,([],[]))).2.1,(List.getD (List.cons (x0,(x1,x2)) []) (0:Nat) (0,([],[]))).2.2))) (0,[],[]) λ(q5:CZ)=>cZ (m7 (x3,(x4,(x5,(x6,(x7,x8)))))) (0,0,0,0,0,0) λ(q6:DZ)=>cZ (m8 (q2,(q3.1,q3.2))) (0,0,[],[]) λ(q7:CR)=>cZ (m9 (q7,q4)) false λ(q8:Bool)=>bif (!q8)then some false
         else cZ (m6 ((List.getD (List.cons (x0,(x1,x2)) []) (0:Nat) (0,([],[]))).1,((List.getD (List.cons (x0,(x1,x2)) []) (0:Nat) (0,([],[]))).2.1,(List.getD (List.cons (x0,(x1,x2)) []) (0:Nat) (0,([],[]))).2.2))) (0,[],[]) λ(q9:CZ)=>cZ (oK (q2,q2)) false λ(q10:Bool)=>bif (!q10)then some false
           else cZ (mV (q2,1)) (0,0,[],[]) λ(q11:CR)=>bif (decide (q11.1 < 0))then some false
            else cZ (m9 (q7,q4)) false λ(q12:Bool)=>bif (!q8)then some false
             else cZ (xO (q7,1)) (0,0,0,[],[]) λ(q13:(Int×Int×Int×LB×LV))=>cZ (m13 ((q7.1,(q7.2.1,q13.2.2.2)),1)) 0 λ(q14:Int)=>bif (decide (q14 < 0))then some false
               else bif (q14 != q13.1)then some false
               else cZ (m6 ((List.getD (List.cons (x0,(x1,x2)) []) (0:Nat) (0,([],[]))).1,((List.getD (List.cons (x0,(x1,x2)) []) (0:Nat) (0,([],[]))).2.1,(List.getD (List.cons (x0,(x1,x2)) []) (0:Nat) (0,([],[]))).2.2))) (0,[],[]) λ(q15:CZ)=>cZ (m7 (x3,(x4,(x5,(x6,(x7,x8)))))) (0,0,0,0,0,0) λ(q16:DZ)=>cZ (m8 (q2,(q3.1,q3.2))) (0,0,[],[]) λ(q17:CR)=>cZ (m9 (q7,q4)) false λ(q18:Bool)=>bif (!q8)then some false
                   else cZ (m13 ((q7.1,(q7.2.1,q13.2.2.2)),1)) 0 λ(q19:Int)=>bif (decide (q14 < 0))then some false
                    else bif (q14 != q13.1)then some false
                    else some true
theorem e3 (m4:(CZ×Int)->Option Int)(m6:CZ->Option CZ)(m7:DZ->Option DZ)(m5:(CZ×DZ)->Option CR)(m8:(CZ×DZ)->Option CR)(m9:(CR×CR)->Option Bool)(oK:(CZ×CZ)->Option Bool)(mV:(CZ×Int)->Option CR)(xO:(CR×Int)->Option (Int×Int×Int×LB×LV))(m13:(CR×Int)->Option Int)(L:Nat)(x0:Int)(x1:LB)(x2:LV)(x3 x4:Int)(x5 x6:Int)(x7 x8:Int):aIG prog (ev3 m4 m6 m7 m5 m8 m9 oK mV xO m13) (bH L) f3 (a3.enc ((x0,x1,x2),(x3,x4,x5,x6,x7,x8)))=(g3 m4 m6 m7 m5 m8 m9 oK mV xO m13 L x0 x1 x2 x3 x4 x5 x6 x7 x8).map n3:=by
 rw[i3];simp only[g3,aU,aS,aT,aD,aE]
theorem s3 (m4:(CZ×Int)->Option Int)(m6:CZ->Option CZ)(m7:DZ->Option DZ)(m5:(CZ×DZ)->Option CR)(m8:(CZ×DZ)->Option CR)(m9:(CR×CR)->Option Bool)(oK:(CZ×CZ)->Option Bool)(mV:(CZ×Int)->Option CR)(xO:(CR×Int)->Option (Int×Int×Int×LB×LV))(m13:(CR×Int)->Option Int)(h4:Sat prog cxT 4 (c4 m4))(h6:Sat prog cxT 6 (c6 m6))(h7:Sat prog cxT 7 (c7 m7))(h5:Sat prog cxT 5 (c5 m5))(h8:Sat prog cxT 8 (c8 m8))(h9:Sat prog cxT 9 (c9 m9))(h10:Sat prog cxT 10 (c10 oK))(h11:SatW prog cxT 11 (c11 mV).nres (c11 mV).n (c11 mV).F)(h12:SatW prog cxT 12 (c12 xO).nres (c12 xO).n (c12 xO).F)(h13:Sat prog cxT 13 (c13 m13))(m:(CZ×DZ)->Option Bool)(hm:∀ (x:(CZ×DZ)) t,m x=some t->∃ L,g3 m4 m6 m7 m5 m8 m9 oK mV xO m13 L x.1.1 x.1.2.1 x.1.2.2 x.2.1 x.2.2.1 x.2.2.2.1 x.2.2.2.2.1 x.2.2.2.2.2.1 x.2.2.2.2.2.2=some t):Sat prog cxT 3 (c3 m):=
 aPQ bZ bV (by rfl) (fn:=f3) rfl a3 n3 dd3 m (ev3 m4 m6 m7 m5 m8 m9 oK mV xO m13) (bN h4 (bN h6 (bN h7 (bN h5 (bN h8 (bN h9 (bN h10 (bN h13 bU)))))))) (iP h11 (iP h12 bP)) (λL x=>g3 m4 m6 m7 m5 m8 m9 oK mV xO m13 L x.1.1 x.1.2.1 x.1.2.2 x.2.1 x.2.2.1 x.2.2.2.1 x.2.2.2.2.1 x.2.2.2.2.2.1 x.2.2.2.2.2.2) (λL x=>e3 m4 m6 m7 m5 m8 m9 oK mV xO m13 L x.1.1 x.1.2.1 x.1.2.2 x.2.1 x.2.2.1 x.2.2.2.1 x.2.2.2.2.1 x.2.2.2.2.2.1 x.2.2.2.2.2.2) hm hs3
def okS (c:Cg):Prop:=c.2.1.length<=1000/\c.2.2.length<=1000/\∀ v∈c.2.2,v.2.2.2.length<=1000
instance (c:Cg):Decidable (okS c):=by unfold okS;infer_instance
theorem p23 (L:Nat)(a:Int)(bs:LB)(vs:LV)(hv:vs.length<=1000)(hn:∀ v∈vs,v.2.2.2.length<=1000)(x:Int)(y:LB)(z:LV)(k:Int->LB->LV->Int->LB->LV->Option Cg) :
  ∀ (n i:Nat) (acc:LV),i<=vs.length->vs.length < n+i->acc.length=i->aAv L a bs vs n x y z a bs acc i k=k x y z a bs (acc++vs.drop i)
 | 0,i,acc,h1,h2,h3=>by omega
 | n+1,i,acc,h1,h2,h3=>by
  unfold aAv;simp only[cB,dQ];by_cases hi:i < vs.length
  ·have hm:=hn _ (eG eJ hi);rw[dt (show(i:Int) < (vs.length:Int)by omega),dt (show(0:Int)<=(i:Int)by omega),bO,cond_true,cond_true,aV,show(ZV:Vp)=eJ from rfl];rw[dt (show(vs.getD i eJ).2.2.2.length<=1000000000 by omega),cond_true];rw[dt (show acc.length+(0+1)<=1000000000 by omega),cond_true,wi (by omega) (by omega),show((i:Int)+1)=((i+1:Nat):Int)by omega];rw[p23 L a bs vs hv hn x y z k n (i+1) _ (by omega) (by omega) (by simp[h3])];congr 1;rw[dB,dE hi,<-fT eJ hi]
   rfl
  ·rw[df (show ¬ (i:Int) < (vs.length:Int)by omega),cond_false,cM (by omega),dR]
def mCp (c:Cg):Option Cg:=if okS c then some c else none
theorem aQw:Sat prog cxT 23 (c23 mCp):=s23 mCp λx t h=>by
 obtain⟨a,bs,vs⟩:=x;unfold mCp at h;split at h
 ·rename_i hc;obtain⟨h1,h2,h3⟩:=hc;cases h;simp only at h1 h2 h3;refine⟨vs.length+1,?_⟩;show g23 _ a bs vs=_;unfold g23;rw[dt (show bs.length<=1000000000 by omega),cond_true];exact(p23 _ a bs vs h2 h3 0 [] [] _ (vs.length+1) 0 [] (by omega) (by omega) rfl).trans rfl
 ·cases h
theorem p40 (L:Nat)(a:Int)(bs:LB)(vs:LV)(hv:vs.length<=1000)(hn:∀ v∈vs,v.2.2.2.length<=1000)(x:Int)(y:LB)(z:LV)(k:Int->LB->LV->Int->LB->LV->Option Cg) :
  ∀ (n i:Nat) (acc:LV),i<=vs.length->vs.length < n+i->acc.length=i->aAs L a bs vs n a bs vs x y z a bs acc i k=k x y z a bs (acc++vs.drop i)
 | 0,i,acc,h1,h2,h3=>by omega
 | n+1,i,acc,h1,h2,h3=>by
  unfold aAs;simp only[cB,dQ];by_cases hi:i < vs.length
  ·have hm:=hn _ (eG eJ hi);rw[dt (show(i:Int) < (vs.length:Int)by omega),dt (show(0:Int)<=(i:Int)by omega),bO,cond_true,cond_true,aV,show(ZV:Vp)=eJ from rfl];rw[dt (show 0+(vs.getD i eJ).2.2.2.length<=1000000000 by omega),cond_true];rw[dt (show acc.length+(0+1)<=1000000000 by omega),cond_true,wi (by omega) (by omega),show((i:Int)+1)=((i+1:Nat):Int)by omega];rw[p40 L a bs vs hv hn x y z k n (i+1) _ (by omega) (by omega) (by simp[h3])];congr 1;rw[dB,dE hi,<-fT eJ hi]
   rfl
  ·rw[df (show ¬ (i:Int) < (vs.length:Int)by omega),cond_false,cM (by omega),dR]
theorem aQk:Sat prog cxT 40 (c40 mCp):=s40 mCp λx t h=>by
 obtain⟨a,bs,vs⟩:=x;unfold mCp at h;split at h
 ·rename_i hc;obtain⟨h1,h2,h3⟩:=hc;cases h;simp only at h1 h2 h3;refine⟨vs.length+1,?_⟩;show g40 _ a bs vs=_;unfold g40;rw[dt (show([]:LB).length+bs.length<=1000000000 by simp only[dQ];omega),cond_true];exact(p40 _ a bs vs h2 h3 0 [] [] _ (vs.length+1) 0 [] (by omega) (by omega) rfl).trans rfl
 ·cases h
theorem aMX:(prog.info? 68).map (λi=>(i.zero.isSome,(i.zero.getD .nilFunc).cells.size,i.size,i.bytes))=some (true,5,5,40):=by kernel_rfl
theorem yY:∃ i z,prog.info? 68=some i/\i.zero=some z/\z.cells.size=5/\i.size=5/\i.bytes=40:=by
 have h:=aMX;obtain⟨i,hi,h⟩:=lL.1 h;simp only[aY]at h;obtain⟨h1,h2,h3,h4⟩:=h;obtain⟨z,hz⟩:=cH.1 h1;rw[hz]at h2;exact⟨i,z,hi,hz,h2,h3,h4⟩
theorem aMj (w:World):(zeroValue 68).run prog w=.ok (.agg #[.int .i64 0,.int .i64 0,.int .i64 0,.int .i64 0,.bool false]) w:=by kernel_rfl
section
attribute [local go_sem] Oper.semAt_some
set_option maxRecDepth 100000 in
set_option maxHeartbeats 4000000 in
theorem aSq (g i n cap:Nat)(us:List Value)(w:World)(hrow:w.ownsRow 0 68 5 (.slice (some ⟨g,0,none⟩) n cap) n us)(hi:i < n)(hn:n<=100)(h1:∀ x∈us,x.oneCell'=true) :
  Calls prog 88 #[.slice (some ⟨g,0,none⟩) n cap,.int .i64 i,.int .i64 ((i:Int)+1)] w λe W=>e=.returned (.slice (some ⟨g,0,none⟩) (n-1) cap) ∧
   W.ownsRow 0 68 5 (.slice (some ⟨g,0,none⟩) (n-1) cap) (n-1) (us.take (i * 5)++us.drop ((i+1) * 5))/\Kept (λb=>b=g) w W:=by
 obtain⟨i0,z,hi0,hz,hz1,hz2,hz3⟩:=yY;obtain⟨cur,hg,hcs,_,hnc,hcm,hus⟩:=fQ hrow;have hul:us.length=n * 5:=hrow.1;have hnc5:n * 5<=cur.size:=by rw[hcs];exact aQ 5 hnc
 obtain⟨A,hA,hAs⟩:∃ A,(if cap=i+1 then some (⟨g,0,none⟩:Addr)else some ⟨g,(i+1) * 5,none⟩)=some A/\∀ (j:Nat) u,(us.drop ((i+1) * 5))[j]?=some u->w.drew.cell? (A.add j)=some u:=by
  have hcell:∀ k u,us[k]?=some u->w.drew.cell? ⟨g,k,none⟩=some u:=λk u h=>by
   have hg':w.drew.heap[g]?=some (.cells cur 68 (0,0)):=hg;refine(cell_of_row _ _ _ _ 68 (0,0) hg').trans ?_;rw[hus,bK]at h;split at h
   ·rw[<-Array.getElem?_toList];exact h
   ·cases h
  by_cases hc:cap=i+1
  ·refine⟨_,if_pos hc,λj u h=>?_⟩;have:us.length<=(i+1) * 5:=by rw[hul];exact aQ 5 (by omega)
   rw[cM this]at h;simp at h
  ·refine⟨_,if_neg hc,λj u h=>?_⟩;rw[Addr.add_lit];rw[cL]at h;exact hcell _ _ h
 have hdl:(us.drop ((i+1) * 5)).length=(n-(i+1)) * 5:=by rw[bL,hul,<-Nat.sub_mul]
 have hr1:∀ ty c',(Builtin.append_ #[29,29] ty #[.slice (some ⟨g,0,none⟩) i cap,.slice (some A) (n-(i+1)) c']).run prog w.drew=.ok (.slice (some ⟨g,0,none⟩) (i+(n-(i+1))) cap) (w.drew.setRow g (dJ cur.toList (i * 5) (us.drop ((i+1) * 5))).toArray):=λty c'=>
  lP w.drew 29 ty 68 i0 5 underlying29 hi0 hz2 g i cap (n-(i+1)) c' A cur 68 hg _ hdl hAs (λu hu=>h1 u (cC hu)) (by omega) (by rw[hdl];omega)
 have mixed:prog.follows .mixedOrders=true:=by kernel_rfl
 have hic:i<=cap:=by omega
 have hm0:(0:Int)<=(i:Int)+1:=by omega
 have hm1:(i:Int)+1<=(n:Int):=by omega
 have ht1:((i:Int)+1).toNat=i+1:=by omega
 have hlen:i+(n-(i+1))=n-1:=by omega
 rw[hlen]at hr1;have hpl:(dJ cur.toList (i * 5) (us.drop ((i+1) * 5))).length=cap * 5:=by
  unfold dJ;have:cur.toList.length=cap * 5:=by rw[Array.length_toList,hcs]
  simp only[aW,bA,bL,this,hdl,hul];have:i * 5+(n-(i+1)) * 5<=cap * 5:=by rw[<-eZ];exact aQ 5 (by omega)
  omega
 have hfin:(dJ cur.toList (i * 5) (us.drop ((i+1) * 5))).take ((n-1) * 5)=us.take (i * 5)++us.drop ((i+1) * 5):=by
  unfold dJ;have e1:us.take (i * 5)=cur.toList.take (i * 5):=by rw[hus,List.take_take,Nat.min_eq_left (by omega)]
  have e2:((cur.toList.take (i * 5))++us.drop ((i+1) * 5)).length=(n-1) * 5:=by
   have:cur.toList.length=cap * 5:=by rw[Array.length_toList,hcs]
   simp only[aW,bA,hdl,this];have:i * 5<=cap * 5:=aQ 5 (by omega);rw[Nat.min_eq_left this,<-eZ,hlen]
  rw[e1,cP (by rw[e2];exact aK _),cT (by rw[e2];exact aK _)]
 generalize dJ cur.toList (i * 5) (us.drop ((i+1) * 5))=C1 at hr1 hpl hfin
 have hg1:(w.drew.setRow g C1.toArray).heap[g]?=some (.cells C1.toArray 68 (0,0)):=setRow_heap w.drew g cur _ 68 (0,0) hg;have hr2:∀ ty c',(Builtin.clear_ #[29] ty #[.slice (some ⟨g,(n-1) * 5,none⟩) (n-(n-1)) c']).run prog (w.drew.setRow g C1.toArray)=.ok (.tuple #[]) ((w.drew.setRow g C1.toArray).setRow g (dJ C1 ((n-1) * 5) [.int .i64 0,.int .i64 0,.int .i64 0,.int .i64 0,.bool false]).toArray):=λty c'=>
  tK _ 29 ty 68 _ aMj underlying29 g ((n-1) * 5) (n-(n-1)) c' (by omega) C1.toArray 68 hg1 _ (by rw[show n-(n-1)=1 by omega];simp[Builtin.zeroCells,Value.cells]<;>rfl) (by simp[Value.oneCell']) (by
   simp only[cR,hpl,cB,dQ];have:(n-1) * 5+5<=cap * 5:=by
    have:=aQ 5 (show n-1+1<=cap by omega);omega
   omega)
 have hn1:n-1<=n:=by omega
 have hn2:n<=cap:=hnc;have hn3:¬ (cap=n-1):=by omega
 clear hus
 go_enter func88,ntmps88
 go_wp2
 go_region_law_o (refine mE rfl _ _ 29 29 rfl _ _ (by simp[Act.eval,Act.put]) (by simp[Act.eval,Act.put];rfl) (hr1 _ _) ?_)
 go_wp2_with (at_builtin;refine lM rfl _ 29 rfl _ rfl (hr2 _ _) ?_)
 go_ret
 have hg2:=setRow_heap (w.drew.setRow g C1.toArray) g C1.toArray (dJ C1 ((n-1) * 5) [.int .i64 0,.int .i64 0,.int .i64 0,.int .i64 0,.bool false]).toArray 68 (0,0) hg1;refine⟨rfl,⟨?_,.inr ⟨g,cap,_,rfl,bX _,hg2,by omega,hcm,?_,?_⟩⟩,rfl,rfl,rfl,by simp,λb hb=>?_⟩
 ·rw[<-hfin,bA,hpl];have:=aQ 5 (show n-1<=cap by omega);omega
 ·unfold dJ;have:=aQ 5 (show n-1+1<=cap by omega);simp only[cR,aW,bA,bL,hpl,cB,dQ];omega
 ·have:=aQ 5 (show n-1<=cap by omega);unfold dJ;rw[dB,cP (by rw[bA,hpl];omega),List.take_take,Nat.min_self,hfin]
 ·exact(setRow_other _ _ _ _ hb).trans (setRow_other w.drew g b _ hb)
end
end Go.Proofs.Tryz
