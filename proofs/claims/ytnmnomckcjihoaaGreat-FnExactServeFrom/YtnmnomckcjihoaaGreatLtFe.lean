/- A part of the proof of FnExactServeFrom: LtFe. -/
import Derived.Test.YtnmnomckcjihoaaGreatLtCon
set_option linter.unusedSimpArgs false
set_option linter.unusedVariables false
set_option maxHeartbeats 0
set_option maxRecDepth 100000
namespace Go.Proofs.Tryz
open Go.IntKind (wrap)
open Go Go.VM Go.RowKit
def wA (jX:(CZ×Int)->Option Int):Env cxT:={ Kc:=dL [(23,c23 jX)],Kw:=dK [],lv:=λi=>if i=0 then[(0,[some 25]),(1,[]),(5,[])]else[],xv:=λi=>if i=0 then some [(1,[])]else none }
def S10_0 (a0:(List CZ))(a1:Int)(v0_1:Int)(v0_5:Int):St cxT.ty:={ slots:=[(.inl (.inl (ls { own:=0,nm:=0,e:=25,o:=false,xs:=a0 }))),(.inl (.inl (lv (.int .i64 v0_1)))),aI,aI,aI,(.inl (.inl (lv (.int .i64 v0_5))))]++List.replicate 21 aI,D:=[],F:=[],ctr:=1 }
def X10_0 (a0:(List CZ))(a1:Int)(w0_1:Int):St cxT.ty:={ slots:=[aI,(.inl (.inl (lv (.int .i64 w0_1))))]++List.replicate 25 aI,D:=[],F:=[],ctr:=1 }
theorem i10 (jX:(CZ×Int)->Option Int)(L:Nat)(a0:(List CZ))(a1:Int):dP prog (wA jX) (aW L) f10 (a10.enc (a0,a1))=
 bif (decide ((wrap Go.IntKind.i64 (a1-(Nat.cast (List.length a0):Int))) < (0:Int)))then some (n10 (-(1:Int)))
 else bR prog (wA jX) L f10 0 [1,1,1,0,1,0,0] (cA (aT prog f10) (bM prog (wA jX) L f10 [1,1,1,0,1] (aT prog f10)).n (bM prog (wA jX) L f10 [1,1,1,0,1] (aT prog f10)).x) L (S10_0 a0 a1 (wrap Go.IntKind.i64 (a1-(Nat.cast (List.length a0):Int))) (0:Int)):=by kernel_rfl
theorem aPb (jX:(CZ×Int)->Option Int)(L:Nat)(a0:(List CZ))(a1:Int)(k:St cxT.ty->Option (V cxT.ty))(xk:Nat->St cxT.ty->Option (V cxT.ty))(g:St cxT.ty->Option (V cxT.ty))(v0_1:Int)(v0_5:Int):dQ prog (wA jX) L f10 0 [1,1,1,0,1,0,0] (cA (aT prog f10) k xk) g (S10_0 a0 a1 v0_1 v0_5)=
 bif (decide (v0_5 < (Nat.cast (List.length a0):Int)))then bif ((decide ((0:Int)<=v0_5))&&(decide (v0_5 < (Nat.cast (List.length a0):Int))))then cK (jX (((List.getD a0 (Int.toNat v0_5) ((0:Int),([],[]))).1,((List.getD a0 (Int.toNat v0_5) ((0:Int),([],[]))).2.1,(List.getD a0 (Int.toNat v0_5) ((0:Int),([],[]))).2.2)),v0_1)) (0:Int) λ(q3:Int)=>bif (decide (q3 < (0:Int)))then some (n10 (-(1:Int)))
    else g (S10_0 a0 a1 q3 (wrap Go.IntKind.i64 (v0_5+(1:Int))))
  else none
 else k (X10_0 a0 a1 v0_1):=by kernel_rfl
theorem aNz (jX:(CZ×Int)->Option Int)(L:Nat)(a0:(List CZ))(a1:Int)(w0_1:Int):(bM prog (wA jX) L f10 [1,1,1,0,1] (aT prog f10)).n (X10_0 a0 a1 w0_1)=
 some (n10 w0_1):=by kernel_rfl
def yG (jX:(CZ×Int)->Option Int)(L:Nat)(a0:(List CZ))(a1:Int):Nat->Int->Int->(Int->Option Int)->Option Int
 | 0,_,_,_=>none
 | n+1,v0_1,v0_5,k=>
  bif (decide (v0_5 < (Nat.cast (List.length a0):Int)))then bif ((decide ((0:Int)<=v0_5))&&(decide (v0_5 < (Nat.cast (List.length a0):Int))))then cK (jX (((List.getD a0 (Int.toNat v0_5) ((0:Int),([],[]))).1,((List.getD a0 (Int.toNat v0_5) ((0:Int),([],[]))).2.1,(List.getD a0 (Int.toNat v0_5) ((0:Int),([],[]))).2.2)),v0_1)) (0:Int) λ(q4:Int)=>bif (decide (q4 < (0:Int)))then some (-(1:Int))
     else yG jX L a0 a1 n q4 (wrap Go.IntKind.i64 (v0_5+(1:Int))) k
   else none
  else k v0_1
theorem aJU (jX:(CZ×Int)->Option Int)(L:Nat)(a0:(List CZ))(a1:Int)(k:St cxT.ty->Option (V cxT.ty))(xk:Nat->St cxT.ty->Option (V cxT.ty))(k':Int->Option Int)(hk:∀ (w0_1:Int),k (X10_0 a0 a1 w0_1)=(k' w0_1).map n10):∀ (n:Nat) (v0_1:Int) (v0_5:Int),bR prog (wA jX) L f10 0 [1,1,1,0,1,0,0] (cA (aT prog f10) k xk) n (S10_0 a0 a1 v0_1 v0_5)=(yG jX L a0 a1 n v0_1 v0_5 k').map n10
 | 0,_,_=>rfl
 | n+1,v0_1,v0_5=>by
  rw[bS,aPb];have ih:=aJU jX L a0 a1 k xk k' hk n;simp only[yG,aP,aN,aO,aC,aE,ih,hk]
def g10 (jX:(CZ×Int)->Option Int)(L:Nat)(a0:(List CZ))(a1:Int):Option Int:=
 bif (decide ((wrap Go.IntKind.i64 (a1-(Nat.cast (List.length a0):Int))) < (0:Int)))then some (-(1:Int))
 else yG jX L a0 a1 L (wrap Go.IntKind.i64 (a1-(Nat.cast (List.length a0):Int))) (0:Int) (λ(w0_1:Int)=>some w0_1)
theorem e10 (jX:(CZ×Int)->Option Int)(L:Nat)(a0:(List CZ))(a1:Int):dP prog (wA jX) (aW L) f10 (a10.enc (a0,a1))=(g10 jX L a0 a1).map n10:=by
 let K'0:Int->Option Int:=(λ(w0_1:Int)=>some w0_1)
 have hin0:∀ (v0_1:Int) (v0_5:Int),bR prog (wA jX) L f10 0 [1,1,1,0,1,0,0] (cA (aT prog f10) (bM prog (wA jX) L f10 [1,1,1,0,1] (aT prog f10)).n (bM prog (wA jX) L f10 [1,1,1,0,1] (aT prog f10)).x) L (S10_0 a0 a1 v0_1 v0_5)=(yG jX L a0 a1 L v0_1 v0_5 K'0).map n10:=λv0_1 v0_5=>aJU jX L a0 a1 _ _ K'0 (λw0_1=>by rw[aNz];simp only[K'0,aP,aN,aO,aC,aE]) L v0_1 v0_5
 rw[i10];simp only[g10,aP,aN,aO,aC,aE,hin0,K'0]
theorem s10 (jX:(CZ×Int)->Option Int)(h23:Sat prog cxT 23 (c23 jX))(m:((List CZ)×Int)->Option Int)(hm:∀ (x:((List CZ)×Int)) t,m x=some t->∃ L,g10 jX L x.1 x.2=some t):Sat prog cxT 10 (c10 m):=
 cT bQ bH (by rfl) (fn:=f10) rfl a10 n10 aRq m (wA jX) (aY h23 bG) aZ (λL x=>g10 jX L x.1 x.2) (λL x=>e10 jX L x.1 x.2) hm aU1
def vZ (lP:CZ->Option CZ):Env cxT:={ Kc:=dL [(28,c28 lP)],Kw:=dK [],lv:=λi=>if i=0 then[(0,[some 25]),(3,[some 34]),(4,[])]else[],xv:=λi=>if i=0 then some [(3,[some 34])]else none }
def S13_0 (a0:(List CZ))(v0_3:(List CZ))(v0_4:Int):St cxT.ty:={ slots:=[(.inl (.inl (ls { own:=0,nm:=0,e:=25,o:=false,xs:=a0 }))),aI,aI,(.inl (.inl (ls { own:=1,nm:=192,e:=34,o:=true,xs:=v0_3 }))),(.inl (.inl (lv (.int .i64 v0_4))))]++List.replicate 18 aI,D:=[],F:=[],ctr:=1 }
def X13_0 (a0:(List CZ))(w0_3:(List CZ)):St cxT.ty:={ slots:=[aI,aI,aI,(.inl (.inl (ls { own:=1,nm:=192,e:=34,o:=true,xs:=w0_3 })))]++List.replicate 19 aI,D:=[],F:=[],ctr:=1 }
theorem i13 (lP:CZ->Option CZ)(L:Nat)(a0:(List CZ)):dP prog (vZ lP) (aW L) f13 (a13.enc a0)=
 bif (((decide ((0:Int)<=(Nat.cast (List.length a0):Int)))&&(decide ((Nat.cast (List.length a0):Int)<=(Nat.cast (List.length a0):Int))))&&(decide ((Nat.cast (List.length a0):Int)<=(1000000000:Int))))then bR prog (vZ lP) L f13 0 [1,1,0,1,0,0] (cA (aT prog f13) (bM prog (vZ lP) L f13 [1,1,0,1] (aT prog f13)).n (bM prog (vZ lP) L f13 [1,1,0,1] (aT prog f13)).x) L (S13_0 a0 (List.replicate (Int.toNat (Nat.cast (List.length a0):Int)) ((0:Int),([],[]))) (0:Int))
 else none:=by kernel_rfl
theorem aPa (lP:CZ->Option CZ)(L:Nat)(a0:(List CZ))(k:St cxT.ty->Option (V cxT.ty))(xk:Nat->St cxT.ty->Option (V cxT.ty))(g:St cxT.ty->Option (V cxT.ty))(v0_3:(List CZ))(v0_4:Int):dQ prog (vZ lP) L f13 0 [1,1,0,1,0,0] (cA (aT prog f13) k xk) g (S13_0 a0 v0_3 v0_4)=
 bif (decide (v0_4 < (Nat.cast (List.length a0):Int)))then bif ((decide ((0:Int)<=v0_4))&&(decide (v0_4 < (Nat.cast (List.length a0):Int))))then cK (lP ((List.getD a0 (Int.toNat v0_4) ((0:Int),([],[]))).1,((List.getD a0 (Int.toNat v0_4) ((0:Int),([],[]))).2.1,(List.getD a0 (Int.toNat v0_4) ((0:Int),([],[]))).2.2))) ((0:Int),[],[]) λ(q3:CZ)=>bif ((decide ((0:Int)<=v0_4))&&(decide (v0_4 < (Nat.cast (List.length v0_3):Int))))then g (S13_0 a0 (List.set v0_3 (Int.toNat v0_4) (q3.1,(q3.2.1,q3.2.2))) (wrap Go.IntKind.i64 (v0_4+(1:Int))))
    else none
  else none
 else k (X13_0 a0 v0_3):=by kernel_rfl
theorem aNy (lP:CZ->Option CZ)(L:Nat)(a0:(List CZ))(w0_3:(List CZ)):(bM prog (vZ lP) L f13 [1,1,0,1] (aT prog f13)).n (X13_0 a0 w0_3)=
 some (n13 w0_3):=by kernel_rfl
def yF (lP:CZ->Option CZ)(L:Nat)(a0:(List CZ)):Nat->(List CZ)->Int->((List CZ)->Option (List CZ))->Option (List CZ)
 | 0,_,_,_=>none
 | n+1,v0_3,v0_4,k=>
  bif (decide (v0_4 < (Nat.cast (List.length a0):Int)))then bif ((decide ((0:Int)<=v0_4))&&(decide (v0_4 < (Nat.cast (List.length a0):Int))))then cK (lP ((List.getD a0 (Int.toNat v0_4) ((0:Int),([],[]))).1,((List.getD a0 (Int.toNat v0_4) ((0:Int),([],[]))).2.1,(List.getD a0 (Int.toNat v0_4) ((0:Int),([],[]))).2.2))) ((0:Int),[],[]) λ(q4:CZ)=>bif ((decide ((0:Int)<=v0_4))&&(decide (v0_4 < (Nat.cast (List.length v0_3):Int))))then yF lP L a0 n (List.set v0_3 (Int.toNat v0_4) (q4.1,(q4.2.1,q4.2.2))) (wrap Go.IntKind.i64 (v0_4+(1:Int))) k
     else none
   else none
  else k v0_3
theorem aJT (lP:CZ->Option CZ)(L:Nat)(a0:(List CZ))(k:St cxT.ty->Option (V cxT.ty))(xk:Nat->St cxT.ty->Option (V cxT.ty))(k':(List CZ)->Option (List CZ))(hk:∀ (w0_3:(List CZ)),k (X13_0 a0 w0_3)=(k' w0_3).map n13):∀ (n:Nat) (v0_3:(List CZ)) (v0_4:Int),bR prog (vZ lP) L f13 0 [1,1,0,1,0,0] (cA (aT prog f13) k xk) n (S13_0 a0 v0_3 v0_4)=(yF lP L a0 n v0_3 v0_4 k').map n13
 | 0,_,_=>rfl
 | n+1,v0_3,v0_4=>by
  rw[bS,aPa];have ih:=aJT lP L a0 k xk k' hk n;simp only[yF,aP,aN,aO,aC,aE,ih,hk]
def g13 (lP:CZ->Option CZ)(L:Nat)(a0:(List CZ)):Option (List CZ):=
 bif (((decide ((0:Int)<=(Nat.cast (List.length a0):Int)))&&(decide ((Nat.cast (List.length a0):Int)<=(Nat.cast (List.length a0):Int))))&&(decide ((Nat.cast (List.length a0):Int)<=(1000000000:Int))))then yF lP L a0 L (List.replicate (Int.toNat (Nat.cast (List.length a0):Int)) ((0:Int),([],[]))) (0:Int) (λ(w0_3:(List CZ))=>some w0_3)
 else none
theorem e13 (lP:CZ->Option CZ)(L:Nat)(a0:(List CZ)):dP prog (vZ lP) (aW L) f13 (a13.enc a0)=(g13 lP L a0).map n13:=by
 let K'0:(List CZ)->Option (List CZ):=(λ(w0_3:(List CZ))=>some w0_3)
 have hin0:∀ (v0_3:(List CZ)) (v0_4:Int),bR prog (vZ lP) L f13 0 [1,1,0,1,0,0] (cA (aT prog f13) (bM prog (vZ lP) L f13 [1,1,0,1] (aT prog f13)).n (bM prog (vZ lP) L f13 [1,1,0,1] (aT prog f13)).x) L (S13_0 a0 v0_3 v0_4)=(yF lP L a0 L v0_3 v0_4 K'0).map n13:=λv0_3 v0_4=>aJT lP L a0 _ _ K'0 (λw0_3=>by rw[aNy];simp only[K'0,aP,aN,aO,aC,aE]) L v0_3 v0_4
 rw[i13];simp only[g13,aP,aN,aO,aC,aE,hin0,K'0]
theorem s13 (lP:CZ->Option CZ)(h28:Sat prog cxT 28 (c28 lP))(m:(List CZ)->Option (List CZ))(hm:∀ (x:(List CZ)) t,m x=some t->∃ L,g13 lP L x=some t):Sat prog cxT 13 (c13 m):=
 cT bQ bH (by rfl) (fn:=f13) rfl a13 n13 aRn m (vZ lP) (aY h28 bG) aZ (λL x=>g13 lP L x) (λL x=>e13 lP L x) hm aUY
def mD (fO:CZ->Option Int)(m27:DZ->Option Int):Env cxT:={ Kc:=dL [(25,c25 fO),(27,c27 m27)],Kw:=dK [],lv:=λi=>if i=0 then[(0,[some 34]),(1,[some 64]),(5,[])]else if i=2 then[(1,[some 64]),(7,[])]else[],xv:=λi=>if i=0 then some [(1,[some 64])]else if i=2 then some []else none }
def S33_0 (a0:(List CZ))(a1:(List DZ))(v0_5:Int):St cxT.ty:={ slots:=[(.inl (.inl (ls { own:=0,nm:=0,e:=34,o:=false,xs:=a0 }))),(.inl (.inl (ls { own:=0,nm:=0,e:=64,o:=false,xs:=a1 }))),aI,aI,aI,(.inl (.inl (lv (.int .i64 v0_5))))]++List.replicate 58 aI,D:=[],F:=[],ctr:=1 }
def X33_0 (a0:(List CZ))(a1:(List DZ)):St cxT.ty:={ slots:=[aI,(.inl (.inl (ls { own:=0,nm:=0,e:=64,o:=false,xs:=a1 })))]++List.replicate 62 aI,D:=[],F:=[],ctr:=1 }
def S33_2 (a0:(List CZ))(a1:(List DZ))(v2_7:Int):St cxT.ty:={ slots:=[aI,(.inl (.inl (ls { own:=0,nm:=0,e:=64,o:=false,xs:=a1 }))),aI,aI,aI,aI,aI,(.inl (.inl (lv (.int .i64 v2_7))))]++List.replicate 56 aI,D:=[],F:=[],ctr:=1 }
def X33_2 (a0:(List CZ))(a1:(List DZ)):St cxT.ty:={ slots:=[]++List.replicate 64 aI,D:=[],F:=[],ctr:=1 }
theorem i33 (fO:CZ->Option Int)(m27:DZ->Option Int)(L:Nat)(a0:(List CZ))(a1:(List DZ)):dP prog (mD fO m27) (aW L) f33 (a33.enc (a0,a1))=
 bif (decide ((Nat.cast (List.length a0):Int) < (1:Int)))then some (n33 (2:Int))
 else bif (decide ((Nat.cast (List.length a0):Int) > (60:Int)))then some (n33 (2:Int))
 else bif ((Nat.cast (List.length a1):Int) != (wrap Go.IntKind.i64 ((Nat.cast (List.length a0):Int)-(1:Int))))then some (n33 (2:Int))
 else bR prog (mD fO m27) L f33 0 [1,1,0,1,0,0] (cA (aT prog f33) (bM prog (mD fO m27) L f33 [1,1,0,1] (aT prog f33)).n (bM prog (mD fO m27) L f33 [1,1,0,1] (aT prog f33)).x) L (S33_0 a0 a1 (0:Int)):=by kernel_rfl
theorem aO2 (fO:CZ->Option Int)(m27:DZ->Option Int)(L:Nat)(a0:(List CZ))(a1:(List DZ))(k:St cxT.ty->Option (V cxT.ty))(xk:Nat->St cxT.ty->Option (V cxT.ty))(g:St cxT.ty->Option (V cxT.ty))(v0_5:Int):dQ prog (mD fO m27) L f33 0 [1,1,0,1,0,0] (cA (aT prog f33) k xk) g (S33_0 a0 a1 v0_5)=
 bif (decide (v0_5 < (Nat.cast (List.length a0):Int)))then bif ((decide ((0:Int)<=v0_5))&&(decide (v0_5 < (Nat.cast (List.length a0):Int))))then cK (fO (List.getD a0 (Int.toNat v0_5) ((0:Int),([],[])))) (0:Int) λ(q3:Int)=>bif (q3 != (0:Int))then some (n33 q3)
    else bif ((decide ((0:Int)<=v0_5))&&(decide (v0_5 < (Nat.cast (List.length a0):Int))))then bif ((decide ((0:Int)<=(0:Int)))&&(decide ((0:Int) < (Nat.cast (List.length a0):Int))))then bif ((List.getD a0 (Int.toNat v0_5) ((0:Int),([],[]))).1 != (wrap Go.IntKind.i64 ((List.getD a0 (0:Nat) ((0:Int),([],[]))).1+v0_5)))then some (n33 (1:Int))
      else g (S33_0 a0 a1 (wrap Go.IntKind.i64 (v0_5+(1:Int))))
     else none
    else none
  else none
 else k (X33_0 a0 a1):=by kernel_rfl
theorem aNq (fO:CZ->Option Int)(m27:DZ->Option Int)(L:Nat)(a0:(List CZ))(a1:(List DZ)):(bM prog (mD fO m27) L f33 [1,1,0,1] (aT prog f33)).n (X33_0 a0 a1)=
 bR prog (mD fO m27) L f33 2 [1,1,1,0,1,0,0] (cA (aT prog f33) (bM prog (mD fO m27) L f33 [1,1,1,0,1] (aT prog f33)).n (bM prog (mD fO m27) L f33 [1,1,1,0,1] (aT prog f33)).x) L (S33_2 a0 a1 (0:Int)):=by kernel_rfl
theorem aO1 (fO:CZ->Option Int)(m27:DZ->Option Int)(L:Nat)(a0:(List CZ))(a1:(List DZ))(k:St cxT.ty->Option (V cxT.ty))(xk:Nat->St cxT.ty->Option (V cxT.ty))(g:St cxT.ty->Option (V cxT.ty))(v2_7:Int):dQ prog (mD fO m27) L f33 2 [1,1,1,0,1,0,0] (cA (aT prog f33) k xk) g (S33_2 a0 a1 v2_7)=
 bif (decide (v2_7 < (Nat.cast (List.length a1):Int)))then bif ((decide ((0:Int)<=v2_7))&&(decide (v2_7 < (Nat.cast (List.length a1):Int))))then cK (m27 ((List.getD a1 (Int.toNat v2_7) ((0:Int),((0:Int),((0:Int),((0:Int),((0:Int),(0:Int))))))).1,((List.getD a1 (Int.toNat v2_7) ((0:Int),((0:Int),((0:Int),((0:Int),((0:Int),(0:Int))))))).2.1,((List.getD a1 (Int.toNat v2_7) ((0:Int),((0:Int),((0:Int),((0:Int),((0:Int),(0:Int))))))).2.2.1,((List.getD a1 (Int.toNat v2_7) ((0:Int),((0:Int),((0:Int),((0:Int),((0:Int),(0:Int))))))).2.2.2.1,((List.getD a1 (Int.toNat v2_7) ((0:Int),((0:Int),((0:Int),((0:Int),((0:Int),(0:Int))))))).2.2.2.2.1,(List.getD a1 (Int.toNat v2_7) ((0:Int),((0:Int),((0:Int),((0:Int),((0:Int),(0:Int))))))).2.2.2.2.2)))))) (0:Int) λ(q3:Int)=>bif (q3 != (0:Int))then some (n33 q3)
    else g (S33_2 a0 a1 (wrap Go.IntKind.i64 (v2_7+(1:Int))))
  else none
 else k (X33_2 a0 a1):=by kernel_rfl
theorem aNp (fO:CZ->Option Int)(m27:DZ->Option Int)(L:Nat)(a0:(List CZ))(a1:(List DZ)):(bM prog (mD fO m27) L f33 [1,1,1,0,1] (aT prog f33)).n (X33_2 a0 a1)=
 some (n33 (0:Int)):=by kernel_rfl
def uD (fO:CZ->Option Int)(m27:DZ->Option Int)(L:Nat)(a0:(List CZ))(a1:(List DZ)):Nat->Int->(Option Int)->Option Int
 | 0,_,_=>none
 | n+1,v2_7,k=>
  bif (decide (v2_7 < (Nat.cast (List.length a1):Int)))then bif ((decide ((0:Int)<=v2_7))&&(decide (v2_7 < (Nat.cast (List.length a1):Int))))then cK (m27 ((List.getD a1 (Int.toNat v2_7) ((0:Int),((0:Int),((0:Int),((0:Int),((0:Int),(0:Int))))))).1,((List.getD a1 (Int.toNat v2_7) ((0:Int),((0:Int),((0:Int),((0:Int),((0:Int),(0:Int))))))).2.1,((List.getD a1 (Int.toNat v2_7) ((0:Int),((0:Int),((0:Int),((0:Int),((0:Int),(0:Int))))))).2.2.1,((List.getD a1 (Int.toNat v2_7) ((0:Int),((0:Int),((0:Int),((0:Int),((0:Int),(0:Int))))))).2.2.2.1,((List.getD a1 (Int.toNat v2_7) ((0:Int),((0:Int),((0:Int),((0:Int),((0:Int),(0:Int))))))).2.2.2.2.1,(List.getD a1 (Int.toNat v2_7) ((0:Int),((0:Int),((0:Int),((0:Int),((0:Int),(0:Int))))))).2.2.2.2.2)))))) (0:Int) λ(q4:Int)=>bif (q4 != (0:Int))then some q4
     else uD fO m27 L a0 a1 n (wrap Go.IntKind.i64 (v2_7+(1:Int))) k
   else none
  else k
theorem aJK (fO:CZ->Option Int)(m27:DZ->Option Int)(L:Nat)(a0:(List CZ))(a1:(List DZ))(k:St cxT.ty->Option (V cxT.ty))(xk:Nat->St cxT.ty->Option (V cxT.ty))(k':Option Int)(hk:k (X33_2 a0 a1)=(k').map n33):∀ (n:Nat) (v2_7:Int),bR prog (mD fO m27) L f33 2 [1,1,1,0,1,0,0] (cA (aT prog f33) k xk) n (S33_2 a0 a1 v2_7)=(uD fO m27 L a0 a1 n v2_7 k').map n33
 | 0,_=>rfl
 | n+1,v2_7=>by
  rw[bS,aO1];have ih:=aJK fO m27 L a0 a1 k xk k' hk n;simp only[uD,aP,aN,aO,aC,aE,ih,hk]
def yA (fO:CZ->Option Int)(m27:DZ->Option Int)(L:Nat)(a0:(List CZ))(a1:(List DZ)):Nat->Int->(Option Int)->Option Int
 | 0,_,_=>none
 | n+1,v0_5,k=>
  bif (decide (v0_5 < (Nat.cast (List.length a0):Int)))then bif ((decide ((0:Int)<=v0_5))&&(decide (v0_5 < (Nat.cast (List.length a0):Int))))then cK (fO (List.getD a0 (Int.toNat v0_5) ((0:Int),([],[])))) (0:Int) λ(q4:Int)=>bif (q4 != (0:Int))then some q4
     else bif ((decide ((0:Int)<=v0_5))&&(decide (v0_5 < (Nat.cast (List.length a0):Int))))then bif ((decide ((0:Int)<=(0:Int)))&&(decide ((0:Int) < (Nat.cast (List.length a0):Int))))then bif ((List.getD a0 (Int.toNat v0_5) ((0:Int),([],[]))).1 != (wrap Go.IntKind.i64 ((List.getD a0 (0:Nat) ((0:Int),([],[]))).1+v0_5)))then some (1:Int)
       else yA fO m27 L a0 a1 n (wrap Go.IntKind.i64 (v0_5+(1:Int))) k
      else none
     else none
   else none
  else k
theorem aJL (fO:CZ->Option Int)(m27:DZ->Option Int)(L:Nat)(a0:(List CZ))(a1:(List DZ))(k:St cxT.ty->Option (V cxT.ty))(xk:Nat->St cxT.ty->Option (V cxT.ty))(k':Option Int)(hk:k (X33_0 a0 a1)=(k').map n33):∀ (n:Nat) (v0_5:Int),bR prog (mD fO m27) L f33 0 [1,1,0,1,0,0] (cA (aT prog f33) k xk) n (S33_0 a0 a1 v0_5)=(yA fO m27 L a0 a1 n v0_5 k').map n33
 | 0,_=>rfl
 | n+1,v0_5=>by
  rw[bS,aO2];have ih:=aJL fO m27 L a0 a1 k xk k' hk n;simp only[yA,aP,aN,aO,aC,aE,ih,hk]
def g33 (fO:CZ->Option Int)(m27:DZ->Option Int)(L:Nat)(a0:(List CZ))(a1:(List DZ)):Option Int:=
 bif (decide ((Nat.cast (List.length a0):Int) < (1:Int)))then some (2:Int)
 else bif (decide ((Nat.cast (List.length a0):Int) > (60:Int)))then some (2:Int)
 else bif ((Nat.cast (List.length a1):Int) != (wrap Go.IntKind.i64 ((Nat.cast (List.length a0):Int)-(1:Int))))then some (2:Int)
 else yA fO m27 L a0 a1 L (0:Int) (uD fO m27 L a0 a1 L (0:Int) (some (0:Int)))
theorem e33 (fO:CZ->Option Int)(m27:DZ->Option Int)(L:Nat)(a0:(List CZ))(a1:(List DZ)):dP prog (mD fO m27) (aW L) f33 (a33.enc (a0,a1))=(g33 fO m27 L a0 a1).map n33:=by
 let K'2:Option Int:=(some (0:Int))
 have hin2:∀ (v2_7:Int),bR prog (mD fO m27) L f33 2 [1,1,1,0,1,0,0] (cA (aT prog f33) (bM prog (mD fO m27) L f33 [1,1,1,0,1] (aT prog f33)).n (bM prog (mD fO m27) L f33 [1,1,1,0,1] (aT prog f33)).x) L (S33_2 a0 a1 v2_7)=(uD fO m27 L a0 a1 L v2_7 K'2).map n33:=λv2_7=>aJK fO m27 L a0 a1 _ _ K'2 (by rw[aNp];simp only[K'2,aP,aN,aO,aC,aE]) L v2_7
 let K'0:Option Int:=(uD fO m27 L a0 a1 L (0:Int) (some (0:Int)))
 have hin0:∀ (v0_5:Int),bR prog (mD fO m27) L f33 0 [1,1,0,1,0,0] (cA (aT prog f33) (bM prog (mD fO m27) L f33 [1,1,0,1] (aT prog f33)).n (bM prog (mD fO m27) L f33 [1,1,0,1] (aT prog f33)).x) L (S33_0 a0 a1 v0_5)=(yA fO m27 L a0 a1 L v0_5 K'0).map n33:=λv0_5=>aJL fO m27 L a0 a1 _ _ K'0 (by rw[aNq];simp only[K'0,aP,aN,aO,aC,aE,hin2,K'2]) L v0_5
 rw[i33];simp only[g33,aP,aN,aO,aC,aE,hin2,K'2,hin0,K'0]
theorem s33 (fO:CZ->Option Int)(m27:DZ->Option Int)(h25:Sat prog cxT 25 (c25 fO))(h27:Sat prog cxT 27 (c27 m27))(m:((List CZ)×(List DZ))->Option Int)(hm:∀ (x:((List CZ)×(List DZ))) t,m x=some t->∃ L,g33 fO m27 L x.1 x.2=some t):Sat prog cxT 33 (c33 m):=
 cT bQ bH (by rfl) (fn:=f33) rfl a33 n33 aQ7 m (mD fO m27) (aY h25 (aY h27 bG)) aZ (λL x=>g33 fO m27 L x.1 x.2) (λL x=>e33 fO m27 L x.1 x.2) hm aUI
def aLz:Env cxT:={ Kc:=dL [],Kw:=dK [],lv:=λi=>[],xv:=λi=>none }
theorem i35 (L:Nat)(a0:Int)(a1:Int):dP prog aLz (aW L) f35 (a35.enc (a0,a1))=
 bif (decide (a0 > a1))then some (n35 a0)
 else some (n35 a1):=by kernel_rfl
def g35 (L:Nat)(a0:Int)(a1:Int):Option Int:=
 bif (decide (a0 > a1))then some a0
 else some a1
theorem e35 (L:Nat)(a0:Int)(a1:Int):dP prog aLz (aW L) f35 (a35.enc (a0,a1))=(g35 L a0 a1).map n35:=by
 rw[i35];simp only[g35,aP,aN,aO,aC,aE]
theorem s35 (m:(Int×Int)->Option Int)(hm:∀ (x:(Int×Int)) t,m x=some t->∃ L,g35 L x.1 x.2=some t):Sat prog cxT 35 (c35 m):=
 cT bQ bH (by rfl) (fn:=f35) rfl a35 n35 aQ5 m aLz bG aZ (λL x=>g35 L x.1 x.2) (λL x=>e35 L x.1 x.2) hm aUG
def aLK (m33:((List CZ)×(List DZ))->Option Int)(m35:(Int×Int)->Option Int)(m34:(Int×Int×Int)->Option Bool)(m36:CZ->Option CZ):Env cxT:={ Kc:=dL [(33,c33 m33),(35,c35 m35),(34,c34 m34),(36,c36 m36)],Kw:=dK [],lv:=λi=>[],xv:=λi=>none }
theorem i12 (m33:((List CZ)×(List DZ))->Option Int)(m35:(Int×Int)->Option Int)(m34:(Int×Int×Int)->Option Bool)(m36:CZ->Option CZ)(L:Nat)(a0:(List CZ))(a1:(List DZ))(a2:Int):dP prog (aLK m33 m35 m34 m36) (aW L) f12 (a12.enc (a0,a1,a2))=
 cK (m33 (a0,a1)) (0:Int) λ(q1:Int)=>bif (q1 != (0:Int))then some (n12 (q1,(0:Int),(0:Int),Bool.false,(0:Int),[],[],[]))
  else bif (decide (a2 < (0:Int)))then some (n12 ((3:Int),(0:Int),(0:Int),Bool.false,(0:Int),[],[],[]))
  else bif ((decide ((0:Int)<=(wrap Go.IntKind.i64 ((Nat.cast (List.length a0):Int)-(1:Int)))))&&(decide ((wrap Go.IntKind.i64 ((Nat.cast (List.length a0):Int)-(1:Int))) < (Nat.cast (List.length a0):Int))))then bif ((decide ((0:Int)<=(0:Int)))&&(decide ((0:Int) < (Nat.cast (List.length a0):Int))))then cK (m35 ((List.getD a0 (0:Nat) ((0:Int),([],[]))).1,(wrap Go.IntKind.i64 ((List.getD a0 (Int.toNat (wrap Go.IntKind.i64 ((Nat.cast (List.length a0):Int)-(1:Int)))) ((0:Int),([],[]))).1-(4:Int))))) (0:Int) λ(q4:Int)=>cK (m34 (a2,(q4,(wrap Go.IntKind.i64 ((List.getD a0 (Int.toNat (wrap Go.IntKind.i64 ((Nat.cast (List.length a0):Int)-(1:Int)))) ((0:Int),([],[]))).1-(1:Int)))))) false λ(q5:Bool)=>bif q5 then bif ((decide ((0:Int)<=(0:Int)))&&(decide ((0:Int) < (Nat.cast (List.length a0):Int))))then bif (((decide ((0:Int)<=(wrap Go.IntKind.i64 (a2-(List.getD a0 (0:Nat) ((0:Int),([],[]))).1))))&&(decide ((wrap Go.IntKind.i64 (a2-(List.getD a0 (0:Nat) ((0:Int),([],[]))).1))<=(Nat.cast (List.length a1):Int))))&&(decide ((Nat.cast (List.length a1):Int)<=(Nat.cast (List.length a1):Int))))then bif (decide (((List.length ([]:List DZ))+(List.length (List.drop (Int.toNat (wrap Go.IntKind.i64 (a2-(List.getD a0 (0:Nat) ((0:Int),([],[]))).1))) (List.take (Int.toNat (Nat.cast (List.length a1):Int)) a1))))<=(1000000000:Nat)))then some (n12 ((0:Int),a2,(List.getD a0 (Int.toNat (wrap Go.IntKind.i64 ((Nat.cast (List.length a0):Int)-(1:Int)))) ((0:Int),([],[]))).1,Bool.false,(0:Int),[],[],([]++(List.drop (Int.toNat (wrap Go.IntKind.i64 (a2-(List.getD a0 (0:Nat) ((0:Int),([],[]))).1))) (List.take (Int.toNat (Nat.cast (List.length a1):Int)) a1)))))
         else none
        else none
       else none
      else cK (m36 ((List.getD a0 (Int.toNat (wrap Go.IntKind.i64 ((Nat.cast (List.length a0):Int)-(1:Int)))) ((0:Int),([],[]))).1,((List.getD a0 (Int.toNat (wrap Go.IntKind.i64 ((Nat.cast (List.length a0):Int)-(1:Int)))) ((0:Int),([],[]))).2.1,(List.getD a0 (Int.toNat (wrap Go.IntKind.i64 ((Nat.cast (List.length a0):Int)-(1:Int)))) ((0:Int),([],[]))).2.2))) ((0:Int),[],[]) λ(q6:CZ)=>some (n12 ((0:Int),(0:Int),(List.getD a0 (Int.toNat (wrap Go.IntKind.i64 ((Nat.cast (List.length a0):Int)-(1:Int)))) ((0:Int),([],[]))).1,Bool.true,q6.1,q6.2.1,q6.2.2,[]))
   else none
  else none:=by kernel_rfl
def g12 (m33:((List CZ)×(List DZ))->Option Int)(m35:(Int×Int)->Option Int)(m34:(Int×Int×Int)->Option Bool)(m36:CZ->Option CZ)(L:Nat)(a0:(List CZ))(a1:(List DZ))(a2:Int):Option (Int×Int×Int×Bool×Int×(List Bk)×(List Vp)×(List DZ)):=
 cK (m33 (a0,a1)) (0:Int) λ(q1:Int)=>bif (q1 != (0:Int))then some (q1,(0:Int),(0:Int),Bool.false,(0:Int),[],[],[])
  else bif (decide (a2 < (0:Int)))then some ((3:Int),(0:Int),(0:Int),Bool.false,(0:Int),[],[],[])
  else bif ((decide ((0:Int)<=(wrap Go.IntKind.i64 ((Nat.cast (List.length a0):Int)-(1:Int)))))&&(decide ((wrap Go.IntKind.i64 ((Nat.cast (List.length a0):Int)-(1:Int))) < (Nat.cast (List.length a0):Int))))then bif ((decide ((0:Int)<=(0:Int)))&&(decide ((0:Int) < (Nat.cast (List.length a0):Int))))then cK (m35 ((List.getD a0 (0:Nat) ((0:Int),([],[]))).1,(wrap Go.IntKind.i64 ((List.getD a0 (Int.toNat (wrap Go.IntKind.i64 ((Nat.cast (List.length a0):Int)-(1:Int)))) ((0:Int),([],[]))).1-(4:Int))))) (0:Int) λ(q4:Int)=>cK (m34 (a2,(q4,(wrap Go.IntKind.i64 ((List.getD a0 (Int.toNat (wrap Go.IntKind.i64 ((Nat.cast (List.length a0):Int)-(1:Int)))) ((0:Int),([],[]))).1-(1:Int)))))) false λ(q5:Bool)=>bif q5 then bif ((decide ((0:Int)<=(0:Int)))&&(decide ((0:Int) < (Nat.cast (List.length a0):Int))))then bif (((decide ((0:Int)<=(wrap Go.IntKind.i64 (a2-(List.getD a0 (0:Nat) ((0:Int),([],[]))).1))))&&(decide ((wrap Go.IntKind.i64 (a2-(List.getD a0 (0:Nat) ((0:Int),([],[]))).1))<=(Nat.cast (List.length a1):Int))))&&(decide ((Nat.cast (List.length a1):Int)<=(Nat.cast (List.length a1):Int))))then bif (decide (((List.length ([]:List DZ))+(List.length (List.drop (Int.toNat (wrap Go.IntKind.i64 (a2-(List.getD a0 (0:Nat) ((0:Int),([],[]))).1))) (List.take (Int.toNat (Nat.cast (List.length a1):Int)) a1))))<=(1000000000:Nat)))then some ((0:Int),a2,(List.getD a0 (Int.toNat (wrap Go.IntKind.i64 ((Nat.cast (List.length a0):Int)-(1:Int)))) ((0:Int),([],[]))).1,Bool.false,(0:Int),[],[],([]++(List.drop (Int.toNat (wrap Go.IntKind.i64 (a2-(List.getD a0 (0:Nat) ((0:Int),([],[]))).1))) (List.take (Int.toNat (Nat.cast (List.length a1):Int)) a1))))
         else none
        else none
       else none
      else cK (m36 ((List.getD a0 (Int.toNat (wrap Go.IntKind.i64 ((Nat.cast (List.length a0):Int)-(1:Int)))) ((0:Int),([],[]))).1,((List.getD a0 (Int.toNat (wrap Go.IntKind.i64 ((Nat.cast (List.length a0):Int)-(1:Int)))) ((0:Int),([],[]))).2.1,(List.getD a0 (Int.toNat (wrap Go.IntKind.i64 ((Nat.cast (List.length a0):Int)-(1:Int)))) ((0:Int),([],[]))).2.2))) ((0:Int),[],[]) λ(q6:CZ)=>some ((0:Int),(0:Int),(List.getD a0 (Int.toNat (wrap Go.IntKind.i64 ((Nat.cast (List.length a0):Int)-(1:Int)))) ((0:Int),([],[]))).1,Bool.true,q6.1,q6.2.1,q6.2.2,[])
   else none
  else none
theorem e12 (m33:((List CZ)×(List DZ))->Option Int)(m35:(Int×Int)->Option Int)(m34:(Int×Int×Int)->Option Bool)(m36:CZ->Option CZ)(L:Nat)(a0:(List CZ))(a1:(List DZ))(a2:Int):dP prog (aLK m33 m35 m34 m36) (aW L) f12 (a12.enc (a0,a1,a2))=(g12 m33 m35 m34 m36 L a0 a1 a2).map n12:=by
 rw[i12];simp only[g12,aP,aN,aO,aC,aE]
theorem s12 (m33:((List CZ)×(List DZ))->Option Int)(m35:(Int×Int)->Option Int)(m34:(Int×Int×Int)->Option Bool)(m36:CZ->Option CZ)(h33:Sat prog cxT 33 (c33 m33))(h35:Sat prog cxT 35 (c35 m35))(h34:Sat prog cxT 34 (c34 m34))(h36:Sat prog cxT 36 (c36 m36))(m:((List CZ)×(List DZ)×Int)->Option (Int×Int×Int×Bool×Int×(List Bk)×(List Vp)×(List DZ)))(hm:∀ (x:((List CZ)×(List DZ)×Int)) t,m x=some t->∃ L,g12 m33 m35 m34 m36 L x.1 x.2.1 x.2.2=some t):Sat prog cxT 12 (c12 m):=
 cT bQ bH (by rfl) (fn:=f12) rfl a12 n12 aRo m (aLK m33 m35 m34 m36) (aY h33 (aY h35 (aY h34 (aY h36 bG)))) aZ (λL x=>g12 m33 m35 m34 m36 L x.1 x.2.1 x.2.2) (λL x=>e12 m33 m35 m34 m36 L x.1 x.2.1 x.2.2) hm aUZ
def vR:Env cxT:={ Kc:=dL [],Kw:=dK [],lv:=λi=>if i=0 then[(1,[none,some 83,some 96]),(2,[none,some 83,some 96]),(3,[none,some 83,some 96]),(4,[])]else[],xv:=λi=>if i=0 then some [(2,[none,some 83,some 96]),(3,[none,some 83,some 96])]else none }
def S36_0 (a0_0:Int)(a0_1:(List Bk))(a0_2:(List Vp))(v0_1_0:Int)(v0_1_1:(List Bk))(v0_1_2:(List Vp))(v0_2_0:Int)(v0_2_1:(List Bk))(v0_2_2:(List Vp))(v0_3_0:Int)(v0_3_1:(List Bk))(v0_3_2:(List Vp))(v0_4:Int):St cxT.ty:={ slots:=[aI,(.inr (.inr { kind:=0,nm:=64,cells:=[(lv (.int .i64 v0_1_0)),(ls { own:=0,nm:=0,e:=83,o:=false,xs:=v0_1_1 }),(ls { own:=0,nm:=0,e:=96,o:=false,xs:=v0_1_2 })],s:={ own:=0,nm:=0,e:=0,o:=false,xs:=([]:List (PUnit)) },i:=0,off:=0 })),(.inr (.inr { kind:=0,nm:=128,cells:=[(lv (.int .i64 v0_2_0)),(ls { own:=1,nm:=130,e:=83,o:=true,xs:=v0_2_1 }),(ls { own:=1,nm:=131,e:=96,o:=true,xs:=v0_2_2 })],s:={ own:=0,nm:=0,e:=0,o:=false,xs:=([]:List (PUnit)) },i:=0,off:=0 })),(.inr (.inr { kind:=0,nm:=192,cells:=[(lv (.int .i64 v0_3_0)),(ls { own:=1,nm:=194,e:=83,o:=true,xs:=v0_3_1 }),(ls { own:=1,nm:=195,e:=96,o:=true,xs:=v0_3_2 })],s:={ own:=0,nm:=0,e:=0,o:=false,xs:=([]:List (PUnit)) },i:=0,off:=0 })),(.inl (.inl (lv (.int .i64 v0_4))))]++List.replicate 32 aI,D:=[],F:=[],ctr:=1 }
def X36_0 (a0_0:Int)(a0_1:(List Bk))(a0_2:(List Vp))(w0_2_0:Int)(w0_2_1:(List Bk))(w0_2_2:(List Vp))(w0_3_0:Int)(w0_3_1:(List Bk))(w0_3_2:(List Vp)):St cxT.ty:={ slots:=[aI,aI,(.inr (.inr { kind:=0,nm:=128,cells:=[(lv (.int .i64 w0_2_0)),(ls { own:=1,nm:=130,e:=83,o:=true,xs:=w0_2_1 }),(ls { own:=1,nm:=131,e:=96,o:=true,xs:=w0_2_2 })],s:={ own:=0,nm:=0,e:=0,o:=false,xs:=([]:List (PUnit)) },i:=0,off:=0 })),(.inr (.inr { kind:=0,nm:=192,cells:=[(lv (.int .i64 w0_3_0)),(ls { own:=1,nm:=194,e:=83,o:=true,xs:=w0_3_1 }),(ls { own:=1,nm:=195,e:=96,o:=true,xs:=w0_3_2 })],s:={ own:=0,nm:=0,e:=0,o:=false,xs:=([]:List (PUnit)) },i:=0,off:=0 }))]++List.replicate 33 aI,D:=[],F:=[],ctr:=1 }
theorem i36 (L:Nat)(a0_0:Int)(a0_1:(List Bk))(a0_2:(List Vp)):dP prog vR (aW L) f36 (a36.enc (a0_0,a0_1,a0_2))=
 bif (decide (((List.length ([]:List Bk))+(List.length a0_1))<=(1000000000:Nat)))then bR prog vR L f36 0 [1,1,0,1,0,0] (cA (aT prog f36) (bM prog vR L f36 [1,1,0,1] (aT prog f36)).n (bM prog vR L f36 [1,1,0,1] (aT prog f36)).x) L (S36_0 a0_0 a0_1 a0_2 a0_0 a0_1 a0_2 (0:Int) [] [] a0_0 ([]++a0_1) [] (0:Int))
 else none:=by kernel_rfl
theorem aO0 (L:Nat)(a0_0:Int)(a0_1:(List Bk))(a0_2:(List Vp))(k:St cxT.ty->Option (V cxT.ty))(xk:Nat->St cxT.ty->Option (V cxT.ty))(g:St cxT.ty->Option (V cxT.ty))(v0_1_0:Int)(v0_1_1:(List Bk))(v0_1_2:(List Vp))(v0_2_0:Int)(v0_2_1:(List Bk))(v0_2_2:(List Vp))(v0_3_0:Int)(v0_3_1:(List Bk))(v0_3_2:(List Vp))(v0_4:Int):dQ prog vR L f36 0 [1,1,0,1,0,0] (cA (aT prog f36) k xk) g (S36_0 a0_0 a0_1 a0_2 v0_1_0 v0_1_1 v0_1_2 v0_2_0 v0_2_1 v0_2_2 v0_3_0 v0_3_1 v0_3_2 v0_4)=
 bif (decide (v0_4 < (Nat.cast (List.length v0_1_2):Int)))then bif ((decide ((0:Int)<=v0_4))&&(decide (v0_4 < (Nat.cast (List.length v0_1_2):Int))))then bif (decide (((List.length ([]:List (Int)))+(List.length (List.getD v0_1_2 (Int.toNat v0_4) ((0:Int),((0:Int),((0:Int),([]:List (Int)))))).2.2.2))<=(1000000000:Nat)))then bif (decide (((List.length v0_3_2)+(List.length (List.cons ((List.getD v0_1_2 (Int.toNat v0_4) ((0:Int),((0:Int),((0:Int),([]:List (Int)))))).1,((List.getD v0_1_2 (Int.toNat v0_4) ((0:Int),((0:Int),((0:Int),([]:List (Int)))))).2.1,((List.getD v0_1_2 (Int.toNat v0_4) ((0:Int),((0:Int),((0:Int),([]:List (Int)))))).2.2.1,(([]:List (Int))++(List.getD v0_1_2 (Int.toNat v0_4) ((0:Int),((0:Int),((0:Int),([]:List (Int)))))).2.2.2)))) [])))<=(1000000000:Nat)))then g (S36_0 a0_0 a0_1 a0_2 v0_1_0 v0_1_1 v0_1_2 v0_2_0 v0_2_1 v0_2_2 v0_3_0 v0_3_1 (v0_3_2++(List.cons ((List.getD v0_1_2 (Int.toNat v0_4) ((0:Int),((0:Int),((0:Int),([]:List (Int)))))).1,((List.getD v0_1_2 (Int.toNat v0_4) ((0:Int),((0:Int),((0:Int),([]:List (Int)))))).2.1,((List.getD v0_1_2 (Int.toNat v0_4) ((0:Int),((0:Int),((0:Int),([]:List (Int)))))).2.2.1,(([]:List (Int))++(List.getD v0_1_2 (Int.toNat v0_4) ((0:Int),((0:Int),((0:Int),([]:List (Int)))))).2.2.2)))) [])) (wrap Go.IntKind.i64 (v0_4+(1:Int))))
    else none
   else none
  else none
 else k (X36_0 a0_0 a0_1 a0_2 v0_2_0 v0_2_1 v0_2_2 v0_3_0 v0_3_1 v0_3_2):=by kernel_rfl
theorem aNo (L:Nat)(a0_0:Int)(a0_1:(List Bk))(a0_2:(List Vp))(w0_2_0:Int)(w0_2_1:(List Bk))(w0_2_2:(List Vp))(w0_3_0:Int)(w0_3_1:(List Bk))(w0_3_2:(List Vp)):(bM prog vR L f36 [1,1,0,1] (aT prog f36)).n (X36_0 a0_0 a0_1 a0_2 w0_2_0 w0_2_1 w0_2_2 w0_3_0 w0_3_1 w0_3_2)=
 some (n36 (w0_3_0,w0_3_1,w0_3_2)):=by kernel_rfl
def xZ (L:Nat)(a0_0:Int)(a0_1:(List Bk))(a0_2:(List Vp)):Nat->Int->(List Bk)->(List Vp)->Int->(List Bk)->(List Vp)->Int->(List Bk)->(List Vp)->Int->(Int->(List Bk)->(List Vp)->Int->(List Bk)->(List Vp)->Option CZ)->Option CZ
 | 0,_,_,_,_,_,_,_,_,_,_,_=>none
 | n+1,v0_1_0,v0_1_1,v0_1_2,v0_2_0,v0_2_1,v0_2_2,v0_3_0,v0_3_1,v0_3_2,v0_4,k=>
  bif (decide (v0_4 < (Nat.cast (List.length v0_1_2):Int)))then bif ((decide ((0:Int)<=v0_4))&&(decide (v0_4 < (Nat.cast (List.length v0_1_2):Int))))then bif (decide (((List.length ([]:List (Int)))+(List.length (List.getD v0_1_2 (Int.toNat v0_4) ((0:Int),((0:Int),((0:Int),([]:List (Int)))))).2.2.2))<=(1000000000:Nat)))then bif (decide (((List.length v0_3_2)+(List.length (List.cons ((List.getD v0_1_2 (Int.toNat v0_4) ((0:Int),((0:Int),((0:Int),([]:List (Int)))))).1,((List.getD v0_1_2 (Int.toNat v0_4) ((0:Int),((0:Int),((0:Int),([]:List (Int)))))).2.1,((List.getD v0_1_2 (Int.toNat v0_4) ((0:Int),((0:Int),((0:Int),([]:List (Int)))))).2.2.1,(([]:List (Int))++(List.getD v0_1_2 (Int.toNat v0_4) ((0:Int),((0:Int),((0:Int),([]:List (Int)))))).2.2.2)))) [])))<=(1000000000:Nat)))then xZ L a0_0 a0_1 a0_2 n v0_1_0 v0_1_1 v0_1_2 v0_2_0 v0_2_1 v0_2_2 v0_3_0 v0_3_1 (v0_3_2++(List.cons ((List.getD v0_1_2 (Int.toNat v0_4) ((0:Int),((0:Int),((0:Int),([]:List (Int)))))).1,((List.getD v0_1_2 (Int.toNat v0_4) ((0:Int),((0:Int),((0:Int),([]:List (Int)))))).2.1,((List.getD v0_1_2 (Int.toNat v0_4) ((0:Int),((0:Int),((0:Int),([]:List (Int)))))).2.2.1,(([]:List (Int))++(List.getD v0_1_2 (Int.toNat v0_4) ((0:Int),((0:Int),((0:Int),([]:List (Int)))))).2.2.2)))) [])) (wrap Go.IntKind.i64 (v0_4+(1:Int))) k
     else none
    else none
   else none
  else k v0_2_0 v0_2_1 v0_2_2 v0_3_0 v0_3_1 v0_3_2
theorem aJJ (L:Nat)(a0_0:Int)(a0_1:(List Bk))(a0_2:(List Vp))(k:St cxT.ty->Option (V cxT.ty))(xk:Nat->St cxT.ty->Option (V cxT.ty))(k':Int->(List Bk)->(List Vp)->Int->(List Bk)->(List Vp)->Option CZ)(hk:∀ (w0_2_0:Int) (w0_2_1:(List Bk)) (w0_2_2:(List Vp)) (w0_3_0:Int) (w0_3_1:(List Bk)) (w0_3_2:(List Vp)),k (X36_0 a0_0 a0_1 a0_2 w0_2_0 w0_2_1 w0_2_2 w0_3_0 w0_3_1 w0_3_2)=(k' w0_2_0 w0_2_1 w0_2_2 w0_3_0 w0_3_1 w0_3_2).map n36):∀ (n:Nat) (v0_1_0:Int) (v0_1_1:(List Bk)) (v0_1_2:(List Vp)) (v0_2_0:Int) (v0_2_1:(List Bk)) (v0_2_2:(List Vp)) (v0_3_0:Int) (v0_3_1:(List Bk)) (v0_3_2:(List Vp)) (v0_4:Int),bR prog vR L f36 0 [1,1,0,1,0,0] (cA (aT prog f36) k xk) n (S36_0 a0_0 a0_1 a0_2 v0_1_0 v0_1_1 v0_1_2 v0_2_0 v0_2_1 v0_2_2 v0_3_0 v0_3_1 v0_3_2 v0_4)=(xZ L a0_0 a0_1 a0_2 n v0_1_0 v0_1_1 v0_1_2 v0_2_0 v0_2_1 v0_2_2 v0_3_0 v0_3_1 v0_3_2 v0_4 k').map n36
 | 0,_,_,_,_,_,_,_,_,_,_=>rfl
 | n+1,v0_1_0,v0_1_1,v0_1_2,v0_2_0,v0_2_1,v0_2_2,v0_3_0,v0_3_1,v0_3_2,v0_4=>by
  rw[bS,aO0];have ih:=aJJ L a0_0 a0_1 a0_2 k xk k' hk n;simp only[xZ,aP,aN,aO,aC,aE,ih,hk]
def g36 (L:Nat)(a0_0:Int)(a0_1:(List Bk))(a0_2:(List Vp)):Option CZ:=
 bif (decide (((List.length ([]:List Bk))+(List.length a0_1))<=(1000000000:Nat)))then xZ L a0_0 a0_1 a0_2 L a0_0 a0_1 a0_2 (0:Int) [] [] a0_0 ([]++a0_1) [] (0:Int) (λ(w0_2_0:Int) (w0_2_1:(List Bk)) (w0_2_2:(List Vp)) (w0_3_0:Int) (w0_3_1:(List Bk)) (w0_3_2:(List Vp))=>some (w0_3_0,w0_3_1,w0_3_2))
 else none
theorem e36 (L:Nat)(a0_0:Int)(a0_1:(List Bk))(a0_2:(List Vp)):dP prog vR (aW L) f36 (a36.enc (a0_0,a0_1,a0_2))=(g36 L a0_0 a0_1 a0_2).map n36:=by
 let K'0:Int->(List Bk)->(List Vp)->Int->(List Bk)->(List Vp)->Option CZ:=(λ(w0_2_0:Int) (w0_2_1:(List Bk)) (w0_2_2:(List Vp)) (w0_3_0:Int) (w0_3_1:(List Bk)) (w0_3_2:(List Vp))=>some (w0_3_0,w0_3_1,w0_3_2))
 have hin0:∀ (v0_1_0:Int) (v0_1_1:(List Bk)) (v0_1_2:(List Vp)) (v0_2_0:Int) (v0_2_1:(List Bk)) (v0_2_2:(List Vp)) (v0_3_0:Int) (v0_3_1:(List Bk)) (v0_3_2:(List Vp)) (v0_4:Int),bR prog vR L f36 0 [1,1,0,1,0,0] (cA (aT prog f36) (bM prog vR L f36 [1,1,0,1] (aT prog f36)).n (bM prog vR L f36 [1,1,0,1] (aT prog f36)).x) L (S36_0 a0_0 a0_1 a0_2 v0_1_0 v0_1_1 v0_1_2 v0_2_0 v0_2_1 v0_2_2 v0_3_0 v0_3_1 v0_3_2 v0_4)=(xZ L a0_0 a0_1 a0_2 L v0_1_0 v0_1_1 v0_1_2 v0_2_0 v0_2_1 v0_2_2 v0_3_0 v0_3_1 v0_3_2 v0_4 K'0).map n36:=λv0_1_0 v0_1_1 v0_1_2 v0_2_0 v0_2_1 v0_2_2 v0_3_0 v0_3_1 v0_3_2 v0_4=>aJJ L a0_0 a0_1 a0_2 _ _ K'0 (λw0_2_0 w0_2_1 w0_2_2 w0_3_0 w0_3_1 w0_3_2=>by rw[aNo];simp only[K'0,aP,aN,aO,aC,aE]) L v0_1_0 v0_1_1 v0_1_2 v0_2_0 v0_2_1 v0_2_2 v0_3_0 v0_3_1 v0_3_2 v0_4
 rw[i36];simp only[g36,aP,aN,aO,aC,aE,hin0,K'0]
theorem s36 (m:CZ->Option CZ)(hm:∀ (x:CZ) t,m x=some t->∃ L,g36 L x.1 x.2.1 x.2.2=some t):Sat prog cxT 36 (c36 m):=
 cT bQ bH (by rfl) (fn:=f36) rfl a36 n36 aQ4 m vR bG aZ (λL x=>g36 L x.1 x.2.1 x.2.2) (λL x=>e36 L x.1 x.2.1 x.2.2) hm aUF
def vX (iX:(CZ×CZ)->Option Bool):Env cxT:={ Kc:=dL [(32,c32 iX)],Kw:=dK [],lv:=λi=>if i=0 then[(0,[some 34]),(1,[some 34]),(5,[])]else[],xv:=λi=>if i=0 then some []else none }
def S17_0 (a0:(List CZ))(a1:(List CZ))(v0_5:Int):St cxT.ty:={ slots:=[(.inl (.inl (ls { own:=0,nm:=0,e:=34,o:=false,xs:=a0 }))),(.inl (.inl (ls { own:=0,nm:=0,e:=34,o:=false,xs:=a1 }))),aI,aI,aI,(.inl (.inl (lv (.int .i64 v0_5))))]++List.replicate 21 aI,D:=[],F:=[],ctr:=1 }
def X17_0 (a0:(List CZ))(a1:(List CZ)):St cxT.ty:={ slots:=[]++List.replicate 27 aI,D:=[],F:=[],ctr:=1 }
theorem i17 (iX:(CZ×CZ)->Option Bool)(L:Nat)(a0:(List CZ))(a1:(List CZ)):dP prog (vX iX) (aW L) f17 (a17.enc (a0,a1))=
 bif ((Nat.cast (List.length a0):Int) != (Nat.cast (List.length a1):Int))then some (n17 Bool.false)
 else bR prog (vX iX) L f17 0 [1,1,0,1,0,0] (cA (aT prog f17) (bM prog (vX iX) L f17 [1,1,0,1] (aT prog f17)).n (bM prog (vX iX) L f17 [1,1,0,1] (aT prog f17)).x) L (S17_0 a0 a1 (0:Int)):=by kernel_rfl
theorem aO8 (iX:(CZ×CZ)->Option Bool)(L:Nat)(a0:(List CZ))(a1:(List CZ))(k:St cxT.ty->Option (V cxT.ty))(xk:Nat->St cxT.ty->Option (V cxT.ty))(g:St cxT.ty->Option (V cxT.ty))(v0_5:Int):dQ prog (vX iX) L f17 0 [1,1,0,1,0,0] (cA (aT prog f17) k xk) g (S17_0 a0 a1 v0_5)=
 bif (decide (v0_5 < (Nat.cast (List.length a0):Int)))then bif ((decide ((0:Int)<=v0_5))&&(decide (v0_5 < (Nat.cast (List.length a0):Int))))then bif ((decide ((0:Int)<=v0_5))&&(decide (v0_5 < (Nat.cast (List.length a1):Int))))then cK (iX (((List.getD a0 (Int.toNat v0_5) ((0:Int),([],[]))).1,((List.getD a0 (Int.toNat v0_5) ((0:Int),([],[]))).2.1,(List.getD a0 (Int.toNat v0_5) ((0:Int),([],[]))).2.2)),((List.getD a1 (Int.toNat v0_5) ((0:Int),([],[]))).1,((List.getD a1 (Int.toNat v0_5) ((0:Int),([],[]))).2.1,(List.getD a1 (Int.toNat v0_5) ((0:Int),([],[]))).2.2)))) false λ(q4:Bool)=>bif (!q4)then some (n17 Bool.false)
     else g (S17_0 a0 a1 (wrap Go.IntKind.i64 (v0_5+(1:Int))))
   else none
  else none
 else k (X17_0 a0 a1):=by kernel_rfl
theorem aNw (iX:(CZ×CZ)->Option Bool)(L:Nat)(a0:(List CZ))(a1:(List CZ)):(bM prog (vX iX) L f17 [1,1,0,1] (aT prog f17)).n (X17_0 a0 a1)=
 some (n17 Bool.true):=by kernel_rfl
def yD (iX:(CZ×CZ)->Option Bool)(L:Nat)(a0:(List CZ))(a1:(List CZ)):Nat->Int->(Option Bool)->Option Bool
 | 0,_,_=>none
 | n+1,v0_5,k=>
  bif (decide (v0_5 < (Nat.cast (List.length a0):Int)))then bif ((decide ((0:Int)<=v0_5))&&(decide (v0_5 < (Nat.cast (List.length a0):Int))))then bif ((decide ((0:Int)<=v0_5))&&(decide (v0_5 < (Nat.cast (List.length a1):Int))))then cK (iX (((List.getD a0 (Int.toNat v0_5) ((0:Int),([],[]))).1,((List.getD a0 (Int.toNat v0_5) ((0:Int),([],[]))).2.1,(List.getD a0 (Int.toNat v0_5) ((0:Int),([],[]))).2.2)),((List.getD a1 (Int.toNat v0_5) ((0:Int),([],[]))).1,((List.getD a1 (Int.toNat v0_5) ((0:Int),([],[]))).2.1,(List.getD a1 (Int.toNat v0_5) ((0:Int),([],[]))).2.2)))) false λ(q5:Bool)=>bif (!q5)then some Bool.false
      else yD iX L a0 a1 n (wrap Go.IntKind.i64 (v0_5+(1:Int))) k
    else none
   else none
  else k
theorem aJR (iX:(CZ×CZ)->Option Bool)(L:Nat)(a0:(List CZ))(a1:(List CZ))(k:St cxT.ty->Option (V cxT.ty))(xk:Nat->St cxT.ty->Option (V cxT.ty))(k':Option Bool)(hk:k (X17_0 a0 a1)=(k').map n17):∀ (n:Nat) (v0_5:Int),bR prog (vX iX) L f17 0 [1,1,0,1,0,0] (cA (aT prog f17) k xk) n (S17_0 a0 a1 v0_5)=(yD iX L a0 a1 n v0_5 k').map n17
 | 0,_=>rfl
 | n+1,v0_5=>by
  rw[bS,aO8];have ih:=aJR iX L a0 a1 k xk k' hk n;simp only[yD,aP,aN,aO,aC,aE,ih,hk]
def g17 (iX:(CZ×CZ)->Option Bool)(L:Nat)(a0:(List CZ))(a1:(List CZ)):Option Bool:=
 bif ((Nat.cast (List.length a0):Int) != (Nat.cast (List.length a1):Int))then some Bool.false
 else yD iX L a0 a1 L (0:Int) (some Bool.true)
theorem e17 (iX:(CZ×CZ)->Option Bool)(L:Nat)(a0:(List CZ))(a1:(List CZ)):dP prog (vX iX) (aW L) f17 (a17.enc (a0,a1))=(g17 iX L a0 a1).map n17:=by
 let K'0:Option Bool:=(some Bool.true)
 have hin0:∀ (v0_5:Int),bR prog (vX iX) L f17 0 [1,1,0,1,0,0] (cA (aT prog f17) (bM prog (vX iX) L f17 [1,1,0,1] (aT prog f17)).n (bM prog (vX iX) L f17 [1,1,0,1] (aT prog f17)).x) L (S17_0 a0 a1 v0_5)=(yD iX L a0 a1 L v0_5 K'0).map n17:=λv0_5=>aJR iX L a0 a1 _ _ K'0 (by rw[aNw];simp only[K'0,aP,aN,aO,aC,aE]) L v0_5
 rw[i17];simp only[g17,aP,aN,aO,aC,aE,hin0,K'0]
theorem s17 (iX:(CZ×CZ)->Option Bool)(h32:Sat prog cxT 32 (c32 iX))(m:((List CZ)×(List CZ))->Option Bool)(hm:∀ (x:((List CZ)×(List CZ))) t,m x=some t->∃ L,g17 iX L x.1 x.2=some t):Sat prog cxT 17 (c17 m):=
 cT bQ bH (by rfl) (fn:=f17) rfl a17 n17 aRj m (vX iX) (aY h32 bG) aZ (λL x=>g17 iX L x.1 x.2) (λL x=>e17 iX L x.1 x.2) hm aUU
def aLI (m9:((Int×Int×Bool×Int×(List Bk)×(List Vp)×(List DZ))×(Int×Int×Bool×Int×(List Bk)×(List Vp)×(List DZ)))->Option Bool):Env cxT:={ Kc:=dL [(9,c9 m9)],Kw:=dK [],lv:=λi=>[],xv:=λi=>none }
theorem i16 (m9:((Int×Int×Bool×Int×(List Bk)×(List Vp)×(List DZ))×(Int×Int×Bool×Int×(List Bk)×(List Vp)×(List DZ)))->Option Bool)(L:Nat)(a0_0:Int)(a0_1:Int)(a0_2:Int)(a0_3:Bool)(a0_4:Int)(a0_5:(List Bk))(a0_6:(List Vp))(a0_7:(List DZ))(a1_0:Int)(a1_1:Int)(a1_2:Int)(a1_3:Bool)(a1_4:Int)(a1_5:(List Bk))(a1_6:(List Vp))(a1_7:(List DZ)):dP prog (aLI m9) (aW L) f16 (a16.enc ((a0_0,a0_1,a0_2,a0_3,a0_4,a0_5,a0_6,a0_7),(a1_0,a1_1,a1_2,a1_3,a1_4,a1_5,a1_6,a1_7)))=
 bif (a0_0 != a1_0)then some (n16 Bool.false)
 else cK (m9 ((a0_1,(a0_2,(a0_3,(a0_4,(a0_5,(a0_6,a0_7)))))),(a1_1,(a1_2,(a1_3,(a1_4,(a1_5,(a1_6,a1_7)))))))) false λ(q1:Bool)=>bif (!q1)then some (n16 Bool.false)
  else some (n16 Bool.true):=by kernel_rfl
def g16 (m9:((Int×Int×Bool×Int×(List Bk)×(List Vp)×(List DZ))×(Int×Int×Bool×Int×(List Bk)×(List Vp)×(List DZ)))->Option Bool)(L:Nat)(a0_0:Int)(a0_1:Int)(a0_2:Int)(a0_3:Bool)(a0_4:Int)(a0_5:(List Bk))(a0_6:(List Vp))(a0_7:(List DZ))(a1_0:Int)(a1_1:Int)(a1_2:Int)(a1_3:Bool)(a1_4:Int)(a1_5:(List Bk))(a1_6:(List Vp))(a1_7:(List DZ)):Option Bool:=
 bif (a0_0 != a1_0)then some Bool.false
 else cK (m9 ((a0_1,(a0_2,(a0_3,(a0_4,(a0_5,(a0_6,a0_7)))))),(a1_1,(a1_2,(a1_3,(a1_4,(a1_5,(a1_6,a1_7)))))))) false λ(q1:Bool)=>bif (!q1)then some Bool.false
  else some Bool.true
theorem e16 (m9:((Int×Int×Bool×Int×(List Bk)×(List Vp)×(List DZ))×(Int×Int×Bool×Int×(List Bk)×(List Vp)×(List DZ)))->Option Bool)(L:Nat)(a0_0:Int)(a0_1:Int)(a0_2:Int)(a0_3:Bool)(a0_4:Int)(a0_5:(List Bk))(a0_6:(List Vp))(a0_7:(List DZ))(a1_0:Int)(a1_1:Int)(a1_2:Int)(a1_3:Bool)(a1_4:Int)(a1_5:(List Bk))(a1_6:(List Vp))(a1_7:(List DZ)):dP prog (aLI m9) (aW L) f16 (a16.enc ((a0_0,a0_1,a0_2,a0_3,a0_4,a0_5,a0_6,a0_7),(a1_0,a1_1,a1_2,a1_3,a1_4,a1_5,a1_6,a1_7)))=(g16 m9 L a0_0 a0_1 a0_2 a0_3 a0_4 a0_5 a0_6 a0_7 a1_0 a1_1 a1_2 a1_3 a1_4 a1_5 a1_6 a1_7).map n16:=by
 rw[i16];simp only[g16,aP,aN,aO,aC,aE]
theorem s16 (m9:((Int×Int×Bool×Int×(List Bk)×(List Vp)×(List DZ))×(Int×Int×Bool×Int×(List Bk)×(List Vp)×(List DZ)))->Option Bool)(h9:Sat prog cxT 9 (c9 m9))(m:((Int×Int×Int×Bool×Int×(List Bk)×(List Vp)×(List DZ))×(Int×Int×Int×Bool×Int×(List Bk)×(List Vp)×(List DZ)))->Option Bool)(hm:∀ (x:((Int×Int×Int×Bool×Int×(List Bk)×(List Vp)×(List DZ))×(Int×Int×Int×Bool×Int×(List Bk)×(List Vp)×(List DZ)))) t,m x=some t->∃ L,g16 m9 L x.1.1 x.1.2.1 x.1.2.2.1 x.1.2.2.2.1 x.1.2.2.2.2.1 x.1.2.2.2.2.2.1 x.1.2.2.2.2.2.2.1 x.1.2.2.2.2.2.2.2 x.2.1 x.2.2.1 x.2.2.2.1 x.2.2.2.2.1 x.2.2.2.2.2.1 x.2.2.2.2.2.2.1 x.2.2.2.2.2.2.2.1 x.2.2.2.2.2.2.2.2=some t):Sat prog cxT 16 (c16 m):=
 cT bQ bH (by rfl) (fn:=f16) rfl a16 n16 aRk m (aLI m9) (aY h9 bG) aZ (λL x=>g16 m9 L x.1.1 x.1.2.1 x.1.2.2.1 x.1.2.2.2.1 x.1.2.2.2.2.1 x.1.2.2.2.2.2.1 x.1.2.2.2.2.2.2.1 x.1.2.2.2.2.2.2.2 x.2.1 x.2.2.1 x.2.2.2.1 x.2.2.2.2.1 x.2.2.2.2.2.1 x.2.2.2.2.2.2.1 x.2.2.2.2.2.2.2.1 x.2.2.2.2.2.2.2.2) (λL x=>e16 m9 L x.1.1 x.1.2.1 x.1.2.2.1 x.1.2.2.2.1 x.1.2.2.2.2.1 x.1.2.2.2.2.2.1 x.1.2.2.2.2.2.2.1 x.1.2.2.2.2.2.2.2 x.2.1 x.2.2.1 x.2.2.2.1 x.2.2.2.2.1 x.2.2.2.2.2.1 x.2.2.2.2.2.2.1 x.2.2.2.2.2.2.2.1 x.2.2.2.2.2.2.2.2) hm aUV
end Go.Proofs.Tryz
