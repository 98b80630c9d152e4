/- A part of the proof of FnExactServeFrom: LtFg. -/
import Derived.Test.YtnmnomckcjihoaaGreatLtCon
set_option linter.unusedSimpArgs false
set_option linter.unusedVariables false
set_option maxHeartbeats 0
set_option maxRecDepth 100000
namespace Go.Proofs.Tryz
open Go.IntKind (wrap)
open Go Go.VM Go.RowKit
def vJ:Env cxT:={ Kc:=dL [],Kw:=dK [],lv:=λi=>if i=0 then[(2,[none,some 83,some 96]),(3,[none,some 83,some 96]),(16,[some 96]),(17,[]),(18,[])]else[],xv:=λi=>if i=0 then some [(2,[none,some 83,some 96]),(3,[none,some 83,some 96])]else none }
def S62_0 (a0_0:Int)(a0_1:(List Bk))(a0_2:(List Vp))(v0_2_0:Int)(v0_2_1:(List Bk))(v0_2_2:(List Vp))(v0_3_0:Int)(v0_3_1:(List Bk))(v0_3_2:(List Vp))(v0_18:Int):St cxT.ty:={ slots:=[aI,aI,(.inr (.inr { kind:=0,nm:=128,cells:=[(lv (.int .i64 v0_2_0)),(ls { own:=1,nm:=130,e:=83,o:=true,xs:=v0_2_1 }),(ls { own:=1,nm:=131,e:=96,o:=true,xs:=v0_2_2 })],s:={ own:=0,nm:=0,e:=0,o:=false,xs:=([]:List (PUnit)) },i:=0,off:=0 })),(.inr (.inr { kind:=0,nm:=192,cells:=[(lv (.int .i64 v0_3_0)),(ls { own:=1,nm:=194,e:=83,o:=true,xs:=v0_3_1 }),(ls { own:=1,nm:=195,e:=96,o:=true,xs:=v0_3_2 })],s:={ own:=0,nm:=0,e:=0,o:=false,xs:=([]:List (PUnit)) },i:=0,off:=0 })),aI,aI,aI,aI,aI,aI,aI,aI,aI,aI,aI,aI,(.inl (.inl (ls { own:=0,nm:=0,e:=96,o:=false,xs:=a0_2 }))),(.inl (.inl (lv (.int .i64 (Nat.cast (List.length a0_2):Int))))),(.inl (.inl (lv (.int .i64 v0_18))))]++List.replicate 15 aI,D:=[],F:=[],ctr:=1 }
def X62_0 (a0_0:Int)(a0_1:(List Bk))(a0_2:(List Vp))(w0_2_0:Int)(w0_2_1:(List Bk))(w0_2_2:(List Vp))(w0_3_0:Int)(w0_3_1:(List Bk))(w0_3_2:(List Vp)):St cxT.ty:={ slots:=[aI,aI,(.inr (.inr { kind:=0,nm:=128,cells:=[(lv (.int .i64 w0_2_0)),(ls { own:=1,nm:=130,e:=83,o:=true,xs:=w0_2_1 }),(ls { own:=1,nm:=131,e:=96,o:=true,xs:=w0_2_2 })],s:={ own:=0,nm:=0,e:=0,o:=false,xs:=([]:List (PUnit)) },i:=0,off:=0 })),(.inr (.inr { kind:=0,nm:=192,cells:=[(lv (.int .i64 w0_3_0)),(ls { own:=1,nm:=194,e:=83,o:=true,xs:=w0_3_1 }),(ls { own:=1,nm:=195,e:=96,o:=true,xs:=w0_3_2 })],s:={ own:=0,nm:=0,e:=0,o:=false,xs:=([]:List (PUnit)) },i:=0,off:=0 }))]++List.replicate 30 aI,D:=[],F:=[],ctr:=1 }
theorem i62 (L:Nat)(a0_0:Int)(a0_1:(List Bk))(a0_2:(List Vp)):dP prog vJ (aW L) f62 (a62.enc (a0_0,a0_1,a0_2))=
 bif (decide ((List.length a0_1)<=(1000000000:Nat)))then bR prog vJ L f62 0 [1,1,1,0,1,0,0] (cA (aT prog f62) (bM prog vJ L f62 [1,1,1,0,1] (aT prog f62)).n (bM prog vJ L f62 [1,1,1,0,1] (aT prog f62)).x) L (S62_0 a0_0 a0_1 a0_2 (0:Int) [] [] a0_0 a0_1 [] (0:Int))
 else none:=by kernel_rfl
theorem aOM (L:Nat)(a0_0:Int)(a0_1:(List Bk))(a0_2:(List Vp))(k:St cxT.ty->Option (V cxT.ty))(xk:Nat->St cxT.ty->Option (V cxT.ty))(g:St cxT.ty->Option (V cxT.ty))(v0_2_0:Int)(v0_2_1:(List Bk))(v0_2_2:(List Vp))(v0_3_0:Int)(v0_3_1:(List Bk))(v0_3_2:(List Vp))(v0_18:Int):dQ prog vJ L f62 0 [1,1,1,0,1,0,0] (cA (aT prog f62) k xk) g (S62_0 a0_0 a0_1 a0_2 v0_2_0 v0_2_1 v0_2_2 v0_3_0 v0_3_1 v0_3_2 v0_18)=
 bif (decide (v0_18 < (Nat.cast (List.length a0_2):Int)))then bif ((decide ((0:Int)<=v0_18))&&(decide (v0_18 < (Nat.cast (List.length a0_2):Int))))then bif (decide ((List.length (List.getD a0_2 (Int.toNat v0_18) ((0:Int),((0:Int),((0:Int),([]:List (Int)))))).2.2.2)<=(1000000000:Nat)))then bif (decide (((List.length v0_3_2)+(List.length (List.cons ((List.getD a0_2 (Int.toNat v0_18) ((0:Int),((0:Int),((0:Int),([]:List (Int)))))).1,((List.getD a0_2 (Int.toNat v0_18) ((0:Int),((0:Int),((0:Int),([]:List (Int)))))).2.1,((List.getD a0_2 (Int.toNat v0_18) ((0:Int),((0:Int),((0:Int),([]:List (Int)))))).2.2.1,(List.getD a0_2 (Int.toNat v0_18) ((0:Int),((0:Int),((0:Int),([]:List (Int)))))).2.2.2))) [])))<=(1000000000:Nat)))then g (S62_0 a0_0 a0_1 a0_2 v0_2_0 v0_2_1 v0_2_2 v0_3_0 v0_3_1 (v0_3_2++(List.cons ((List.getD a0_2 (Int.toNat v0_18) ((0:Int),((0:Int),((0:Int),([]:List (Int)))))).1,((List.getD a0_2 (Int.toNat v0_18) ((0:Int),((0:Int),((0:Int),([]:List (Int)))))).2.1,((List.getD a0_2 (Int.toNat v0_18) ((0:Int),((0:Int),((0:Int),([]:List (Int)))))).2.2.1,(List.getD a0_2 (Int.toNat v0_18) ((0:Int),((0:Int),((0:Int),([]:List (Int)))))).2.2.2))) [])) (wrap Go.IntKind.i64 (v0_18+(1:Int))))
    else none
   else none
  else none
 else k (X62_0 a0_0 a0_1 a0_2 v0_2_0 v0_2_1 v0_2_2 v0_3_0 v0_3_1 v0_3_2):=by kernel_rfl
theorem aNa (L:Nat)(a0_0:Int)(a0_1:(List Bk))(a0_2:(List Vp))(w0_2_0:Int)(w0_2_1:(List Bk))(w0_2_2:(List Vp))(w0_3_0:Int)(w0_3_1:(List Bk))(w0_3_2:(List Vp)):(bM prog vJ L f62 [1,1,1,0,1] (aT prog f62)).n (X62_0 a0_0 a0_1 a0_2 w0_2_0 w0_2_1 w0_2_2 w0_3_0 w0_3_1 w0_3_2)=
 some (n62 (w0_3_0,w0_3_1,w0_3_2)):=by kernel_rfl
def xS (L:Nat)(a0_0:Int)(a0_1:(List Bk))(a0_2:(List Vp)):Nat->Int->(List Bk)->(List Vp)->Int->(List Bk)->(List Vp)->Int->(Int->(List Bk)->(List Vp)->Int->(List Bk)->(List Vp)->Option CZ)->Option CZ
 | 0,_,_,_,_,_,_,_,_=>none
 | n+1,v0_2_0,v0_2_1,v0_2_2,v0_3_0,v0_3_1,v0_3_2,v0_18,k=>
  bif (decide (v0_18 < (Nat.cast (List.length a0_2):Int)))then bif ((decide ((0:Int)<=v0_18))&&(decide (v0_18 < (Nat.cast (List.length a0_2):Int))))then bif (decide ((List.length (List.getD a0_2 (Int.toNat v0_18) ((0:Int),((0:Int),((0:Int),([]:List (Int)))))).2.2.2)<=(1000000000:Nat)))then bif (decide (((List.length v0_3_2)+(List.length (List.cons ((List.getD a0_2 (Int.toNat v0_18) ((0:Int),((0:Int),((0:Int),([]:List (Int)))))).1,((List.getD a0_2 (Int.toNat v0_18) ((0:Int),((0:Int),((0:Int),([]:List (Int)))))).2.1,((List.getD a0_2 (Int.toNat v0_18) ((0:Int),((0:Int),((0:Int),([]:List (Int)))))).2.2.1,(List.getD a0_2 (Int.toNat v0_18) ((0:Int),((0:Int),((0:Int),([]:List (Int)))))).2.2.2))) [])))<=(1000000000:Nat)))then xS L a0_0 a0_1 a0_2 n v0_2_0 v0_2_1 v0_2_2 v0_3_0 v0_3_1 (v0_3_2++(List.cons ((List.getD a0_2 (Int.toNat v0_18) ((0:Int),((0:Int),((0:Int),([]:List (Int)))))).1,((List.getD a0_2 (Int.toNat v0_18) ((0:Int),((0:Int),((0:Int),([]:List (Int)))))).2.1,((List.getD a0_2 (Int.toNat v0_18) ((0:Int),((0:Int),((0:Int),([]:List (Int)))))).2.2.1,(List.getD a0_2 (Int.toNat v0_18) ((0:Int),((0:Int),((0:Int),([]:List (Int)))))).2.2.2))) [])) (wrap Go.IntKind.i64 (v0_18+(1:Int))) k
     else none
    else none
   else none
  else k v0_2_0 v0_2_1 v0_2_2 v0_3_0 v0_3_1 v0_3_2
theorem aJv (L:Nat)(a0_0:Int)(a0_1:(List Bk))(a0_2:(List Vp))(k:St cxT.ty->Option (V cxT.ty))(xk:Nat->St cxT.ty->Option (V cxT.ty))(k':Int->(List Bk)->(List Vp)->Int->(List Bk)->(List Vp)->Option CZ)(hk:∀ (w0_2_0:Int) (w0_2_1:(List Bk)) (w0_2_2:(List Vp)) (w0_3_0:Int) (w0_3_1:(List Bk)) (w0_3_2:(List Vp)),k (X62_0 a0_0 a0_1 a0_2 w0_2_0 w0_2_1 w0_2_2 w0_3_0 w0_3_1 w0_3_2)=(k' w0_2_0 w0_2_1 w0_2_2 w0_3_0 w0_3_1 w0_3_2).map n62):∀ (n:Nat) (v0_2_0:Int) (v0_2_1:(List Bk)) (v0_2_2:(List Vp)) (v0_3_0:Int) (v0_3_1:(List Bk)) (v0_3_2:(List Vp)) (v0_18:Int),bR prog vJ L f62 0 [1,1,1,0,1,0,0] (cA (aT prog f62) k xk) n (S62_0 a0_0 a0_1 a0_2 v0_2_0 v0_2_1 v0_2_2 v0_3_0 v0_3_1 v0_3_2 v0_18)=(xS L a0_0 a0_1 a0_2 n v0_2_0 v0_2_1 v0_2_2 v0_3_0 v0_3_1 v0_3_2 v0_18 k').map n62
 | 0,_,_,_,_,_,_,_=>rfl
 | n+1,v0_2_0,v0_2_1,v0_2_2,v0_3_0,v0_3_1,v0_3_2,v0_18=>by
  rw[bS,aOM];have ih:=aJv L a0_0 a0_1 a0_2 k xk k' hk n;simp only[xS,aP,aN,aO,aC,aE,ih,hk]
def g62 (L:Nat)(a0_0:Int)(a0_1:(List Bk))(a0_2:(List Vp)):Option CZ:=
 bif (decide ((List.length a0_1)<=(1000000000:Nat)))then xS L a0_0 a0_1 a0_2 L (0:Int) [] [] a0_0 a0_1 [] (0:Int) (λ(w0_2_0:Int) (w0_2_1:(List Bk)) (w0_2_2:(List Vp)) (w0_3_0:Int) (w0_3_1:(List Bk)) (w0_3_2:(List Vp))=>some (w0_3_0,w0_3_1,w0_3_2))
 else none
theorem e62 (L:Nat)(a0_0:Int)(a0_1:(List Bk))(a0_2:(List Vp)):dP prog vJ (aW L) f62 (a62.enc (a0_0,a0_1,a0_2))=(g62 L a0_0 a0_1 a0_2).map n62:=by
 let K'0:Int->(List Bk)->(List Vp)->Int->(List Bk)->(List Vp)->Option CZ:=(λ(w0_2_0:Int) (w0_2_1:(List Bk)) (w0_2_2:(List Vp)) (w0_3_0:Int) (w0_3_1:(List Bk)) (w0_3_2:(List Vp))=>some (w0_3_0,w0_3_1,w0_3_2))
 have hin0:∀ (v0_2_0:Int) (v0_2_1:(List Bk)) (v0_2_2:(List Vp)) (v0_3_0:Int) (v0_3_1:(List Bk)) (v0_3_2:(List Vp)) (v0_18:Int),bR prog vJ L f62 0 [1,1,1,0,1,0,0] (cA (aT prog f62) (bM prog vJ L f62 [1,1,1,0,1] (aT prog f62)).n (bM prog vJ L f62 [1,1,1,0,1] (aT prog f62)).x) L (S62_0 a0_0 a0_1 a0_2 v0_2_0 v0_2_1 v0_2_2 v0_3_0 v0_3_1 v0_3_2 v0_18)=(xS L a0_0 a0_1 a0_2 L v0_2_0 v0_2_1 v0_2_2 v0_3_0 v0_3_1 v0_3_2 v0_18 K'0).map n62:=λv0_2_0 v0_2_1 v0_2_2 v0_3_0 v0_3_1 v0_3_2 v0_18=>aJv L a0_0 a0_1 a0_2 _ _ K'0 (λw0_2_0 w0_2_1 w0_2_2 w0_3_0 w0_3_1 w0_3_2=>by rw[aNa];simp only[K'0,aP,aN,aO,aC,aE]) L v0_2_0 v0_2_1 v0_2_2 v0_3_0 v0_3_1 v0_3_2 v0_18
 rw[i62];simp only[g62,aP,aN,aO,aC,aE,hin0,K'0]
theorem s62 (m:CZ->Option CZ)(hm:∀ (x:CZ) t,m x=some t->∃ L,g62 L x.1 x.2.1 x.2.2=some t):Sat prog cxT 62 (c62 m):=
 cT bQ bH (by rfl) (fn:=f62) rfl a62 n62 aQG m vJ bG aZ (λL x=>g62 L x.1 x.2.1 x.2.2) (λL x=>e62 L x.1 x.2.1 x.2.2) hm aUh
def aLx (m57:CZ->Option Int)(m62:CZ->Option CZ):Env cxT:={ Kc:=dL [(57,c57 m57),(62,c62 m62)],Kw:=dK [],lv:=λi=>[],xv:=λi=>none }
theorem i39 (m57:CZ->Option Int)(m62:CZ->Option CZ)(L:Nat)(a0_0:Int)(a0_1:(List Bk))(a0_2:(List Vp)):dP prog (aLx m57 m62) (aW L) f39 (a39.enc (a0_0,a0_1,a0_2))=
 cK (m57 (a0_0,(a0_1,a0_2))) (0:Int) λ(q1:Int)=>bif (q1 != (0:Int))then some (n39 (q1,(0:Int),(0:Int),Bool.false,(0:Int),[],[],[]))
  else cK (m62 (a0_0,(a0_1,a0_2))) ((0:Int),[],[]) λ(q2:CZ)=>some (n39 ((0:Int),(0:Int),a0_0,Bool.true,q2.1,q2.2.1,q2.2.2,[])):=by kernel_rfl
def g39 (m57:CZ->Option Int)(m62:CZ->Option CZ)(L:Nat)(a0_0:Int)(a0_1:(List Bk))(a0_2:(List Vp)):Option (Int×Int×Int×Bool×Int×(List Bk)×(List Vp)×(List DZ)):=
 cK (m57 (a0_0,(a0_1,a0_2))) (0:Int) λ(q1:Int)=>bif (q1 != (0:Int))then some (q1,(0:Int),(0:Int),Bool.false,(0:Int),[],[],[])
  else cK (m62 (a0_0,(a0_1,a0_2))) ((0:Int),[],[]) λ(q2:CZ)=>some ((0:Int),(0:Int),a0_0,Bool.true,q2.1,q2.2.1,q2.2.2,[])
theorem e39 (m57:CZ->Option Int)(m62:CZ->Option CZ)(L:Nat)(a0_0:Int)(a0_1:(List Bk))(a0_2:(List Vp)):dP prog (aLx m57 m62) (aW L) f39 (a39.enc (a0_0,a0_1,a0_2))=(g39 m57 m62 L a0_0 a0_1 a0_2).map n39:=by
 rw[i39];simp only[g39,aP,aN,aO,aC,aE]
theorem s39 (m57:CZ->Option Int)(m62:CZ->Option CZ)(h57:Sat prog cxT 57 (c57 m57))(h62:Sat prog cxT 62 (c62 m62))(m:CZ->Option (Int×Int×Int×Bool×Int×(List Bk)×(List Vp)×(List DZ)))(hm:∀ (x:CZ) t,m x=some t->∃ L,g39 m57 m62 L x.1 x.2.1 x.2.2=some t):Sat prog cxT 39 (c39 m):=
 cT bQ bH (by rfl) (fn:=f39) rfl a39 n39 aQ1 m (aLx m57 m62) (aY h57 (aY h62 bG)) aZ (λL x=>g39 m57 m62 L x.1 x.2.1 x.2.2) (λL x=>e39 m57 m62 L x.1 x.2.1 x.2.2) hm aUC
def aLw:Env cxT:={ Kc:=dL [],Kw:=dK [],lv:=λi=>[],xv:=λi=>none }
theorem i40 (L:Nat)(a0:Int)(a1:Int)(a2:(List DZ)):dP prog aLw (aW L) f40 (a40.enc (a0,a1,a2))=
 bif (decide ((List.length a2)<=(1000000000:Nat)))then some (n40 (a0,a1,Bool.false,(0:Int),[],[],a2))
 else none:=by kernel_rfl
def g40 (L:Nat)(a0:Int)(a1:Int)(a2:(List DZ)):Option (Int×Int×Bool×Int×(List Bk)×(List Vp)×(List DZ)):=
 bif (decide ((List.length a2)<=(1000000000:Nat)))then some (a0,a1,Bool.false,(0:Int),[],[],a2)
 else none
theorem e40 (L:Nat)(a0:Int)(a1:Int)(a2:(List DZ)):dP prog aLw (aW L) f40 (a40.enc (a0,a1,a2))=(g40 L a0 a1 a2).map n40:=by
 rw[i40];simp only[g40,aP,aN,aO,aC,aE]
theorem s40 (m:(Int×Int×(List DZ))->Option (Int×Int×Bool×Int×(List Bk)×(List Vp)×(List DZ)))(hm:∀ (x:(Int×Int×(List DZ))) t,m x=some t->∃ L,g40 L x.1 x.2.1 x.2.2=some t):Sat prog cxT 40 (c40 m):=
 cT bQ bH (by rfl) (fn:=f40) rfl a40 n40 aQ0 m aLw bG aZ (λL x=>g40 L x.1 x.2.1 x.2.2) (λL x=>e40 L x.1 x.2.1 x.2.2) hm aUB
def mC (m57:CZ->Option Int)(iO:DZ->Option Int):Env cxT:={ Kc:=dL [(57,c57 m57),(59,c59 iO)],Kw:=dK [],lv:=λi=>if i=0 then[(0,[some 34]),(1,[some 64]),(27,[some 34]),(28,[]),(29,[])]else if i=2 then[(49,[some 64]),(50,[]),(51,[])]else[],xv:=λi=>if i=0 then some [(1,[some 64])]else if i=2 then some []else none }
def S38_0 (a0:(List CZ))(a1:(List DZ))(v0_29:Int):St cxT.ty:={ slots:=[(.inl (.inl (ls { own:=0,nm:=0,e:=34,o:=false,xs:=a0 }))),(.inl (.inl (ls { own:=0,nm:=0,e:=64,o:=false,xs:=a1 }))),aI,aI,aI,aI,aI,aI,aI,aI,aI,aI,aI,aI,aI,aI,aI,aI,aI,aI,aI,aI,aI,aI,aI,aI,aI,(.inl (.inl (ls { own:=0,nm:=0,e:=34,o:=false,xs:=a0 }))),(.inl (.inl (lv (.int .i64 (Nat.cast (List.length a0):Int))))),(.inl (.inl (lv (.int .i64 v0_29))))]++List.replicate 31 aI,D:=[],F:=[],ctr:=1 }
def X38_0 (a0:(List CZ))(a1:(List DZ)):St cxT.ty:={ slots:=[aI,(.inl (.inl (ls { own:=0,nm:=0,e:=64,o:=false,xs:=a1 })))]++List.replicate 59 aI,D:=[],F:=[],ctr:=1 }
def S38_2 (a0:(List CZ))(a1:(List DZ))(v2_51:Int):St cxT.ty:={ slots:=[aI,aI,aI,aI,aI,aI,aI,aI,aI,aI,aI,aI,aI,aI,aI,aI,aI,aI,aI,aI,aI,aI,aI,aI,aI,aI,aI,aI,aI,aI,aI,aI,aI,aI,aI,aI,aI,aI,aI,aI,aI,aI,aI,aI,aI,aI,aI,aI,aI,(.inl (.inl (ls { own:=0,nm:=0,e:=64,o:=false,xs:=a1 }))),(.inl (.inl (lv (.int .i64 (Nat.cast (List.length a1):Int))))),(.inl (.inl (lv (.int .i64 v2_51))))]++List.replicate 9 aI,D:=[],F:=[],ctr:=1 }
def X38_2 (a0:(List CZ))(a1:(List DZ)):St cxT.ty:={ slots:=[]++List.replicate 61 aI,D:=[],F:=[],ctr:=1 }
theorem i38 (m57:CZ->Option Int)(iO:DZ->Option Int)(L:Nat)(a0:(List CZ))(a1:(List DZ)):dP prog (mC m57 iO) (aW L) f38 (a38.enc (a0,a1))=
 bif (decide ((Nat.cast (List.length a0):Int) < (1:Int)))then some (n38 (2:Int))
 else bif (decide ((Nat.cast (List.length a0):Int) > (60:Int)))then some (n38 (2:Int))
 else bif ((Nat.cast (List.length a1):Int) != (wrap Go.IntKind.i64 ((Nat.cast (List.length a0):Int)-(1:Int))))then some (n38 (2:Int))
 else bR prog (mC m57 iO) L f38 0 [1,1,0,1,0,0] (cA (aT prog f38) (bM prog (mC m57 iO) L f38 [1,1,0,1] (aT prog f38)).n (bM prog (mC m57 iO) L f38 [1,1,0,1] (aT prog f38)).x) L (S38_0 a0 a1 (0:Int)):=by kernel_rfl
theorem aOZ (m57:CZ->Option Int)(iO:DZ->Option Int)(L:Nat)(a0:(List CZ))(a1:(List DZ))(k:St cxT.ty->Option (V cxT.ty))(xk:Nat->St cxT.ty->Option (V cxT.ty))(g:St cxT.ty->Option (V cxT.ty))(v0_29:Int):dQ prog (mC m57 iO) L f38 0 [1,1,0,1,0,0] (cA (aT prog f38) k xk) g (S38_0 a0 a1 v0_29)=
 bif (decide (v0_29 < (Nat.cast (List.length a0):Int)))then bif ((decide ((0:Int)<=v0_29))&&(decide (v0_29 < (Nat.cast (List.length a0):Int))))then cK (m57 ((List.getD a0 (Int.toNat v0_29) ((0:Int),([],[]))).1,((List.getD a0 (Int.toNat v0_29) ((0:Int),([],[]))).2.1,(List.getD a0 (Int.toNat v0_29) ((0:Int),([],[]))).2.2))) (0:Int) λ(q3:Int)=>bif (q3 != (0:Int))then some (n38 q3)
    else bif ((decide ((0:Int)<=(0:Int)))&&(decide ((0:Int) < (Nat.cast (List.length a0):Int))))then bif ((List.getD a0 (Int.toNat v0_29) ((0:Int),([],[]))).1 != (wrap Go.IntKind.i64 (v0_29+(List.getD a0 (0:Nat) ((0:Int),([],[]))).1)))then some (n38 (1:Int))
     else g (S38_0 a0 a1 (wrap Go.IntKind.i64 (v0_29+(1:Int))))
    else none
  else none
 else k (X38_0 a0 a1):=by kernel_rfl
theorem aNn (m57:CZ->Option Int)(iO:DZ->Option Int)(L:Nat)(a0:(List CZ))(a1:(List DZ)):(bM prog (mC m57 iO) L f38 [1,1,0,1] (aT prog f38)).n (X38_0 a0 a1)=
 bR prog (mC m57 iO) L f38 2 [1,1,1,0,1,0,0] (cA (aT prog f38) (bM prog (mC m57 iO) L f38 [1,1,1,0,1] (aT prog f38)).n (bM prog (mC m57 iO) L f38 [1,1,1,0,1] (aT prog f38)).x) L (S38_2 a0 a1 (0:Int)):=by kernel_rfl
theorem aOY (m57:CZ->Option Int)(iO:DZ->Option Int)(L:Nat)(a0:(List CZ))(a1:(List DZ))(k:St cxT.ty->Option (V cxT.ty))(xk:Nat->St cxT.ty->Option (V cxT.ty))(g:St cxT.ty->Option (V cxT.ty))(v2_51:Int):dQ prog (mC m57 iO) L f38 2 [1,1,1,0,1,0,0] (cA (aT prog f38) k xk) g (S38_2 a0 a1 v2_51)=
 bif (decide (v2_51 < (Nat.cast (List.length a1):Int)))then bif ((decide ((0:Int)<=v2_51))&&(decide (v2_51 < (Nat.cast (List.length a1):Int))))then cK (iO ((List.getD a1 (Int.toNat v2_51) ((0:Int),((0:Int),((0:Int),((0:Int),((0:Int),(0:Int))))))).1,((List.getD a1 (Int.toNat v2_51) ((0:Int),((0:Int),((0:Int),((0:Int),((0:Int),(0:Int))))))).2.1,((List.getD a1 (Int.toNat v2_51) ((0:Int),((0:Int),((0:Int),((0:Int),((0:Int),(0:Int))))))).2.2.1,((List.getD a1 (Int.toNat v2_51) ((0:Int),((0:Int),((0:Int),((0:Int),((0:Int),(0:Int))))))).2.2.2.1,((List.getD a1 (Int.toNat v2_51) ((0:Int),((0:Int),((0:Int),((0:Int),((0:Int),(0:Int))))))).2.2.2.2.1,(List.getD a1 (Int.toNat v2_51) ((0:Int),((0:Int),((0:Int),((0:Int),((0:Int),(0:Int))))))).2.2.2.2.2)))))) (0:Int) λ(q3:Int)=>bif (q3 != (0:Int))then some (n38 q3)
    else g (S38_2 a0 a1 (wrap Go.IntKind.i64 (v2_51+(1:Int))))
  else none
 else k (X38_2 a0 a1):=by kernel_rfl
theorem aNm (m57:CZ->Option Int)(iO:DZ->Option Int)(L:Nat)(a0:(List CZ))(a1:(List DZ)):(bM prog (mC m57 iO) L f38 [1,1,1,0,1] (aT prog f38)).n (X38_2 a0 a1)=
 some (n38 (0:Int)):=by kernel_rfl
def uC (m57:CZ->Option Int)(iO:DZ->Option Int)(L:Nat)(a0:(List CZ))(a1:(List DZ)):Nat->Int->(Option Int)->Option Int
 | 0,_,_=>none
 | n+1,v2_51,k=>
  bif (decide (v2_51 < (Nat.cast (List.length a1):Int)))then bif ((decide ((0:Int)<=v2_51))&&(decide (v2_51 < (Nat.cast (List.length a1):Int))))then cK (iO ((List.getD a1 (Int.toNat v2_51) ((0:Int),((0:Int),((0:Int),((0:Int),((0:Int),(0:Int))))))).1,((List.getD a1 (Int.toNat v2_51) ((0:Int),((0:Int),((0:Int),((0:Int),((0:Int),(0:Int))))))).2.1,((List.getD a1 (Int.toNat v2_51) ((0:Int),((0:Int),((0:Int),((0:Int),((0:Int),(0:Int))))))).2.2.1,((List.getD a1 (Int.toNat v2_51) ((0:Int),((0:Int),((0:Int),((0:Int),((0:Int),(0:Int))))))).2.2.2.1,((List.getD a1 (Int.toNat v2_51) ((0:Int),((0:Int),((0:Int),((0:Int),((0:Int),(0:Int))))))).2.2.2.2.1,(List.getD a1 (Int.toNat v2_51) ((0:Int),((0:Int),((0:Int),((0:Int),((0:Int),(0:Int))))))).2.2.2.2.2)))))) (0:Int) λ(q4:Int)=>bif (q4 != (0:Int))then some q4
     else uC m57 iO L a0 a1 n (wrap Go.IntKind.i64 (v2_51+(1:Int))) k
   else none
  else k
theorem aJH (m57:CZ->Option Int)(iO:DZ->Option Int)(L:Nat)(a0:(List CZ))(a1:(List DZ))(k:St cxT.ty->Option (V cxT.ty))(xk:Nat->St cxT.ty->Option (V cxT.ty))(k':Option Int)(hk:k (X38_2 a0 a1)=(k').map n38):∀ (n:Nat) (v2_51:Int),bR prog (mC m57 iO) L f38 2 [1,1,1,0,1,0,0] (cA (aT prog f38) k xk) n (S38_2 a0 a1 v2_51)=(uC m57 iO L a0 a1 n v2_51 k').map n38
 | 0,_=>rfl
 | n+1,v2_51=>by
  rw[bS,aOY];have ih:=aJH m57 iO L a0 a1 k xk k' hk n;simp only[uC,aP,aN,aO,aC,aE,ih,hk]
def xY (m57:CZ->Option Int)(iO:DZ->Option Int)(L:Nat)(a0:(List CZ))(a1:(List DZ)):Nat->Int->(Option Int)->Option Int
 | 0,_,_=>none
 | n+1,v0_29,k=>
  bif (decide (v0_29 < (Nat.cast (List.length a0):Int)))then bif ((decide ((0:Int)<=v0_29))&&(decide (v0_29 < (Nat.cast (List.length a0):Int))))then cK (m57 ((List.getD a0 (Int.toNat v0_29) ((0:Int),([],[]))).1,((List.getD a0 (Int.toNat v0_29) ((0:Int),([],[]))).2.1,(List.getD a0 (Int.toNat v0_29) ((0:Int),([],[]))).2.2))) (0:Int) λ(q4:Int)=>bif (q4 != (0:Int))then some q4
     else bif ((decide ((0:Int)<=(0:Int)))&&(decide ((0:Int) < (Nat.cast (List.length a0):Int))))then bif ((List.getD a0 (Int.toNat v0_29) ((0:Int),([],[]))).1 != (wrap Go.IntKind.i64 (v0_29+(List.getD a0 (0:Nat) ((0:Int),([],[]))).1)))then some (1:Int)
      else xY m57 iO L a0 a1 n (wrap Go.IntKind.i64 (v0_29+(1:Int))) k
     else none
   else none
  else k
theorem aJI (m57:CZ->Option Int)(iO:DZ->Option Int)(L:Nat)(a0:(List CZ))(a1:(List DZ))(k:St cxT.ty->Option (V cxT.ty))(xk:Nat->St cxT.ty->Option (V cxT.ty))(k':Option Int)(hk:k (X38_0 a0 a1)=(k').map n38):∀ (n:Nat) (v0_29:Int),bR prog (mC m57 iO) L f38 0 [1,1,0,1,0,0] (cA (aT prog f38) k xk) n (S38_0 a0 a1 v0_29)=(xY m57 iO L a0 a1 n v0_29 k').map n38
 | 0,_=>rfl
 | n+1,v0_29=>by
  rw[bS,aOZ];have ih:=aJI m57 iO L a0 a1 k xk k' hk n;simp only[xY,aP,aN,aO,aC,aE,ih,hk]
def g38 (m57:CZ->Option Int)(iO:DZ->Option Int)(L:Nat)(a0:(List CZ))(a1:(List DZ)):Option Int:=
 bif (decide ((Nat.cast (List.length a0):Int) < (1:Int)))then some (2:Int)
 else bif (decide ((Nat.cast (List.length a0):Int) > (60:Int)))then some (2:Int)
 else bif ((Nat.cast (List.length a1):Int) != (wrap Go.IntKind.i64 ((Nat.cast (List.length a0):Int)-(1:Int))))then some (2:Int)
 else xY m57 iO L a0 a1 L (0:Int) (uC m57 iO L a0 a1 L (0:Int) (some (0:Int)))
theorem e38 (m57:CZ->Option Int)(iO:DZ->Option Int)(L:Nat)(a0:(List CZ))(a1:(List DZ)):dP prog (mC m57 iO) (aW L) f38 (a38.enc (a0,a1))=(g38 m57 iO L a0 a1).map n38:=by
 let K'2:Option Int:=(some (0:Int))
 have hin2:∀ (v2_51:Int),bR prog (mC m57 iO) L f38 2 [1,1,1,0,1,0,0] (cA (aT prog f38) (bM prog (mC m57 iO) L f38 [1,1,1,0,1] (aT prog f38)).n (bM prog (mC m57 iO) L f38 [1,1,1,0,1] (aT prog f38)).x) L (S38_2 a0 a1 v2_51)=(uC m57 iO L a0 a1 L v2_51 K'2).map n38:=λv2_51=>aJH m57 iO L a0 a1 _ _ K'2 (by rw[aNm];simp only[K'2,aP,aN,aO,aC,aE]) L v2_51
 let K'0:Option Int:=(uC m57 iO L a0 a1 L (0:Int) (some (0:Int)))
 have hin0:∀ (v0_29:Int),bR prog (mC m57 iO) L f38 0 [1,1,0,1,0,0] (cA (aT prog f38) (bM prog (mC m57 iO) L f38 [1,1,0,1] (aT prog f38)).n (bM prog (mC m57 iO) L f38 [1,1,0,1] (aT prog f38)).x) L (S38_0 a0 a1 v0_29)=(xY m57 iO L a0 a1 L v0_29 K'0).map n38:=λv0_29=>aJI m57 iO L a0 a1 _ _ K'0 (by rw[aNn];simp only[K'0,aP,aN,aO,aC,aE,hin2,K'2]) L v0_29
 rw[i38];simp only[g38,aP,aN,aO,aC,aE,hin2,K'2,hin0,K'0]
theorem s38 (m57:CZ->Option Int)(iO:DZ->Option Int)(h57:Sat prog cxT 57 (c57 m57))(h59:Sat prog cxT 59 (c59 iO))(m:((List CZ)×(List DZ))->Option Int)(hm:∀ (x:((List CZ)×(List DZ))) t,m x=some t->∃ L,g38 m57 iO L x.1 x.2=some t):Sat prog cxT 38 (c38 m):=
 cT bQ bH (by rfl) (fn:=f38) rfl a38 n38 aQ2 m (mC m57 iO) (aY h57 (aY h59 bG)) aZ (λL x=>g38 m57 iO L x.1 x.2) (λL x=>e38 m57 iO L x.1 x.2) hm aUD
def aLJ (m38:((List CZ)×(List DZ))->Option Int)(m39:CZ->Option (Int×Int×Int×Bool×Int×(List Bk)×(List Vp)×(List DZ)))(m40:(Int×Int×(List DZ))->Option (Int×Int×Bool×Int×(List Bk)×(List Vp)×(List DZ))):Env cxT:={ Kc:=dL [(38,c38 m38),(39,c39 m39),(40,c40 m40)],Kw:=dK [],lv:=λi=>[],xv:=λi=>none }
theorem i15 (m38:((List CZ)×(List DZ))->Option Int)(m39:CZ->Option (Int×Int×Int×Bool×Int×(List Bk)×(List Vp)×(List DZ)))(m40:(Int×Int×(List DZ))->Option (Int×Int×Bool×Int×(List Bk)×(List Vp)×(List DZ)))(L:Nat)(a0:(List CZ))(a1:(List DZ))(a2:Int):dP prog (aLJ m38 m39 m40) (aW L) f15 (a15.enc (a0,a1,a2))=
 cK (m38 (a0,a1)) (0:Int) λ(q1:Int)=>bif (q1 != (0:Int))then some (n15 (q1,(0:Int),(0:Int),Bool.false,(0:Int),[],[],[]))
  else bif (decide (a2 < (0:Int)))then some (n15 ((3:Int),(0:Int),(0:Int),Bool.false,(0:Int),[],[],[]))
  else bif ((decide ((0:Int)<=(0:Int)))&&(decide ((0:Int) < (Nat.cast (List.length a0):Int))))then bif ((decide ((0:Int)<=(wrap Go.IntKind.i64 ((Nat.cast (List.length a0):Int)-(1:Int)))))&&(decide ((wrap Go.IntKind.i64 ((Nat.cast (List.length a0):Int)-(1:Int))) < (Nat.cast (List.length a0):Int))))then bif (decide (a2 < (List.getD a0 (0:Nat) ((0:Int),([],[]))).1))then cK (m39 ((List.getD a0 (Int.toNat (wrap Go.IntKind.i64 ((Nat.cast (List.length a0):Int)-(1:Int)))) ((0:Int),([],[]))).1,((List.getD a0 (Int.toNat (wrap Go.IntKind.i64 ((Nat.cast (List.length a0):Int)-(1:Int)))) ((0:Int),([],[]))).2.1,(List.getD a0 (Int.toNat (wrap Go.IntKind.i64 ((Nat.cast (List.length a0):Int)-(1:Int)))) ((0:Int),([],[]))).2.2))) ((0:Int),(0:Int),(0:Int),false,(0:Int),[],[],[]) λ(q5:(Int×Int×Int×Bool×Int×(List Bk)×(List Vp)×(List DZ)))=>some (n15 (q5.1,q5.2.1,q5.2.2.1,q5.2.2.2.1,q5.2.2.2.2.1,q5.2.2.2.2.2.1,q5.2.2.2.2.2.2.1,q5.2.2.2.2.2.2.2))
    else bif (decide (a2>=(List.getD a0 (Int.toNat (wrap Go.IntKind.i64 ((Nat.cast (List.length a0):Int)-(1:Int)))) ((0:Int),([],[]))).1))then cK (m39 ((List.getD a0 (Int.toNat (wrap Go.IntKind.i64 ((Nat.cast (List.length a0):Int)-(1:Int)))) ((0:Int),([],[]))).1,((List.getD a0 (Int.toNat (wrap Go.IntKind.i64 ((Nat.cast (List.length a0):Int)-(1:Int)))) ((0:Int),([],[]))).2.1,(List.getD a0 (Int.toNat (wrap Go.IntKind.i64 ((Nat.cast (List.length a0):Int)-(1:Int)))) ((0:Int),([],[]))).2.2))) ((0:Int),(0:Int),(0:Int),false,(0:Int),[],[],[]) λ(q5:(Int×Int×Int×Bool×Int×(List Bk)×(List Vp)×(List DZ)))=>some (n15 (q5.1,q5.2.1,q5.2.2.1,q5.2.2.2.1,q5.2.2.2.2.1,q5.2.2.2.2.2.1,q5.2.2.2.2.2.2.1,q5.2.2.2.2.2.2.2))
    else bif (decide ((wrap Go.IntKind.i64 ((List.getD a0 (Int.toNat (wrap Go.IntKind.i64 ((Nat.cast (List.length a0):Int)-(1:Int)))) ((0:Int),([],[]))).1-a2))>=(5:Int)))then cK (m39 ((List.getD a0 (Int.toNat (wrap Go.IntKind.i64 ((Nat.cast (List.length a0):Int)-(1:Int)))) ((0:Int),([],[]))).1,((List.getD a0 (Int.toNat (wrap Go.IntKind.i64 ((Nat.cast (List.length a0):Int)-(1:Int)))) ((0:Int),([],[]))).2.1,(List.getD a0 (Int.toNat (wrap Go.IntKind.i64 ((Nat.cast (List.length a0):Int)-(1:Int)))) ((0:Int),([],[]))).2.2))) ((0:Int),(0:Int),(0:Int),false,(0:Int),[],[],[]) λ(q5:(Int×Int×Int×Bool×Int×(List Bk)×(List Vp)×(List DZ)))=>some (n15 (q5.1,q5.2.1,q5.2.2.1,q5.2.2.2.1,q5.2.2.2.2.1,q5.2.2.2.2.2.1,q5.2.2.2.2.2.2.1,q5.2.2.2.2.2.2.2))
    else bif (((decide ((0:Int)<=(wrap Go.IntKind.i64 (a2-(List.getD a0 (0:Nat) ((0:Int),([],[]))).1))))&&(decide ((wrap Go.IntKind.i64 (a2-(List.getD a0 (0:Nat) ((0:Int),([],[]))).1))<=(Nat.cast (List.length a1):Int))))&&(decide ((Nat.cast (List.length a1):Int)<=(Nat.cast (List.length a1):Int))))then cK (m40 (a2,((List.getD a0 (Int.toNat (wrap Go.IntKind.i64 ((Nat.cast (List.length a0):Int)-(1:Int)))) ((0:Int),([],[]))).1,(List.drop (Int.toNat (wrap Go.IntKind.i64 (a2-(List.getD a0 (0:Nat) ((0:Int),([],[]))).1))) (List.take (Int.toNat (Nat.cast (List.length a1):Int)) a1))))) ((0:Int),(0:Int),false,(0:Int),[],[],[]) λ(q5:(Int×Int×Bool×Int×(List Bk)×(List Vp)×(List DZ)))=>some (n15 ((0:Int),q5.1,q5.2.1,q5.2.2.1,q5.2.2.2.1,q5.2.2.2.2.1,q5.2.2.2.2.2.1,q5.2.2.2.2.2.2))
    else none
   else none
  else none:=by kernel_rfl
def g15 (m38:((List CZ)×(List DZ))->Option Int)(m39:CZ->Option (Int×Int×Int×Bool×Int×(List Bk)×(List Vp)×(List DZ)))(m40:(Int×Int×(List DZ))->Option (Int×Int×Bool×Int×(List Bk)×(List Vp)×(List DZ)))(L:Nat)(a0:(List CZ))(a1:(List DZ))(a2:Int):Option (Int×Int×Int×Bool×Int×(List Bk)×(List Vp)×(List DZ)):=
 cK (m38 (a0,a1)) (0:Int) λ(q1:Int)=>bif (q1 != (0:Int))then some (q1,(0:Int),(0:Int),Bool.false,(0:Int),[],[],[])
  else bif (decide (a2 < (0:Int)))then some ((3:Int),(0:Int),(0:Int),Bool.false,(0:Int),[],[],[])
  else bif ((decide ((0:Int)<=(0:Int)))&&(decide ((0:Int) < (Nat.cast (List.length a0):Int))))then bif ((decide ((0:Int)<=(wrap Go.IntKind.i64 ((Nat.cast (List.length a0):Int)-(1:Int)))))&&(decide ((wrap Go.IntKind.i64 ((Nat.cast (List.length a0):Int)-(1:Int))) < (Nat.cast (List.length a0):Int))))then bif (decide (a2 < (List.getD a0 (0:Nat) ((0:Int),([],[]))).1))then cK (m39 ((List.getD a0 (Int.toNat (wrap Go.IntKind.i64 ((Nat.cast (List.length a0):Int)-(1:Int)))) ((0:Int),([],[]))).1,((List.getD a0 (Int.toNat (wrap Go.IntKind.i64 ((Nat.cast (List.length a0):Int)-(1:Int)))) ((0:Int),([],[]))).2.1,(List.getD a0 (Int.toNat (wrap Go.IntKind.i64 ((Nat.cast (List.length a0):Int)-(1:Int)))) ((0:Int),([],[]))).2.2))) ((0:Int),(0:Int),(0:Int),false,(0:Int),[],[],[]) λ(q5:(Int×Int×Int×Bool×Int×(List Bk)×(List Vp)×(List DZ)))=>some (q5.1,q5.2.1,q5.2.2.1,q5.2.2.2.1,q5.2.2.2.2.1,q5.2.2.2.2.2.1,q5.2.2.2.2.2.2.1,q5.2.2.2.2.2.2.2)
    else bif (decide (a2>=(List.getD a0 (Int.toNat (wrap Go.IntKind.i64 ((Nat.cast (List.length a0):Int)-(1:Int)))) ((0:Int),([],[]))).1))then cK (m39 ((List.getD a0 (Int.toNat (wrap Go.IntKind.i64 ((Nat.cast (List.length a0):Int)-(1:Int)))) ((0:Int),([],[]))).1,((List.getD a0 (Int.toNat (wrap Go.IntKind.i64 ((Nat.cast (List.length a0):Int)-(1:Int)))) ((0:Int),([],[]))).2.1,(List.getD a0 (Int.toNat (wrap Go.IntKind.i64 ((Nat.cast (List.length a0):Int)-(1:Int)))) ((0:Int),([],[]))).2.2))) ((0:Int),(0:Int),(0:Int),false,(0:Int),[],[],[]) λ(q5:(Int×Int×Int×Bool×Int×(List Bk)×(List Vp)×(List DZ)))=>some (q5.1,q5.2.1,q5.2.2.1,q5.2.2.2.1,q5.2.2.2.2.1,q5.2.2.2.2.2.1,q5.2.2.2.2.2.2.1,q5.2.2.2.2.2.2.2)
    else bif (decide ((wrap Go.IntKind.i64 ((List.getD a0 (Int.toNat (wrap Go.IntKind.i64 ((Nat.cast (List.length a0):Int)-(1:Int)))) ((0:Int),([],[]))).1-a2))>=(5:Int)))then cK (m39 ((List.getD a0 (Int.toNat (wrap Go.IntKind.i64 ((Nat.cast (List.length a0):Int)-(1:Int)))) ((0:Int),([],[]))).1,((List.getD a0 (Int.toNat (wrap Go.IntKind.i64 ((Nat.cast (List.length a0):Int)-(1:Int)))) ((0:Int),([],[]))).2.1,(List.getD a0 (Int.toNat (wrap Go.IntKind.i64 ((Nat.cast (List.length a0):Int)-(1:Int)))) ((0:Int),([],[]))).2.2))) ((0:Int),(0:Int),(0:Int),false,(0:Int),[],[],[]) λ(q5:(Int×Int×Int×Bool×Int×(List Bk)×(List Vp)×(List DZ)))=>some (q5.1,q5.2.1,q5.2.2.1,q5.2.2.2.1,q5.2.2.2.2.1,q5.2.2.2.2.2.1,q5.2.2.2.2.2.2.1,q5.2.2.2.2.2.2.2)
    else bif (((decide ((0:Int)<=(wrap Go.IntKind.i64 (a2-(List.getD a0 (0:Nat) ((0:Int),([],[]))).1))))&&(decide ((wrap Go.IntKind.i64 (a2-(List.getD a0 (0:Nat) ((0:Int),([],[]))).1))<=(Nat.cast (List.length a1):Int))))&&(decide ((Nat.cast (List.length a1):Int)<=(Nat.cast (List.length a1):Int))))then cK (m40 (a2,((List.getD a0 (Int.toNat (wrap Go.IntKind.i64 ((Nat.cast (List.length a0):Int)-(1:Int)))) ((0:Int),([],[]))).1,(List.drop (Int.toNat (wrap Go.IntKind.i64 (a2-(List.getD a0 (0:Nat) ((0:Int),([],[]))).1))) (List.take (Int.toNat (Nat.cast (List.length a1):Int)) a1))))) ((0:Int),(0:Int),false,(0:Int),[],[],[]) λ(q5:(Int×Int×Bool×Int×(List Bk)×(List Vp)×(List DZ)))=>some ((0:Int),q5.1,q5.2.1,q5.2.2.1,q5.2.2.2.1,q5.2.2.2.2.1,q5.2.2.2.2.2.1,q5.2.2.2.2.2.2)
    else none
   else none
  else none
theorem e15 (m38:((List CZ)×(List DZ))->Option Int)(m39:CZ->Option (Int×Int×Int×Bool×Int×(List Bk)×(List Vp)×(List DZ)))(m40:(Int×Int×(List DZ))->Option (Int×Int×Bool×Int×(List Bk)×(List Vp)×(List DZ)))(L:Nat)(a0:(List CZ))(a1:(List DZ))(a2:Int):dP prog (aLJ m38 m39 m40) (aW L) f15 (a15.enc (a0,a1,a2))=(g15 m38 m39 m40 L a0 a1 a2).map n15:=by
 rw[i15];simp only[g15,aP,aN,aO,aC,aE]
theorem s15 (m38:((List CZ)×(List DZ))->Option Int)(m39:CZ->Option (Int×Int×Int×Bool×Int×(List Bk)×(List Vp)×(List DZ)))(m40:(Int×Int×(List DZ))->Option (Int×Int×Bool×Int×(List Bk)×(List Vp)×(List DZ)))(h38:Sat prog cxT 38 (c38 m38))(h39:Sat prog cxT 39 (c39 m39))(h40:Sat prog cxT 40 (c40 m40))(m:((List CZ)×(List DZ)×Int)->Option (Int×Int×Int×Bool×Int×(List Bk)×(List Vp)×(List DZ)))(hm:∀ (x:((List CZ)×(List DZ)×Int)) t,m x=some t->∃ L,g15 m38 m39 m40 L x.1 x.2.1 x.2.2=some t):Sat prog cxT 15 (c15 m):=
 cT bQ bH (by rfl) (fn:=f15) rfl a15 n15 aRl m (aLJ m38 m39 m40) (aY h38 (aY h39 (aY h40 bG))) aZ (λL x=>g15 m38 m39 m40 L x.1 x.2.1 x.2.2) (λL x=>e15 m38 m39 m40 L x.1 x.2.1 x.2.2) hm aUW
end Go.Proofs.Tryz
