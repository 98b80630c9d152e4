/- A part of the proof of FnExactSameMachines: LnFa. -/
import Derived.Test.YtchokegffjaihaaLnBase
set_option linter.unusedSimpArgs false
set_option linter.unusedVariables false
set_option maxHeartbeats 0
set_option maxRecDepth 100000
namespace Go.Proofs.Try
open Go.IntKind (wrap)
open Go Go.VM Go.RowKit
def aFw:Env cxT:={ Kc:=eP [],Kw:=eT [],lv:=λi=>[],xv:=λi=>none }
theorem i57 (L:Nat)(a0_0:Int)(a0_1:Int)(a0_2:Int)(a0_3:Int)(a0_4:Bool):fF prog aFw (bP L) f57 (a57.enc (a0_0,a0_1,a0_2,a0_3,a0_4))=
 some (n57 (a0_0,a0_1,a0_2,a0_3,a0_4)):=by kernel_rfl
def g57 (L:Nat)(a0_0:Int)(a0_1:Int)(a0_2:Int)(a0_3:Int)(a0_4:Bool):Option (Int×Int×Int×Int×Bool):=
 some (a0_0,a0_1,a0_2,a0_3,a0_4)
theorem e57 (L:Nat)(a0_0:Int)(a0_1:Int)(a0_2:Int)(a0_3:Int)(a0_4:Bool):fF prog aFw (bP L) f57 (a57.enc (a0_0,a0_1,a0_2,a0_3,a0_4))=(g57 L a0_0 a0_1 a0_2 a0_3 a0_4).map n57:=by
 rw[i57];simp only[g57,bA,aY,aZ,aE,aJ]
theorem s57 (m:(Int×Int×Int×Int×Bool)->Option (Int×Int×Int×Int×Bool))(hm:∀ (x:(Int×Int×Int×Int×Bool)) t,m x=some t->∃ L,g57 L x.1 x.2.1 x.2.2.1 x.2.2.2.1 x.2.2.2.2=some t):Sat prog cxT 57 (c57 m):=
 dU cS cK (by rfl) (fn:=f57) rfl a57 n57 aIo m aFw cJ bV (λL x=>g57 L x.1 x.2.1 x.2.2.1 x.2.2.2.1 x.2.2.2.2) (λL x=>e57 L x.1 x.2.1 x.2.2.1 x.2.2.2.1 x.2.2.2.2) hm aKd
def rE:Env cxT:={ Kc:=eP [],Kw:=eT [],lv:=λi=>if i=0 then[(3,[]),(6,[some 3]),(7,[]),(8,[])]else[],xv:=λi=>if i=0 then some [(3,[])]else none }
def S65_0 (a0:(List Int))(v0_8:Int):St cxT.ty:={ slots:=[aP,aP,aP,(.inl (.inl (lv (.int .i64 (0:Int))))),aP,aP,(.inl (.inl (ls { own:=0,nm:=0,e:=3,o:=false,xs:=a0 }))),(.inl (.inl (lv (.int .i64 (Nat.cast (List.length a0):Int))))),(.inl (.inl (lv (.int .i64 v0_8))))]++List.replicate 9 aP,D:=[],F:=[],ctr:=1 }
def X65_0 (a0:(List Int)):St cxT.ty:={ slots:=[aP,aP,aP,(.inl (.inl (lv (.int .i64 (0:Int)))))]++List.replicate 14 aP,D:=[],F:=[],ctr:=1 }
theorem i65 (L:Nat)(a0:(List Int)):fF prog rE (bP L) f65 (a65.enc a0)=
 cW prog rE L f65 0 [1,1,0,1,0,0] (dG (bH prog f65) (cR prog rE L f65 [1,1,0,1] (bH prog f65)).n (cR prog rE L f65 [1,1,0,1] (bH prog f65)).x) L (S65_0 a0 (0:Int)):=by kernel_rfl
theorem aHt (L:Nat)(a0:(List Int))(k:St cxT.ty->Option (V cxT.ty))(xk:Nat->St cxT.ty->Option (V cxT.ty))(g:St cxT.ty->Option (V cxT.ty))(v0_8:Int):fL prog rE L f65 0 [1,1,0,1,0,0] (dG (bH prog f65) k xk) g (S65_0 a0 v0_8)=
 bif (decide (v0_8 < (Nat.cast (List.length a0):Int)))then bif ((decide ((0:Int)<=v0_8))&&(decide (v0_8 < (Nat.cast (List.length a0):Int))))then bif ((List.getD a0 (Int.toNat v0_8) (0:Int)) != (0:Int))then some (n65 (List.getD a0 (Int.toNat v0_8) (0:Int)))
   else g (S65_0 a0 (wrap Go.IntKind.i64 (v0_8+(1:Int))))
  else none
 else k (X65_0 a0):=by kernel_rfl
theorem aGv (L:Nat)(a0:(List Int)):(cR prog rE L f65 [1,1,0,1] (bH prog f65)).n (X65_0 a0)=
 some (n65 (0:Int)):=by kernel_rfl
def sW (L:Nat)(a0:(List Int)):Nat->Int->(Option Int)->Option Int
 | 0,_,_=>none
 | n+1,v0_8,k=>
  bif (decide (v0_8 < (Nat.cast (List.length a0):Int)))then bif ((decide ((0:Int)<=v0_8))&&(decide (v0_8 < (Nat.cast (List.length a0):Int))))then bif ((List.getD a0 (Int.toNat v0_8) (0:Int)) != (0:Int))then some (List.getD a0 (Int.toNat v0_8) (0:Int))
    else sW L a0 n (wrap Go.IntKind.i64 (v0_8+(1:Int))) k
   else none
  else k
theorem aEK (L:Nat)(a0:(List Int))(k:St cxT.ty->Option (V cxT.ty))(xk:Nat->St cxT.ty->Option (V cxT.ty))(k':Option Int)(hk:k (X65_0 a0)=(k').map n65):∀ (n:Nat) (v0_8:Int),cW prog rE L f65 0 [1,1,0,1,0,0] (dG (bH prog f65) k xk) n (S65_0 a0 v0_8)=(sW L a0 n v0_8 k').map n65
 | 0,_=>rfl
 | n+1,v0_8=>by
  rw[cV,aHt];have ih:=aEK L a0 k xk k' hk n;simp only[sW,bA,aY,aZ,aE,aJ,ih,hk]
def g65 (L:Nat)(a0:(List Int)):Option Int:=
 sW L a0 L (0:Int) (some (0:Int))
theorem e65 (L:Nat)(a0:(List Int)):fF prog rE (bP L) f65 (a65.enc a0)=(g65 L a0).map n65:=by
 let K'0:Option Int:=(some (0:Int))
 have hin0:∀ (v0_8:Int),cW prog rE L f65 0 [1,1,0,1,0,0] (dG (bH prog f65) (cR prog rE L f65 [1,1,0,1] (bH prog f65)).n (cR prog rE L f65 [1,1,0,1] (bH prog f65)).x) L (S65_0 a0 v0_8)=(sW L a0 L v0_8 K'0).map n65:=λv0_8=>aEK L a0 _ _ K'0 (by rw[aGv];simp only[K'0,bA,aY,aZ,aE,aJ]) L v0_8
 rw[i65];simp only[g65,bA,aY,aZ,aE,aJ,hin0,K'0]
theorem s65 (m:(List Int)->Option Int)(hm:∀ (x:(List Int)) t,m x=some t->∃ L,g65 L x=some t):Sat prog cxT 65 (c65 m):=
 dU cS cK (by rfl) (fn:=f65) rfl a65 n65 aIm m rE cJ bV (λL x=>g65 L x) (λL x=>e65 L x) hm aKb
def aFu (m79:Int->Option Bool):Env cxT:={ Kc:=eP [(79,c79 m79)],Kw:=eT [],lv:=λi=>[],xv:=λi=>none }
theorem i66 (m79:Int->Option Bool)(L:Nat)(a0:Int)(a1:Int):fF prog (aFu m79) (bP L) f66 (a66.enc (a0,a1))=
 dK (m79 a0) false λ(q1:Bool)=>dK (m79 a1) false λ(q2:Bool)=>bif q1 then bif q2 then some (n66 (0:Int))
    else some (n66 (-(1:Int)))
   else bif q2 then some (n66 (1:Int))
   else bif (decide (a0 < a1))then some (n66 (-(1:Int)))
   else bif (decide (a0 > a1))then some (n66 (1:Int))
   else some (n66 (0:Int)):=by kernel_rfl
def g66 (m79:Int->Option Bool)(L:Nat)(a0:Int)(a1:Int):Option Int:=
 dK (m79 a0) false λ(q1:Bool)=>dK (m79 a1) false λ(q2:Bool)=>bif q1 then bif q2 then some (0:Int)
    else some (-(1:Int))
   else bif q2 then some (1:Int)
   else bif (decide (a0 < a1))then some (-(1:Int))
   else bif (decide (a0 > a1))then some (1:Int)
   else some (0:Int)
theorem e66 (m79:Int->Option Bool)(L:Nat)(a0:Int)(a1:Int):fF prog (aFu m79) (bP L) f66 (a66.enc (a0,a1))=(g66 m79 L a0 a1).map n66:=by
 rw[i66];simp only[g66,bA,aY,aZ,aE,aJ]
theorem s66 (m79:Int->Option Bool)(h79:Sat prog cxT 79 (c79 m79))(m:(Int×Int)->Option Int)(hm:∀ (x:(Int×Int)) t,m x=some t->∃ L,g66 m79 L x.1 x.2=some t):Sat prog cxT 66 (c66 m):=
 dU cS cK (by rfl) (fn:=f66) rfl a66 n66 aIl m (aFu m79) (bY h79 cJ) bV (λL x=>g66 m79 L x.1 x.2) (λL x=>e66 m79 L x.1 x.2) hm aKa
def aFt:Env cxT:={ Kc:=eP [],Kw:=eT [],lv:=λi=>[],xv:=λi=>none }
theorem i68 (L:Nat)(a0_0:Int)(a0_1:Int)(a0_2:Int)(a0_3:Int)(a0_4:Bool)(a1_0:Int)(a1_1:Int)(a1_2:Int)(a1_3:Int)(a1_4:Bool):fF prog aFt (bP L) f68 (a68.enc ((a0_0,a0_1,a0_2,a0_3,a0_4),(a1_0,a1_1,a1_2,a1_3,a1_4)))=
 bif (a0_0 != a1_0)then some (n68 Bool.false)
 else bif (a0_1 != a1_1)then some (n68 Bool.false)
 else bif (a0_2 != a1_2)then some (n68 Bool.false)
 else bif (a0_3 != a1_3)then some (n68 Bool.false)
 else bif (!(a0_4 == a1_4))then some (n68 Bool.false)
 else some (n68 Bool.true):=by kernel_rfl
def g68 (L:Nat)(a0_0:Int)(a0_1:Int)(a0_2:Int)(a0_3:Int)(a0_4:Bool)(a1_0:Int)(a1_1:Int)(a1_2:Int)(a1_3:Int)(a1_4:Bool):Option Bool:=
 bif (a0_0 != a1_0)then some Bool.false
 else bif (a0_1 != a1_1)then some Bool.false
 else bif (a0_2 != a1_2)then some Bool.false
 else bif (a0_3 != a1_3)then some Bool.false
 else bif (!(a0_4 == a1_4))then some Bool.false
 else some Bool.true
theorem e68 (L:Nat)(a0_0:Int)(a0_1:Int)(a0_2:Int)(a0_3:Int)(a0_4:Bool)(a1_0:Int)(a1_1:Int)(a1_2:Int)(a1_3:Int)(a1_4:Bool):fF prog aFt (bP L) f68 (a68.enc ((a0_0,a0_1,a0_2,a0_3,a0_4),(a1_0,a1_1,a1_2,a1_3,a1_4)))=(g68 L a0_0 a0_1 a0_2 a0_3 a0_4 a1_0 a1_1 a1_2 a1_3 a1_4).map n68:=by
 rw[i68];simp only[g68,bA,aY,aZ,aE,aJ]
theorem s68 (m:((Int×Int×Int×Int×Bool)×(Int×Int×Int×Int×Bool))->Option Bool)(hm:∀ (x:((Int×Int×Int×Int×Bool)×(Int×Int×Int×Int×Bool))) t,m x=some t->∃ L,g68 L x.1.1 x.1.2.1 x.1.2.2.1 x.1.2.2.2.1 x.1.2.2.2.2 x.2.1 x.2.2.1 x.2.2.2.1 x.2.2.2.2.1 x.2.2.2.2.2=some t):Sat prog cxT 68 (c68 m):=
 dU cS cK (by rfl) (fn:=f68) rfl a68 n68 aIk m aFt cJ bV (λL x=>g68 L x.1.1 x.1.2.1 x.1.2.2.1 x.1.2.2.2.1 x.1.2.2.2.2 x.2.1 x.2.2.1 x.2.2.2.1 x.2.2.2.2.1 x.2.2.2.2.2) (λL x=>e68 L x.1.1 x.1.2.1 x.1.2.2.1 x.1.2.2.2.1 x.1.2.2.2.2 x.2.1 x.2.2.1 x.2.2.2.1 x.2.2.2.2.1 x.2.2.2.2.2) hm aJ9
def aFr:Env cxT:={ Kc:=eP [],Kw:=eT [],lv:=λi=>[],xv:=λi=>none }
theorem i71 (L:Nat)(a0:(List Int))(a1:Int):fF prog aFr (bP L) f71 (a71.enc (a0,a1))=
 bif (decide ((wrap Go.IntKind.i64 (a1-(Nat.cast (List.length a0):Int))) < (0:Int)))then some (n71 (-(1:Int)))
 else some (n71 (wrap Go.IntKind.i64 (a1-(Nat.cast (List.length a0):Int)))):=by kernel_rfl
def g71 (L:Nat)(a0:(List Int))(a1:Int):Option Int:=
 bif (decide ((wrap Go.IntKind.i64 (a1-(Nat.cast (List.length a0):Int))) < (0:Int)))then some (-(1:Int))
 else some (wrap Go.IntKind.i64 (a1-(Nat.cast (List.length a0):Int)))
theorem e71 (L:Nat)(a0:(List Int))(a1:Int):fF prog aFr (bP L) f71 (a71.enc (a0,a1))=(g71 L a0 a1).map n71:=by
 rw[i71];simp only[g71,bA,aY,aZ,aE,aJ]
theorem s71 (m:((List Int)×Int)->Option Int)(hm:∀ (x:((List Int)×Int)) t,m x=some t->∃ L,g71 L x.1 x.2=some t):Sat prog cxT 71 (c71 m):=
 dU cS cK (by rfl) (fn:=f71) rfl a71 n71 aIh m aFr cJ bV (λL x=>g71 L x.1 x.2) (λL x=>e71 L x.1 x.2) hm aJ6
def rC:Env cxT:={ Kc:=eP [],Kw:=eT [],lv:=λi=>if i=0 then[(0,[some 2]),(3,[some 2]),(4,[])]else[],xv:=λi=>if i=0 then some [(3,[some 2])]else none }
def S78_0 (a0:(List Int))(v0_3:(List Int))(v0_4:Int):St cxT.ty:={ slots:=[(.inl (.inl (ls { own:=0,nm:=0,e:=2,o:=false,xs:=a0 }))),aP,aP,(.inl (.inl (ls { own:=1,nm:=192,e:=2,o:=true,xs:=v0_3 }))),(.inl (.inl (lv (.int .i64 v0_4))))]++List.replicate 17 aP,D:=[],F:=[],ctr:=1 }
def X78_0 (a0:(List Int))(w0_3:(List Int)):St cxT.ty:={ slots:=[aP,aP,aP,(.inl (.inl (ls { own:=1,nm:=192,e:=2,o:=true,xs:=w0_3 })))]++List.replicate 18 aP,D:=[],F:=[],ctr:=1 }
theorem i78 (L:Nat)(a0:(List Int)):fF prog rC (bP L) f78 (a78.enc a0)=
 bif (((decide ((0:Int)<=(Nat.cast (List.length a0):Int)))&&(decide ((Nat.cast (List.length a0):Int)<=(Nat.cast (List.length a0):Int))))&&(decide ((Nat.cast (List.length a0):Int)<=(1000000000:Int))))then cW prog rC L f78 0 [1,1,0,1,0,0] (dG (bH prog f78) (cR prog rC L f78 [1,1,0,1] (bH prog f78)).n (cR prog rC L f78 [1,1,0,1] (bH prog f78)).x) L (S78_0 a0 (List.replicate (Int.toNat (Nat.cast (List.length a0):Int)) (0:Int)) (0:Int))
 else none:=by kernel_rfl
theorem aHr (L:Nat)(a0:(List Int))(k:St cxT.ty->Option (V cxT.ty))(xk:Nat->St cxT.ty->Option (V cxT.ty))(g:St cxT.ty->Option (V cxT.ty))(v0_3:(List Int))(v0_4:Int):fL prog rC L f78 0 [1,1,0,1,0,0] (dG (bH prog f78) k xk) g (S78_0 a0 v0_3 v0_4)=
 bif (decide (v0_4 < (Nat.cast (List.length a0):Int)))then bif ((decide ((0:Int)<=v0_4))&&(decide (v0_4 < (Nat.cast (List.length a0):Int))))then bif ((decide ((0:Int)<=v0_4))&&(decide (v0_4 < (Nat.cast (List.length v0_3):Int))))then g (S78_0 a0 (List.set v0_3 (Int.toNat v0_4) (List.getD a0 (Int.toNat v0_4) (0:Int))) (wrap Go.IntKind.i64 (v0_4+(1:Int))))
   else none
  else none
 else k (X78_0 a0 v0_3):=by kernel_rfl
theorem aGt (L:Nat)(a0:(List Int))(w0_3:(List Int)):(cR prog rC L f78 [1,1,0,1] (bH prog f78)).n (X78_0 a0 w0_3)=
 some (n78 w0_3):=by kernel_rfl
def sU (L:Nat)(a0:(List Int)):Nat->(List Int)->Int->((List Int)->Option (List Int))->Option (List Int)
 | 0,_,_,_=>none
 | n+1,v0_3,v0_4,k=>
  bif (decide (v0_4 < (Nat.cast (List.length a0):Int)))then bif ((decide ((0:Int)<=v0_4))&&(decide (v0_4 < (Nat.cast (List.length a0):Int))))then bif ((decide ((0:Int)<=v0_4))&&(decide (v0_4 < (Nat.cast (List.length v0_3):Int))))then sU L a0 n (List.set v0_3 (Int.toNat v0_4) (List.getD a0 (Int.toNat v0_4) (0:Int))) (wrap Go.IntKind.i64 (v0_4+(1:Int))) k
    else none
   else none
  else k v0_3
theorem aEI (L:Nat)(a0:(List Int))(k:St cxT.ty->Option (V cxT.ty))(xk:Nat->St cxT.ty->Option (V cxT.ty))(k':(List Int)->Option (List Int))(hk:∀ (w0_3:(List Int)),k (X78_0 a0 w0_3)=(k' w0_3).map n78):∀ (n:Nat) (v0_3:(List Int)) (v0_4:Int),cW prog rC L f78 0 [1,1,0,1,0,0] (dG (bH prog f78) k xk) n (S78_0 a0 v0_3 v0_4)=(sU L a0 n v0_3 v0_4 k').map n78
 | 0,_,_=>rfl
 | n+1,v0_3,v0_4=>by
  rw[cV,aHr];have ih:=aEI L a0 k xk k' hk n;simp only[sU,bA,aY,aZ,aE,aJ,ih,hk]
def g78 (L:Nat)(a0:(List Int)):Option (List Int):=
 bif (((decide ((0:Int)<=(Nat.cast (List.length a0):Int)))&&(decide ((Nat.cast (List.length a0):Int)<=(Nat.cast (List.length a0):Int))))&&(decide ((Nat.cast (List.length a0):Int)<=(1000000000:Int))))then sU L a0 L (List.replicate (Int.toNat (Nat.cast (List.length a0):Int)) (0:Int)) (0:Int) (λ(w0_3:(List Int))=>some w0_3)
 else none
theorem e78 (L:Nat)(a0:(List Int)):fF prog rC (bP L) f78 (a78.enc a0)=(g78 L a0).map n78:=by
 let K'0:(List Int)->Option (List Int):=(λ(w0_3:(List Int))=>some w0_3)
 have hin0:∀ (v0_3:(List Int)) (v0_4:Int),cW prog rC L f78 0 [1,1,0,1,0,0] (dG (bH prog f78) (cR prog rC L f78 [1,1,0,1] (bH prog f78)).n (cR prog rC L f78 [1,1,0,1] (bH prog f78)).x) L (S78_0 a0 v0_3 v0_4)=(sU L a0 L v0_3 v0_4 K'0).map n78:=λv0_3 v0_4=>aEI L a0 _ _ K'0 (λw0_3=>by rw[aGt];simp only[K'0,bA,aY,aZ,aE,aJ]) L v0_3 v0_4
 rw[i78];simp only[g78,bA,aY,aZ,aE,aJ,hin0,K'0]
theorem s78 (m:(List Int)->Option (List Int))(hm:∀ (x:(List Int)) t,m x=some t->∃ L,g78 L x=some t):Sat prog cxT 78 (c78 m):=
 dU cS cK (by rfl) (fn:=f78) rfl a78 n78 aIg m rC cJ bV (λL x=>g78 L x) (λL x=>e78 L x) hm aJ5
def aFq:Env cxT:={ Kc:=eP [],Kw:=eT [],lv:=λi=>[],xv:=λi=>none }
theorem i79 (L:Nat)(a0:Int):fF prog aFq (bP L) f79 (a79.enc a0)=
 some (n79 (a0 != a0)):=by kernel_rfl
def g79 (L:Nat)(a0:Int):Option Bool:=
 some (a0 != a0)
theorem e79 (L:Nat)(a0:Int):fF prog aFq (bP L) f79 (a79.enc a0)=(g79 L a0).map n79:=by
 rw[i79];simp only[g79,bA,aY,aZ,aE,aJ]
theorem s79 (m:Int->Option Bool)(hm:∀ (x:Int) t,m x=some t->∃ L,g79 L x=some t):Sat prog cxT 79 (c79 m):=
 dU cS cK (by rfl) (fn:=f79) rfl a79 n79 aIf m aFq cJ bV (λL x=>g79 L x) (λL x=>e79 L x) hm aJ4
def aFx (uY:((List Int)×Int)->Option Int):Env cxT:={ Kc:=eP [(71,c71 uY)],Kw:=eT [],lv:=λi=>[],xv:=λi=>none }
theorem i53 (uY:((List Int)×Int)->Option Int)(L:Nat)(a0_0:Int)(a0_1:Int)(a0_2:Int)(a0_3:(List Int))(a1:Int):fF prog (aFx uY) (bP L) f53 (a53.enc ((a0_0,a0_1,a0_2,a0_3),a1))=
 dK (uY (a0_3,a1)) (0:Int) λ(q1:Int)=>bif (decide (q1 < (0:Int)))then some (n53 (-(1:Int)))
  else some (n53 q1):=by kernel_rfl
def g53 (uY:((List Int)×Int)->Option Int)(L:Nat)(a0_0:Int)(a0_1:Int)(a0_2:Int)(a0_3:(List Int))(a1:Int):Option Int:=
 dK (uY (a0_3,a1)) (0:Int) λ(q1:Int)=>bif (decide (q1 < (0:Int)))then some (-(1:Int))
  else some q1
theorem e53 (uY:((List Int)×Int)->Option Int)(L:Nat)(a0_0:Int)(a0_1:Int)(a0_2:Int)(a0_3:(List Int))(a1:Int):fF prog (aFx uY) (bP L) f53 (a53.enc ((a0_0,a0_1,a0_2,a0_3),a1))=(g53 uY L a0_0 a0_1 a0_2 a0_3 a1).map n53:=by
 rw[i53];simp only[g53,bA,aY,aZ,aE,aJ]
theorem s53 (uY:((List Int)×Int)->Option Int)(h71:Sat prog cxT 71 (c71 uY))(m:((Int×Int×Int×(List Int))×Int)->Option Int)(hm:∀ (x:((Int×Int×Int×(List Int))×Int)) t,m x=some t->∃ L,g53 uY L x.1.1 x.1.2.1 x.1.2.2.1 x.1.2.2.2 x.2=some t):Sat prog cxT 53 (c53 m):=
 dU cS cK (by rfl) (fn:=f53) rfl a53 n53 aIp m (aFx uY) (bY h71 cJ) bV (λL x=>g53 uY L x.1.1 x.1.2.1 x.1.2.2.1 x.1.2.2.2 x.2) (λL x=>e53 uY L x.1.1 x.1.2.1 x.1.2.2.1 x.1.2.2.2 x.2) hm aKe
def aFv (uX:(List Int)->Option (List Int)):Env cxT:={ Kc:=eP [(78,c78 uX)],Kw:=eT [],lv:=λi=>[],xv:=λi=>none }
theorem i58 (uX:(List Int)->Option (List Int))(L:Nat)(a0_0:Int)(a0_1:Int)(a0_2:Int)(a0_3:(List Int)):fF prog (aFv uX) (bP L) f58 (a58.enc (a0_0,a0_1,a0_2,a0_3))=
 dK (uX a0_3) [] λ(q1:(List Int))=>some (n58 (a0_0,a0_1,a0_2,q1)):=by kernel_rfl
def g58 (uX:(List Int)->Option (List Int))(L:Nat)(a0_0:Int)(a0_1:Int)(a0_2:Int)(a0_3:(List Int)):Option (Int×Int×Int×(List Int)):=
 dK (uX a0_3) [] λ(q1:(List Int))=>some (a0_0,a0_1,a0_2,q1)
theorem e58 (uX:(List Int)->Option (List Int))(L:Nat)(a0_0:Int)(a0_1:Int)(a0_2:Int)(a0_3:(List Int)):fF prog (aFv uX) (bP L) f58 (a58.enc (a0_0,a0_1,a0_2,a0_3))=(g58 uX L a0_0 a0_1 a0_2 a0_3).map n58:=by
 rw[i58];simp only[g58,bA,aY,aZ,aE,aJ]
theorem s58 (uX:(List Int)->Option (List Int))(h78:Sat prog cxT 78 (c78 uX))(m:(Int×Int×Int×(List Int))->Option (Int×Int×Int×(List Int)))(hm:∀ (x:(Int×Int×Int×(List Int))) t,m x=some t->∃ L,g58 uX L x.1 x.2.1 x.2.2.1 x.2.2.2=some t):Sat prog cxT 58 (c58 m):=
 dU cS cK (by rfl) (fn:=f58) rfl a58 n58 aIn m (aFv uX) (bY h78 cJ) bV (λL x=>g58 uX L x.1 x.2.1 x.2.2.1 x.2.2.2) (λL x=>e58 uX L x.1 x.2.1 x.2.2.1 x.2.2.2) hm aKc
def rB:Env cxT:={ Kc:=eP [],Kw:=eT [],lv:=λi=>if i=0 then[(0,[some 2]),(1,[some 2]),(5,[])]else[],xv:=λi=>if i=0 then some []else none }
def S82_0 (a0:(List Int))(a1:(List Int))(v0_5:Int):St cxT.ty:={ slots:=[(.inl (.inl (ls { own:=0,nm:=0,e:=2,o:=false,xs:=a0 }))),(.inl (.inl (ls { own:=0,nm:=0,e:=2,o:=false,xs:=a1 }))),aP,aP,aP,(.inl (.inl (lv (.int .i64 v0_5))))]++List.replicate 20 aP,D:=[],F:=[],ctr:=1 }
def X82_0 (a0:(List Int))(a1:(List Int)):St cxT.ty:={ slots:=[]++List.replicate 26 aP,D:=[],F:=[],ctr:=1 }
theorem i82 (L:Nat)(a0:(List Int))(a1:(List Int)):fF prog rB (bP L) f82 (a82.enc (a0,a1))=
 bif ((Nat.cast (List.length a0):Int) != (Nat.cast (List.length a1):Int))then some (n82 Bool.false)
 else cW prog rB L f82 0 [1,1,0,1,0,0] (dG (bH prog f82) (cR prog rB L f82 [1,1,0,1] (bH prog f82)).n (cR prog rB L f82 [1,1,0,1] (bH prog f82)).x) L (S82_0 a0 a1 (0:Int)):=by kernel_rfl
theorem aHq (L:Nat)(a0:(List Int))(a1:(List Int))(k:St cxT.ty->Option (V cxT.ty))(xk:Nat->St cxT.ty->Option (V cxT.ty))(g:St cxT.ty->Option (V cxT.ty))(v0_5:Int):fL prog rB L f82 0 [1,1,0,1,0,0] (dG (bH prog f82) k xk) g (S82_0 a0 a1 v0_5)=
 bif (decide (v0_5 < (Nat.cast (List.length a0):Int)))then bif ((decide ((0:Int)<=v0_5))&&(decide (v0_5 < (Nat.cast (List.length a0):Int))))then bif ((decide ((0:Int)<=v0_5))&&(decide (v0_5 < (Nat.cast (List.length a1):Int))))then bif ((List.getD a0 (Int.toNat v0_5) (0:Int)) != (List.getD a1 (Int.toNat v0_5) (0:Int)))then some (n82 Bool.false)
    else g (S82_0 a0 a1 (wrap Go.IntKind.i64 (v0_5+(1:Int))))
   else none
  else none
 else k (X82_0 a0 a1):=by kernel_rfl
theorem aGs (L:Nat)(a0:(List Int))(a1:(List Int)):(cR prog rB L f82 [1,1,0,1] (bH prog f82)).n (X82_0 a0 a1)=
 some (n82 Bool.true):=by kernel_rfl
def sS (L:Nat)(a0:(List Int))(a1:(List Int)):Nat->Int->(Option Bool)->Option Bool
 | 0,_,_=>none
 | n+1,v0_5,k=>
  bif (decide (v0_5 < (Nat.cast (List.length a0):Int)))then bif ((decide ((0:Int)<=v0_5))&&(decide (v0_5 < (Nat.cast (List.length a0):Int))))then bif ((decide ((0:Int)<=v0_5))&&(decide (v0_5 < (Nat.cast (List.length a1):Int))))then bif ((List.getD a0 (Int.toNat v0_5) (0:Int)) != (List.getD a1 (Int.toNat v0_5) (0:Int)))then some Bool.false
     else sS L a0 a1 n (wrap Go.IntKind.i64 (v0_5+(1:Int))) k
    else none
   else none
  else k
theorem aEH (L:Nat)(a0:(List Int))(a1:(List Int))(k:St cxT.ty->Option (V cxT.ty))(xk:Nat->St cxT.ty->Option (V cxT.ty))(k':Option Bool)(hk:k (X82_0 a0 a1)=(k').map n82):∀ (n:Nat) (v0_5:Int),cW prog rB L f82 0 [1,1,0,1,0,0] (dG (bH prog f82) k xk) n (S82_0 a0 a1 v0_5)=(sS L a0 a1 n v0_5 k').map n82
 | 0,_=>rfl
 | n+1,v0_5=>by
  rw[cV,aHq];have ih:=aEH L a0 a1 k xk k' hk n;simp only[sS,bA,aY,aZ,aE,aJ,ih,hk]
def g82 (L:Nat)(a0:(List Int))(a1:(List Int)):Option Bool:=
 bif ((Nat.cast (List.length a0):Int) != (Nat.cast (List.length a1):Int))then some Bool.false
 else sS L a0 a1 L (0:Int) (some Bool.true)
theorem e82 (L:Nat)(a0:(List Int))(a1:(List Int)):fF prog rB (bP L) f82 (a82.enc (a0,a1))=(g82 L a0 a1).map n82:=by
 let K'0:Option Bool:=(some Bool.true)
 have hin0:∀ (v0_5:Int),cW prog rB L f82 0 [1,1,0,1,0,0] (dG (bH prog f82) (cR prog rB L f82 [1,1,0,1] (bH prog f82)).n (cR prog rB L f82 [1,1,0,1] (bH prog f82)).x) L (S82_0 a0 a1 v0_5)=(sS L a0 a1 L v0_5 K'0).map n82:=λv0_5=>aEH L a0 a1 _ _ K'0 (by rw[aGs];simp only[K'0,bA,aY,aZ,aE,aJ]) L v0_5
 rw[i82];simp only[g82,bA,aY,aZ,aE,aJ,hin0,K'0]
theorem s82 (m:((List Int)×(List Int))->Option Bool)(hm:∀ (x:((List Int)×(List Int))) t,m x=some t->∃ L,g82 L x.1 x.2=some t):Sat prog cxT 82 (c82 m):=
 dU cS cK (by rfl) (fn:=f82) rfl a82 n82 aIe m rB cJ bV (λL x=>g82 L x.1 x.2) (λL x=>e82 L x.1 x.2) hm aJ3
def aFG:Env cxT:={ Kc:=eP [],Kw:=eT [],lv:=λi=>[],xv:=λi=>none }
theorem i17 (L:Nat)(a0:(List (Int×(Int×Int))))(a1:Int):fF prog aFG (bP L) f17 (a17.enc (a0,a1))=
 bif (decide ((wrap Go.IntKind.i64 (a1-(Nat.cast (List.length a0):Int))) < (0:Int)))then some (n17 (-(1:Int)))
 else some (n17 (wrap Go.IntKind.i64 (a1-(Nat.cast (List.length a0):Int)))):=by kernel_rfl
def g17 (L:Nat)(a0:(List (Int×(Int×Int))))(a1:Int):Option Int:=
 bif (decide ((wrap Go.IntKind.i64 (a1-(Nat.cast (List.length a0):Int))) < (0:Int)))then some (-(1:Int))
 else some (wrap Go.IntKind.i64 (a1-(Nat.cast (List.length a0):Int)))
theorem e17 (L:Nat)(a0:(List (Int×(Int×Int))))(a1:Int):fF prog aFG (bP L) f17 (a17.enc (a0,a1))=(g17 L a0 a1).map n17:=by
 rw[i17];simp only[g17,bA,aY,aZ,aE,aJ]
theorem s17 (m:((List (Int×(Int×Int)))×Int)->Option Int)(hm:∀ (x:((List (Int×(Int×Int)))×Int)) t,m x=some t->∃ L,g17 L x.1 x.2=some t):Sat prog cxT 17 (c17 m):=
 dU cS cK (by rfl) (fn:=f17) rfl a17 n17 aIK m aFG cJ bV (λL x=>g17 L x.1 x.2) (λL x=>e17 L x.1 x.2) hm aKz
def aFC:Env cxT:={ Kc:=eP [],Kw:=eT [],lv:=λi=>[],xv:=λi=>none }
theorem i31 (L:Nat)(a0:(List (Int×(Int×(Int×(Int×Bool))))))(a1:Int):fF prog aFC (bP L) f31 (a31.enc (a0,a1))=
 bif (decide ((wrap Go.IntKind.i64 (a1-(Nat.cast (List.length a0):Int))) < (0:Int)))then some (n31 (-(1:Int)))
 else some (n31 (wrap Go.IntKind.i64 (a1-(Nat.cast (List.length a0):Int)))):=by kernel_rfl
def g31 (L:Nat)(a0:(List (Int×(Int×(Int×(Int×Bool))))))(a1:Int):Option Int:=
 bif (decide ((wrap Go.IntKind.i64 (a1-(Nat.cast (List.length a0):Int))) < (0:Int)))then some (-(1:Int))
 else some (wrap Go.IntKind.i64 (a1-(Nat.cast (List.length a0):Int)))
theorem e31 (L:Nat)(a0:(List (Int×(Int×(Int×(Int×Bool))))))(a1:Int):fF prog aFC (bP L) f31 (a31.enc (a0,a1))=(g31 L a0 a1).map n31:=by
 rw[i31];simp only[g31,bA,aY,aZ,aE,aJ]
theorem s31 (m:((List (Int×(Int×(Int×(Int×Bool)))))×Int)->Option Int)(hm:∀ (x:((List (Int×(Int×(Int×(Int×Bool)))))×Int)) t,m x=some t->∃ L,g31 L x.1 x.2=some t):Sat prog cxT 31 (c31 m):=
 dU cS cK (by rfl) (fn:=f31) rfl a31 n31 aIC m aFC cJ bV (λL x=>g31 L x.1 x.2) (λL x=>e31 L x.1 x.2) hm aKr
def rM (kB:((Int×Int×Int×(List Int))×Int)->Option Int):Env cxT:={ Kc:=eP [(53,c53 kB)],Kw:=eT [],lv:=λi=>if i=0 then[(0,[some 91]),(1,[]),(5,[])]else[],xv:=λi=>if i=0 then some [(1,[])]else none }
def S32_0 (a0:(List (Int×(Int×(Int×(List Int))))))(a1:Int)(v0_1:Int)(v0_5:Int):St cxT.ty:={ slots:=[(.inl (.inl (ls { own:=0,nm:=0,e:=91,o:=false,xs:=a0 }))),(.inl (.inl (lv (.int .i64 v0_1)))),aP,aP,aP,(.inl (.inl (lv (.int .i64 v0_5))))]++List.replicate 21 aP,D:=[],F:=[],ctr:=1 }
def X32_0 (a0:(List (Int×(Int×(Int×(List Int))))))(a1:Int)(w0_1:Int):St cxT.ty:={ slots:=[aP,(.inl (.inl (lv (.int .i64 w0_1))))]++List.replicate 25 aP,D:=[],F:=[],ctr:=1 }
theorem i32 (kB:((Int×Int×Int×(List Int))×Int)->Option Int)(L:Nat)(a0:(List (Int×(Int×(Int×(List Int))))))(a1:Int):fF prog (rM kB) (bP L) f32 (a32.enc (a0,a1))=
 bif (decide ((wrap Go.IntKind.i64 (a1-(Nat.cast (List.length a0):Int))) < (0:Int)))then some (n32 (-(1:Int)))
 else cW prog (rM kB) L f32 0 [1,1,1,0,1,0,0] (dG (bH prog f32) (cR prog (rM kB) L f32 [1,1,1,0,1] (bH prog f32)).n (cR prog (rM kB) L f32 [1,1,1,0,1] (bH prog f32)).x) L (S32_0 a0 a1 (wrap Go.IntKind.i64 (a1-(Nat.cast (List.length a0):Int))) (0:Int)):=by kernel_rfl
theorem aHB (kB:((Int×Int×Int×(List Int))×Int)->Option Int)(L:Nat)(a0:(List (Int×(Int×(Int×(List Int))))))(a1:Int)(k:St cxT.ty->Option (V cxT.ty))(xk:Nat->St cxT.ty->Option (V cxT.ty))(g:St cxT.ty->Option (V cxT.ty))(v0_1:Int)(v0_5:Int):fL prog (rM kB) L f32 0 [1,1,1,0,1,0,0] (dG (bH prog f32) k xk) g (S32_0 a0 a1 v0_1 v0_5)=
 bif (decide (v0_5 < (Nat.cast (List.length a0):Int)))then bif ((decide ((0:Int)<=v0_5))&&(decide (v0_5 < (Nat.cast (List.length a0):Int))))then dK (kB (((List.getD a0 (Int.toNat v0_5) ((0:Int),((0:Int),((0:Int),([]:List (Int)))))).1,((List.getD a0 (Int.toNat v0_5) ((0:Int),((0:Int),((0:Int),([]:List (Int)))))).2.1,((List.getD a0 (Int.toNat v0_5) ((0:Int),((0:Int),((0:Int),([]:List (Int)))))).2.2.1,(List.getD a0 (Int.toNat v0_5) ((0:Int),((0:Int),((0:Int),([]:List (Int)))))).2.2.2))),v0_1)) (0:Int) λ(q3:Int)=>bif (decide (q3 < (0:Int)))then some (n32 (-(1:Int)))
    else g (S32_0 a0 a1 q3 (wrap Go.IntKind.i64 (v0_5+(1:Int))))
  else none
 else k (X32_0 a0 a1 v0_1):=by kernel_rfl
theorem aGD (kB:((Int×Int×Int×(List Int))×Int)->Option Int)(L:Nat)(a0:(List (Int×(Int×(Int×(List Int))))))(a1:Int)(w0_1:Int):(cR prog (rM kB) L f32 [1,1,1,0,1] (bH prog f32)).n (X32_0 a0 a1 w0_1)=
 some (n32 w0_1):=by kernel_rfl
def tE (kB:((Int×Int×Int×(List Int))×Int)->Option Int)(L:Nat)(a0:(List (Int×(Int×(Int×(List Int))))))(a1:Int):Nat->Int->Int->(Int->Option Int)->Option Int
 | 0,_,_,_=>none
 | n+1,v0_1,v0_5,k=>
  bif (decide (v0_5 < (Nat.cast (List.length a0):Int)))then bif ((decide ((0:Int)<=v0_5))&&(decide (v0_5 < (Nat.cast (List.length a0):Int))))then dK (kB (((List.getD a0 (Int.toNat v0_5) ((0:Int),((0:Int),((0:Int),([]:List (Int)))))).1,((List.getD a0 (Int.toNat v0_5) ((0:Int),((0:Int),((0:Int),([]:List (Int)))))).2.1,((List.getD a0 (Int.toNat v0_5) ((0:Int),((0:Int),((0:Int),([]:List (Int)))))).2.2.1,(List.getD a0 (Int.toNat v0_5) ((0:Int),((0:Int),((0:Int),([]:List (Int)))))).2.2.2))),v0_1)) (0:Int) λ(q4:Int)=>bif (decide (q4 < (0:Int)))then some (-(1:Int))
     else tE kB L a0 a1 n q4 (wrap Go.IntKind.i64 (v0_5+(1:Int))) k
   else none
  else k v0_1
theorem aES (kB:((Int×Int×Int×(List Int))×Int)->Option Int)(L:Nat)(a0:(List (Int×(Int×(Int×(List Int))))))(a1:Int)(k:St cxT.ty->Option (V cxT.ty))(xk:Nat->St cxT.ty->Option (V cxT.ty))(k':Int->Option Int)(hk:∀ (w0_1:Int),k (X32_0 a0 a1 w0_1)=(k' w0_1).map n32):∀ (n:Nat) (v0_1:Int) (v0_5:Int),cW prog (rM kB) L f32 0 [1,1,1,0,1,0,0] (dG (bH prog f32) k xk) n (S32_0 a0 a1 v0_1 v0_5)=(tE kB L a0 a1 n v0_1 v0_5 k').map n32
 | 0,_,_=>rfl
 | n+1,v0_1,v0_5=>by
  rw[cV,aHB];have ih:=aES kB L a0 a1 k xk k' hk n;simp only[tE,bA,aY,aZ,aE,aJ,ih,hk]
def g32 (kB:((Int×Int×Int×(List Int))×Int)->Option Int)(L:Nat)(a0:(List (Int×(Int×(Int×(List Int))))))(a1:Int):Option Int:=
 bif (decide ((wrap Go.IntKind.i64 (a1-(Nat.cast (List.length a0):Int))) < (0:Int)))then some (-(1:Int))
 else tE kB L a0 a1 L (wrap Go.IntKind.i64 (a1-(Nat.cast (List.length a0):Int))) (0:Int) (λ(w0_1:Int)=>some w0_1)
theorem e32 (kB:((Int×Int×Int×(List Int))×Int)->Option Int)(L:Nat)(a0:(List (Int×(Int×(Int×(List Int))))))(a1:Int):fF prog (rM kB) (bP L) f32 (a32.enc (a0,a1))=(g32 kB L a0 a1).map n32:=by
 let K'0:Int->Option Int:=(λ(w0_1:Int)=>some w0_1)
 have hin0:∀ (v0_1:Int) (v0_5:Int),cW prog (rM kB) L f32 0 [1,1,1,0,1,0,0] (dG (bH prog f32) (cR prog (rM kB) L f32 [1,1,1,0,1] (bH prog f32)).n (cR prog (rM kB) L f32 [1,1,1,0,1] (bH prog f32)).x) L (S32_0 a0 a1 v0_1 v0_5)=(tE kB L a0 a1 L v0_1 v0_5 K'0).map n32:=λv0_1 v0_5=>aES kB L a0 a1 _ _ K'0 (λw0_1=>by rw[aGD];simp only[K'0,bA,aY,aZ,aE,aJ]) L v0_1 v0_5
 rw[i32];simp only[g32,bA,aY,aZ,aE,aJ,hin0,K'0]
theorem s32 (kB:((Int×Int×Int×(List Int))×Int)->Option Int)(h53:Sat prog cxT 53 (c53 kB))(m:((List (Int×(Int×(Int×(List Int)))))×Int)->Option Int)(hm:∀ (x:((List (Int×(Int×(Int×(List Int)))))×Int)) t,m x=some t->∃ L,g32 kB L x.1 x.2=some t):Sat prog cxT 32 (c32 m):=
 dU cS cK (by rfl) (fn:=f32) rfl a32 n32 aIB m (rM kB) (bY h53 cJ) bV (λL x=>g32 kB L x.1 x.2) (λL x=>e32 kB L x.1 x.2) hm aKq
def rL (m57:(Int×Int×Int×Int×Bool)->Option (Int×Int×Int×Int×Bool)):Env cxT:={ Kc:=eP [(57,c57 m57)],Kw:=eT [],lv:=λi=>if i=0 then[(0,[some 94]),(3,[some 75]),(4,[])]else[],xv:=λi=>if i=0 then some [(3,[some 75])]else none }
def S35_0 (a0:(List (Int×(Int×(Int×(Int×Bool))))))(v0_3:(List (Int×(Int×(Int×(Int×Bool))))))(v0_4:Int):St cxT.ty:={ slots:=[(.inl (.inl (ls { own:=0,nm:=0,e:=94,o:=false,xs:=a0 }))),aP,aP,(.inl (.inl (ls { own:=1,nm:=192,e:=75,o:=true,xs:=v0_3 }))),(.inl (.inl (lv (.int .i64 v0_4))))]++List.replicate 18 aP,D:=[],F:=[],ctr:=1 }
def X35_0 (a0:(List (Int×(Int×(Int×(Int×Bool))))))(w0_3:(List (Int×(Int×(Int×(Int×Bool)))))):St cxT.ty:={ slots:=[aP,aP,aP,(.inl (.inl (ls { own:=1,nm:=192,e:=75,o:=true,xs:=w0_3 })))]++List.replicate 19 aP,D:=[],F:=[],ctr:=1 }
theorem i35 (m57:(Int×Int×Int×Int×Bool)->Option (Int×Int×Int×Int×Bool))(L:Nat)(a0:(List (Int×(Int×(Int×(Int×Bool)))))):fF prog (rL m57) (bP L) f35 (a35.enc a0)=
 bif (((decide ((0:Int)<=(Nat.cast (List.length a0):Int)))&&(decide ((Nat.cast (List.length a0):Int)<=(Nat.cast (List.length a0):Int))))&&(decide ((Nat.cast (List.length a0):Int)<=(1000000000:Int))))then cW prog (rL m57) L f35 0 [1,1,0,1,0,0] (dG (bH prog f35) (cR prog (rL m57) L f35 [1,1,0,1] (bH prog f35)).n (cR prog (rL m57) L f35 [1,1,0,1] (bH prog f35)).x) L (S35_0 a0 (List.replicate (Int.toNat (Nat.cast (List.length a0):Int)) ((0:Int),((0:Int),((0:Int),((0:Int),Bool.false))))) (0:Int))
 else none:=by kernel_rfl
theorem aHA (m57:(Int×Int×Int×Int×Bool)->Option (Int×Int×Int×Int×Bool))(L:Nat)(a0:(List (Int×(Int×(Int×(Int×Bool))))))(k:St cxT.ty->Option (V cxT.ty))(xk:Nat->St cxT.ty->Option (V cxT.ty))(g:St cxT.ty->Option (V cxT.ty))(v0_3:(List (Int×(Int×(Int×(Int×Bool))))))(v0_4:Int):fL prog (rL m57) L f35 0 [1,1,0,1,0,0] (dG (bH prog f35) k xk) g (S35_0 a0 v0_3 v0_4)=
 bif (decide (v0_4 < (Nat.cast (List.length a0):Int)))then bif ((decide ((0:Int)<=v0_4))&&(decide (v0_4 < (Nat.cast (List.length a0):Int))))then dK (m57 ((List.getD a0 (Int.toNat v0_4) ((0:Int),((0:Int),((0:Int),((0:Int),Bool.false))))).1,((List.getD a0 (Int.toNat v0_4) ((0:Int),((0:Int),((0:Int),((0:Int),Bool.false))))).2.1,((List.getD a0 (Int.toNat v0_4) ((0:Int),((0:Int),((0:Int),((0:Int),Bool.false))))).2.2.1,((List.getD a0 (Int.toNat v0_4) ((0:Int),((0:Int),((0:Int),((0:Int),Bool.false))))).2.2.2.1,(List.getD a0 (Int.toNat v0_4) ((0:Int),((0:Int),((0:Int),((0:Int),Bool.false))))).2.2.2.2))))) ((0:Int),(0:Int),(0:Int),(0:Int),false) λ(q3:(Int×Int×Int×Int×Bool))=>bif ((decide ((0:Int)<=v0_4))&&(decide (v0_4 < (Nat.cast (List.length v0_3):Int))))then g (S35_0 a0 (List.set v0_3 (Int.toNat v0_4) (q3.1,(q3.2.1,(q3.2.2.1,(q3.2.2.2.1,q3.2.2.2.2))))) (wrap Go.IntKind.i64 (v0_4+(1:Int))))
    else none
  else none
 else k (X35_0 a0 v0_3):=by kernel_rfl
theorem aGC (m57:(Int×Int×Int×Int×Bool)->Option (Int×Int×Int×Int×Bool))(L:Nat)(a0:(List (Int×(Int×(Int×(Int×Bool))))))(w0_3:(List (Int×(Int×(Int×(Int×Bool)))))):(cR prog (rL m57) L f35 [1,1,0,1] (bH prog f35)).n (X35_0 a0 w0_3)=
 some (n35 w0_3):=by kernel_rfl
def tD (m57:(Int×Int×Int×Int×Bool)->Option (Int×Int×Int×Int×Bool))(L:Nat)(a0:(List (Int×(Int×(Int×(Int×Bool)))))):Nat->(List (Int×(Int×(Int×(Int×Bool)))))->Int->((List (Int×(Int×(Int×(Int×Bool)))))->Option (List (Int×(Int×(Int×(Int×Bool))))))->Option (List (Int×(Int×(Int×(Int×Bool)))))
 | 0,_,_,_=>none
 | n+1,v0_3,v0_4,k=>
  bif (decide (v0_4 < (Nat.cast (List.length a0):Int)))then bif ((decide ((0:Int)<=v0_4))&&(decide (v0_4 < (Nat.cast (List.length a0):Int))))then dK (m57 ((List.getD a0 (Int.toNat v0_4) ((0:Int),((0:Int),((0:Int),((0:Int),Bool.false))))).1,((List.getD a0 (Int.toNat v0_4) ((0:Int),((0:Int),((0:Int),((0:Int),Bool.false))))).2.1,((List.getD a0 (Int.toNat v0_4) ((0:Int),((0:Int),((0:Int),((0:Int),Bool.false))))).2.2.1,((List.getD a0 (Int.toNat v0_4) ((0:Int),((0:Int),((0:Int),((0:Int),Bool.false))))).2.2.2.1,(List.getD a0 (Int.toNat v0_4) ((0:Int),((0:Int),((0:Int),((0:Int),Bool.false))))).2.2.2.2))))) ((0:Int),(0:Int),(0:Int),(0:Int),false) λ(q4:(Int×Int×Int×Int×Bool))=>bif ((decide ((0:Int)<=v0_4))&&(decide (v0_4 < (Nat.cast (List.length v0_3):Int))))then tD m57 L a0 n (List.set v0_3 (Int.toNat v0_4) (q4.1,(q4.2.1,(q4.2.2.1,(q4.2.2.2.1,q4.2.2.2.2))))) (wrap Go.IntKind.i64 (v0_4+(1:Int))) k
     else none
   else none
  else k v0_3
theorem aER (m57:(Int×Int×Int×Int×Bool)->Option (Int×Int×Int×Int×Bool))(L:Nat)(a0:(List (Int×(Int×(Int×(Int×Bool))))))(k:St cxT.ty->Option (V cxT.ty))(xk:Nat->St cxT.ty->Option (V cxT.ty))(k':(List (Int×(Int×(Int×(Int×Bool)))))->Option (List (Int×(Int×(Int×(Int×Bool))))))(hk:∀ (w0_3:(List (Int×(Int×(Int×(Int×Bool)))))),k (X35_0 a0 w0_3)=(k' w0_3).map n35):∀ (n:Nat) (v0_3:(List (Int×(Int×(Int×(Int×Bool)))))) (v0_4:Int),cW prog (rL m57) L f35 0 [1,1,0,1,0,0] (dG (bH prog f35) k xk) n (S35_0 a0 v0_3 v0_4)=(tD m57 L a0 n v0_3 v0_4 k').map n35
 | 0,_,_=>rfl
 | n+1,v0_3,v0_4=>by
  rw[cV,aHA];have ih:=aER m57 L a0 k xk k' hk n;simp only[tD,bA,aY,aZ,aE,aJ,ih,hk]
def g35 (m57:(Int×Int×Int×Int×Bool)->Option (Int×Int×Int×Int×Bool))(L:Nat)(a0:(List (Int×(Int×(Int×(Int×Bool)))))):Option (List (Int×(Int×(Int×(Int×Bool))))):=
 bif (((decide ((0:Int)<=(Nat.cast (List.length a0):Int)))&&(decide ((Nat.cast (List.length a0):Int)<=(Nat.cast (List.length a0):Int))))&&(decide ((Nat.cast (List.length a0):Int)<=(1000000000:Int))))then tD m57 L a0 L (List.replicate (Int.toNat (Nat.cast (List.length a0):Int)) ((0:Int),((0:Int),((0:Int),((0:Int),Bool.false))))) (0:Int) (λ(w0_3:(List (Int×(Int×(Int×(Int×Bool))))))=>some w0_3)
 else none
theorem e35 (m57:(Int×Int×Int×Int×Bool)->Option (Int×Int×Int×Int×Bool))(L:Nat)(a0:(List (Int×(Int×(Int×(Int×Bool)))))):fF prog (rL m57) (bP L) f35 (a35.enc a0)=(g35 m57 L a0).map n35:=by
 let K'0:(List (Int×(Int×(Int×(Int×Bool)))))->Option (List (Int×(Int×(Int×(Int×Bool))))):=(λ(w0_3:(List (Int×(Int×(Int×(Int×Bool))))))=>some w0_3)
 have hin0:∀ (v0_3:(List (Int×(Int×(Int×(Int×Bool)))))) (v0_4:Int),cW prog (rL m57) L f35 0 [1,1,0,1,0,0] (dG (bH prog f35) (cR prog (rL m57) L f35 [1,1,0,1] (bH prog f35)).n (cR prog (rL m57) L f35 [1,1,0,1] (bH prog f35)).x) L (S35_0 a0 v0_3 v0_4)=(tD m57 L a0 L v0_3 v0_4 K'0).map n35:=λv0_3 v0_4=>aER m57 L a0 _ _ K'0 (λw0_3=>by rw[aGC];simp only[K'0,bA,aY,aZ,aE,aJ]) L v0_3 v0_4
 rw[i35];simp only[g35,bA,aY,aZ,aE,aJ,hin0,K'0]
theorem s35 (m57:(Int×Int×Int×Int×Bool)->Option (Int×Int×Int×Int×Bool))(h57:Sat prog cxT 57 (c57 m57))(m:(List (Int×(Int×(Int×(Int×Bool)))))->Option (List (Int×(Int×(Int×(Int×Bool))))))(hm:∀ (x:(List (Int×(Int×(Int×(Int×Bool)))))) t,m x=some t->∃ L,g35 m57 L x=some t):Sat prog cxT 35 (c35 m):=
 dU cS cK (by rfl) (fn:=f35) rfl a35 n35 aIA m (rL m57) (bY h57 cJ) bV (λL x=>g35 m57 L x) (λL x=>e35 m57 L x) hm aKp
def rK (kL:(Int×Int×Int×(List Int))->Option (Int×Int×Int×(List Int))):Env cxT:={ Kc:=eP [(58,c58 kL)],Kw:=eT [],lv:=λi=>if i=0 then[(0,[some 91]),(3,[some 79]),(4,[])]else[],xv:=λi=>if i=0 then some [(3,[some 79])]else none }
def S36_0 (a0:(List (Int×(Int×(Int×(List Int))))))(v0_3:(List (Int×(Int×(Int×(List Int))))))(v0_4:Int):St cxT.ty:={ slots:=[(.inl (.inl (ls { own:=0,nm:=0,e:=91,o:=false,xs:=a0 }))),aP,aP,(.inl (.inl (ls { own:=1,nm:=192,e:=79,o:=true,xs:=v0_3 }))),(.inl (.inl (lv (.int .i64 v0_4))))]++List.replicate 18 aP,D:=[],F:=[],ctr:=1 }
def X36_0 (a0:(List (Int×(Int×(Int×(List Int))))))(w0_3:(List (Int×(Int×(Int×(List Int)))))):St cxT.ty:={ slots:=[aP,aP,aP,(.inl (.inl (ls { own:=1,nm:=192,e:=79,o:=true,xs:=w0_3 })))]++List.replicate 19 aP,D:=[],F:=[],ctr:=1 }
theorem i36 (kL:(Int×Int×Int×(List Int))->Option (Int×Int×Int×(List Int)))(L:Nat)(a0:(List (Int×(Int×(Int×(List Int)))))):fF prog (rK kL) (bP L) f36 (a36.enc a0)=
 bif (((decide ((0:Int)<=(Nat.cast (List.length a0):Int)))&&(decide ((Nat.cast (List.length a0):Int)<=(Nat.cast (List.length a0):Int))))&&(decide ((Nat.cast (List.length a0):Int)<=(1000000000:Int))))then cW prog (rK kL) L f36 0 [1,1,0,1,0,0] (dG (bH prog f36) (cR prog (rK kL) L f36 [1,1,0,1] (bH prog f36)).n (cR prog (rK kL) L f36 [1,1,0,1] (bH prog f36)).x) L (S36_0 a0 (List.replicate (Int.toNat (Nat.cast (List.length a0):Int)) ((0:Int),((0:Int),((0:Int),([]:List (Int)))))) (0:Int))
 else none:=by kernel_rfl
theorem aHz (kL:(Int×Int×Int×(List Int))->Option (Int×Int×Int×(List Int)))(L:Nat)(a0:(List (Int×(Int×(Int×(List Int))))))(k:St cxT.ty->Option (V cxT.ty))(xk:Nat->St cxT.ty->Option (V cxT.ty))(g:St cxT.ty->Option (V cxT.ty))(v0_3:(List (Int×(Int×(Int×(List Int))))))(v0_4:Int):fL prog (rK kL) L f36 0 [1,1,0,1,0,0] (dG (bH prog f36) k xk) g (S36_0 a0 v0_3 v0_4)=
 bif (decide (v0_4 < (Nat.cast (List.length a0):Int)))then bif ((decide ((0:Int)<=v0_4))&&(decide (v0_4 < (Nat.cast (List.length a0):Int))))then dK (kL ((List.getD a0 (Int.toNat v0_4) ((0:Int),((0:Int),((0:Int),([]:List (Int)))))).1,((List.getD a0 (Int.toNat v0_4) ((0:Int),((0:Int),((0:Int),([]:List (Int)))))).2.1,((List.getD a0 (Int.toNat v0_4) ((0:Int),((0:Int),((0:Int),([]:List (Int)))))).2.2.1,(List.getD a0 (Int.toNat v0_4) ((0:Int),((0:Int),((0:Int),([]:List (Int)))))).2.2.2)))) ((0:Int),(0:Int),(0:Int),[]) λ(q3:(Int×Int×Int×(List Int)))=>bif ((decide ((0:Int)<=v0_4))&&(decide (v0_4 < (Nat.cast (List.length v0_3):Int))))then g (S36_0 a0 (List.set v0_3 (Int.toNat v0_4) (q3.1,(q3.2.1,(q3.2.2.1,q3.2.2.2)))) (wrap Go.IntKind.i64 (v0_4+(1:Int))))
    else none
  else none
 else k (X36_0 a0 v0_3):=by kernel_rfl
theorem aGB (kL:(Int×Int×Int×(List Int))->Option (Int×Int×Int×(List Int)))(L:Nat)(a0:(List (Int×(Int×(Int×(List Int))))))(w0_3:(List (Int×(Int×(Int×(List Int)))))):(cR prog (rK kL) L f36 [1,1,0,1] (bH prog f36)).n (X36_0 a0 w0_3)=
 some (n36 w0_3):=by kernel_rfl
def tC (kL:(Int×Int×Int×(List Int))->Option (Int×Int×Int×(List Int)))(L:Nat)(a0:(List (Int×(Int×(Int×(List Int)))))):Nat->(List (Int×(Int×(Int×(List Int)))))->Int->((List (Int×(Int×(Int×(List Int)))))->Option (List (Int×(Int×(Int×(List Int))))))->Option (List (Int×(Int×(Int×(List Int)))))
 | 0,_,_,_=>none
 | n+1,v0_3,v0_4,k=>
  bif (decide (v0_4 < (Nat.cast (List.length a0):Int)))then bif ((decide ((0:Int)<=v0_4))&&(decide (v0_4 < (Nat.cast (List.length a0):Int))))then dK (kL ((List.getD a0 (Int.toNat v0_4) ((0:Int),((0:Int),((0:Int),([]:List (Int)))))).1,((List.getD a0 (Int.toNat v0_4) ((0:Int),((0:Int),((0:Int),([]:List (Int)))))).2.1,((List.getD a0 (Int.toNat v0_4) ((0:Int),((0:Int),((0:Int),([]:List (Int)))))).2.2.1,(List.getD a0 (Int.toNat v0_4) ((0:Int),((0:Int),((0:Int),([]:List (Int)))))).2.2.2)))) ((0:Int),(0:Int),(0:Int),[]) λ(q4:(Int×Int×Int×(List Int)))=>bif ((decide ((0:Int)<=v0_4))&&(decide (v0_4 < (Nat.cast (List.length v0_3):Int))))then tC kL L a0 n (List.set v0_3 (Int.toNat v0_4) (q4.1,(q4.2.1,(q4.2.2.1,q4.2.2.2)))) (wrap Go.IntKind.i64 (v0_4+(1:Int))) k
     else none
   else none
  else k v0_3
theorem aEQ (kL:(Int×Int×Int×(List Int))->Option (Int×Int×Int×(List Int)))(L:Nat)(a0:(List (Int×(Int×(Int×(List Int))))))(k:St cxT.ty->Option (V cxT.ty))(xk:Nat->St cxT.ty->Option (V cxT.ty))(k':(List (Int×(Int×(Int×(List Int)))))->Option (List (Int×(Int×(Int×(List Int))))))(hk:∀ (w0_3:(List (Int×(Int×(Int×(List Int)))))),k (X36_0 a0 w0_3)=(k' w0_3).map n36):∀ (n:Nat) (v0_3:(List (Int×(Int×(Int×(List Int)))))) (v0_4:Int),cW prog (rK kL) L f36 0 [1,1,0,1,0,0] (dG (bH prog f36) k xk) n (S36_0 a0 v0_3 v0_4)=(tC kL L a0 n v0_3 v0_4 k').map n36
 | 0,_,_=>rfl
 | n+1,v0_3,v0_4=>by
  rw[cV,aHz];have ih:=aEQ kL L a0 k xk k' hk n;simp only[tC,bA,aY,aZ,aE,aJ,ih,hk]
def g36 (kL:(Int×Int×Int×(List Int))->Option (Int×Int×Int×(List Int)))(L:Nat)(a0:(List (Int×(Int×(Int×(List Int)))))):Option (List (Int×(Int×(Int×(List Int))))):=
 bif (((decide ((0:Int)<=(Nat.cast (List.length a0):Int)))&&(decide ((Nat.cast (List.length a0):Int)<=(Nat.cast (List.length a0):Int))))&&(decide ((Nat.cast (List.length a0):Int)<=(1000000000:Int))))then tC kL L a0 L (List.replicate (Int.toNat (Nat.cast (List.length a0):Int)) ((0:Int),((0:Int),((0:Int),([]:List (Int)))))) (0:Int) (λ(w0_3:(List (Int×(Int×(Int×(List Int))))))=>some w0_3)
 else none
theorem e36 (kL:(Int×Int×Int×(List Int))->Option (Int×Int×Int×(List Int)))(L:Nat)(a0:(List (Int×(Int×(Int×(List Int)))))):fF prog (rK kL) (bP L) f36 (a36.enc a0)=(g36 kL L a0).map n36:=by
 let K'0:(List (Int×(Int×(Int×(List Int)))))->Option (List (Int×(Int×(Int×(List Int))))):=(λ(w0_3:(List (Int×(Int×(Int×(List Int))))))=>some w0_3)
 have hin0:∀ (v0_3:(List (Int×(Int×(Int×(List Int)))))) (v0_4:Int),cW prog (rK kL) L f36 0 [1,1,0,1,0,0] (dG (bH prog f36) (cR prog (rK kL) L f36 [1,1,0,1] (bH prog f36)).n (cR prog (rK kL) L f36 [1,1,0,1] (bH prog f36)).x) L (S36_0 a0 v0_3 v0_4)=(tC kL L a0 L v0_3 v0_4 K'0).map n36:=λv0_3 v0_4=>aEQ kL L a0 _ _ K'0 (λw0_3=>by rw[aGB];simp only[K'0,bA,aY,aZ,aE,aJ]) L v0_3 v0_4
 rw[i36];simp only[g36,bA,aY,aZ,aE,aJ,hin0,K'0]
theorem s36 (kL:(Int×Int×Int×(List Int))->Option (Int×Int×Int×(List Int)))(h58:Sat prog cxT 58 (c58 kL))(m:(List (Int×(Int×(Int×(List Int)))))->Option (List (Int×(Int×(Int×(List Int))))))(hm:∀ (x:(List (Int×(Int×(Int×(List Int)))))) t,m x=some t->∃ L,g36 kL L x=some t):Sat prog cxT 36 (c36 m):=
 dU cS cK (by rfl) (fn:=f36) rfl a36 n36 aIz m (rK kL) (bY h58 cJ) bV (λL x=>g36 kL L x) (λL x=>e36 kL L x) hm aKo
def aFH (vE:((List (Int×(Int×(Int×(Int×Bool)))))×Int)->Option Int)(vD:((List (Int×(Int×(Int×(List Int)))))×Int)->Option Int):Env cxT:={ Kc:=eP [(31,c31 vE),(32,c32 vD)],Kw:=eT [],lv:=λi=>[],xv:=λi=>none }
theorem i16 (vE:((List (Int×(Int×(Int×(Int×Bool)))))×Int)->Option Int)(vD:((List (Int×(Int×(Int×(List Int)))))×Int)->Option Int)(L:Nat)(a0_0:Int)(a0_1:(List (Int×(Int×(Int×(Int×Bool))))))(a0_2:(List (Int×(Int×(Int×(List Int))))))(a1:Int):fF prog (aFH vE vD) (bP L) f16 (a16.enc ((a0_0,a0_1,a0_2),a1))=
 dK (vE (a0_1,a1)) (0:Int) λ(q1:Int)=>bif (decide (q1 < (0:Int)))then some (n16 (-(1:Int)))
  else dK (vD (a0_2,q1)) (0:Int) λ(q2:Int)=>bif (decide (q2 < (0:Int)))then some (n16 (-(1:Int)))
   else some (n16 q2):=by kernel_rfl
def g16 (vE:((List (Int×(Int×(Int×(Int×Bool)))))×Int)->Option Int)(vD:((List (Int×(Int×(Int×(List Int)))))×Int)->Option Int)(L:Nat)(a0_0:Int)(a0_1:(List (Int×(Int×(Int×(Int×Bool))))))(a0_2:(List (Int×(Int×(Int×(List Int))))))(a1:Int):Option Int:=
 dK (vE (a0_1,a1)) (0:Int) λ(q1:Int)=>bif (decide (q1 < (0:Int)))then some (-(1:Int))
  else dK (vD (a0_2,q1)) (0:Int) λ(q2:Int)=>bif (decide (q2 < (0:Int)))then some (-(1:Int))
   else some q2
theorem e16 (vE:((List (Int×(Int×(Int×(Int×Bool)))))×Int)->Option Int)(vD:((List (Int×(Int×(Int×(List Int)))))×Int)->Option Int)(L:Nat)(a0_0:Int)(a0_1:(List (Int×(Int×(Int×(Int×Bool))))))(a0_2:(List (Int×(Int×(Int×(List Int))))))(a1:Int):fF prog (aFH vE vD) (bP L) f16 (a16.enc ((a0_0,a0_1,a0_2),a1))=(g16 vE vD L a0_0 a0_1 a0_2 a1).map n16:=by
 rw[i16];simp only[g16,bA,aY,aZ,aE,aJ]
theorem s16 (vE:((List (Int×(Int×(Int×(Int×Bool)))))×Int)->Option Int)(vD:((List (Int×(Int×(Int×(List Int)))))×Int)->Option Int)(h31:Sat prog cxT 31 (c31 vE))(h32:Sat prog cxT 32 (c32 vD))(m:((Int×(List (Int×(Int×(Int×(Int×Bool)))))×(List (Int×(Int×(Int×(List Int))))))×Int)->Option Int)(hm:∀ (x:((Int×(List (Int×(Int×(Int×(Int×Bool)))))×(List (Int×(Int×(Int×(List Int))))))×Int)) t,m x=some t->∃ L,g16 vE vD L x.1.1 x.1.2.1 x.1.2.2 x.2=some t):Sat prog cxT 16 (c16 m):=
 dU cS cK (by rfl) (fn:=f16) rfl a16 n16 aIL m (aFH vE vD) (bY h31 (bY h32 cJ)) bV (λL x=>g16 vE vD L x.1.1 x.1.2.1 x.1.2.2 x.2) (λL x=>e16 vE vD L x.1.1 x.1.2.1 x.1.2.2 x.2) hm aKA
def aFF (vC:(List (Int×(Int×(Int×(Int×Bool)))))->Option (List (Int×(Int×(Int×(Int×Bool))))))(vB:(List (Int×(Int×(Int×(List Int)))))->Option (List (Int×(Int×(Int×(List Int)))))):Env cxT:={ Kc:=eP [(35,c35 vC),(36,c36 vB)],Kw:=eT [],lv:=λi=>[],xv:=λi=>none }
theorem i19 (vC:(List (Int×(Int×(Int×(Int×Bool)))))->Option (List (Int×(Int×(Int×(Int×Bool))))))(vB:(List (Int×(Int×(Int×(List Int)))))->Option (List (Int×(Int×(Int×(List Int))))))(L:Nat)(a0_0:Int)(a0_1:(List (Int×(Int×(Int×(Int×Bool))))))(a0_2:(List (Int×(Int×(Int×(List Int)))))):fF prog (aFF vC vB) (bP L) f19 (a19.enc (a0_0,a0_1,a0_2))=
 dK (vC a0_1) [] λ(q1:(List (Int×(Int×(Int×(Int×Bool))))))=>dK (vB a0_2) [] λ(q2:(List (Int×(Int×(Int×(List Int))))))=>some (n19 (a0_0,q1,q2)):=by kernel_rfl
def g19 (vC:(List (Int×(Int×(Int×(Int×Bool)))))->Option (List (Int×(Int×(Int×(Int×Bool))))))(vB:(List (Int×(Int×(Int×(List Int)))))->Option (List (Int×(Int×(Int×(List Int))))))(L:Nat)(a0_0:Int)(a0_1:(List (Int×(Int×(Int×(Int×Bool))))))(a0_2:(List (Int×(Int×(Int×(List Int)))))):Option (Int×(List (Int×(Int×(Int×(Int×Bool)))))×(List (Int×(Int×(Int×(List Int)))))):=
 dK (vC a0_1) [] λ(q1:(List (Int×(Int×(Int×(Int×Bool))))))=>dK (vB a0_2) [] λ(q2:(List (Int×(Int×(Int×(List Int))))))=>some (a0_0,q1,q2)
theorem e19 (vC:(List (Int×(Int×(Int×(Int×Bool)))))->Option (List (Int×(Int×(Int×(Int×Bool))))))(vB:(List (Int×(Int×(Int×(List Int)))))->Option (List (Int×(Int×(Int×(List Int))))))(L:Nat)(a0_0:Int)(a0_1:(List (Int×(Int×(Int×(Int×Bool))))))(a0_2:(List (Int×(Int×(Int×(List Int)))))):fF prog (aFF vC vB) (bP L) f19 (a19.enc (a0_0,a0_1,a0_2))=(g19 vC vB L a0_0 a0_1 a0_2).map n19:=by
 rw[i19];simp only[g19,bA,aY,aZ,aE,aJ]
theorem s19 (vC:(List (Int×(Int×(Int×(Int×Bool)))))->Option (List (Int×(Int×(Int×(Int×Bool))))))(vB:(List (Int×(Int×(Int×(List Int)))))->Option (List (Int×(Int×(Int×(List Int))))))(h35:Sat prog cxT 35 (c35 vC))(h36:Sat prog cxT 36 (c36 vB))(m:(Int×(List (Int×(Int×(Int×(Int×Bool)))))×(List (Int×(Int×(Int×(List Int))))))->Option (Int×(List (Int×(Int×(Int×(Int×Bool)))))×(List (Int×(Int×(Int×(List Int)))))))(hm:∀ (x:(Int×(List (Int×(Int×(Int×(Int×Bool)))))×(List (Int×(Int×(Int×(List Int))))))) t,m x=some t->∃ L,g19 vC vB L x.1 x.2.1 x.2.2=some t):Sat prog cxT 19 (c19 m):=
 dU cS cK (by rfl) (fn:=f19) rfl a19 n19 aIJ m (aFF vC vB) (bY h35 (bY h36 cJ)) bV (λL x=>g19 vC vB L x.1 x.2.1 x.2.2) (λL x=>e19 vC vB L x.1 x.2.1 x.2.2) hm aKy
def aFB:Env cxT:={ Kc:=eP [],Kw:=eT [],lv:=λi=>[],xv:=λi=>none }
theorem i37 (L:Nat)(a0_0:Int)(a0_1:Int)(a0_2:Int):fF prog aFB (bP L) f37 (a37.enc (a0_0,a0_1,a0_2))=
 some (n37 (a0_0,a0_1,a0_2)):=by kernel_rfl
def g37 (L:Nat)(a0_0:Int)(a0_1:Int)(a0_2:Int):Option (Int×Int×Int):=
 some (a0_0,a0_1,a0_2)
theorem e37 (L:Nat)(a0_0:Int)(a0_1:Int)(a0_2:Int):fF prog aFB (bP L) f37 (a37.enc (a0_0,a0_1,a0_2))=(g37 L a0_0 a0_1 a0_2).map n37:=by
 rw[i37];simp only[g37,bA,aY,aZ,aE,aJ]
theorem s37 (m:(Int×Int×Int)->Option (Int×Int×Int))(hm:∀ (x:(Int×Int×Int)) t,m x=some t->∃ L,g37 L x.1 x.2.1 x.2.2=some t):Sat prog cxT 37 (c37 m):=
 dU cS cK (by rfl) (fn:=f37) rfl a37 n37 aIy m aFB cJ bV (λL x=>g37 L x.1 x.2.1 x.2.2) (λL x=>e37 L x.1 x.2.1 x.2.2) hm aKn
def rP (m37:(Int×Int×Int)->Option (Int×Int×Int)):Env cxT:={ Kc:=eP [(37,c37 m37)],Kw:=eT [],lv:=λi=>if i=0 then[(0,[some 72]),(3,[some 55]),(4,[])]else[],xv:=λi=>if i=0 then some [(3,[some 55])]else none }
def S20_0 (a0:(List (Int×(Int×Int))))(v0_3:(List (Int×(Int×Int))))(v0_4:Int):St cxT.ty:={ slots:=[(.inl (.inl (ls { own:=0,nm:=0,e:=72,o:=false,xs:=a0 }))),aP,aP,(.inl (.inl (ls { own:=1,nm:=192,e:=55,o:=true,xs:=v0_3 }))),(.inl (.inl (lv (.int .i64 v0_4))))]++List.replicate 18 aP,D:=[],F:=[],ctr:=1 }
def X20_0 (a0:(List (Int×(Int×Int))))(w0_3:(List (Int×(Int×Int)))):St cxT.ty:={ slots:=[aP,aP,aP,(.inl (.inl (ls { own:=1,nm:=192,e:=55,o:=true,xs:=w0_3 })))]++List.replicate 19 aP,D:=[],F:=[],ctr:=1 }
theorem i20 (m37:(Int×Int×Int)->Option (Int×Int×Int))(L:Nat)(a0:(List (Int×(Int×Int)))):fF prog (rP m37) (bP L) f20 (a20.enc a0)=
 bif (((decide ((0:Int)<=(Nat.cast (List.length a0):Int)))&&(decide ((Nat.cast (List.length a0):Int)<=(Nat.cast (List.length a0):Int))))&&(decide ((Nat.cast (List.length a0):Int)<=(1000000000:Int))))then cW prog (rP m37) L f20 0 [1,1,0,1,0,0] (dG (bH prog f20) (cR prog (rP m37) L f20 [1,1,0,1] (bH prog f20)).n (cR prog (rP m37) L f20 [1,1,0,1] (bH prog f20)).x) L (S20_0 a0 (List.replicate (Int.toNat (Nat.cast (List.length a0):Int)) ((0:Int),((0:Int),(0:Int)))) (0:Int))
 else none:=by kernel_rfl
theorem aHG (m37:(Int×Int×Int)->Option (Int×Int×Int))(L:Nat)(a0:(List (Int×(Int×Int))))(k:St cxT.ty->Option (V cxT.ty))(xk:Nat->St cxT.ty->Option (V cxT.ty))(g:St cxT.ty->Option (V cxT.ty))(v0_3:(List (Int×(Int×Int))))(v0_4:Int):fL prog (rP m37) L f20 0 [1,1,0,1,0,0] (dG (bH prog f20) k xk) g (S20_0 a0 v0_3 v0_4)=
 bif (decide (v0_4 < (Nat.cast (List.length a0):Int)))then bif ((decide ((0:Int)<=v0_4))&&(decide (v0_4 < (Nat.cast (List.length a0):Int))))then dK (m37 ((List.getD a0 (Int.toNat v0_4) ((0:Int),((0:Int),(0:Int)))).1,((List.getD a0 (Int.toNat v0_4) ((0:Int),((0:Int),(0:Int)))).2.1,(List.getD a0 (Int.toNat v0_4) ((0:Int),((0:Int),(0:Int)))).2.2))) ((0:Int),(0:Int),(0:Int)) λ(q3:(Int×Int×Int))=>bif ((decide ((0:Int)<=v0_4))&&(decide (v0_4 < (Nat.cast (List.length v0_3):Int))))then g (S20_0 a0 (List.set v0_3 (Int.toNat v0_4) (q3.1,(q3.2.1,q3.2.2))) (wrap Go.IntKind.i64 (v0_4+(1:Int))))
    else none
  else none
 else k (X20_0 a0 v0_3):=by kernel_rfl
theorem aGI (m37:(Int×Int×Int)->Option (Int×Int×Int))(L:Nat)(a0:(List (Int×(Int×Int))))(w0_3:(List (Int×(Int×Int)))):(cR prog (rP m37) L f20 [1,1,0,1] (bH prog f20)).n (X20_0 a0 w0_3)=
 some (n20 w0_3):=by kernel_rfl
def tI (m37:(Int×Int×Int)->Option (Int×Int×Int))(L:Nat)(a0:(List (Int×(Int×Int)))):Nat->(List (Int×(Int×Int)))->Int->((List (Int×(Int×Int)))->Option (List (Int×(Int×Int))))->Option (List (Int×(Int×Int)))
 | 0,_,_,_=>none
 | n+1,v0_3,v0_4,k=>
  bif (decide (v0_4 < (Nat.cast (List.length a0):Int)))then bif ((decide ((0:Int)<=v0_4))&&(decide (v0_4 < (Nat.cast (List.length a0):Int))))then dK (m37 ((List.getD a0 (Int.toNat v0_4) ((0:Int),((0:Int),(0:Int)))).1,((List.getD a0 (Int.toNat v0_4) ((0:Int),((0:Int),(0:Int)))).2.1,(List.getD a0 (Int.toNat v0_4) ((0:Int),((0:Int),(0:Int)))).2.2))) ((0:Int),(0:Int),(0:Int)) λ(q4:(Int×Int×Int))=>bif ((decide ((0:Int)<=v0_4))&&(decide (v0_4 < (Nat.cast (List.length v0_3):Int))))then tI m37 L a0 n (List.set v0_3 (Int.toNat v0_4) (q4.1,(q4.2.1,q4.2.2))) (wrap Go.IntKind.i64 (v0_4+(1:Int))) k
     else none
   else none
  else k v0_3
theorem aEX (m37:(Int×Int×Int)->Option (Int×Int×Int))(L:Nat)(a0:(List (Int×(Int×Int))))(k:St cxT.ty->Option (V cxT.ty))(xk:Nat->St cxT.ty->Option (V cxT.ty))(k':(List (Int×(Int×Int)))->Option (List (Int×(Int×Int))))(hk:∀ (w0_3:(List (Int×(Int×Int)))),k (X20_0 a0 w0_3)=(k' w0_3).map n20):∀ (n:Nat) (v0_3:(List (Int×(Int×Int)))) (v0_4:Int),cW prog (rP m37) L f20 0 [1,1,0,1,0,0] (dG (bH prog f20) k xk) n (S20_0 a0 v0_3 v0_4)=(tI m37 L a0 n v0_3 v0_4 k').map n20
 | 0,_,_=>rfl
 | n+1,v0_3,v0_4=>by
  rw[cV,aHG];have ih:=aEX m37 L a0 k xk k' hk n;simp only[tI,bA,aY,aZ,aE,aJ,ih,hk]
def g20 (m37:(Int×Int×Int)->Option (Int×Int×Int))(L:Nat)(a0:(List (Int×(Int×Int)))):Option (List (Int×(Int×Int))):=
 bif (((decide ((0:Int)<=(Nat.cast (List.length a0):Int)))&&(decide ((Nat.cast (List.length a0):Int)<=(Nat.cast (List.length a0):Int))))&&(decide ((Nat.cast (List.length a0):Int)<=(1000000000:Int))))then tI m37 L a0 L (List.replicate (Int.toNat (Nat.cast (List.length a0):Int)) ((0:Int),((0:Int),(0:Int)))) (0:Int) (λ(w0_3:(List (Int×(Int×Int))))=>some w0_3)
 else none
theorem e20 (m37:(Int×Int×Int)->Option (Int×Int×Int))(L:Nat)(a0:(List (Int×(Int×Int)))):fF prog (rP m37) (bP L) f20 (a20.enc a0)=(g20 m37 L a0).map n20:=by
 let K'0:(List (Int×(Int×Int)))->Option (List (Int×(Int×Int))):=(λ(w0_3:(List (Int×(Int×Int))))=>some w0_3)
 have hin0:∀ (v0_3:(List (Int×(Int×Int)))) (v0_4:Int),cW prog (rP m37) L f20 0 [1,1,0,1,0,0] (dG (bH prog f20) (cR prog (rP m37) L f20 [1,1,0,1] (bH prog f20)).n (cR prog (rP m37) L f20 [1,1,0,1] (bH prog f20)).x) L (S20_0 a0 v0_3 v0_4)=(tI m37 L a0 L v0_3 v0_4 K'0).map n20:=λv0_3 v0_4=>aEX m37 L a0 _ _ K'0 (λw0_3=>by rw[aGI];simp only[K'0,bA,aY,aZ,aE,aJ]) L v0_3 v0_4
 rw[i20];simp only[g20,bA,aY,aZ,aE,aJ,hin0,K'0]
theorem s20 (m37:(Int×Int×Int)->Option (Int×Int×Int))(h37:Sat prog cxT 37 (c37 m37))(m:(List (Int×(Int×Int)))->Option (List (Int×(Int×Int))))(hm:∀ (x:(List (Int×(Int×Int)))) t,m x=some t->∃ L,g20 m37 L x=some t):Sat prog cxT 20 (c20 m):=
 dU cS cK (by rfl) (fn:=f20) rfl a20 n20 aII m (rP m37) (bY h37 cJ) bV (λL x=>g20 m37 L x) (λL x=>e20 m37 L x) hm aKx
def aFA (m66:(Int×Int)->Option Int)(wR:(List Int)->Option Int):Env cxT:={ Kc:=eP [(66,c66 m66),(65,c65 wR)],Kw:=eT [],lv:=λi=>[],xv:=λi=>none }
theorem i41 (m66:(Int×Int)->Option Int)(wR:(List Int)->Option Int)(L:Nat)(a0_0:Int)(a0_1:Int)(a0_2:Int)(a0_3:(List Int))(a1_0:Int)(a1_1:Int)(a1_2:Int)(a1_3:(List Int)):fF prog (aFA m66 wR) (bP L) f41 (a41.enc ((a0_0,a0_1,a0_2,a0_3),(a1_0,a1_1,a1_2,a1_3)))=
 dK (m66 (a0_0,a1_0)) (0:Int) λ(q1:Int)=>dK (m66 (a0_1,a1_1)) (0:Int) λ(q2:Int)=>dK (m66 (a0_2,a1_2)) (0:Int) λ(q3:Int)=>dK (wR (List.cons q1 (List.cons q2 (List.cons q3 ([]:List (Int)))))) (0:Int) λ(q4:Int)=>some (n41 q4):=by kernel_rfl
def g41 (m66:(Int×Int)->Option Int)(wR:(List Int)->Option Int)(L:Nat)(a0_0:Int)(a0_1:Int)(a0_2:Int)(a0_3:(List Int))(a1_0:Int)(a1_1:Int)(a1_2:Int)(a1_3:(List Int)):Option Int:=
 dK (m66 (a0_0,a1_0)) (0:Int) λ(q1:Int)=>dK (m66 (a0_1,a1_1)) (0:Int) λ(q2:Int)=>dK (m66 (a0_2,a1_2)) (0:Int) λ(q3:Int)=>dK (wR (List.cons q1 (List.cons q2 (List.cons q3 ([]:List (Int)))))) (0:Int) λ(q4:Int)=>some q4
theorem e41 (m66:(Int×Int)->Option Int)(wR:(List Int)->Option Int)(L:Nat)(a0_0:Int)(a0_1:Int)(a0_2:Int)(a0_3:(List Int))(a1_0:Int)(a1_1:Int)(a1_2:Int)(a1_3:(List Int)):fF prog (aFA m66 wR) (bP L) f41 (a41.enc ((a0_0,a0_1,a0_2,a0_3),(a1_0,a1_1,a1_2,a1_3)))=(g41 m66 wR L a0_0 a0_1 a0_2 a0_3 a1_0 a1_1 a1_2 a1_3).map n41:=by
 rw[i41];simp only[g41,bA,aY,aZ,aE,aJ]
theorem s41 (m66:(Int×Int)->Option Int)(wR:(List Int)->Option Int)(h66:Sat prog cxT 66 (c66 m66))(h65:Sat prog cxT 65 (c65 wR))(m:((Int×Int×Int×(List Int))×(Int×Int×Int×(List Int)))->Option Int)(hm:∀ (x:((Int×Int×Int×(List Int))×(Int×Int×Int×(List Int)))) t,m x=some t->∃ L,g41 m66 wR L x.1.1 x.1.2.1 x.1.2.2.1 x.1.2.2.2 x.2.1 x.2.2.1 x.2.2.2.1 x.2.2.2.2=some t):Sat prog cxT 41 (c41 m):=
 dU cS cK (by rfl) (fn:=f41) rfl a41 n41 aIx m (aFA m66 wR) (bY h66 (bY h65 cJ)) bV (λL x=>g41 m66 wR L x.1.1 x.1.2.1 x.1.2.2.1 x.1.2.2.2 x.2.1 x.2.2.1 x.2.2.2.1 x.2.2.2.2) (λL x=>e41 m66 wR L x.1.1 x.1.2.1 x.1.2.2.1 x.1.2.2.2 x.2.1 x.2.2.1 x.2.2.2.1 x.2.2.2.2) hm aKm
end Go.Proofs.Try
