/- A part of the proof of FnExactServeFrom: LtFb. -/
import Derived.Test.YtnmnomckcjihoaaGreatLtCon
set_option linter.unusedSimpArgs false
set_option linter.unusedVariables false
set_option maxHeartbeats 0
set_option maxRecDepth 100000
namespace Go.Proofs.Tryz
open Go.IntKind (wrap)
open Go Go.VM Go.RowKit
def mE (m24:Int->Option Bool)(m48:Bk->Option Bool)(iP:(CZ×Int)->Option Int):Env cxT:={ Kc:=dL [(24,c24 m24),(48,c48 m48),(49,c49 iP)],Kw:=dK [],lv:=λi=>if i=0 then[(0,[none,some 83,some 96]),(3,[])]else if i=2 then[(0,[none,some 83,some 96]),(4,[])]else[],xv:=λi=>if i=0 then some [(0,[none,some 83,some 96])]else if i=2 then some []else none }
def S25_0 (a0:CZ)(v0_3:Int):St cxT.ty:={ slots:=[(.inr (.inr { kind:=2,nm:=0,cells:=[],s:={ own:=0,nm:=0,e:=34,o:=false,xs:=(List.cons a0 []) },i:=0,off:=0 })),aI,aI,(.inl (.inl (lv (.int .i64 v0_3))))]++List.replicate 77 aI,D:=[],F:=[],ctr:=1 }
def X25_0 (a0:CZ):St cxT.ty:={ slots:=[(.inr (.inr { kind:=2,nm:=0,cells:=[],s:={ own:=0,nm:=0,e:=34,o:=false,xs:=(List.cons a0 []) },i:=0,off:=0 }))]++List.replicate 80 aI,D:=[],F:=[],ctr:=1 }
def S25_2 (a0:CZ)(v2_4:Int):St cxT.ty:={ slots:=[(.inr (.inr { kind:=2,nm:=0,cells:=[],s:={ own:=0,nm:=0,e:=34,o:=false,xs:=(List.cons a0 []) },i:=0,off:=0 })),aI,aI,aI,(.inl (.inl (lv (.int .i64 v2_4))))]++List.replicate 76 aI,D:=[],F:=[],ctr:=1 }
def X25_2 (a0:CZ):St cxT.ty:={ slots:=[]++List.replicate 81 aI,D:=[],F:=[],ctr:=1 }
theorem i25 (m24:Int->Option Bool)(m48:Bk->Option Bool)(iP:(CZ×Int)->Option Int)(L:Nat)(a0:CZ):dP prog (mE m24 m48 iP) (aW L) f25 (a25.enc a0)=
 cK (m24 a0.1) false λ(q1:Bool)=>bif (!q1)then some (n25 (3:Int))
  else bif (decide ((Nat.cast (List.length a0.2.1):Int) > (8:Int)))then some (n25 (2:Int))
  else bif (decide ((Nat.cast (List.length a0.2.2):Int) > (4:Int)))then some (n25 (2:Int))
  else bR prog (mE m24 m48 iP) L f25 0 [1,1,1,0,1,0,0] (cA (aT prog f25) (bM prog (mE m24 m48 iP) L f25 [1,1,1,0,1] (aT prog f25)).n (bM prog (mE m24 m48 iP) L f25 [1,1,1,0,1] (aT prog f25)).x) L (S25_0 a0 (0:Int)):=by kernel_rfl
theorem aO4 (m24:Int->Option Bool)(m48:Bk->Option Bool)(iP:(CZ×Int)->Option Int)(L:Nat)(a0:CZ)(k:St cxT.ty->Option (V cxT.ty))(xk:Nat->St cxT.ty->Option (V cxT.ty))(g:St cxT.ty->Option (V cxT.ty))(v0_3:Int):dQ prog (mE m24 m48 iP) L f25 0 [1,1,1,0,1,0,0] (cA (aT prog f25) k xk) g (S25_0 a0 v0_3)=
 bif (decide (v0_3 < (Nat.cast (List.length a0.2.1):Int)))then bif ((decide ((0:Int)<=v0_3))&&(decide (v0_3 < (Nat.cast (List.length a0.2.1):Int))))then cK (m48 ((List.getD a0.2.1 (Int.toNat v0_3) ((0:Int),((0:Int),((0:Int),((0:Int),Bool.false))))).1,((List.getD a0.2.1 (Int.toNat v0_3) ((0:Int),((0:Int),((0:Int),((0:Int),Bool.false))))).2.1,((List.getD a0.2.1 (Int.toNat v0_3) ((0:Int),((0:Int),((0:Int),((0:Int),Bool.false))))).2.2.1,((List.getD a0.2.1 (Int.toNat v0_3) ((0:Int),((0:Int),((0:Int),((0:Int),Bool.false))))).2.2.2.1,(List.getD a0.2.1 (Int.toNat v0_3) ((0:Int),((0:Int),((0:Int),((0:Int),Bool.false))))).2.2.2.2))))) false λ(q3:Bool)=>bif (!q3)then some (n25 (3:Int))
    else bif (decide (v0_3 > (0:Int)))then bif ((decide ((0:Int)<=v0_3))&&(decide (v0_3 < (Nat.cast (List.length a0.2.1):Int))))then bif ((decide ((0:Int)<=(wrap Go.IntKind.i64 (v0_3-(1:Int)))))&&(decide ((wrap Go.IntKind.i64 (v0_3-(1:Int))) < (Nat.cast (List.length a0.2.1):Int))))then bif (decide ((List.getD a0.2.1 (Int.toNat v0_3) ((0:Int),((0:Int),((0:Int),((0:Int),Bool.false))))).1<=(List.getD a0.2.1 (Int.toNat (wrap Go.IntKind.i64 (v0_3-(1:Int)))) ((0:Int),((0:Int),((0:Int),((0:Int),Bool.false))))).1))then some (n25 (1:Int))
       else g (S25_0 a0 (wrap Go.IntKind.i64 (v0_3+(1:Int))))
      else none
     else none
    else g (S25_0 a0 (wrap Go.IntKind.i64 (v0_3+(1:Int))))
  else none
 else k (X25_0 a0):=by kernel_rfl
theorem aNs (m24:Int->Option Bool)(m48:Bk->Option Bool)(iP:(CZ×Int)->Option Int)(L:Nat)(a0:CZ):(bM prog (mE m24 m48 iP) L f25 [1,1,1,0,1] (aT prog f25)).n (X25_0 a0)=
 bR prog (mE m24 m48 iP) L f25 2 [1,1,1,1,0,1,0,0] (cA (aT prog f25) (bM prog (mE m24 m48 iP) L f25 [1,1,1,1,0,1] (aT prog f25)).n (bM prog (mE m24 m48 iP) L f25 [1,1,1,1,0,1] (aT prog f25)).x) L (S25_2 a0 (0:Int)):=by kernel_rfl
theorem aO3 (m24:Int->Option Bool)(m48:Bk->Option Bool)(iP:(CZ×Int)->Option Int)(L:Nat)(a0:CZ)(k:St cxT.ty->Option (V cxT.ty))(xk:Nat->St cxT.ty->Option (V cxT.ty))(g:St cxT.ty->Option (V cxT.ty))(v2_4:Int):dQ prog (mE m24 m48 iP) L f25 2 [1,1,1,1,0,1,0,0] (cA (aT prog f25) k xk) g (S25_2 a0 v2_4)=
 bif (decide (v2_4 < (Nat.cast (List.length a0.2.2):Int)))then cK (iP (a0,v2_4)) (0:Int) λ(q2:Int)=>bif (q2 != (0:Int))then some (n25 q2)
   else g (S25_2 a0 (wrap Go.IntKind.i64 (v2_4+(1:Int))))
 else k (X25_2 a0):=by kernel_rfl
theorem aNr (m24:Int->Option Bool)(m48:Bk->Option Bool)(iP:(CZ×Int)->Option Int)(L:Nat)(a0:CZ):(bM prog (mE m24 m48 iP) L f25 [1,1,1,1,0,1] (aT prog f25)).n (X25_2 a0)=
 some (n25 (0:Int)):=by kernel_rfl
def uE (m24:Int->Option Bool)(m48:Bk->Option Bool)(iP:(CZ×Int)->Option Int)(L:Nat)(a0:CZ):Nat->Int->(Option Int)->Option Int
 | 0,_,_=>none
 | n+1,v2_4,k=>
  bif (decide (v2_4 < (Nat.cast (List.length a0.2.2):Int)))then cK (iP (a0,v2_4)) (0:Int) λ(q3:Int)=>bif (q3 != (0:Int))then some q3
    else uE m24 m48 iP L a0 n (wrap Go.IntKind.i64 (v2_4+(1:Int))) k
  else k
theorem aJM (m24:Int->Option Bool)(m48:Bk->Option Bool)(iP:(CZ×Int)->Option Int)(L:Nat)(a0:CZ)(k:St cxT.ty->Option (V cxT.ty))(xk:Nat->St cxT.ty->Option (V cxT.ty))(k':Option Int)(hk:k (X25_2 a0)=(k').map n25):∀ (n:Nat) (v2_4:Int),bR prog (mE m24 m48 iP) L f25 2 [1,1,1,1,0,1,0,0] (cA (aT prog f25) k xk) n (S25_2 a0 v2_4)=(uE m24 m48 iP L a0 n v2_4 k').map n25
 | 0,_=>rfl
 | n+1,v2_4=>by
  rw[bS,aO3];have ih:=aJM m24 m48 iP L a0 k xk k' hk n;simp only[uE,aP,aN,aO,aC,aE,ih,hk]
def uF (m24:Int->Option Bool)(m48:Bk->Option Bool)(iP:(CZ×Int)->Option Int)(L:Nat)(a0:CZ):Nat->Int->(Option Int)->Option Int
 | 0,_,_=>none
 | n+1,v0_3,k=>
  bif (decide (v0_3 < (Nat.cast (List.length a0.2.1):Int)))then bif ((decide ((0:Int)<=v0_3))&&(decide (v0_3 < (Nat.cast (List.length a0.2.1):Int))))then cK (m48 ((List.getD a0.2.1 (Int.toNat v0_3) ((0:Int),((0:Int),((0:Int),((0:Int),Bool.false))))).1,((List.getD a0.2.1 (Int.toNat v0_3) ((0:Int),((0:Int),((0:Int),((0:Int),Bool.false))))).2.1,((List.getD a0.2.1 (Int.toNat v0_3) ((0:Int),((0:Int),((0:Int),((0:Int),Bool.false))))).2.2.1,((List.getD a0.2.1 (Int.toNat v0_3) ((0:Int),((0:Int),((0:Int),((0:Int),Bool.false))))).2.2.2.1,(List.getD a0.2.1 (Int.toNat v0_3) ((0:Int),((0:Int),((0:Int),((0:Int),Bool.false))))).2.2.2.2))))) false λ(q4:Bool)=>bif (!q4)then some (3:Int)
     else bif (decide (v0_3 > (0:Int)))then bif ((decide ((0:Int)<=v0_3))&&(decide (v0_3 < (Nat.cast (List.length a0.2.1):Int))))then bif ((decide ((0:Int)<=(wrap Go.IntKind.i64 (v0_3-(1:Int)))))&&(decide ((wrap Go.IntKind.i64 (v0_3-(1:Int))) < (Nat.cast (List.length a0.2.1):Int))))then bif (decide ((List.getD a0.2.1 (Int.toNat v0_3) ((0:Int),((0:Int),((0:Int),((0:Int),Bool.false))))).1<=(List.getD a0.2.1 (Int.toNat (wrap Go.IntKind.i64 (v0_3-(1:Int)))) ((0:Int),((0:Int),((0:Int),((0:Int),Bool.false))))).1))then some (1:Int)
        else uF m24 m48 iP L a0 n (wrap Go.IntKind.i64 (v0_3+(1:Int))) k
       else none
      else none
     else uF m24 m48 iP L a0 n (wrap Go.IntKind.i64 (v0_3+(1:Int))) k
   else none
  else k
theorem aJN (m24:Int->Option Bool)(m48:Bk->Option Bool)(iP:(CZ×Int)->Option Int)(L:Nat)(a0:CZ)(k:St cxT.ty->Option (V cxT.ty))(xk:Nat->St cxT.ty->Option (V cxT.ty))(k':Option Int)(hk:k (X25_0 a0)=(k').map n25):∀ (n:Nat) (v0_3:Int),bR prog (mE m24 m48 iP) L f25 0 [1,1,1,0,1,0,0] (cA (aT prog f25) k xk) n (S25_0 a0 v0_3)=(uF m24 m48 iP L a0 n v0_3 k').map n25
 | 0,_=>rfl
 | n+1,v0_3=>by
  rw[bS,aO4];have ih:=aJN m24 m48 iP L a0 k xk k' hk n;simp only[uF,aP,aN,aO,aC,aE,ih,hk]
def g25 (m24:Int->Option Bool)(m48:Bk->Option Bool)(iP:(CZ×Int)->Option Int)(L:Nat)(a0:CZ):Option Int:=
 cK (m24 a0.1) false λ(q1:Bool)=>bif (!q1)then some (3:Int)
  else bif (decide ((Nat.cast (List.length a0.2.1):Int) > (8:Int)))then some (2:Int)
  else bif (decide ((Nat.cast (List.length a0.2.2):Int) > (4:Int)))then some (2:Int)
  else uF m24 m48 iP L a0 L (0:Int) (uE m24 m48 iP L a0 L (0:Int) (some (0:Int)))
theorem e25 (m24:Int->Option Bool)(m48:Bk->Option Bool)(iP:(CZ×Int)->Option Int)(L:Nat)(a0:CZ):dP prog (mE m24 m48 iP) (aW L) f25 (a25.enc a0)=(g25 m24 m48 iP L a0).map n25:=by
 let K'2:Option Int:=(some (0:Int))
 have hin2:∀ (v2_4:Int),bR prog (mE m24 m48 iP) L f25 2 [1,1,1,1,0,1,0,0] (cA (aT prog f25) (bM prog (mE m24 m48 iP) L f25 [1,1,1,1,0,1] (aT prog f25)).n (bM prog (mE m24 m48 iP) L f25 [1,1,1,1,0,1] (aT prog f25)).x) L (S25_2 a0 v2_4)=(uE m24 m48 iP L a0 L v2_4 K'2).map n25:=λv2_4=>aJM m24 m48 iP L a0 _ _ K'2 (by rw[aNr];simp only[K'2,aP,aN,aO,aC,aE]) L v2_4
 let K'0:Option Int:=(uE m24 m48 iP L a0 L (0:Int) (some (0:Int)))
 have hin0:∀ (v0_3:Int),bR prog (mE m24 m48 iP) L f25 0 [1,1,1,0,1,0,0] (cA (aT prog f25) (bM prog (mE m24 m48 iP) L f25 [1,1,1,0,1] (aT prog f25)).n (bM prog (mE m24 m48 iP) L f25 [1,1,1,0,1] (aT prog f25)).x) L (S25_0 a0 v0_3)=(uF m24 m48 iP L a0 L v0_3 K'0).map n25:=λv0_3=>aJN m24 m48 iP L a0 _ _ K'0 (by rw[aNs];simp only[K'0,aP,aN,aO,aC,aE,hin2,K'2]) L v0_3
 rw[i25];simp only[g25,aP,aN,aO,aC,aE,hin2,K'2,hin0,K'0]
theorem s25 (m24:Int->Option Bool)(m48:Bk->Option Bool)(iP:(CZ×Int)->Option Int)(h24:Sat prog cxT 24 (c24 m24))(h48:Sat prog cxT 48 (c48 m48))(h49:Sat prog cxT 49 (c49 iP))(m:CZ->Option Int)(hm:∀ (x:CZ) t,m x=some t->∃ L,g25 m24 m48 iP L x=some t):Sat prog cxT 25 (c25 m):=
 cT bQ bH (by rfl) (fn:=f25) rfl a25 n25 aRb m (mE m24 m48 iP) (aY h24 (aY h48 (aY h49 bG))) aZ (λL x=>g25 m24 m48 iP L x) (λL x=>e25 m24 m48 iP L x) hm aUM
def kU (m52:Int->Option Bool)(m68:Int->Option Bool)(m54:Int->Option Bool)(m69:(Vp×Vp)->Option Bool)(hU:(CZ×Int)->Option Int):Env cxT:={ Kc:=dL [(52,c52 m52),(68,c68 m68),(54,c54 m54),(69,c69 m69),(70,c70 hU)],Kw:=dK [],lv:=λi=>if i=0 then[(0,[none,some 83,some 96]),(5,[none,none,none,some 2]),(6,[])]else if i=2 then[(5,[none,none,none,some 2]),(7,[])]else[],xv:=λi=>if i=0 then some [(5,[none,none,none,some 2])]else if i=2 then some []else none }
def S49_0 (a0:CZ)(a1:Int)(v0_5_0:Int)(v0_5_1:Int)(v0_5_2:Int)(v0_5_3:(List Int))(v0_6:Int):St cxT.ty:={ slots:=[(.inr (.inr { kind:=2,nm:=0,cells:=[],s:={ own:=0,nm:=0,e:=34,o:=false,xs:=(List.cons a0 []) },i:=0,off:=0 })),aI,aI,aI,aI,(.inr (.inr { kind:=0,nm:=320,cells:=[(lv (.int .i64 v0_5_0)),(lv (.int .i64 v0_5_1)),(lv (.int .i64 v0_5_2)),(ls { own:=0,nm:=0,e:=2,o:=false,xs:=v0_5_3 })],s:={ own:=0,nm:=0,e:=0,o:=false,xs:=([]:List (PUnit)) },i:=0,off:=0 })),(.inl (.inl (lv (.int .i64 v0_6))))]++List.replicate 73 aI,D:=[],F:=[],ctr:=1 }
def X49_0 (a0:CZ)(a1:Int)(w0_5_0:Int)(w0_5_1:Int)(w0_5_2:Int)(w0_5_3:(List Int)):St cxT.ty:={ slots:=[aI,aI,aI,aI,aI,(.inr (.inr { kind:=0,nm:=320,cells:=[(lv (.int .i64 w0_5_0)),(lv (.int .i64 w0_5_1)),(lv (.int .i64 w0_5_2)),(ls { own:=0,nm:=0,e:=2,o:=false,xs:=w0_5_3 })],s:={ own:=0,nm:=0,e:=0,o:=false,xs:=([]:List (PUnit)) },i:=0,off:=0 }))]++List.replicate 74 aI,D:=[],F:=[],ctr:=1 }
def S49_2 (a0:CZ)(a1:Int)(v2_5_0:Int)(v2_5_1:Int)(v2_5_2:Int)(v2_5_3:(List Int))(v2_7:Int):St cxT.ty:={ slots:=[aI,aI,aI,aI,aI,(.inr (.inr { kind:=0,nm:=320,cells:=[(lv (.int .i64 v2_5_0)),(lv (.int .i64 v2_5_1)),(lv (.int .i64 v2_5_2)),(ls { own:=0,nm:=0,e:=2,o:=false,xs:=v2_5_3 })],s:={ own:=0,nm:=0,e:=0,o:=false,xs:=([]:List (PUnit)) },i:=0,off:=0 })),aI,(.inl (.inl (lv (.int .i64 v2_7))))]++List.replicate 72 aI,D:=[],F:=[],ctr:=1 }
def X49_2 (a0:CZ)(a1:Int):St cxT.ty:={ slots:=[]++List.replicate 80 aI,D:=[],F:=[],ctr:=1 }
theorem i49 (m52:Int->Option Bool)(m68:Int->Option Bool)(m54:Int->Option Bool)(m69:(Vp×Vp)->Option Bool)(hU:(CZ×Int)->Option Int)(L:Nat)(a0:CZ)(a1:Int):dP prog (kU m52 m68 m54 m69 hU) (aW L) f49 (a49.enc (a0,a1))=
 bif ((decide ((0:Int)<=a1))&&(decide (a1 < (Nat.cast (List.length a0.2.2):Int))))then cK (m52 (List.getD a0.2.2 (Int.toNat a1) ((0:Int),((0:Int),((0:Int),([]:List (Int)))))).1) false λ(q2:Bool)=>bif (!q2)then some (n49 (3:Int))
   else cK (m68 (List.getD a0.2.2 (Int.toNat a1) ((0:Int),((0:Int),((0:Int),([]:List (Int)))))).2.1) false λ(q3:Bool)=>bif (!q3)then some (n49 (3:Int))
    else cK (m54 (List.getD a0.2.2 (Int.toNat a1) ((0:Int),((0:Int),((0:Int),([]:List (Int)))))).2.2.1) false λ(q4:Bool)=>bif (!q4)then some (n49 (3:Int))
     else bif (decide (a1 > (0:Int)))then bif ((decide ((0:Int)<=(wrap Go.IntKind.i64 (a1-(1:Int)))))&&(decide ((wrap Go.IntKind.i64 (a1-(1:Int))) < (Nat.cast (List.length a0.2.2):Int))))then cK (m69 (((List.getD a0.2.2 (Int.toNat (wrap Go.IntKind.i64 (a1-(1:Int)))) ((0:Int),((0:Int),((0:Int),([]:List (Int)))))).1,((List.getD a0.2.2 (Int.toNat (wrap Go.IntKind.i64 (a1-(1:Int)))) ((0:Int),((0:Int),((0:Int),([]:List (Int)))))).2.1,((List.getD a0.2.2 (Int.toNat (wrap Go.IntKind.i64 (a1-(1:Int)))) ((0:Int),((0:Int),((0:Int),([]:List (Int)))))).2.2.1,(List.getD a0.2.2 (Int.toNat (wrap Go.IntKind.i64 (a1-(1:Int)))) ((0:Int),((0:Int),((0:Int),([]:List (Int)))))).2.2.2))),((List.getD a0.2.2 (Int.toNat a1) ((0:Int),((0:Int),((0:Int),([]:List (Int)))))).1,((List.getD a0.2.2 (Int.toNat a1) ((0:Int),((0:Int),((0:Int),([]:List (Int)))))).2.1,((List.getD a0.2.2 (Int.toNat a1) ((0:Int),((0:Int),((0:Int),([]:List (Int)))))).2.2.1,(List.getD a0.2.2 (Int.toNat a1) ((0:Int),((0:Int),((0:Int),([]:List (Int)))))).2.2.2))))) false λ(q7:Bool)=>bif (!q7)then some (n49 (1:Int))
        else bR prog (kU m52 m68 m54 m69 hU) L f49 0 [1,1,1,1,0,1,0,0] (cA (aT prog f49) (bM prog (kU m52 m68 m54 m69 hU) L f49 [1,1,1,1,0,1] (aT prog f49)).n (bM prog (kU m52 m68 m54 m69 hU) L f49 [1,1,1,1,0,1] (aT prog f49)).x) L (S49_0 a0 a1 (List.getD a0.2.2 (Int.toNat a1) ((0:Int),((0:Int),((0:Int),([]:List (Int)))))).1 (List.getD a0.2.2 (Int.toNat a1) ((0:Int),((0:Int),((0:Int),([]:List (Int)))))).2.1 (List.getD a0.2.2 (Int.toNat a1) ((0:Int),((0:Int),((0:Int),([]:List (Int)))))).2.2.1 (List.getD a0.2.2 (Int.toNat a1) ((0:Int),((0:Int),((0:Int),([]:List (Int)))))).2.2.2 (0:Int))
      else none
     else bR prog (kU m52 m68 m54 m69 hU) L f49 0 [1,1,1,1,0,1,0,0] (cA (aT prog f49) (bM prog (kU m52 m68 m54 m69 hU) L f49 [1,1,1,1,0,1] (aT prog f49)).n (bM prog (kU m52 m68 m54 m69 hU) L f49 [1,1,1,1,0,1] (aT prog f49)).x) L (S49_0 a0 a1 (List.getD a0.2.2 (Int.toNat a1) ((0:Int),((0:Int),((0:Int),([]:List (Int)))))).1 (List.getD a0.2.2 (Int.toNat a1) ((0:Int),((0:Int),((0:Int),([]:List (Int)))))).2.1 (List.getD a0.2.2 (Int.toNat a1) ((0:Int),((0:Int),((0:Int),([]:List (Int)))))).2.2.1 (List.getD a0.2.2 (Int.toNat a1) ((0:Int),((0:Int),((0:Int),([]:List (Int)))))).2.2.2 (0:Int))
 else none:=by kernel_rfl
theorem aOU (m52:Int->Option Bool)(m68:Int->Option Bool)(m54:Int->Option Bool)(m69:(Vp×Vp)->Option Bool)(hU:(CZ×Int)->Option Int)(L:Nat)(a0:CZ)(a1:Int)(k:St cxT.ty->Option (V cxT.ty))(xk:Nat->St cxT.ty->Option (V cxT.ty))(g:St cxT.ty->Option (V cxT.ty))(v0_5_0:Int)(v0_5_1:Int)(v0_5_2:Int)(v0_5_3:(List Int))(v0_6:Int):dQ prog (kU m52 m68 m54 m69 hU) L f49 0 [1,1,1,1,0,1,0,0] (cA (aT prog f49) k xk) g (S49_0 a0 a1 v0_5_0 v0_5_1 v0_5_2 v0_5_3 v0_6)=
 bif (decide (v0_6 < (Nat.cast (List.length v0_5_3):Int)))then bif ((decide ((0:Int)<=v0_6))&&(decide (v0_6 < (Nat.cast (List.length v0_5_3):Int))))then cK (hU (a0,(List.getD v0_5_3 (Int.toNat v0_6) (0:Int)))) (0:Int) λ(q3:Int)=>bif (decide (q3 < (0:Int)))then some (n49 (4:Int))
    else g (S49_0 a0 a1 v0_5_0 v0_5_1 v0_5_2 v0_5_3 (wrap Go.IntKind.i64 (v0_6+(1:Int))))
  else none
 else k (X49_0 a0 a1 v0_5_0 v0_5_1 v0_5_2 v0_5_3):=by kernel_rfl
theorem aNi (m52:Int->Option Bool)(m68:Int->Option Bool)(m54:Int->Option Bool)(m69:(Vp×Vp)->Option Bool)(hU:(CZ×Int)->Option Int)(L:Nat)(a0:CZ)(a1:Int)(w0_5_0:Int)(w0_5_1:Int)(w0_5_2:Int)(w0_5_3:(List Int)):(bM prog (kU m52 m68 m54 m69 hU) L f49 [1,1,1,1,0,1] (aT prog f49)).n (X49_0 a0 a1 w0_5_0 w0_5_1 w0_5_2 w0_5_3)=
 bR prog (kU m52 m68 m54 m69 hU) L f49 2 [1,1,1,1,1,0,1,0,0] (cA (aT prog f49) (bM prog (kU m52 m68 m54 m69 hU) L f49 [1,1,1,1,1,0,1] (aT prog f49)).n (bM prog (kU m52 m68 m54 m69 hU) L f49 [1,1,1,1,1,0,1] (aT prog f49)).x) L (S49_2 a0 a1 w0_5_0 w0_5_1 w0_5_2 w0_5_3 (1:Int)):=by kernel_rfl
theorem aOT (m52:Int->Option Bool)(m68:Int->Option Bool)(m54:Int->Option Bool)(m69:(Vp×Vp)->Option Bool)(hU:(CZ×Int)->Option Int)(L:Nat)(a0:CZ)(a1:Int)(k:St cxT.ty->Option (V cxT.ty))(xk:Nat->St cxT.ty->Option (V cxT.ty))(g:St cxT.ty->Option (V cxT.ty))(v2_5_0:Int)(v2_5_1:Int)(v2_5_2:Int)(v2_5_3:(List Int))(v2_7:Int):dQ prog (kU m52 m68 m54 m69 hU) L f49 2 [1,1,1,1,1,0,1,0,0] (cA (aT prog f49) k xk) g (S49_2 a0 a1 v2_5_0 v2_5_1 v2_5_2 v2_5_3 v2_7)=
 bif (decide (v2_7 < (Nat.cast (List.length v2_5_3):Int)))then bif ((decide ((0:Int)<=v2_7))&&(decide (v2_7 < (Nat.cast (List.length v2_5_3):Int))))then bif ((decide ((0:Int)<=(wrap Go.IntKind.i64 (v2_7-(1:Int)))))&&(decide ((wrap Go.IntKind.i64 (v2_7-(1:Int))) < (Nat.cast (List.length v2_5_3):Int))))then bif (decide ((List.getD v2_5_3 (Int.toNat v2_7) (0:Int))<=(List.getD v2_5_3 (Int.toNat (wrap Go.IntKind.i64 (v2_7-(1:Int)))) (0:Int))))then some (n49 (1:Int))
    else g (S49_2 a0 a1 v2_5_0 v2_5_1 v2_5_2 v2_5_3 (wrap Go.IntKind.i64 (v2_7+(1:Int))))
   else none
  else none
 else k (X49_2 a0 a1):=by kernel_rfl
theorem aNh (m52:Int->Option Bool)(m68:Int->Option Bool)(m54:Int->Option Bool)(m69:(Vp×Vp)->Option Bool)(hU:(CZ×Int)->Option Int)(L:Nat)(a0:CZ)(a1:Int):(bM prog (kU m52 m68 m54 m69 hU) L f49 [1,1,1,1,1,0,1] (aT prog f49)).n (X49_2 a0 a1)=
 some (n49 (0:Int)):=by kernel_rfl
def qO (m52:Int->Option Bool)(m68:Int->Option Bool)(m54:Int->Option Bool)(m69:(Vp×Vp)->Option Bool)(hU:(CZ×Int)->Option Int)(L:Nat)(a0:CZ)(a1:Int):Nat->Int->Int->Int->(List Int)->Int->(Option Int)->Option Int
 | 0,_,_,_,_,_,_=>none
 | n+1,v2_5_0,v2_5_1,v2_5_2,v2_5_3,v2_7,k=>
  bif (decide (v2_7 < (Nat.cast (List.length v2_5_3):Int)))then bif ((decide ((0:Int)<=v2_7))&&(decide (v2_7 < (Nat.cast (List.length v2_5_3):Int))))then bif ((decide ((0:Int)<=(wrap Go.IntKind.i64 (v2_7-(1:Int)))))&&(decide ((wrap Go.IntKind.i64 (v2_7-(1:Int))) < (Nat.cast (List.length v2_5_3):Int))))then bif (decide ((List.getD v2_5_3 (Int.toNat v2_7) (0:Int))<=(List.getD v2_5_3 (Int.toNat (wrap Go.IntKind.i64 (v2_7-(1:Int)))) (0:Int))))then some (1:Int)
     else qO m52 m68 m54 m69 hU L a0 a1 n v2_5_0 v2_5_1 v2_5_2 v2_5_3 (wrap Go.IntKind.i64 (v2_7+(1:Int))) k
    else none
   else none
  else k
theorem aJC (m52:Int->Option Bool)(m68:Int->Option Bool)(m54:Int->Option Bool)(m69:(Vp×Vp)->Option Bool)(hU:(CZ×Int)->Option Int)(L:Nat)(a0:CZ)(a1:Int)(k:St cxT.ty->Option (V cxT.ty))(xk:Nat->St cxT.ty->Option (V cxT.ty))(k':Option Int)(hk:k (X49_2 a0 a1)=(k').map n49):∀ (n:Nat) (v2_5_0:Int) (v2_5_1:Int) (v2_5_2:Int) (v2_5_3:(List Int)) (v2_7:Int),bR prog (kU m52 m68 m54 m69 hU) L f49 2 [1,1,1,1,1,0,1,0,0] (cA (aT prog f49) k xk) n (S49_2 a0 a1 v2_5_0 v2_5_1 v2_5_2 v2_5_3 v2_7)=(qO m52 m68 m54 m69 hU L a0 a1 n v2_5_0 v2_5_1 v2_5_2 v2_5_3 v2_7 k').map n49
 | 0,_,_,_,_,_=>rfl
 | n+1,v2_5_0,v2_5_1,v2_5_2,v2_5_3,v2_7=>by
  rw[bS,aOT];have ih:=aJC m52 m68 m54 m69 hU L a0 a1 k xk k' hk n;simp only[qO,aP,aN,aO,aC,aE,ih,hk]
def sI (m52:Int->Option Bool)(m68:Int->Option Bool)(m54:Int->Option Bool)(m69:(Vp×Vp)->Option Bool)(hU:(CZ×Int)->Option Int)(L:Nat)(a0:CZ)(a1:Int):Nat->Int->Int->Int->(List Int)->Int->(Int->Int->Int->(List Int)->Option Int)->Option Int
 | 0,_,_,_,_,_,_=>none
 | n+1,v0_5_0,v0_5_1,v0_5_2,v0_5_3,v0_6,k=>
  bif (decide (v0_6 < (Nat.cast (List.length v0_5_3):Int)))then bif ((decide ((0:Int)<=v0_6))&&(decide (v0_6 < (Nat.cast (List.length v0_5_3):Int))))then cK (hU (a0,(List.getD v0_5_3 (Int.toNat v0_6) (0:Int)))) (0:Int) λ(q4:Int)=>bif (decide (q4 < (0:Int)))then some (4:Int)
     else sI m52 m68 m54 m69 hU L a0 a1 n v0_5_0 v0_5_1 v0_5_2 v0_5_3 (wrap Go.IntKind.i64 (v0_6+(1:Int))) k
   else none
  else k v0_5_0 v0_5_1 v0_5_2 v0_5_3
theorem aJD (m52:Int->Option Bool)(m68:Int->Option Bool)(m54:Int->Option Bool)(m69:(Vp×Vp)->Option Bool)(hU:(CZ×Int)->Option Int)(L:Nat)(a0:CZ)(a1:Int)(k:St cxT.ty->Option (V cxT.ty))(xk:Nat->St cxT.ty->Option (V cxT.ty))(k':Int->Int->Int->(List Int)->Option Int)(hk:∀ (w0_5_0:Int) (w0_5_1:Int) (w0_5_2:Int) (w0_5_3:(List Int)),k (X49_0 a0 a1 w0_5_0 w0_5_1 w0_5_2 w0_5_3)=(k' w0_5_0 w0_5_1 w0_5_2 w0_5_3).map n49):∀ (n:Nat) (v0_5_0:Int) (v0_5_1:Int) (v0_5_2:Int) (v0_5_3:(List Int)) (v0_6:Int),bR prog (kU m52 m68 m54 m69 hU) L f49 0 [1,1,1,1,0,1,0,0] (cA (aT prog f49) k xk) n (S49_0 a0 a1 v0_5_0 v0_5_1 v0_5_2 v0_5_3 v0_6)=(sI m52 m68 m54 m69 hU L a0 a1 n v0_5_0 v0_5_1 v0_5_2 v0_5_3 v0_6 k').map n49
 | 0,_,_,_,_,_=>rfl
 | n+1,v0_5_0,v0_5_1,v0_5_2,v0_5_3,v0_6=>by
  rw[bS,aOU];have ih:=aJD m52 m68 m54 m69 hU L a0 a1 k xk k' hk n;simp only[sI,aP,aN,aO,aC,aE,ih,hk]
def g49 (m52:Int->Option Bool)(m68:Int->Option Bool)(m54:Int->Option Bool)(m69:(Vp×Vp)->Option Bool)(hU:(CZ×Int)->Option Int)(L:Nat)(a0:CZ)(a1:Int):Option Int:=
 bif ((decide ((0:Int)<=a1))&&(decide (a1 < (Nat.cast (List.length a0.2.2):Int))))then cK (m52 (List.getD a0.2.2 (Int.toNat a1) ((0:Int),((0:Int),((0:Int),([]:List (Int)))))).1) false λ(q2:Bool)=>bif (!q2)then some (3:Int)
   else cK (m68 (List.getD a0.2.2 (Int.toNat a1) ((0:Int),((0:Int),((0:Int),([]:List (Int)))))).2.1) false λ(q3:Bool)=>bif (!q3)then some (3:Int)
    else cK (m54 (List.getD a0.2.2 (Int.toNat a1) ((0:Int),((0:Int),((0:Int),([]:List (Int)))))).2.2.1) false λ(q4:Bool)=>bif (!q4)then some (3:Int)
     else bif (decide (a1 > (0:Int)))then bif ((decide ((0:Int)<=(wrap Go.IntKind.i64 (a1-(1:Int)))))&&(decide ((wrap Go.IntKind.i64 (a1-(1:Int))) < (Nat.cast (List.length a0.2.2):Int))))then cK (m69 (((List.getD a0.2.2 (Int.toNat (wrap Go.IntKind.i64 (a1-(1:Int)))) ((0:Int),((0:Int),((0:Int),([]:List (Int)))))).1,((List.getD a0.2.2 (Int.toNat (wrap Go.IntKind.i64 (a1-(1:Int)))) ((0:Int),((0:Int),((0:Int),([]:List (Int)))))).2.1,((List.getD a0.2.2 (Int.toNat (wrap Go.IntKind.i64 (a1-(1:Int)))) ((0:Int),((0:Int),((0:Int),([]:List (Int)))))).2.2.1,(List.getD a0.2.2 (Int.toNat (wrap Go.IntKind.i64 (a1-(1:Int)))) ((0:Int),((0:Int),((0:Int),([]:List (Int)))))).2.2.2))),((List.getD a0.2.2 (Int.toNat a1) ((0:Int),((0:Int),((0:Int),([]:List (Int)))))).1,((List.getD a0.2.2 (Int.toNat a1) ((0:Int),((0:Int),((0:Int),([]:List (Int)))))).2.1,((List.getD a0.2.2 (Int.toNat a1) ((0:Int),((0:Int),((0:Int),([]:List (Int)))))).2.2.1,(List.getD a0.2.2 (Int.toNat a1) ((0:Int),((0:Int),((0:Int),([]:List (Int)))))).2.2.2))))) false λ(q7:Bool)=>bif (!q7)then some (1:Int)
        else sI m52 m68 m54 m69 hU L a0 a1 L (List.getD a0.2.2 (Int.toNat a1) ((0:Int),((0:Int),((0:Int),([]:List (Int)))))).1 (List.getD a0.2.2 (Int.toNat a1) ((0:Int),((0:Int),((0:Int),([]:List (Int)))))).2.1 (List.getD a0.2.2 (Int.toNat a1) ((0:Int),((0:Int),((0:Int),([]:List (Int)))))).2.2.1 (List.getD a0.2.2 (Int.toNat a1) ((0:Int),((0:Int),((0:Int),([]:List (Int)))))).2.2.2 (0:Int) (λ(w0_5_0:Int) (w0_5_1:Int) (w0_5_2:Int) (w0_5_3:(List Int))=>qO m52 m68 m54 m69 hU L a0 a1 L w0_5_0 w0_5_1 w0_5_2 w0_5_3 (1:Int) (some (0:Int)))
      else none
     else sI m52 m68 m54 m69 hU L a0 a1 L (List.getD a0.2.2 (Int.toNat a1) ((0:Int),((0:Int),((0:Int),([]:List (Int)))))).1 (List.getD a0.2.2 (Int.toNat a1) ((0:Int),((0:Int),((0:Int),([]:List (Int)))))).2.1 (List.getD a0.2.2 (Int.toNat a1) ((0:Int),((0:Int),((0:Int),([]:List (Int)))))).2.2.1 (List.getD a0.2.2 (Int.toNat a1) ((0:Int),((0:Int),((0:Int),([]:List (Int)))))).2.2.2 (0:Int) (λ(w0_5_0:Int) (w0_5_1:Int) (w0_5_2:Int) (w0_5_3:(List Int))=>qO m52 m68 m54 m69 hU L a0 a1 L w0_5_0 w0_5_1 w0_5_2 w0_5_3 (1:Int) (some (0:Int)))
 else none
theorem e49 (m52:Int->Option Bool)(m68:Int->Option Bool)(m54:Int->Option Bool)(m69:(Vp×Vp)->Option Bool)(hU:(CZ×Int)->Option Int)(L:Nat)(a0:CZ)(a1:Int):dP prog (kU m52 m68 m54 m69 hU) (aW L) f49 (a49.enc (a0,a1))=(g49 m52 m68 m54 m69 hU L a0 a1).map n49:=by
 let K'2:Option Int:=(some (0:Int))
 have hin2:∀ (v2_5_0:Int) (v2_5_1:Int) (v2_5_2:Int) (v2_5_3:(List Int)) (v2_7:Int),bR prog (kU m52 m68 m54 m69 hU) L f49 2 [1,1,1,1,1,0,1,0,0] (cA (aT prog f49) (bM prog (kU m52 m68 m54 m69 hU) L f49 [1,1,1,1,1,0,1] (aT prog f49)).n (bM prog (kU m52 m68 m54 m69 hU) L f49 [1,1,1,1,1,0,1] (aT prog f49)).x) L (S49_2 a0 a1 v2_5_0 v2_5_1 v2_5_2 v2_5_3 v2_7)=(qO m52 m68 m54 m69 hU L a0 a1 L v2_5_0 v2_5_1 v2_5_2 v2_5_3 v2_7 K'2).map n49:=λv2_5_0 v2_5_1 v2_5_2 v2_5_3 v2_7=>aJC m52 m68 m54 m69 hU L a0 a1 _ _ K'2 (by rw[aNh];simp only[K'2,aP,aN,aO,aC,aE]) L v2_5_0 v2_5_1 v2_5_2 v2_5_3 v2_7
 let K'0:Int->Int->Int->(List Int)->Option Int:=(λ(w0_5_0:Int) (w0_5_1:Int) (w0_5_2:Int) (w0_5_3:(List Int))=>qO m52 m68 m54 m69 hU L a0 a1 L w0_5_0 w0_5_1 w0_5_2 w0_5_3 (1:Int) (some (0:Int)))
 have hin0:∀ (v0_5_0:Int) (v0_5_1:Int) (v0_5_2:Int) (v0_5_3:(List Int)) (v0_6:Int),bR prog (kU m52 m68 m54 m69 hU) L f49 0 [1,1,1,1,0,1,0,0] (cA (aT prog f49) (bM prog (kU m52 m68 m54 m69 hU) L f49 [1,1,1,1,0,1] (aT prog f49)).n (bM prog (kU m52 m68 m54 m69 hU) L f49 [1,1,1,1,0,1] (aT prog f49)).x) L (S49_0 a0 a1 v0_5_0 v0_5_1 v0_5_2 v0_5_3 v0_6)=(sI m52 m68 m54 m69 hU L a0 a1 L v0_5_0 v0_5_1 v0_5_2 v0_5_3 v0_6 K'0).map n49:=λv0_5_0 v0_5_1 v0_5_2 v0_5_3 v0_6=>aJD m52 m68 m54 m69 hU L a0 a1 _ _ K'0 (λw0_5_0 w0_5_1 w0_5_2 w0_5_3=>by rw[aNi];simp only[K'0,aP,aN,aO,aC,aE,hin2,K'2]) L v0_5_0 v0_5_1 v0_5_2 v0_5_3 v0_6
 rw[i49];simp only[g49,aP,aN,aO,aC,aE,hin2,K'2,hin0,K'0]
theorem s49 (m52:Int->Option Bool)(m68:Int->Option Bool)(m54:Int->Option Bool)(m69:(Vp×Vp)->Option Bool)(hU:(CZ×Int)->Option Int)(h52:Sat prog cxT 52 (c52 m52))(h68:Sat prog cxT 68 (c68 m68))(h54:Sat prog cxT 54 (c54 m54))(h69:Sat prog cxT 69 (c69 m69))(h70:Sat prog cxT 70 (c70 hU))(m:(CZ×Int)->Option Int)(hm:∀ (x:(CZ×Int)) t,m x=some t->∃ L,g49 m52 m68 m54 m69 hU L x.1 x.2=some t):Sat prog cxT 49 (c49 m):=
 cT bQ bH (by rfl) (fn:=f49) rfl a49 n49 aQR m (kU m52 m68 m54 m69 hU) (aY h52 (aY h68 (aY h54 (aY h69 (aY h70 bG))))) aZ (λL x=>g49 m52 m68 m54 m69 hU L x.1 x.2) (λL x=>e49 m52 m68 m54 m69 hU L x.1 x.2) hm aUs
def vG:Env cxT:={ Kc:=dL [],Kw:=dK [],lv:=λi=>if i=0 then[(0,[none,some 83,some 96]),(1,[]),(5,[])]else[],xv:=λi=>if i=0 then some []else none }
def S70_0 (a0:CZ)(a1:Int)(v0_5:Int):St cxT.ty:={ slots:=[(.inr (.inr { kind:=2,nm:=0,cells:=[],s:={ own:=0,nm:=0,e:=34,o:=false,xs:=(List.cons a0 []) },i:=0,off:=0 })),(.inl (.inl (lv (.int .i64 a1)))),aI,aI,aI,(.inl (.inl (lv (.int .i64 v0_5))))]++List.replicate 20 aI,D:=[],F:=[],ctr:=1 }
def X70_0 (a0:CZ)(a1:Int):St cxT.ty:={ slots:=[]++List.replicate 26 aI,D:=[],F:=[],ctr:=1 }
theorem i70 (L:Nat)(a0:CZ)(a1:Int):dP prog vG (aW L) f70 (a70.enc (a0,a1))=
 bR prog vG L f70 0 [1,0,1,0,0] (cA (aT prog f70) (bM prog vG L f70 [1,0,1] (aT prog f70)).n (bM prog vG L f70 [1,0,1] (aT prog f70)).x) L (S70_0 a0 a1 (0:Int)):=by kernel_rfl
theorem aOJ (L:Nat)(a0:CZ)(a1:Int)(k:St cxT.ty->Option (V cxT.ty))(xk:Nat->St cxT.ty->Option (V cxT.ty))(g:St cxT.ty->Option (V cxT.ty))(v0_5:Int):dQ prog vG L f70 0 [1,0,1,0,0] (cA (aT prog f70) k xk) g (S70_0 a0 a1 v0_5)=
 bif (decide (v0_5 < (Nat.cast (List.length a0.2.1):Int)))then bif ((decide ((0:Int)<=v0_5))&&(decide (v0_5 < (Nat.cast (List.length a0.2.1):Int))))then bif ((List.getD a0.2.1 (Int.toNat v0_5) ((0:Int),((0:Int),((0:Int),((0:Int),Bool.false))))).1 == a1)then some (n70 v0_5)
   else g (S70_0 a0 a1 (wrap Go.IntKind.i64 (v0_5+(1:Int))))
  else none
 else k (X70_0 a0 a1):=by kernel_rfl
theorem aM7 (L:Nat)(a0:CZ)(a1:Int):(bM prog vG L f70 [1,0,1] (aT prog f70)).n (X70_0 a0 a1)=
 some (n70 (-(1:Int))):=by kernel_rfl
def xR (L:Nat)(a0:CZ)(a1:Int):Nat->Int->(Option Int)->Option Int
 | 0,_,_=>none
 | n+1,v0_5,k=>
  bif (decide (v0_5 < (Nat.cast (List.length a0.2.1):Int)))then bif ((decide ((0:Int)<=v0_5))&&(decide (v0_5 < (Nat.cast (List.length a0.2.1):Int))))then bif ((List.getD a0.2.1 (Int.toNat v0_5) ((0:Int),((0:Int),((0:Int),((0:Int),Bool.false))))).1 == a1)then some v0_5
    else xR L a0 a1 n (wrap Go.IntKind.i64 (v0_5+(1:Int))) k
   else none
  else k
theorem aJs (L:Nat)(a0:CZ)(a1:Int)(k:St cxT.ty->Option (V cxT.ty))(xk:Nat->St cxT.ty->Option (V cxT.ty))(k':Option Int)(hk:k (X70_0 a0 a1)=(k').map n70):∀ (n:Nat) (v0_5:Int),bR prog vG L f70 0 [1,0,1,0,0] (cA (aT prog f70) k xk) n (S70_0 a0 a1 v0_5)=(xR L a0 a1 n v0_5 k').map n70
 | 0,_=>rfl
 | n+1,v0_5=>by
  rw[bS,aOJ];have ih:=aJs L a0 a1 k xk k' hk n;simp only[xR,aP,aN,aO,aC,aE,ih,hk]
def g70 (L:Nat)(a0:CZ)(a1:Int):Option Int:=
 xR L a0 a1 L (0:Int) (some (-(1:Int)))
theorem e70 (L:Nat)(a0:CZ)(a1:Int):dP prog vG (aW L) f70 (a70.enc (a0,a1))=(g70 L a0 a1).map n70:=by
 let K'0:Option Int:=(some (-(1:Int)))
 have hin0:∀ (v0_5:Int),bR prog vG L f70 0 [1,0,1,0,0] (cA (aT prog f70) (bM prog vG L f70 [1,0,1] (aT prog f70)).n (bM prog vG L f70 [1,0,1] (aT prog f70)).x) L (S70_0 a0 a1 v0_5)=(xR L a0 a1 L v0_5 K'0).map n70:=λv0_5=>aJs L a0 a1 _ _ K'0 (by rw[aM7];simp only[K'0,aP,aN,aO,aC,aE]) L v0_5
 rw[i70];simp only[g70,aP,aN,aO,aC,aE,hin0,K'0]
theorem s70 (m:(CZ×Int)->Option Int)(hm:∀ (x:(CZ×Int)) t,m x=some t->∃ L,g70 L x.1 x.2=some t):Sat prog cxT 70 (c70 m):=
 cT bQ bH (by rfl) (fn:=f70) rfl a70 n70 aQy m vG bG aZ (λL x=>g70 L x.1 x.2) (λL x=>e70 L x.1 x.2) hm aT9
def aLF (m46:((List Bk)×Int)->Option Int)(m47:((List Vp)×Int)->Option Int):Env cxT:={ Kc:=dL [(46,c46 m46),(47,c47 m47)],Kw:=dK [],lv:=λi=>[],xv:=λi=>none }
theorem i23 (m46:((List Bk)×Int)->Option Int)(m47:((List Vp)×Int)->Option Int)(L:Nat)(a0_0:Int)(a0_1:(List Bk))(a0_2:(List Vp))(a1:Int):dP prog (aLF m46 m47) (aW L) f23 (a23.enc ((a0_0,a0_1,a0_2),a1))=
 cK (m46 (a0_1,a1)) (0:Int) λ(q1:Int)=>bif (decide (q1 < (0:Int)))then some (n23 (-(1:Int)))
  else cK (m47 (a0_2,q1)) (0:Int) λ(q2:Int)=>bif (decide (q2 < (0:Int)))then some (n23 (-(1:Int)))
   else some (n23 q2):=by kernel_rfl
def g23 (m46:((List Bk)×Int)->Option Int)(m47:((List Vp)×Int)->Option Int)(L:Nat)(a0_0:Int)(a0_1:(List Bk))(a0_2:(List Vp))(a1:Int):Option Int:=
 cK (m46 (a0_1,a1)) (0:Int) λ(q1:Int)=>bif (decide (q1 < (0:Int)))then some (-(1:Int))
  else cK (m47 (a0_2,q1)) (0:Int) λ(q2:Int)=>bif (decide (q2 < (0:Int)))then some (-(1:Int))
   else some q2
theorem e23 (m46:((List Bk)×Int)->Option Int)(m47:((List Vp)×Int)->Option Int)(L:Nat)(a0_0:Int)(a0_1:(List Bk))(a0_2:(List Vp))(a1:Int):dP prog (aLF m46 m47) (aW L) f23 (a23.enc ((a0_0,a0_1,a0_2),a1))=(g23 m46 m47 L a0_0 a0_1 a0_2 a1).map n23:=by
 rw[i23];simp only[g23,aP,aN,aO,aC,aE]
theorem s23 (m46:((List Bk)×Int)->Option Int)(m47:((List Vp)×Int)->Option Int)(h46:Sat prog cxT 46 (c46 m46))(h47:Sat prog cxT 47 (c47 m47))(m:(CZ×Int)->Option Int)(hm:∀ (x:(CZ×Int)) t,m x=some t->∃ L,g23 m46 m47 L x.1.1 x.1.2.1 x.1.2.2 x.2=some t):Sat prog cxT 23 (c23 m):=
 cT bQ bH (by rfl) (fn:=f23) rfl a23 n23 aRd m (aLF m46 m47) (aY h46 (aY h47 bG)) aZ (λL x=>g23 m46 m47 L x.1.1 x.1.2.1 x.1.2.2 x.2) (λL x=>e23 m46 m47 L x.1.1 x.1.2.1 x.1.2.2 x.2) hm aUO
def aLs:Env cxT:={ Kc:=dL [],Kw:=dK [],lv:=λi=>[],xv:=λi=>none }
theorem i46 (L:Nat)(a0:(List Bk))(a1:Int):dP prog aLs (aW L) f46 (a46.enc (a0,a1))=
 bif (decide ((wrap Go.IntKind.i64 (a1-(Nat.cast (List.length a0):Int))) < (0:Int)))then some (n46 (-(1:Int)))
 else some (n46 (wrap Go.IntKind.i64 (a1-(Nat.cast (List.length a0):Int)))):=by kernel_rfl
def g46 (L:Nat)(a0:(List Bk))(a1:Int):Option Int:=
 bif (decide ((wrap Go.IntKind.i64 (a1-(Nat.cast (List.length a0):Int))) < (0:Int)))then some (-(1:Int))
 else some (wrap Go.IntKind.i64 (a1-(Nat.cast (List.length a0):Int)))
theorem e46 (L:Nat)(a0:(List Bk))(a1:Int):dP prog aLs (aW L) f46 (a46.enc (a0,a1))=(g46 L a0 a1).map n46:=by
 rw[i46];simp only[g46,aP,aN,aO,aC,aE]
theorem s46 (m:((List Bk)×Int)->Option Int)(hm:∀ (x:((List Bk)×Int)) t,m x=some t->∃ L,g46 L x.1 x.2=some t):Sat prog cxT 46 (c46 m):=
 cT bQ bH (by rfl) (fn:=f46) rfl a46 n46 aQU m aLs bG aZ (λL x=>g46 L x.1 x.2) (λL x=>e46 L x.1 x.2) hm aUv
def vO (lX:(Vp×Int)->Option Int):Env cxT:={ Kc:=dL [(67,c67 lX)],Kw:=dK [],lv:=λi=>if i=0 then[(0,[some 100]),(1,[]),(5,[])]else[],xv:=λi=>if i=0 then some [(1,[])]else none }
def S47_0 (a0:(List Vp))(a1:Int)(v0_1:Int)(v0_5:Int):St cxT.ty:={ slots:=[(.inl (.inl (ls { own:=0,nm:=0,e:=100,o:=false,xs:=a0 }))),(.inl (.inl (lv (.int .i64 v0_1)))),aI,aI,aI,(.inl (.inl (lv (.int .i64 v0_5))))]++List.replicate 21 aI,D:=[],F:=[],ctr:=1 }
def X47_0 (a0:(List Vp))(a1:Int)(w0_1:Int):St cxT.ty:={ slots:=[aI,(.inl (.inl (lv (.int .i64 w0_1))))]++List.replicate 25 aI,D:=[],F:=[],ctr:=1 }
theorem i47 (lX:(Vp×Int)->Option Int)(L:Nat)(a0:(List Vp))(a1:Int):dP prog (vO lX) (aW L) f47 (a47.enc (a0,a1))=
 bif (decide ((wrap Go.IntKind.i64 (a1-(Nat.cast (List.length a0):Int))) < (0:Int)))then some (n47 (-(1:Int)))
 else bR prog (vO lX) L f47 0 [1,1,1,0,1,0,0] (cA (aT prog f47) (bM prog (vO lX) L f47 [1,1,1,0,1] (aT prog f47)).n (bM prog (vO lX) L f47 [1,1,1,0,1] (aT prog f47)).x) L (S47_0 a0 a1 (wrap Go.IntKind.i64 (a1-(Nat.cast (List.length a0):Int))) (0:Int)):=by kernel_rfl
theorem aOV (lX:(Vp×Int)->Option Int)(L:Nat)(a0:(List Vp))(a1:Int)(k:St cxT.ty->Option (V cxT.ty))(xk:Nat->St cxT.ty->Option (V cxT.ty))(g:St cxT.ty->Option (V cxT.ty))(v0_1:Int)(v0_5:Int):dQ prog (vO lX) L f47 0 [1,1,1,0,1,0,0] (cA (aT prog f47) k xk) g (S47_0 a0 a1 v0_1 v0_5)=
 bif (decide (v0_5 < (Nat.cast (List.length a0):Int)))then bif ((decide ((0:Int)<=v0_5))&&(decide (v0_5 < (Nat.cast (List.length a0):Int))))then cK (lX (((List.getD a0 (Int.toNat v0_5) ((0:Int),((0:Int),((0:Int),([]:List (Int)))))).1,((List.getD a0 (Int.toNat v0_5) ((0:Int),((0:Int),((0:Int),([]:List (Int)))))).2.1,((List.getD a0 (Int.toNat v0_5) ((0:Int),((0:Int),((0:Int),([]:List (Int)))))).2.2.1,(List.getD a0 (Int.toNat v0_5) ((0:Int),((0:Int),((0:Int),([]:List (Int)))))).2.2.2))),v0_1)) (0:Int) λ(q3:Int)=>bif (decide (q3 < (0:Int)))then some (n47 (-(1:Int)))
    else g (S47_0 a0 a1 q3 (wrap Go.IntKind.i64 (v0_5+(1:Int))))
  else none
 else k (X47_0 a0 a1 v0_1):=by kernel_rfl
theorem aNj (lX:(Vp×Int)->Option Int)(L:Nat)(a0:(List Vp))(a1:Int)(w0_1:Int):(bM prog (vO lX) L f47 [1,1,1,0,1] (aT prog f47)).n (X47_0 a0 a1 w0_1)=
 some (n47 w0_1):=by kernel_rfl
def xX (lX:(Vp×Int)->Option Int)(L:Nat)(a0:(List Vp))(a1:Int):Nat->Int->Int->(Int->Option Int)->Option Int
 | 0,_,_,_=>none
 | n+1,v0_1,v0_5,k=>
  bif (decide (v0_5 < (Nat.cast (List.length a0):Int)))then bif ((decide ((0:Int)<=v0_5))&&(decide (v0_5 < (Nat.cast (List.length a0):Int))))then cK (lX (((List.getD a0 (Int.toNat v0_5) ((0:Int),((0:Int),((0:Int),([]:List (Int)))))).1,((List.getD a0 (Int.toNat v0_5) ((0:Int),((0:Int),((0:Int),([]:List (Int)))))).2.1,((List.getD a0 (Int.toNat v0_5) ((0:Int),((0:Int),((0:Int),([]:List (Int)))))).2.2.1,(List.getD a0 (Int.toNat v0_5) ((0:Int),((0:Int),((0:Int),([]:List (Int)))))).2.2.2))),v0_1)) (0:Int) λ(q4:Int)=>bif (decide (q4 < (0:Int)))then some (-(1:Int))
     else xX lX L a0 a1 n q4 (wrap Go.IntKind.i64 (v0_5+(1:Int))) k
   else none
  else k v0_1
theorem aJE (lX:(Vp×Int)->Option Int)(L:Nat)(a0:(List Vp))(a1:Int)(k:St cxT.ty->Option (V cxT.ty))(xk:Nat->St cxT.ty->Option (V cxT.ty))(k':Int->Option Int)(hk:∀ (w0_1:Int),k (X47_0 a0 a1 w0_1)=(k' w0_1).map n47):∀ (n:Nat) (v0_1:Int) (v0_5:Int),bR prog (vO lX) L f47 0 [1,1,1,0,1,0,0] (cA (aT prog f47) k xk) n (S47_0 a0 a1 v0_1 v0_5)=(xX lX L a0 a1 n v0_1 v0_5 k').map n47
 | 0,_,_=>rfl
 | n+1,v0_1,v0_5=>by
  rw[bS,aOV];have ih:=aJE lX L a0 a1 k xk k' hk n;simp only[xX,aP,aN,aO,aC,aE,ih,hk]
def g47 (lX:(Vp×Int)->Option Int)(L:Nat)(a0:(List Vp))(a1:Int):Option Int:=
 bif (decide ((wrap Go.IntKind.i64 (a1-(Nat.cast (List.length a0):Int))) < (0:Int)))then some (-(1:Int))
 else xX lX L a0 a1 L (wrap Go.IntKind.i64 (a1-(Nat.cast (List.length a0):Int))) (0:Int) (λ(w0_1:Int)=>some w0_1)
theorem e47 (lX:(Vp×Int)->Option Int)(L:Nat)(a0:(List Vp))(a1:Int):dP prog (vO lX) (aW L) f47 (a47.enc (a0,a1))=(g47 lX L a0 a1).map n47:=by
 let K'0:Int->Option Int:=(λ(w0_1:Int)=>some w0_1)
 have hin0:∀ (v0_1:Int) (v0_5:Int),bR prog (vO lX) L f47 0 [1,1,1,0,1,0,0] (cA (aT prog f47) (bM prog (vO lX) L f47 [1,1,1,0,1] (aT prog f47)).n (bM prog (vO lX) L f47 [1,1,1,0,1] (aT prog f47)).x) L (S47_0 a0 a1 v0_1 v0_5)=(xX lX L a0 a1 L v0_1 v0_5 K'0).map n47:=λv0_1 v0_5=>aJE lX L a0 a1 _ _ K'0 (λw0_1=>by rw[aNj];simp only[K'0,aP,aN,aO,aC,aE]) L v0_1 v0_5
 rw[i47];simp only[g47,aP,aN,aO,aC,aE,hin0,K'0]
theorem s47 (lX:(Vp×Int)->Option Int)(h67:Sat prog cxT 67 (c67 lX))(m:((List Vp)×Int)->Option Int)(hm:∀ (x:((List Vp)×Int)) t,m x=some t->∃ L,g47 lX L x.1 x.2=some t):Sat prog cxT 47 (c47 m):=
 cT bQ bH (by rfl) (fn:=f47) rfl a47 n47 aQT m (vO lX) (aY h67 bG) aZ (λL x=>g47 lX L x.1 x.2) (λL x=>e47 lX L x.1 x.2) hm aUu
def ev5 (jX:(CZ×Int)->Option Int)(qJ:((List DZ)×Int)->Option Int):Env cxT:={ Kc:=dL [(23,c23 jX),(11,c11 qJ)],Kw:=dK [],lv:=λi=>[],xv:=λi=>none }
theorem i5 (jX:(CZ×Int)->Option Int)(qJ:((List DZ)×Int)->Option Int)(L:Nat)(a0_0:Int)(a0_1:Int)(a0_2:Bool)(a0_3:Int)(a0_4:(List Bk))(a0_5:(List Vp))(a0_6:(List DZ))(a1:Int):dP prog (ev5 jX qJ) (aW L) f5 (a5.enc ((a0_0,a0_1,a0_2,a0_3,a0_4,a0_5,a0_6),a1))=
 cK (jX ((a0_3,(a0_4,a0_5)),a1)) (0:Int) λ(q1:Int)=>bif (decide (q1 < (0:Int)))then some (n5 (-(1:Int)))
  else cK (qJ (a0_6,q1)) (0:Int) λ(q2:Int)=>bif (decide (q2 < (0:Int)))then some (n5 (-(1:Int)))
   else some (n5 q2):=by kernel_rfl
def g5 (jX:(CZ×Int)->Option Int)(qJ:((List DZ)×Int)->Option Int)(L:Nat)(a0_0:Int)(a0_1:Int)(a0_2:Bool)(a0_3:Int)(a0_4:(List Bk))(a0_5:(List Vp))(a0_6:(List DZ))(a1:Int):Option Int:=
 cK (jX ((a0_3,(a0_4,a0_5)),a1)) (0:Int) λ(q1:Int)=>bif (decide (q1 < (0:Int)))then some (-(1:Int))
  else cK (qJ (a0_6,q1)) (0:Int) λ(q2:Int)=>bif (decide (q2 < (0:Int)))then some (-(1:Int))
   else some q2
theorem e5 (jX:(CZ×Int)->Option Int)(qJ:((List DZ)×Int)->Option Int)(L:Nat)(a0_0:Int)(a0_1:Int)(a0_2:Bool)(a0_3:Int)(a0_4:(List Bk))(a0_5:(List Vp))(a0_6:(List DZ))(a1:Int):dP prog (ev5 jX qJ) (aW L) f5 (a5.enc ((a0_0,a0_1,a0_2,a0_3,a0_4,a0_5,a0_6),a1))=(g5 jX qJ L a0_0 a0_1 a0_2 a0_3 a0_4 a0_5 a0_6 a1).map n5:=by
 rw[i5];simp only[g5,aP,aN,aO,aC,aE]
def aLD (m55:(List Bk)->Option (List Bk))(m56:(List Vp)->Option (List Vp)):Env cxT:={ Kc:=dL [(55,c55 m55),(56,c56 m56)],Kw:=dK [],lv:=λi=>[],xv:=λi=>none }
theorem i28 (m55:(List Bk)->Option (List Bk))(m56:(List Vp)->Option (List Vp))(L:Nat)(a0_0:Int)(a0_1:(List Bk))(a0_2:(List Vp)):dP prog (aLD m55 m56) (aW L) f28 (a28.enc (a0_0,a0_1,a0_2))=
 cK (m55 a0_1) [] λ(q1:(List Bk))=>cK (m56 a0_2) [] λ(q2:(List Vp))=>some (n28 (a0_0,q1,q2)):=by kernel_rfl
def g28 (m55:(List Bk)->Option (List Bk))(m56:(List Vp)->Option (List Vp))(L:Nat)(a0_0:Int)(a0_1:(List Bk))(a0_2:(List Vp)):Option CZ:=
 cK (m55 a0_1) [] λ(q1:(List Bk))=>cK (m56 a0_2) [] λ(q2:(List Vp))=>some (a0_0,q1,q2)
theorem e28 (m55:(List Bk)->Option (List Bk))(m56:(List Vp)->Option (List Vp))(L:Nat)(a0_0:Int)(a0_1:(List Bk))(a0_2:(List Vp)):dP prog (aLD m55 m56) (aW L) f28 (a28.enc (a0_0,a0_1,a0_2))=(g28 m55 m56 L a0_0 a0_1 a0_2).map n28:=by
 rw[i28];simp only[g28,aP,aN,aO,aC,aE]
theorem s28 (m55:(List Bk)->Option (List Bk))(m56:(List Vp)->Option (List Vp))(h55:Sat prog cxT 55 (c55 m55))(h56:Sat prog cxT 56 (c56 m56))(m:CZ->Option CZ)(hm:∀ (x:CZ) t,m x=some t->∃ L,g28 m55 m56 L x.1 x.2.1 x.2.2=some t):Sat prog cxT 28 (c28 m):=
 cT bQ bH (by rfl) (fn:=f28) rfl a28 n28 aRa m (aLD m55 m56) (aY h55 (aY h56 bG)) aZ (λL x=>g28 m55 m56 L x.1 x.2.1 x.2.2) (λL x=>e28 m55 m56 L x.1 x.2.1 x.2.2) hm aUL
def vM (mK:Vp->Option Vp):Env cxT:={ Kc:=dL [(72,c72 mK)],Kw:=dK [],lv:=λi=>if i=0 then[(0,[some 100]),(3,[some 96]),(4,[])]else[],xv:=λi=>if i=0 then some [(3,[some 96])]else none }
def S56_0 (a0:(List Vp))(v0_3:(List Vp))(v0_4:Int):St cxT.ty:={ slots:=[(.inl (.inl (ls { own:=0,nm:=0,e:=100,o:=false,xs:=a0 }))),aI,aI,(.inl (.inl (ls { own:=1,nm:=192,e:=96,o:=true,xs:=v0_3 }))),(.inl (.inl (lv (.int .i64 v0_4))))]++List.replicate 18 aI,D:=[],F:=[],ctr:=1 }
def X56_0 (a0:(List Vp))(w0_3:(List Vp)):St cxT.ty:={ slots:=[aI,aI,aI,(.inl (.inl (ls { own:=1,nm:=192,e:=96,o:=true,xs:=w0_3 })))]++List.replicate 19 aI,D:=[],F:=[],ctr:=1 }
theorem i56 (mK:Vp->Option Vp)(L:Nat)(a0:(List Vp)):dP prog (vM mK) (aW L) f56 (a56.enc a0)=
 bif (((decide ((0:Int)<=(Nat.cast (List.length a0):Int)))&&(decide ((Nat.cast (List.length a0):Int)<=(Nat.cast (List.length a0):Int))))&&(decide ((Nat.cast (List.length a0):Int)<=(1000000000:Int))))then bR prog (vM mK) L f56 0 [1,1,0,1,0,0] (cA (aT prog f56) (bM prog (vM mK) L f56 [1,1,0,1] (aT prog f56)).n (bM prog (vM mK) L f56 [1,1,0,1] (aT prog f56)).x) L (S56_0 a0 (List.replicate (Int.toNat (Nat.cast (List.length a0):Int)) ((0:Int),((0:Int),((0:Int),([]:List (Int)))))) (0:Int))
 else none:=by kernel_rfl
theorem aOR (mK:Vp->Option Vp)(L:Nat)(a0:(List Vp))(k:St cxT.ty->Option (V cxT.ty))(xk:Nat->St cxT.ty->Option (V cxT.ty))(g:St cxT.ty->Option (V cxT.ty))(v0_3:(List Vp))(v0_4:Int):dQ prog (vM mK) L f56 0 [1,1,0,1,0,0] (cA (aT prog f56) k xk) g (S56_0 a0 v0_3 v0_4)=
 bif (decide (v0_4 < (Nat.cast (List.length a0):Int)))then bif ((decide ((0:Int)<=v0_4))&&(decide (v0_4 < (Nat.cast (List.length a0):Int))))then cK (mK ((List.getD a0 (Int.toNat v0_4) ((0:Int),((0:Int),((0:Int),([]:List (Int)))))).1,((List.getD a0 (Int.toNat v0_4) ((0:Int),((0:Int),((0:Int),([]:List (Int)))))).2.1,((List.getD a0 (Int.toNat v0_4) ((0:Int),((0:Int),((0:Int),([]:List (Int)))))).2.2.1,(List.getD a0 (Int.toNat v0_4) ((0:Int),((0:Int),((0:Int),([]:List (Int)))))).2.2.2)))) ((0:Int),(0:Int),(0:Int),[]) λ(q3:Vp)=>bif ((decide ((0:Int)<=v0_4))&&(decide (v0_4 < (Nat.cast (List.length v0_3):Int))))then g (S56_0 a0 (List.set v0_3 (Int.toNat v0_4) (q3.1,(q3.2.1,(q3.2.2.1,q3.2.2.2)))) (wrap Go.IntKind.i64 (v0_4+(1:Int))))
    else none
  else none
 else k (X56_0 a0 v0_3):=by kernel_rfl
theorem aNf (mK:Vp->Option Vp)(L:Nat)(a0:(List Vp))(w0_3:(List Vp)):(bM prog (vM mK) L f56 [1,1,0,1] (aT prog f56)).n (X56_0 a0 w0_3)=
 some (n56 w0_3):=by kernel_rfl
def xV (mK:Vp->Option Vp)(L:Nat)(a0:(List Vp)):Nat->(List Vp)->Int->((List Vp)->Option (List Vp))->Option (List Vp)
 | 0,_,_,_=>none
 | n+1,v0_3,v0_4,k=>
  bif (decide (v0_4 < (Nat.cast (List.length a0):Int)))then bif ((decide ((0:Int)<=v0_4))&&(decide (v0_4 < (Nat.cast (List.length a0):Int))))then cK (mK ((List.getD a0 (Int.toNat v0_4) ((0:Int),((0:Int),((0:Int),([]:List (Int)))))).1,((List.getD a0 (Int.toNat v0_4) ((0:Int),((0:Int),((0:Int),([]:List (Int)))))).2.1,((List.getD a0 (Int.toNat v0_4) ((0:Int),((0:Int),((0:Int),([]:List (Int)))))).2.2.1,(List.getD a0 (Int.toNat v0_4) ((0:Int),((0:Int),((0:Int),([]:List (Int)))))).2.2.2)))) ((0:Int),(0:Int),(0:Int),[]) λ(q4:Vp)=>bif ((decide ((0:Int)<=v0_4))&&(decide (v0_4 < (Nat.cast (List.length v0_3):Int))))then xV mK L a0 n (List.set v0_3 (Int.toNat v0_4) (q4.1,(q4.2.1,(q4.2.2.1,q4.2.2.2)))) (wrap Go.IntKind.i64 (v0_4+(1:Int))) k
     else none
   else none
  else k v0_3
theorem aJA (mK:Vp->Option Vp)(L:Nat)(a0:(List Vp))(k:St cxT.ty->Option (V cxT.ty))(xk:Nat->St cxT.ty->Option (V cxT.ty))(k':(List Vp)->Option (List Vp))(hk:∀ (w0_3:(List Vp)),k (X56_0 a0 w0_3)=(k' w0_3).map n56):∀ (n:Nat) (v0_3:(List Vp)) (v0_4:Int),bR prog (vM mK) L f56 0 [1,1,0,1,0,0] (cA (aT prog f56) k xk) n (S56_0 a0 v0_3 v0_4)=(xV mK L a0 n v0_3 v0_4 k').map n56
 | 0,_,_=>rfl
 | n+1,v0_3,v0_4=>by
  rw[bS,aOR];have ih:=aJA mK L a0 k xk k' hk n;simp only[xV,aP,aN,aO,aC,aE,ih,hk]
def g56 (mK:Vp->Option Vp)(L:Nat)(a0:(List Vp)):Option (List Vp):=
 bif (((decide ((0:Int)<=(Nat.cast (List.length a0):Int)))&&(decide ((Nat.cast (List.length a0):Int)<=(Nat.cast (List.length a0):Int))))&&(decide ((Nat.cast (List.length a0):Int)<=(1000000000:Int))))then xV mK L a0 L (List.replicate (Int.toNat (Nat.cast (List.length a0):Int)) ((0:Int),((0:Int),((0:Int),([]:List (Int)))))) (0:Int) (λ(w0_3:(List Vp))=>some w0_3)
 else none
theorem e56 (mK:Vp->Option Vp)(L:Nat)(a0:(List Vp)):dP prog (vM mK) (aW L) f56 (a56.enc a0)=(g56 mK L a0).map n56:=by
 let K'0:(List Vp)->Option (List Vp):=(λ(w0_3:(List Vp))=>some w0_3)
 have hin0:∀ (v0_3:(List Vp)) (v0_4:Int),bR prog (vM mK) L f56 0 [1,1,0,1,0,0] (cA (aT prog f56) (bM prog (vM mK) L f56 [1,1,0,1] (aT prog f56)).n (bM prog (vM mK) L f56 [1,1,0,1] (aT prog f56)).x) L (S56_0 a0 v0_3 v0_4)=(xV mK L a0 L v0_3 v0_4 K'0).map n56:=λv0_3 v0_4=>aJA mK L a0 _ _ K'0 (λw0_3=>by rw[aNf];simp only[K'0,aP,aN,aO,aC,aE]) L v0_3 v0_4
 rw[i56];simp only[g56,aP,aN,aO,aC,aE,hin0,K'0]
theorem s56 (mK:Vp->Option Vp)(h72:Sat prog cxT 72 (c72 mK))(m:(List Vp)->Option (List Vp))(hm:∀ (x:(List Vp)) t,m x=some t->∃ L,g56 mK L x=some t):Sat prog cxT 56 (c56 m):=
 cT bQ bH (by rfl) (fn:=f56) rfl a56 n56 aQK m (vM mK) (aY h72 bG) aZ (λL x=>g56 mK L x) (λL x=>e56 mK L x) hm aUl
def vY (nK:DZ->Option DZ):Env cxT:={ Kc:=dL [(37,c37 nK)],Kw:=dK [],lv:=λi=>if i=0 then[(0,[some 72]),(3,[some 64]),(4,[])]else[],xv:=λi=>if i=0 then some [(3,[some 64])]else none }
def S14_0 (a0:(List DZ))(v0_3:(List DZ))(v0_4:Int):St cxT.ty:={ slots:=[(.inl (.inl (ls { own:=0,nm:=0,e:=72,o:=false,xs:=a0 }))),aI,aI,(.inl (.inl (ls { own:=1,nm:=192,e:=64,o:=true,xs:=v0_3 }))),(.inl (.inl (lv (.int .i64 v0_4))))]++List.replicate 18 aI,D:=[],F:=[],ctr:=1 }
def X14_0 (a0:(List DZ))(w0_3:(List DZ)):St cxT.ty:={ slots:=[aI,aI,aI,(.inl (.inl (ls { own:=1,nm:=192,e:=64,o:=true,xs:=w0_3 })))]++List.replicate 19 aI,D:=[],F:=[],ctr:=1 }
theorem i14 (nK:DZ->Option DZ)(L:Nat)(a0:(List DZ)):dP prog (vY nK) (aW L) f14 (a14.enc a0)=
 bif (((decide ((0:Int)<=(Nat.cast (List.length a0):Int)))&&(decide ((Nat.cast (List.length a0):Int)<=(Nat.cast (List.length a0):Int))))&&(decide ((Nat.cast (List.length a0):Int)<=(1000000000:Int))))then bR prog (vY nK) L f14 0 [1,1,0,1,0,0] (cA (aT prog f14) (bM prog (vY nK) L f14 [1,1,0,1] (aT prog f14)).n (bM prog (vY nK) L f14 [1,1,0,1] (aT prog f14)).x) L (S14_0 a0 (List.replicate (Int.toNat (Nat.cast (List.length a0):Int)) ((0:Int),((0:Int),((0:Int),((0:Int),((0:Int),(0:Int))))))) (0:Int))
 else none:=by kernel_rfl
theorem aO9 (nK:DZ->Option DZ)(L:Nat)(a0:(List DZ))(k:St cxT.ty->Option (V cxT.ty))(xk:Nat->St cxT.ty->Option (V cxT.ty))(g:St cxT.ty->Option (V cxT.ty))(v0_3:(List DZ))(v0_4:Int):dQ prog (vY nK) L f14 0 [1,1,0,1,0,0] (cA (aT prog f14) k xk) g (S14_0 a0 v0_3 v0_4)=
 bif (decide (v0_4 < (Nat.cast (List.length a0):Int)))then bif ((decide ((0:Int)<=v0_4))&&(decide (v0_4 < (Nat.cast (List.length a0):Int))))then cK (nK ((List.getD a0 (Int.toNat v0_4) ((0:Int),((0:Int),((0:Int),((0:Int),((0:Int),(0:Int))))))).1,((List.getD a0 (Int.toNat v0_4) ((0:Int),((0:Int),((0:Int),((0:Int),((0:Int),(0:Int))))))).2.1,((List.getD a0 (Int.toNat v0_4) ((0:Int),((0:Int),((0:Int),((0:Int),((0:Int),(0:Int))))))).2.2.1,((List.getD a0 (Int.toNat v0_4) ((0:Int),((0:Int),((0:Int),((0:Int),((0:Int),(0:Int))))))).2.2.2.1,((List.getD a0 (Int.toNat v0_4) ((0:Int),((0:Int),((0:Int),((0:Int),((0:Int),(0:Int))))))).2.2.2.2.1,(List.getD a0 (Int.toNat v0_4) ((0:Int),((0:Int),((0:Int),((0:Int),((0:Int),(0:Int))))))).2.2.2.2.2)))))) ((0:Int),(0:Int),(0:Int),(0:Int),(0:Int),(0:Int)) λ(q3:DZ)=>bif ((decide ((0:Int)<=v0_4))&&(decide (v0_4 < (Nat.cast (List.length v0_3):Int))))then g (S14_0 a0 (List.set v0_3 (Int.toNat v0_4) (q3.1,(q3.2.1,(q3.2.2.1,(q3.2.2.2.1,(q3.2.2.2.2.1,q3.2.2.2.2.2)))))) (wrap Go.IntKind.i64 (v0_4+(1:Int))))
    else none
  else none
 else k (X14_0 a0 v0_3):=by kernel_rfl
theorem aNx (nK:DZ->Option DZ)(L:Nat)(a0:(List DZ))(w0_3:(List DZ)):(bM prog (vY nK) L f14 [1,1,0,1] (aT prog f14)).n (X14_0 a0 w0_3)=
 some (n14 w0_3):=by kernel_rfl
def yE (nK:DZ->Option DZ)(L:Nat)(a0:(List DZ)):Nat->(List DZ)->Int->((List DZ)->Option (List DZ))->Option (List DZ)
 | 0,_,_,_=>none
 | n+1,v0_3,v0_4,k=>
  bif (decide (v0_4 < (Nat.cast (List.length a0):Int)))then bif ((decide ((0:Int)<=v0_4))&&(decide (v0_4 < (Nat.cast (List.length a0):Int))))then cK (nK ((List.getD a0 (Int.toNat v0_4) ((0:Int),((0:Int),((0:Int),((0:Int),((0:Int),(0:Int))))))).1,((List.getD a0 (Int.toNat v0_4) ((0:Int),((0:Int),((0:Int),((0:Int),((0:Int),(0:Int))))))).2.1,((List.getD a0 (Int.toNat v0_4) ((0:Int),((0:Int),((0:Int),((0:Int),((0:Int),(0:Int))))))).2.2.1,((List.getD a0 (Int.toNat v0_4) ((0:Int),((0:Int),((0:Int),((0:Int),((0:Int),(0:Int))))))).2.2.2.1,((List.getD a0 (Int.toNat v0_4) ((0:Int),((0:Int),((0:Int),((0:Int),((0:Int),(0:Int))))))).2.2.2.2.1,(List.getD a0 (Int.toNat v0_4) ((0:Int),((0:Int),((0:Int),((0:Int),((0:Int),(0:Int))))))).2.2.2.2.2)))))) ((0:Int),(0:Int),(0:Int),(0:Int),(0:Int),(0:Int)) λ(q4:DZ)=>bif ((decide ((0:Int)<=v0_4))&&(decide (v0_4 < (Nat.cast (List.length v0_3):Int))))then yE nK L a0 n (List.set v0_3 (Int.toNat v0_4) (q4.1,(q4.2.1,(q4.2.2.1,(q4.2.2.2.1,(q4.2.2.2.2.1,q4.2.2.2.2.2)))))) (wrap Go.IntKind.i64 (v0_4+(1:Int))) k
     else none
   else none
  else k v0_3
theorem aJS (nK:DZ->Option DZ)(L:Nat)(a0:(List DZ))(k:St cxT.ty->Option (V cxT.ty))(xk:Nat->St cxT.ty->Option (V cxT.ty))(k':(List DZ)->Option (List DZ))(hk:∀ (w0_3:(List DZ)),k (X14_0 a0 w0_3)=(k' w0_3).map n14):∀ (n:Nat) (v0_3:(List DZ)) (v0_4:Int),bR prog (vY nK) L f14 0 [1,1,0,1,0,0] (cA (aT prog f14) k xk) n (S14_0 a0 v0_3 v0_4)=(yE nK L a0 n v0_3 v0_4 k').map n14
 | 0,_,_=>rfl
 | n+1,v0_3,v0_4=>by
  rw[bS,aO9];have ih:=aJS nK L a0 k xk k' hk n;simp only[yE,aP,aN,aO,aC,aE,ih,hk]
def g14 (nK:DZ->Option DZ)(L:Nat)(a0:(List DZ)):Option (List DZ):=
 bif (((decide ((0:Int)<=(Nat.cast (List.length a0):Int)))&&(decide ((Nat.cast (List.length a0):Int)<=(Nat.cast (List.length a0):Int))))&&(decide ((Nat.cast (List.length a0):Int)<=(1000000000:Int))))then yE nK L a0 L (List.replicate (Int.toNat (Nat.cast (List.length a0):Int)) ((0:Int),((0:Int),((0:Int),((0:Int),((0:Int),(0:Int))))))) (0:Int) (λ(w0_3:(List DZ))=>some w0_3)
 else none
theorem e14 (nK:DZ->Option DZ)(L:Nat)(a0:(List DZ)):dP prog (vY nK) (aW L) f14 (a14.enc a0)=(g14 nK L a0).map n14:=by
 let K'0:(List DZ)->Option (List DZ):=(λ(w0_3:(List DZ))=>some w0_3)
 have hin0:∀ (v0_3:(List DZ)) (v0_4:Int),bR prog (vY nK) L f14 0 [1,1,0,1,0,0] (cA (aT prog f14) (bM prog (vY nK) L f14 [1,1,0,1] (aT prog f14)).n (bM prog (vY nK) L f14 [1,1,0,1] (aT prog f14)).x) L (S14_0 a0 v0_3 v0_4)=(yE nK L a0 L v0_3 v0_4 K'0).map n14:=λv0_3 v0_4=>aJS nK L a0 _ _ K'0 (λw0_3=>by rw[aNx];simp only[K'0,aP,aN,aO,aC,aE]) L v0_3 v0_4
 rw[i14];simp only[g14,aP,aN,aO,aC,aE,hin0,K'0]
theorem s14 (nK:DZ->Option DZ)(h37:Sat prog cxT 37 (c37 nK))(m:(List DZ)->Option (List DZ))(hm:∀ (x:(List DZ)) t,m x=some t->∃ L,g14 nK L x=some t):Sat prog cxT 14 (c14 m):=
 cT bQ bH (by rfl) (fn:=f14) rfl a14 n14 aRm m (vY nK) (aY h37 bG) aZ (λL x=>g14 nK L x) (λL x=>e14 nK L x) hm aUX
def g7 (lP:CZ->Option CZ)(rS:(List DZ)->Option (List DZ))(L:Nat)(a0_0:Int)(a0_1:Int)(a0_2:Bool)(a0_3:Int)(a0_4:(List Bk))(a0_5:(List Vp))(a0_6:(List DZ)):Option (Int×Int×Bool×Int×(List Bk)×(List Vp)×(List DZ)):=
 cK (lP (a0_3,(a0_4,a0_5))) ((0:Int),[],[]) λ(q1:CZ)=>cK (rS a0_6) [] λ(q2:(List DZ))=>some (a0_0,a0_1,a0_2,q1.1,q1.2.1,q1.2.2,q2)
end Go.Proofs.Tryz
