/- A part of the proof of FnExactServeFrom: LtFa. -/
import Derived.Test.YtnmnomckcjihoaaGreatLtCon
set_option linter.unusedSimpArgs false
set_option linter.unusedVariables false
set_option maxHeartbeats 0
set_option maxRecDepth 100000
namespace Go.Proofs.Tryz
open Go.IntKind (wrap)
open Go Go.VM Go.RowKit
def aLE (m34:(Int×Int×Int)->Option Bool):Env cxT:={ Kc:=dL [(34,c34 m34)],Kw:=dK [],lv:=λi=>[],xv:=λi=>none }
theorem i24 (m34:(Int×Int×Int)->Option Bool)(L:Nat)(a0:Int):dP prog (aLE m34) (aW L) f24 (a24.enc a0)=
 cK (m34 (a0,((0:Int),(1000000:Int)))) false λ(q1:Bool)=>some (n24 q1):=by kernel_rfl
def g24 (m34:(Int×Int×Int)->Option Bool)(L:Nat)(a0:Int):Option Bool:=
 cK (m34 (a0,((0:Int),(1000000:Int)))) false λ(q1:Bool)=>some q1
theorem e24 (m34:(Int×Int×Int)->Option Bool)(L:Nat)(a0:Int):dP prog (aLE m34) (aW L) f24 (a24.enc a0)=(g24 m34 L a0).map n24:=by
 rw[i24];simp only[g24,aP,aN,aO,aC,aE]
theorem s24 (m34:(Int×Int×Int)->Option Bool)(h34:Sat prog cxT 34 (c34 m34))(m:Int->Option Bool)(hm:∀ (x:Int) t,m x=some t->∃ L,g24 m34 L x=some t):Sat prog cxT 24 (c24 m):=
 cT bQ bH (by rfl) (fn:=f24) rfl a24 n24 aRc m (aLE m34) (aY h34 bG) aZ (λL x=>g24 m34 L x) (λL x=>e24 m34 L x) hm aUN
def aLC:Env cxT:={ Kc:=dL [],Kw:=dK [],lv:=λi=>[],xv:=λi=>none }
theorem i29 (L:Nat)(a0:Int):dP prog aLC (aW L) f29 (a29.enc a0)=
 bif (decide (a0>=(0:Int)))then some (n29 (decide (a0<=(1000000:Int))))
 else some (n29 Bool.false):=by kernel_rfl
def g29 (L:Nat)(a0:Int):Option Bool:=
 bif (decide (a0>=(0:Int)))then some (decide (a0<=(1000000:Int)))
 else some Bool.false
theorem e29 (L:Nat)(a0:Int):dP prog aLC (aW L) f29 (a29.enc a0)=(g29 L a0).map n29:=by
 rw[i29];simp only[g29,aP,aN,aO,aC,aE]
theorem s29 (m:Int->Option Bool)(hm:∀ (x:Int) t,m x=some t->∃ L,g29 L x=some t):Sat prog cxT 29 (c29 m):=
 cT bQ bH (by rfl) (fn:=f29) rfl a29 n29 aQ9 m aLC bG aZ (λL x=>g29 L x) (λL x=>e29 L x) hm aUK
def aLA:Env cxT:={ Kc:=dL [],Kw:=dK [],lv:=λi=>[],xv:=λi=>none }
theorem i34 (L:Nat)(a0:Int)(a1:Int)(a2:Int):dP prog aLA (aW L) f34 (a34.enc (a0,a1,a2))=
 bif (decide (a0>=a1))then some (n34 (decide (a0<=a2)))
 else some (n34 Bool.false):=by kernel_rfl
def g34 (L:Nat)(a0:Int)(a1:Int)(a2:Int):Option Bool:=
 bif (decide (a0>=a1))then some (decide (a0<=a2))
 else some Bool.false
theorem e34 (L:Nat)(a0:Int)(a1:Int)(a2:Int):dP prog aLA (aW L) f34 (a34.enc (a0,a1,a2))=(g34 L a0 a1 a2).map n34:=by
 rw[i34];simp only[g34,aP,aN,aO,aC,aE]
theorem s34 (m:(Int×Int×Int)->Option Bool)(hm:∀ (x:(Int×Int×Int)) t,m x=some t->∃ L,g34 L x.1 x.2.1 x.2.2=some t):Sat prog cxT 34 (c34 m):=
 cT bQ bH (by rfl) (fn:=f34) rfl a34 n34 aQ6 m aLA bG aZ (λL x=>g34 L x.1 x.2.1 x.2.2) (λL x=>e34 L x.1 x.2.1 x.2.2) hm aUH
def aLy:Env cxT:={ Kc:=dL [],Kw:=dK [],lv:=λi=>[],xv:=λi=>none }
theorem i37 (L:Nat)(a0_0:Int)(a0_1:Int)(a0_2:Int)(a0_3:Int)(a0_4:Int)(a0_5:Int):dP prog aLy (aW L) f37 (a37.enc (a0_0,a0_1,a0_2,a0_3,a0_4,a0_5))=
 some (n37 (a0_0,a0_1,a0_2,a0_3,a0_4,a0_5)):=by kernel_rfl
def g37 (L:Nat)(a0_0:Int)(a0_1:Int)(a0_2:Int)(a0_3:Int)(a0_4:Int)(a0_5:Int):Option DZ:=
 some (a0_0,a0_1,a0_2,a0_3,a0_4,a0_5)
theorem e37 (L:Nat)(a0_0:Int)(a0_1:Int)(a0_2:Int)(a0_3:Int)(a0_4:Int)(a0_5:Int):dP prog aLy (aW L) f37 (a37.enc (a0_0,a0_1,a0_2,a0_3,a0_4,a0_5))=(g37 L a0_0 a0_1 a0_2 a0_3 a0_4 a0_5).map n37:=by
 rw[i37];simp only[g37,aP,aN,aO,aC,aE]
theorem s37 (m:DZ->Option DZ)(hm:∀ (x:DZ) t,m x=some t->∃ L,g37 L x.1 x.2.1 x.2.2.1 x.2.2.2.1 x.2.2.2.2.1 x.2.2.2.2.2=some t):Sat prog cxT 37 (c37 m):=
 cT bQ bH (by rfl) (fn:=f37) rfl a37 n37 aQ3 m aLy bG aZ (λL x=>g37 L x.1 x.2.1 x.2.2.1 x.2.2.2.1 x.2.2.2.2.1 x.2.2.2.2.2) (λL x=>e37 L x.1 x.2.1 x.2.2.1 x.2.2.2.1 x.2.2.2.2.1 x.2.2.2.2.2) hm aUE
def aLv:Env cxT:={ Kc:=dL [],Kw:=dK [],lv:=λi=>[],xv:=λi=>none }
theorem i41 (L:Nat)(a0_0:Int)(a0_1:Int)(a0_2:Int)(a0_3:Int)(a0_4:Int)(a0_5:Int)(a1_0:Int)(a1_1:Int)(a1_2:Int)(a1_3:Int)(a1_4:Int)(a1_5:Int):dP prog aLv (aW L) f41 (a41.enc ((a0_0,a0_1,a0_2,a0_3,a0_4,a0_5),(a1_0,a1_1,a1_2,a1_3,a1_4,a1_5)))=
 bif (a0_0 != a1_0)then some (n41 Bool.false)
 else bif (a0_1 != a1_1)then some (n41 Bool.false)
 else bif (a0_2 != a1_2)then some (n41 Bool.false)
 else bif (a0_3 != a1_3)then some (n41 Bool.false)
 else bif (a0_4 != a1_4)then some (n41 Bool.false)
 else bif (a0_5 != a1_5)then some (n41 Bool.false)
 else some (n41 Bool.true):=by kernel_rfl
def g41 (L:Nat)(a0_0:Int)(a0_1:Int)(a0_2:Int)(a0_3:Int)(a0_4:Int)(a0_5:Int)(a1_0:Int)(a1_1:Int)(a1_2:Int)(a1_3:Int)(a1_4:Int)(a1_5:Int):Option Bool:=
 bif (a0_0 != a1_0)then some Bool.false
 else bif (a0_1 != a1_1)then some Bool.false
 else bif (a0_2 != a1_2)then some Bool.false
 else bif (a0_3 != a1_3)then some Bool.false
 else bif (a0_4 != a1_4)then some Bool.false
 else bif (a0_5 != a1_5)then some Bool.false
 else some Bool.true
theorem e41 (L:Nat)(a0_0:Int)(a0_1:Int)(a0_2:Int)(a0_3:Int)(a0_4:Int)(a0_5:Int)(a1_0:Int)(a1_1:Int)(a1_2:Int)(a1_3:Int)(a1_4:Int)(a1_5:Int):dP prog aLv (aW L) f41 (a41.enc ((a0_0,a0_1,a0_2,a0_3,a0_4,a0_5),(a1_0,a1_1,a1_2,a1_3,a1_4,a1_5)))=(g41 L a0_0 a0_1 a0_2 a0_3 a0_4 a0_5 a1_0 a1_1 a1_2 a1_3 a1_4 a1_5).map n41:=by
 rw[i41];simp only[g41,aP,aN,aO,aC,aE]
theorem s41 (m:(DZ×DZ)->Option Bool)(hm:∀ (x:(DZ×DZ)) t,m x=some t->∃ L,g41 L x.1.1 x.1.2.1 x.1.2.2.1 x.1.2.2.2.1 x.1.2.2.2.2.1 x.1.2.2.2.2.2 x.2.1 x.2.2.1 x.2.2.2.1 x.2.2.2.2.1 x.2.2.2.2.2.1 x.2.2.2.2.2.2=some t):Sat prog cxT 41 (c41 m):=
 cT bQ bH (by rfl) (fn:=f41) rfl a41 n41 aQZ m aLv bG aZ (λL x=>g41 L x.1.1 x.1.2.1 x.1.2.2.1 x.1.2.2.2.1 x.1.2.2.2.2.1 x.1.2.2.2.2.2 x.2.1 x.2.2.1 x.2.2.2.1 x.2.2.2.2.1 x.2.2.2.2.2.1 x.2.2.2.2.2.2) (λL x=>e41 L x.1.1 x.1.2.1 x.1.2.2.1 x.1.2.2.2.1 x.1.2.2.2.2.1 x.1.2.2.2.2.2 x.2.1 x.2.2.1 x.2.2.2.1 x.2.2.2.2.1 x.2.2.2.2.2.1 x.2.2.2.2.2.2) hm aUA
def aLr (m51:Int->Option Bool)(m52:Int->Option Bool)(m34:(Int×Int×Int)->Option Bool):Env cxT:={ Kc:=dL [(51,c51 m51),(52,c52 m52),(34,c34 m34)],Kw:=dK [],lv:=λi=>[],xv:=λi=>none }
theorem i48 (m51:Int->Option Bool)(m52:Int->Option Bool)(m34:(Int×Int×Int)->Option Bool)(L:Nat)(a0_0:Int)(a0_1:Int)(a0_2:Int)(a0_3:Int)(a0_4:Bool):dP prog (aLr m51 m52 m34) (aW L) f48 (a48.enc (a0_0,a0_1,a0_2,a0_3,a0_4))=
 cK (m51 a0_0) false λ(q1:Bool)=>bif q1 then cK (m52 a0_1) false λ(q3:Bool)=>bif q3 then cK (m34 (a0_2,((0:Int),(9:Int)))) false λ(q5:Bool)=>bif q5 then cK (m34 (a0_3,((1:Int),(3:Int)))) false λ(q7:Bool)=>some (n48 q7)
      else some (n48 Bool.false)
    else some (n48 Bool.false)
  else some (n48 Bool.false):=by kernel_rfl
def g48 (m51:Int->Option Bool)(m52:Int->Option Bool)(m34:(Int×Int×Int)->Option Bool)(L:Nat)(a0_0:Int)(a0_1:Int)(a0_2:Int)(a0_3:Int)(a0_4:Bool):Option Bool:=
 cK (m51 a0_0) false λ(q1:Bool)=>bif q1 then cK (m52 a0_1) false λ(q3:Bool)=>bif q3 then cK (m34 (a0_2,((0:Int),(9:Int)))) false λ(q5:Bool)=>bif q5 then cK (m34 (a0_3,((1:Int),(3:Int)))) false λ(q7:Bool)=>some q7
      else some Bool.false
    else some Bool.false
  else some Bool.false
theorem e48 (m51:Int->Option Bool)(m52:Int->Option Bool)(m34:(Int×Int×Int)->Option Bool)(L:Nat)(a0_0:Int)(a0_1:Int)(a0_2:Int)(a0_3:Int)(a0_4:Bool):dP prog (aLr m51 m52 m34) (aW L) f48 (a48.enc (a0_0,a0_1,a0_2,a0_3,a0_4))=(g48 m51 m52 m34 L a0_0 a0_1 a0_2 a0_3 a0_4).map n48:=by
 rw[i48];simp only[g48,aP,aN,aO,aC,aE]
theorem s48 (m51:Int->Option Bool)(m52:Int->Option Bool)(m34:(Int×Int×Int)->Option Bool)(h51:Sat prog cxT 51 (c51 m51))(h52:Sat prog cxT 52 (c52 m52))(h34:Sat prog cxT 34 (c34 m34))(m:Bk->Option Bool)(hm:∀ (x:Bk) t,m x=some t->∃ L,g48 m51 m52 m34 L x.1 x.2.1 x.2.2.1 x.2.2.2.1 x.2.2.2.2=some t):Sat prog cxT 48 (c48 m):=
 cT bQ bH (by rfl) (fn:=f48) rfl a48 n48 aQS m (aLr m51 m52 m34) (aY h51 (aY h52 (aY h34 bG))) aZ (λL x=>g48 m51 m52 m34 L x.1 x.2.1 x.2.2.1 x.2.2.2.1 x.2.2.2.2) (λL x=>e48 m51 m52 m34 L x.1 x.2.1 x.2.2.1 x.2.2.2.1 x.2.2.2.2) hm aUt
def aLq (m34:(Int×Int×Int)->Option Bool):Env cxT:={ Kc:=dL [(34,c34 m34)],Kw:=dK [],lv:=λi=>[],xv:=λi=>none }
theorem i50 (m34:(Int×Int×Int)->Option Bool)(L:Nat)(a0:Int):dP prog (aLq m34) (aW L) f50 (a50.enc a0)=
 cK (m34 (a0,((5:Int),(8:Int)))) false λ(q1:Bool)=>bif (a0 != (5:Int))then bif (a0 == (1:Int))then some (n50 ((a0 != (6:Int)),Bool.true,(a0 != (4:Int)),q1))
   else some (n50 ((a0 != (6:Int)),q1,(a0 != (4:Int)),q1))
  else bif (a0 == (1:Int))then some (n50 (Bool.false,Bool.true,(a0 != (4:Int)),q1))
  else some (n50 (Bool.false,q1,(a0 != (4:Int)),q1)):=by kernel_rfl
def g50 (m34:(Int×Int×Int)->Option Bool)(L:Nat)(a0:Int):Option (Bool×Bool×Bool×Bool):=
 cK (m34 (a0,((5:Int),(8:Int)))) false λ(q1:Bool)=>bif (a0 != (5:Int))then bif (a0 == (1:Int))then some ((a0 != (6:Int)),Bool.true,(a0 != (4:Int)),q1)
   else some ((a0 != (6:Int)),q1,(a0 != (4:Int)),q1)
  else bif (a0 == (1:Int))then some (Bool.false,Bool.true,(a0 != (4:Int)),q1)
  else some (Bool.false,q1,(a0 != (4:Int)),q1)
theorem e50 (m34:(Int×Int×Int)->Option Bool)(L:Nat)(a0:Int):dP prog (aLq m34) (aW L) f50 (a50.enc a0)=(g50 m34 L a0).map n50:=by
 rw[i50];simp only[g50,aP,aN,aO,aC,aE]
theorem s50 (m34:(Int×Int×Int)->Option Bool)(h34:Sat prog cxT 34 (c34 m34))(m:Int->Option (Bool×Bool×Bool×Bool))(hm:∀ (x:Int) t,m x=some t->∃ L,g50 m34 L x=some t):Sat prog cxT 50 (c50 m):=
 cT bQ bH (by rfl) (fn:=f50) rfl a50 n50 aQQ m (aLq m34) (aY h34 bG) aZ (λL x=>g50 m34 L x) (λL x=>e50 m34 L x) hm aUr
def aLp (m34:(Int×Int×Int)->Option Bool):Env cxT:={ Kc:=dL [(34,c34 m34)],Kw:=dK [],lv:=λi=>[],xv:=λi=>none }
theorem i51 (m34:(Int×Int×Int)->Option Bool)(L:Nat)(a0:Int):dP prog (aLp m34) (aW L) f51 (a51.enc a0)=
 cK (m34 (a0,((1:Int),(999:Int)))) false λ(q1:Bool)=>some (n51 q1):=by kernel_rfl
def g51 (m34:(Int×Int×Int)->Option Bool)(L:Nat)(a0:Int):Option Bool:=
 cK (m34 (a0,((1:Int),(999:Int)))) false λ(q1:Bool)=>some q1
theorem e51 (m34:(Int×Int×Int)->Option Bool)(L:Nat)(a0:Int):dP prog (aLp m34) (aW L) f51 (a51.enc a0)=(g51 m34 L a0).map n51:=by
 rw[i51];simp only[g51,aP,aN,aO,aC,aE]
theorem s51 (m34:(Int×Int×Int)->Option Bool)(h34:Sat prog cxT 34 (c34 m34))(m:Int->Option Bool)(hm:∀ (x:Int) t,m x=some t->∃ L,g51 m34 L x=some t):Sat prog cxT 51 (c51 m):=
 cT bQ bH (by rfl) (fn:=f51) rfl a51 n51 aQP m (aLp m34) (aY h34 bG) aZ (λL x=>g51 m34 L x) (λL x=>e51 m34 L x) hm aUq
def aLo (m34:(Int×Int×Int)->Option Bool):Env cxT:={ Kc:=dL [(34,c34 m34)],Kw:=dK [],lv:=λi=>[],xv:=λi=>none }
theorem i52 (m34:(Int×Int×Int)->Option Bool)(L:Nat)(a0:Int):dP prog (aLo m34) (aW L) f52 (a52.enc a0)=
 cK (m34 (a0,((0:Int),(4294967295:Int)))) false λ(q1:Bool)=>some (n52 q1):=by kernel_rfl
def g52 (m34:(Int×Int×Int)->Option Bool)(L:Nat)(a0:Int):Option Bool:=
 cK (m34 (a0,((0:Int),(4294967295:Int)))) false λ(q1:Bool)=>some q1
theorem e52 (m34:(Int×Int×Int)->Option Bool)(L:Nat)(a0:Int):dP prog (aLo m34) (aW L) f52 (a52.enc a0)=(g52 m34 L a0).map n52:=by
 rw[i52];simp only[g52,aP,aN,aO,aC,aE]
theorem s52 (m34:(Int×Int×Int)->Option Bool)(h34:Sat prog cxT 34 (c34 m34))(m:Int->Option Bool)(hm:∀ (x:Int) t,m x=some t->∃ L,g52 m34 L x=some t):Sat prog cxT 52 (c52 m):=
 cT bQ bH (by rfl) (fn:=f52) rfl a52 n52 aQO m (aLo m34) (aY h34 bG) aZ (λL x=>g52 m34 L x) (λL x=>e52 m34 L x) hm aUp
def aLn (m34:(Int×Int×Int)->Option Bool)(m68:Int->Option Bool):Env cxT:={ Kc:=dL [(34,c34 m34),(68,c68 m68)],Kw:=dK [],lv:=λi=>[],xv:=λi=>none }
theorem i53 (m34:(Int×Int×Int)->Option Bool)(m68:Int->Option Bool)(L:Nat)(a0_0:Int)(a0_1:Int)(a0_2:Int)(a0_3:Int)(a0_4:Int)(a0_5:Int):dP prog (aLn m34 m68) (aW L) f53 (a53.enc (a0_0,a0_1,a0_2,a0_3,a0_4,a0_5))=
 bif (a0_0 == (1:Int))then cK (m34 (a0_4,((0:Int),(9:Int)))) false λ(q2:Bool)=>some (n53 q2)
 else bif (a0_0 == (2:Int))then cK (m34 (a0_4,((0:Int),(9:Int)))) false λ(q2:Bool)=>some (n53 q2)
 else bif (a0_0 == (3:Int))then cK (m34 (a0_4,((1:Int),(3:Int)))) false λ(q2:Bool)=>some (n53 q2)
 else bif (a0_0 == (9:Int))then cK (m34 (a0_4,((0:Int),(1:Int)))) false λ(q2:Bool)=>some (n53 q2)
 else cK (m68 a0_4) false λ(q1:Bool)=>some (n53 q1):=by kernel_rfl
def g53 (m34:(Int×Int×Int)->Option Bool)(m68:Int->Option Bool)(L:Nat)(a0_0:Int)(a0_1:Int)(a0_2:Int)(a0_3:Int)(a0_4:Int)(a0_5:Int):Option Bool:=
 bif (a0_0 == (1:Int))then cK (m34 (a0_4,((0:Int),(9:Int)))) false λ(q2:Bool)=>some q2
 else bif (a0_0 == (2:Int))then cK (m34 (a0_4,((0:Int),(9:Int)))) false λ(q2:Bool)=>some q2
 else bif (a0_0 == (3:Int))then cK (m34 (a0_4,((1:Int),(3:Int)))) false λ(q2:Bool)=>some q2
 else bif (a0_0 == (9:Int))then cK (m34 (a0_4,((0:Int),(1:Int)))) false λ(q2:Bool)=>some q2
 else cK (m68 a0_4) false λ(q1:Bool)=>some q1
theorem e53 (m34:(Int×Int×Int)->Option Bool)(m68:Int->Option Bool)(L:Nat)(a0_0:Int)(a0_1:Int)(a0_2:Int)(a0_3:Int)(a0_4:Int)(a0_5:Int):dP prog (aLn m34 m68) (aW L) f53 (a53.enc (a0_0,a0_1,a0_2,a0_3,a0_4,a0_5))=(g53 m34 m68 L a0_0 a0_1 a0_2 a0_3 a0_4 a0_5).map n53:=by
 rw[i53];simp only[g53,aP,aN,aO,aC,aE]
theorem s53 (m34:(Int×Int×Int)->Option Bool)(m68:Int->Option Bool)(h34:Sat prog cxT 34 (c34 m34))(h68:Sat prog cxT 68 (c68 m68))(m:DZ->Option Bool)(hm:∀ (x:DZ) t,m x=some t->∃ L,g53 m34 m68 L x.1 x.2.1 x.2.2.1 x.2.2.2.1 x.2.2.2.2.1 x.2.2.2.2.2=some t):Sat prog cxT 53 (c53 m):=
 cT bQ bH (by rfl) (fn:=f53) rfl a53 n53 aQN m (aLn m34 m68) (aY h34 (aY h68 bG)) aZ (λL x=>g53 m34 m68 L x.1 x.2.1 x.2.2.1 x.2.2.2.1 x.2.2.2.2.1 x.2.2.2.2.2) (λL x=>e53 m34 m68 L x.1 x.2.1 x.2.2.1 x.2.2.2.1 x.2.2.2.2.1 x.2.2.2.2.2) hm aUo
def aLm:Env cxT:={ Kc:=dL [],Kw:=dK [],lv:=λi=>[],xv:=λi=>none }
theorem i54 (L:Nat)(a0:Int):dP prog aLm (aW L) f54 (a54.enc a0)=
 bif (a0 == (6:Int))then some (n54 Bool.true)
 else some (n54 (a0 == (17:Int))):=by kernel_rfl
def g54 (L:Nat)(a0:Int):Option Bool:=
 bif (a0 == (6:Int))then some Bool.true
 else some (a0 == (17:Int))
theorem e54 (L:Nat)(a0:Int):dP prog aLm (aW L) f54 (a54.enc a0)=(g54 L a0).map n54:=by
 rw[i54];simp only[g54,aP,aN,aO,aC,aE]
theorem s54 (m:Int->Option Bool)(hm:∀ (x:Int) t,m x=some t->∃ L,g54 L x=some t):Sat prog cxT 54 (c54 m):=
 cT bQ bH (by rfl) (fn:=f54) rfl a54 n54 aQM m aLm bG aZ (λL x=>g54 L x) (λL x=>e54 L x) hm aUn
def vN (m71:Bk->Option Bk):Env cxT:={ Kc:=dL [(71,c71 m71)],Kw:=dK [],lv:=λi=>if i=0 then[(0,[some 104]),(3,[some 83]),(4,[])]else[],xv:=λi=>if i=0 then some [(3,[some 83])]else none }
def S55_0 (a0:(List Bk))(v0_3:(List Bk))(v0_4:Int):St cxT.ty:={ slots:=[(.inl (.inl (ls { own:=0,nm:=0,e:=104,o:=false,xs:=a0 }))),aI,aI,(.inl (.inl (ls { own:=1,nm:=192,e:=83,o:=true,xs:=v0_3 }))),(.inl (.inl (lv (.int .i64 v0_4))))]++List.replicate 18 aI,D:=[],F:=[],ctr:=1 }
def X55_0 (a0:(List Bk))(w0_3:(List Bk)):St cxT.ty:={ slots:=[aI,aI,aI,(.inl (.inl (ls { own:=1,nm:=192,e:=83,o:=true,xs:=w0_3 })))]++List.replicate 19 aI,D:=[],F:=[],ctr:=1 }
theorem i55 (m71:Bk->Option Bk)(L:Nat)(a0:(List Bk)):dP prog (vN m71) (aW L) f55 (a55.enc a0)=
 bif (((decide ((0:Int)<=(Nat.cast (List.length a0):Int)))&&(decide ((Nat.cast (List.length a0):Int)<=(Nat.cast (List.length a0):Int))))&&(decide ((Nat.cast (List.length a0):Int)<=(1000000000:Int))))then bR prog (vN m71) L f55 0 [1,1,0,1,0,0] (cA (aT prog f55) (bM prog (vN m71) L f55 [1,1,0,1] (aT prog f55)).n (bM prog (vN m71) L f55 [1,1,0,1] (aT prog f55)).x) L (S55_0 a0 (List.replicate (Int.toNat (Nat.cast (List.length a0):Int)) ((0:Int),((0:Int),((0:Int),((0:Int),Bool.false))))) (0:Int))
 else none:=by kernel_rfl
theorem aOS (m71:Bk->Option Bk)(L:Nat)(a0:(List Bk))(k:St cxT.ty->Option (V cxT.ty))(xk:Nat->St cxT.ty->Option (V cxT.ty))(g:St cxT.ty->Option (V cxT.ty))(v0_3:(List Bk))(v0_4:Int):dQ prog (vN m71) L f55 0 [1,1,0,1,0,0] (cA (aT prog f55) k xk) g (S55_0 a0 v0_3 v0_4)=
 bif (decide (v0_4 < (Nat.cast (List.length a0):Int)))then bif ((decide ((0:Int)<=v0_4))&&(decide (v0_4 < (Nat.cast (List.length a0):Int))))then cK (m71 ((List.getD a0 (Int.toNat v0_4) ((0:Int),((0:Int),((0:Int),((0:Int),Bool.false))))).1,((List.getD a0 (Int.toNat v0_4) ((0:Int),((0:Int),((0:Int),((0:Int),Bool.false))))).2.1,((List.getD a0 (Int.toNat v0_4) ((0:Int),((0:Int),((0:Int),((0:Int),Bool.false))))).2.2.1,((List.getD a0 (Int.toNat v0_4) ((0:Int),((0:Int),((0:Int),((0:Int),Bool.false))))).2.2.2.1,(List.getD a0 (Int.toNat v0_4) ((0:Int),((0:Int),((0:Int),((0:Int),Bool.false))))).2.2.2.2))))) ((0:Int),(0:Int),(0:Int),(0:Int),false) λ(q3:Bk)=>bif ((decide ((0:Int)<=v0_4))&&(decide (v0_4 < (Nat.cast (List.length v0_3):Int))))then g (S55_0 a0 (List.set v0_3 (Int.toNat v0_4) (q3.1,(q3.2.1,(q3.2.2.1,(q3.2.2.2.1,q3.2.2.2.2))))) (wrap Go.IntKind.i64 (v0_4+(1:Int))))
    else none
  else none
 else k (X55_0 a0 v0_3):=by kernel_rfl
theorem aNg (m71:Bk->Option Bk)(L:Nat)(a0:(List Bk))(w0_3:(List Bk)):(bM prog (vN m71) L f55 [1,1,0,1] (aT prog f55)).n (X55_0 a0 w0_3)=
 some (n55 w0_3):=by kernel_rfl
def xW (m71:Bk->Option Bk)(L:Nat)(a0:(List Bk)):Nat->(List Bk)->Int->((List Bk)->Option (List Bk))->Option (List Bk)
 | 0,_,_,_=>none
 | n+1,v0_3,v0_4,k=>
  bif (decide (v0_4 < (Nat.cast (List.length a0):Int)))then bif ((decide ((0:Int)<=v0_4))&&(decide (v0_4 < (Nat.cast (List.length a0):Int))))then cK (m71 ((List.getD a0 (Int.toNat v0_4) ((0:Int),((0:Int),((0:Int),((0:Int),Bool.false))))).1,((List.getD a0 (Int.toNat v0_4) ((0:Int),((0:Int),((0:Int),((0:Int),Bool.false))))).2.1,((List.getD a0 (Int.toNat v0_4) ((0:Int),((0:Int),((0:Int),((0:Int),Bool.false))))).2.2.1,((List.getD a0 (Int.toNat v0_4) ((0:Int),((0:Int),((0:Int),((0:Int),Bool.false))))).2.2.2.1,(List.getD a0 (Int.toNat v0_4) ((0:Int),((0:Int),((0:Int),((0:Int),Bool.false))))).2.2.2.2))))) ((0:Int),(0:Int),(0:Int),(0:Int),false) λ(q4:Bk)=>bif ((decide ((0:Int)<=v0_4))&&(decide (v0_4 < (Nat.cast (List.length v0_3):Int))))then xW m71 L a0 n (List.set v0_3 (Int.toNat v0_4) (q4.1,(q4.2.1,(q4.2.2.1,(q4.2.2.2.1,q4.2.2.2.2))))) (wrap Go.IntKind.i64 (v0_4+(1:Int))) k
     else none
   else none
  else k v0_3
theorem aJB (m71:Bk->Option Bk)(L:Nat)(a0:(List Bk))(k:St cxT.ty->Option (V cxT.ty))(xk:Nat->St cxT.ty->Option (V cxT.ty))(k':(List Bk)->Option (List Bk))(hk:∀ (w0_3:(List Bk)),k (X55_0 a0 w0_3)=(k' w0_3).map n55):∀ (n:Nat) (v0_3:(List Bk)) (v0_4:Int),bR prog (vN m71) L f55 0 [1,1,0,1,0,0] (cA (aT prog f55) k xk) n (S55_0 a0 v0_3 v0_4)=(xW m71 L a0 n v0_3 v0_4 k').map n55
 | 0,_,_=>rfl
 | n+1,v0_3,v0_4=>by
  rw[bS,aOS];have ih:=aJB m71 L a0 k xk k' hk n;simp only[xW,aP,aN,aO,aC,aE,ih,hk]
def g55 (m71:Bk->Option Bk)(L:Nat)(a0:(List Bk)):Option (List Bk):=
 bif (((decide ((0:Int)<=(Nat.cast (List.length a0):Int)))&&(decide ((Nat.cast (List.length a0):Int)<=(Nat.cast (List.length a0):Int))))&&(decide ((Nat.cast (List.length a0):Int)<=(1000000000:Int))))then xW m71 L a0 L (List.replicate (Int.toNat (Nat.cast (List.length a0):Int)) ((0:Int),((0:Int),((0:Int),((0:Int),Bool.false))))) (0:Int) (λ(w0_3:(List Bk))=>some w0_3)
 else none
theorem e55 (m71:Bk->Option Bk)(L:Nat)(a0:(List Bk)):dP prog (vN m71) (aW L) f55 (a55.enc a0)=(g55 m71 L a0).map n55:=by
 let K'0:(List Bk)->Option (List Bk):=(λ(w0_3:(List Bk))=>some w0_3)
 have hin0:∀ (v0_3:(List Bk)) (v0_4:Int),bR prog (vN m71) L f55 0 [1,1,0,1,0,0] (cA (aT prog f55) (bM prog (vN m71) L f55 [1,1,0,1] (aT prog f55)).n (bM prog (vN m71) L f55 [1,1,0,1] (aT prog f55)).x) L (S55_0 a0 v0_3 v0_4)=(xW m71 L a0 L v0_3 v0_4 K'0).map n55:=λv0_3 v0_4=>aJB m71 L a0 _ _ K'0 (λw0_3=>by rw[aNg];simp only[K'0,aP,aN,aO,aC,aE]) L v0_3 v0_4
 rw[i55];simp only[g55,aP,aN,aO,aC,aE,hin0,K'0]
theorem s55 (m71:Bk->Option Bk)(h71:Sat prog cxT 71 (c71 m71))(m:(List Bk)->Option (List Bk))(hm:∀ (x:(List Bk)) t,m x=some t->∃ L,g55 m71 L x=some t):Sat prog cxT 55 (c55 m):=
 cT bQ bH (by rfl) (fn:=f55) rfl a55 n55 aQL m (vN m71) (aY h71 bG) aZ (λL x=>g55 m71 L x) (λL x=>e55 m71 L x) hm aUm
def aLj (zW:((List Int)×Int)->Option Int):Env cxT:={ Kc:=dL [(83,c83 zW)],Kw:=dK [],lv:=λi=>[],xv:=λi=>none }
theorem i67 (zW:((List Int)×Int)->Option Int)(L:Nat)(a0_0:Int)(a0_1:Int)(a0_2:Int)(a0_3:(List Int))(a1:Int):dP prog (aLj zW) (aW L) f67 (a67.enc ((a0_0,a0_1,a0_2,a0_3),a1))=
 cK (zW (a0_3,a1)) (0:Int) λ(q1:Int)=>bif (decide (q1 < (0:Int)))then some (n67 (-(1:Int)))
  else some (n67 q1):=by kernel_rfl
def g67 (zW:((List Int)×Int)->Option Int)(L:Nat)(a0_0:Int)(a0_1:Int)(a0_2:Int)(a0_3:(List Int))(a1:Int):Option Int:=
 cK (zW (a0_3,a1)) (0:Int) λ(q1:Int)=>bif (decide (q1 < (0:Int)))then some (-(1:Int))
  else some q1
theorem e67 (zW:((List Int)×Int)->Option Int)(L:Nat)(a0_0:Int)(a0_1:Int)(a0_2:Int)(a0_3:(List Int))(a1:Int):dP prog (aLj zW) (aW L) f67 (a67.enc ((a0_0,a0_1,a0_2,a0_3),a1))=(g67 zW L a0_0 a0_1 a0_2 a0_3 a1).map n67:=by
 rw[i67];simp only[g67,aP,aN,aO,aC,aE]
theorem s67 (zW:((List Int)×Int)->Option Int)(h83:Sat prog cxT 83 (c83 zW))(m:(Vp×Int)->Option Int)(hm:∀ (x:(Vp×Int)) t,m x=some t->∃ L,g67 zW L x.1.1 x.1.2.1 x.1.2.2.1 x.1.2.2.2 x.2=some t):Sat prog cxT 67 (c67 m):=
 cT bQ bH (by rfl) (fn:=f67) rfl a67 n67 aQB m (aLj zW) (aY h83 bG) aZ (λL x=>g67 zW L x.1.1 x.1.2.1 x.1.2.2.1 x.1.2.2.2 x.2) (λL x=>e67 zW L x.1.1 x.1.2.1 x.1.2.2.1 x.1.2.2.2 x.2) hm aUc
def aLi (m34:(Int×Int×Int)->Option Bool):Env cxT:={ Kc:=dL [(34,c34 m34)],Kw:=dK [],lv:=λi=>[],xv:=λi=>none }
theorem i68 (m34:(Int×Int×Int)->Option Bool)(L:Nat)(a0:Int):dP prog (aLi m34) (aW L) f68 (a68.enc a0)=
 cK (m34 (a0,((0:Int),(65535:Int)))) false λ(q1:Bool)=>some (n68 q1):=by kernel_rfl
def g68 (m34:(Int×Int×Int)->Option Bool)(L:Nat)(a0:Int):Option Bool:=
 cK (m34 (a0,((0:Int),(65535:Int)))) false λ(q1:Bool)=>some q1
theorem e68 (m34:(Int×Int×Int)->Option Bool)(L:Nat)(a0:Int):dP prog (aLi m34) (aW L) f68 (a68.enc a0)=(g68 m34 L a0).map n68:=by
 rw[i68];simp only[g68,aP,aN,aO,aC,aE]
theorem s68 (m34:(Int×Int×Int)->Option Bool)(h34:Sat prog cxT 34 (c34 m34))(m:Int->Option Bool)(hm:∀ (x:Int) t,m x=some t->∃ L,g68 m34 L x=some t):Sat prog cxT 68 (c68 m):=
 cT bQ bH (by rfl) (fn:=f68) rfl a68 n68 aQA m (aLi m34) (aY h34 bG) aZ (λL x=>g68 m34 L x) (λL x=>e68 m34 L x) hm aUb
def aLh:Env cxT:={ Kc:=dL [],Kw:=dK [],lv:=λi=>[],xv:=λi=>none }
theorem i69 (L:Nat)(a0_0:Int)(a0_1:Int)(a0_2:Int)(a0_3:(List Int))(a1_0:Int)(a1_1:Int)(a1_2:Int)(a1_3:(List Int)):dP prog aLh (aW L) f69 (a69.enc ((a0_0,a0_1,a0_2,a0_3),(a1_0,a1_1,a1_2,a1_3)))=
 bif (a0_0 != a1_0)then some (n69 (decide (a0_0 < a1_0)))
 else bif (a0_1 != a1_1)then some (n69 (decide (a0_1 < a1_1)))
 else some (n69 (decide (a0_2 < a1_2))):=by kernel_rfl
def g69 (L:Nat)(a0_0:Int)(a0_1:Int)(a0_2:Int)(a0_3:(List Int))(a1_0:Int)(a1_1:Int)(a1_2:Int)(a1_3:(List Int)):Option Bool:=
 bif (a0_0 != a1_0)then some (decide (a0_0 < a1_0))
 else bif (a0_1 != a1_1)then some (decide (a0_1 < a1_1))
 else some (decide (a0_2 < a1_2))
theorem e69 (L:Nat)(a0_0:Int)(a0_1:Int)(a0_2:Int)(a0_3:(List Int))(a1_0:Int)(a1_1:Int)(a1_2:Int)(a1_3:(List Int)):dP prog aLh (aW L) f69 (a69.enc ((a0_0,a0_1,a0_2,a0_3),(a1_0,a1_1,a1_2,a1_3)))=(g69 L a0_0 a0_1 a0_2 a0_3 a1_0 a1_1 a1_2 a1_3).map n69:=by
 rw[i69];simp only[g69,aP,aN,aO,aC,aE]
theorem s69 (m:(Vp×Vp)->Option Bool)(hm:∀ (x:(Vp×Vp)) t,m x=some t->∃ L,g69 L x.1.1 x.1.2.1 x.1.2.2.1 x.1.2.2.2 x.2.1 x.2.2.1 x.2.2.2.1 x.2.2.2.2=some t):Sat prog cxT 69 (c69 m):=
 cT bQ bH (by rfl) (fn:=f69) rfl a69 n69 aQz m aLh bG aZ (λL x=>g69 L x.1.1 x.1.2.1 x.1.2.2.1 x.1.2.2.2 x.2.1 x.2.2.1 x.2.2.2.1 x.2.2.2.2) (λL x=>e69 L x.1.1 x.1.2.1 x.1.2.2.1 x.1.2.2.2 x.2.1 x.2.2.1 x.2.2.2.1 x.2.2.2.2) hm aUa
def aLg:Env cxT:={ Kc:=dL [],Kw:=dK [],lv:=λi=>[],xv:=λi=>none }
theorem i71 (L:Nat)(a0_0:Int)(a0_1:Int)(a0_2:Int)(a0_3:Int)(a0_4:Bool):dP prog aLg (aW L) f71 (a71.enc (a0_0,a0_1,a0_2,a0_3,a0_4))=
 some (n71 (a0_0,a0_1,a0_2,a0_3,a0_4)):=by kernel_rfl
def g71 (L:Nat)(a0_0:Int)(a0_1:Int)(a0_2:Int)(a0_3:Int)(a0_4:Bool):Option Bk:=
 some (a0_0,a0_1,a0_2,a0_3,a0_4)
theorem e71 (L:Nat)(a0_0:Int)(a0_1:Int)(a0_2:Int)(a0_3:Int)(a0_4:Bool):dP prog aLg (aW L) f71 (a71.enc (a0_0,a0_1,a0_2,a0_3,a0_4))=(g71 L a0_0 a0_1 a0_2 a0_3 a0_4).map n71:=by
 rw[i71];simp only[g71,aP,aN,aO,aC,aE]
theorem s71 (m:Bk->Option Bk)(hm:∀ (x:Bk) t,m x=some t->∃ L,g71 L x.1 x.2.1 x.2.2.1 x.2.2.2.1 x.2.2.2.2=some t):Sat prog cxT 71 (c71 m):=
 cT bQ bH (by rfl) (fn:=f71) rfl a71 n71 aQx m aLg bG aZ (λL x=>g71 L x.1 x.2.1 x.2.2.1 x.2.2.2.1 x.2.2.2.2) (λL x=>e71 L x.1 x.2.1 x.2.2.1 x.2.2.2.1 x.2.2.2.2) hm aT8
def aLf (zV:(List Int)->Option (List Int)):Env cxT:={ Kc:=dL [(84,c84 zV)],Kw:=dK [],lv:=λi=>[],xv:=λi=>none }
theorem i72 (zV:(List Int)->Option (List Int))(L:Nat)(a0_0:Int)(a0_1:Int)(a0_2:Int)(a0_3:(List Int)):dP prog (aLf zV) (aW L) f72 (a72.enc (a0_0,a0_1,a0_2,a0_3))=
 cK (zV a0_3) [] λ(q1:(List Int))=>some (n72 (a0_0,a0_1,a0_2,q1)):=by kernel_rfl
def g72 (zV:(List Int)->Option (List Int))(L:Nat)(a0_0:Int)(a0_1:Int)(a0_2:Int)(a0_3:(List Int)):Option Vp:=
 cK (zV a0_3) [] λ(q1:(List Int))=>some (a0_0,a0_1,a0_2,q1)
theorem e72 (zV:(List Int)->Option (List Int))(L:Nat)(a0_0:Int)(a0_1:Int)(a0_2:Int)(a0_3:(List Int)):dP prog (aLf zV) (aW L) f72 (a72.enc (a0_0,a0_1,a0_2,a0_3))=(g72 zV L a0_0 a0_1 a0_2 a0_3).map n72:=by
 rw[i72];simp only[g72,aP,aN,aO,aC,aE]
theorem s72 (zV:(List Int)->Option (List Int))(h84:Sat prog cxT 84 (c84 zV))(m:Vp->Option Vp)(hm:∀ (x:Vp) t,m x=some t->∃ L,g72 zV L x.1 x.2.1 x.2.2.1 x.2.2.2=some t):Sat prog cxT 72 (c72 m):=
 cT bQ bH (by rfl) (fn:=f72) rfl a72 n72 aQw m (aLf zV) (aY h84 bG) aZ (λL x=>g72 zV L x.1 x.2.1 x.2.2.1 x.2.2.2) (λL x=>e72 zV L x.1 x.2.1 x.2.2.1 x.2.2.2) hm aT7
def aLe (m85:Int->Option Bool)(m86:Int->Option Bool)(m87:Int->Option Bool)(m88:Int->Option Bool):Env cxT:={ Kc:=dL [(85,c85 m85),(86,c86 m86),(87,c87 m87),(88,c88 m88)],Kw:=dK [],lv:=λi=>[],xv:=λi=>none }
theorem i73 (m85:Int->Option Bool)(m86:Int->Option Bool)(m87:Int->Option Bool)(m88:Int->Option Bool)(L:Nat)(a0_0:Int)(a0_1:Int)(a0_2:Int)(a0_3:Int)(a0_4:Bool):dP prog (aLe m85 m86 m87 m88) (aW L) f73 (a73.enc (a0_0,a0_1,a0_2,a0_3,a0_4))=
 cK (m85 a0_0) false λ(q1:Bool)=>bif q1 then cK (m86 a0_1) false λ(q3:Bool)=>bif q3 then cK (m87 a0_2) false λ(q5:Bool)=>bif q5 then cK (m88 a0_3) false λ(q7:Bool)=>some (n73 q7)
      else some (n73 Bool.false)
    else some (n73 Bool.false)
  else some (n73 Bool.false):=by kernel_rfl
def g73 (m85:Int->Option Bool)(m86:Int->Option Bool)(m87:Int->Option Bool)(m88:Int->Option Bool)(L:Nat)(a0_0:Int)(a0_1:Int)(a0_2:Int)(a0_3:Int)(a0_4:Bool):Option Bool:=
 cK (m85 a0_0) false λ(q1:Bool)=>bif q1 then cK (m86 a0_1) false λ(q3:Bool)=>bif q3 then cK (m87 a0_2) false λ(q5:Bool)=>bif q5 then cK (m88 a0_3) false λ(q7:Bool)=>some q7
      else some Bool.false
    else some Bool.false
  else some Bool.false
theorem e73 (m85:Int->Option Bool)(m86:Int->Option Bool)(m87:Int->Option Bool)(m88:Int->Option Bool)(L:Nat)(a0_0:Int)(a0_1:Int)(a0_2:Int)(a0_3:Int)(a0_4:Bool):dP prog (aLe m85 m86 m87 m88) (aW L) f73 (a73.enc (a0_0,a0_1,a0_2,a0_3,a0_4))=(g73 m85 m86 m87 m88 L a0_0 a0_1 a0_2 a0_3 a0_4).map n73:=by
 rw[i73];simp only[g73,aP,aN,aO,aC,aE]
theorem s73 (m85:Int->Option Bool)(m86:Int->Option Bool)(m87:Int->Option Bool)(m88:Int->Option Bool)(h85:Sat prog cxT 85 (c85 m85))(h86:Sat prog cxT 86 (c86 m86))(h87:Sat prog cxT 87 (c87 m87))(h88:Sat prog cxT 88 (c88 m88))(m:Bk->Option Bool)(hm:∀ (x:Bk) t,m x=some t->∃ L,g73 m85 m86 m87 m88 L x.1 x.2.1 x.2.2.1 x.2.2.2.1 x.2.2.2.2=some t):Sat prog cxT 73 (c73 m):=
 cT bQ bH (by rfl) (fn:=f73) rfl a73 n73 aQv m (aLe m85 m86 m87 m88) (aY h85 (aY h86 (aY h87 (aY h88 bG)))) aZ (λL x=>g73 m85 m86 m87 m88 L x.1 x.2.1 x.2.2.1 x.2.2.2.1 x.2.2.2.2) (λL x=>e73 m85 m86 m87 m88 L x.1 x.2.1 x.2.2.1 x.2.2.2.1 x.2.2.2.2) hm aT6
def aLd (m86:Int->Option Bool)(m89:Int->Option Bool)(m90:Int->Option Bool):Env cxT:={ Kc:=dL [(86,c86 m86),(89,c89 m89),(90,c90 m90)],Kw:=dK [],lv:=λi=>[],xv:=λi=>none }
theorem i74 (m86:Int->Option Bool)(m89:Int->Option Bool)(m90:Int->Option Bool)(L:Nat)(a0_0:Int)(a0_1:Int)(a0_2:Int)(a0_3:(List Int)):dP prog (aLd m86 m89 m90) (aW L) f74 (a74.enc (a0_0,a0_1,a0_2,a0_3))=
 cK (m86 a0_0) false λ(q1:Bool)=>bif q1 then cK (m89 a0_1) false λ(q3:Bool)=>bif q3 then cK (m90 a0_2) false λ(q5:Bool)=>some (n74 q5)
    else some (n74 Bool.false)
  else some (n74 Bool.false):=by kernel_rfl
def g74 (m86:Int->Option Bool)(m89:Int->Option Bool)(m90:Int->Option Bool)(L:Nat)(a0_0:Int)(a0_1:Int)(a0_2:Int)(a0_3:(List Int)):Option Bool:=
 cK (m86 a0_0) false λ(q1:Bool)=>bif q1 then cK (m89 a0_1) false λ(q3:Bool)=>bif q3 then cK (m90 a0_2) false λ(q5:Bool)=>some q5
    else some Bool.false
  else some Bool.false
theorem e74 (m86:Int->Option Bool)(m89:Int->Option Bool)(m90:Int->Option Bool)(L:Nat)(a0_0:Int)(a0_1:Int)(a0_2:Int)(a0_3:(List Int)):dP prog (aLd m86 m89 m90) (aW L) f74 (a74.enc (a0_0,a0_1,a0_2,a0_3))=(g74 m86 m89 m90 L a0_0 a0_1 a0_2 a0_3).map n74:=by
 rw[i74];simp only[g74,aP,aN,aO,aC,aE]
theorem s74 (m86:Int->Option Bool)(m89:Int->Option Bool)(m90:Int->Option Bool)(h86:Sat prog cxT 86 (c86 m86))(h89:Sat prog cxT 89 (c89 m89))(h90:Sat prog cxT 90 (c90 m90))(m:Vp->Option Bool)(hm:∀ (x:Vp) t,m x=some t->∃ L,g74 m86 m89 m90 L x.1 x.2.1 x.2.2.1 x.2.2.2=some t):Sat prog cxT 74 (c74 m):=
 cT bQ bH (by rfl) (fn:=f74) rfl a74 n74 aQu m (aLd m86 m89 m90) (aY h86 (aY h89 (aY h90 bG))) aZ (λL x=>g74 m86 m89 m90 L x.1 x.2.1 x.2.2.1 x.2.2.2) (λL x=>e74 m86 m89 m90 L x.1 x.2.1 x.2.2.1 x.2.2.2) hm aT5
def aLc (m92:(Int×Int)->Option Int)(m91:(List Int)->Option Int):Env cxT:={ Kc:=dL [(92,c92 m92),(91,c91 m91)],Kw:=dK [],lv:=λi=>[],xv:=λi=>none }
theorem i75 (m92:(Int×Int)->Option Int)(m91:(List Int)->Option Int)(L:Nat)(a0_0:Int)(a0_1:Int)(a0_2:Int)(a0_3:(List Int))(a1_0:Int)(a1_1:Int)(a1_2:Int)(a1_3:(List Int)):dP prog (aLc m92 m91) (aW L) f75 (a75.enc ((a0_0,a0_1,a0_2,a0_3),(a1_0,a1_1,a1_2,a1_3)))=
 cK (m92 (a0_0,a1_0)) (0:Int) λ(q1:Int)=>cK (m92 (a0_1,a1_1)) (0:Int) λ(q2:Int)=>cK (m92 (a0_2,a1_2)) (0:Int) λ(q3:Int)=>cK (m91 (List.cons q1 (List.cons q2 (List.cons q3 ([]:List (Int)))))) (0:Int) λ(q4:Int)=>some (n75 q4):=by kernel_rfl
def g75 (m92:(Int×Int)->Option Int)(m91:(List Int)->Option Int)(L:Nat)(a0_0:Int)(a0_1:Int)(a0_2:Int)(a0_3:(List Int))(a1_0:Int)(a1_1:Int)(a1_2:Int)(a1_3:(List Int)):Option Int:=
 cK (m92 (a0_0,a1_0)) (0:Int) λ(q1:Int)=>cK (m92 (a0_1,a1_1)) (0:Int) λ(q2:Int)=>cK (m92 (a0_2,a1_2)) (0:Int) λ(q3:Int)=>cK (m91 (List.cons q1 (List.cons q2 (List.cons q3 ([]:List (Int)))))) (0:Int) λ(q4:Int)=>some q4
theorem e75 (m92:(Int×Int)->Option Int)(m91:(List Int)->Option Int)(L:Nat)(a0_0:Int)(a0_1:Int)(a0_2:Int)(a0_3:(List Int))(a1_0:Int)(a1_1:Int)(a1_2:Int)(a1_3:(List Int)):dP prog (aLc m92 m91) (aW L) f75 (a75.enc ((a0_0,a0_1,a0_2,a0_3),(a1_0,a1_1,a1_2,a1_3)))=(g75 m92 m91 L a0_0 a0_1 a0_2 a0_3 a1_0 a1_1 a1_2 a1_3).map n75:=by
 rw[i75];simp only[g75,aP,aN,aO,aC,aE]
theorem s75 (m92:(Int×Int)->Option Int)(m91:(List Int)->Option Int)(h92:Sat prog cxT 92 (c92 m92))(h91:Sat prog cxT 91 (c91 m91))(m:(Vp×Vp)->Option Int)(hm:∀ (x:(Vp×Vp)) t,m x=some t->∃ L,g75 m92 m91 L x.1.1 x.1.2.1 x.1.2.2.1 x.1.2.2.2 x.2.1 x.2.2.1 x.2.2.2.1 x.2.2.2.2=some t):Sat prog cxT 75 (c75 m):=
 cT bQ bH (by rfl) (fn:=f75) rfl a75 n75 aQt m (aLc m92 m91) (aY h92 (aY h91 bG)) aZ (λL x=>g75 m92 m91 L x.1.1 x.1.2.1 x.1.2.2.1 x.1.2.2.2 x.2.1 x.2.2.1 x.2.2.2.1 x.2.2.2.2) (λL x=>e75 m92 m91 L x.1.1 x.1.2.1 x.1.2.2.1 x.1.2.2.2 x.2.1 x.2.2.1 x.2.2.2.1 x.2.2.2.2) hm aT4
def aK8:Env cxT:={ Kc:=dL [],Kw:=dK [],lv:=λi=>[],xv:=λi=>none }
theorem i85 (L:Nat)(a0:Int):dP prog aK8 (aW L) f85 (a85.enc a0)=
 bif (decide (a0>=(1:Int)))then some (n85 (decide (a0<=(999:Int))))
 else some (n85 Bool.false):=by kernel_rfl
def g85 (L:Nat)(a0:Int):Option Bool:=
 bif (decide (a0>=(1:Int)))then some (decide (a0<=(999:Int)))
 else some Bool.false
theorem e85 (L:Nat)(a0:Int):dP prog aK8 (aW L) f85 (a85.enc a0)=(g85 L a0).map n85:=by
 rw[i85];simp only[g85,aP,aN,aO,aC,aE]
theorem s85 (m:Int->Option Bool)(hm:∀ (x:Int) t,m x=some t->∃ L,g85 L x=some t):Sat prog cxT 85 (c85 m):=
 cT bQ bH (by rfl) (fn:=f85) rfl a85 n85 aQl m aK8 bG aZ (λL x=>g85 L x) (λL x=>e85 L x) hm aTW
def aK7:Env cxT:={ Kc:=dL [],Kw:=dK [],lv:=λi=>[],xv:=λi=>none }
theorem i86 (L:Nat)(a0:Int):dP prog aK7 (aW L) f86 (a86.enc a0)=
 bif (decide (a0>=(0:Int)))then some (n86 (decide (a0<=(4294967295:Int))))
 else some (n86 Bool.false):=by kernel_rfl
def g86 (L:Nat)(a0:Int):Option Bool:=
 bif (decide (a0>=(0:Int)))then some (decide (a0<=(4294967295:Int)))
 else some Bool.false
theorem e86 (L:Nat)(a0:Int):dP prog aK7 (aW L) f86 (a86.enc a0)=(g86 L a0).map n86:=by
 rw[i86];simp only[g86,aP,aN,aO,aC,aE]
theorem s86 (m:Int->Option Bool)(hm:∀ (x:Int) t,m x=some t->∃ L,g86 L x=some t):Sat prog cxT 86 (c86 m):=
 cT bQ bH (by rfl) (fn:=f86) rfl a86 n86 aQk m aK7 bG aZ (λL x=>g86 L x) (λL x=>e86 L x) hm aTV
def aK6:Env cxT:={ Kc:=dL [],Kw:=dK [],lv:=λi=>[],xv:=λi=>none }
theorem i87 (L:Nat)(a0:Int):dP prog aK6 (aW L) f87 (a87.enc a0)=
 bif (decide (a0>=(0:Int)))then some (n87 (decide (a0<=(9:Int))))
 else some (n87 Bool.false):=by kernel_rfl
def g87 (L:Nat)(a0:Int):Option Bool:=
 bif (decide (a0>=(0:Int)))then some (decide (a0<=(9:Int)))
 else some Bool.false
theorem e87 (L:Nat)(a0:Int):dP prog aK6 (aW L) f87 (a87.enc a0)=(g87 L a0).map n87:=by
 rw[i87];simp only[g87,aP,aN,aO,aC,aE]
theorem s87 (m:Int->Option Bool)(hm:∀ (x:Int) t,m x=some t->∃ L,g87 L x=some t):Sat prog cxT 87 (c87 m):=
 cT bQ bH (by rfl) (fn:=f87) rfl a87 n87 aQj m aK6 bG aZ (λL x=>g87 L x) (λL x=>e87 L x) hm aTU
def aK5:Env cxT:={ Kc:=dL [],Kw:=dK [],lv:=λi=>[],xv:=λi=>none }
theorem i88 (L:Nat)(a0:Int):dP prog aK5 (aW L) f88 (a88.enc a0)=
 bif (decide (a0>=(1:Int)))then some (n88 (decide (a0<=(3:Int))))
 else some (n88 Bool.false):=by kernel_rfl
def g88 (L:Nat)(a0:Int):Option Bool:=
 bif (decide (a0>=(1:Int)))then some (decide (a0<=(3:Int)))
 else some Bool.false
theorem e88 (L:Nat)(a0:Int):dP prog aK5 (aW L) f88 (a88.enc a0)=(g88 L a0).map n88:=by
 rw[i88];simp only[g88,aP,aN,aO,aC,aE]
theorem s88 (m:Int->Option Bool)(hm:∀ (x:Int) t,m x=some t->∃ L,g88 L x=some t):Sat prog cxT 88 (c88 m):=
 cT bQ bH (by rfl) (fn:=f88) rfl a88 n88 aQi m aK5 bG aZ (λL x=>g88 L x) (λL x=>e88 L x) hm aTT
def aK4:Env cxT:={ Kc:=dL [],Kw:=dK [],lv:=λi=>[],xv:=λi=>none }
theorem i89 (L:Nat)(a0:Int):dP prog aK4 (aW L) f89 (a89.enc a0)=
 bif (decide (a0>=(0:Int)))then some (n89 (decide (a0<=(65535:Int))))
 else some (n89 Bool.false):=by kernel_rfl
def g89 (L:Nat)(a0:Int):Option Bool:=
 bif (decide (a0>=(0:Int)))then some (decide (a0<=(65535:Int)))
 else some Bool.false
theorem e89 (L:Nat)(a0:Int):dP prog aK4 (aW L) f89 (a89.enc a0)=(g89 L a0).map n89:=by
 rw[i89];simp only[g89,aP,aN,aO,aC,aE]
theorem s89 (m:Int->Option Bool)(hm:∀ (x:Int) t,m x=some t->∃ L,g89 L x=some t):Sat prog cxT 89 (c89 m):=
 cT bQ bH (by rfl) (fn:=f89) rfl a89 n89 aQh m aK4 bG aZ (λL x=>g89 L x) (λL x=>e89 L x) hm aTS
def aK3:Env cxT:={ Kc:=dL [],Kw:=dK [],lv:=λi=>[],xv:=λi=>none }
theorem i90 (L:Nat)(a0:Int):dP prog aK3 (aW L) f90 (a90.enc a0)=
 bif (a0 == (6:Int))then some (n90 Bool.true)
 else some (n90 (a0 == (17:Int))):=by kernel_rfl
def g90 (L:Nat)(a0:Int):Option Bool:=
 bif (a0 == (6:Int))then some Bool.true
 else some (a0 == (17:Int))
theorem e90 (L:Nat)(a0:Int):dP prog aK3 (aW L) f90 (a90.enc a0)=(g90 L a0).map n90:=by
 rw[i90];simp only[g90,aP,aN,aO,aC,aE]
theorem s90 (m:Int->Option Bool)(hm:∀ (x:Int) t,m x=some t->∃ L,g90 L x=some t):Sat prog cxT 90 (c90 m):=
 cT bQ bH (by rfl) (fn:=f90) rfl a90 n90 aQg m aK3 bG aZ (λL x=>g90 L x) (λL x=>e90 L x) hm aTR
def vA:Env cxT:={ Kc:=dL [],Kw:=dK [],lv:=λi=>if i=0 then[(3,[]),(6,[some 3]),(7,[]),(8,[])]else[],xv:=λi=>if i=0 then some [(3,[])]else none }
def S91_0 (a0:(List Int))(v0_8:Int):St cxT.ty:={ slots:=[aI,aI,aI,(.inl (.inl (lv (.int .i64 (0:Int))))),aI,aI,(.inl (.inl (ls { own:=0,nm:=0,e:=3,o:=false,xs:=a0 }))),(.inl (.inl (lv (.int .i64 (Nat.cast (List.length a0):Int))))),(.inl (.inl (lv (.int .i64 v0_8))))]++List.replicate 9 aI,D:=[],F:=[],ctr:=1 }
def X91_0 (a0:(List Int)):St cxT.ty:={ slots:=[aI,aI,aI,(.inl (.inl (lv (.int .i64 (0:Int)))))]++List.replicate 14 aI,D:=[],F:=[],ctr:=1 }
theorem i91 (L:Nat)(a0:(List Int)):dP prog vA (aW L) f91 (a91.enc a0)=
 bR prog vA L f91 0 [1,1,0,1,0,0] (cA (aT prog f91) (bM prog vA L f91 [1,1,0,1] (aT prog f91)).n (bM prog vA L f91 [1,1,0,1] (aT prog f91)).x) L (S91_0 a0 (0:Int)):=by kernel_rfl
theorem aOD (L:Nat)(a0:(List Int))(k:St cxT.ty->Option (V cxT.ty))(xk:Nat->St cxT.ty->Option (V cxT.ty))(g:St cxT.ty->Option (V cxT.ty))(v0_8:Int):dQ prog vA L f91 0 [1,1,0,1,0,0] (cA (aT prog f91) k xk) g (S91_0 a0 v0_8)=
 bif (decide (v0_8 < (Nat.cast (List.length a0):Int)))then bif ((decide ((0:Int)<=v0_8))&&(decide (v0_8 < (Nat.cast (List.length a0):Int))))then bif ((List.getD a0 (Int.toNat v0_8) (0:Int)) != (0:Int))then some (n91 (List.getD a0 (Int.toNat v0_8) (0:Int)))
   else g (S91_0 a0 (wrap Go.IntKind.i64 (v0_8+(1:Int))))
  else none
 else k (X91_0 a0):=by kernel_rfl
theorem aM1 (L:Nat)(a0:(List Int)):(bM prog vA L f91 [1,1,0,1] (aT prog f91)).n (X91_0 a0)=
 some (n91 (0:Int)):=by kernel_rfl
def xO (L:Nat)(a0:(List Int)):Nat->Int->(Option Int)->Option Int
 | 0,_,_=>none
 | n+1,v0_8,k=>
  bif (decide (v0_8 < (Nat.cast (List.length a0):Int)))then bif ((decide ((0:Int)<=v0_8))&&(decide (v0_8 < (Nat.cast (List.length a0):Int))))then bif ((List.getD a0 (Int.toNat v0_8) (0:Int)) != (0:Int))then some (List.getD a0 (Int.toNat v0_8) (0:Int))
    else xO L a0 n (wrap Go.IntKind.i64 (v0_8+(1:Int))) k
   else none
  else k
theorem aJm (L:Nat)(a0:(List Int))(k:St cxT.ty->Option (V cxT.ty))(xk:Nat->St cxT.ty->Option (V cxT.ty))(k':Option Int)(hk:k (X91_0 a0)=(k').map n91):∀ (n:Nat) (v0_8:Int),bR prog vA L f91 0 [1,1,0,1,0,0] (cA (aT prog f91) k xk) n (S91_0 a0 v0_8)=(xO L a0 n v0_8 k').map n91
 | 0,_=>rfl
 | n+1,v0_8=>by
  rw[bS,aOD];have ih:=aJm L a0 k xk k' hk n;simp only[xO,aP,aN,aO,aC,aE,ih,hk]
def g91 (L:Nat)(a0:(List Int)):Option Int:=
 xO L a0 L (0:Int) (some (0:Int))
theorem e91 (L:Nat)(a0:(List Int)):dP prog vA (aW L) f91 (a91.enc a0)=(g91 L a0).map n91:=by
 let K'0:Option Int:=(some (0:Int))
 have hin0:∀ (v0_8:Int),bR prog vA L f91 0 [1,1,0,1,0,0] (cA (aT prog f91) (bM prog vA L f91 [1,1,0,1] (aT prog f91)).n (bM prog vA L f91 [1,1,0,1] (aT prog f91)).x) L (S91_0 a0 v0_8)=(xO L a0 L v0_8 K'0).map n91:=λv0_8=>aJm L a0 _ _ K'0 (by rw[aM1];simp only[K'0,aP,aN,aO,aC,aE]) L v0_8
 rw[i91];simp only[g91,aP,aN,aO,aC,aE,hin0,K'0]
theorem s91 (m:(List Int)->Option Int)(hm:∀ (x:(List Int)) t,m x=some t->∃ L,g91 L x=some t):Sat prog cxT 91 (c91 m):=
 cT bQ bH (by rfl) (fn:=f91) rfl a91 n91 aQf m vA bG aZ (λL x=>g91 L x) (λL x=>e91 L x) hm aTQ
def aK2 (m109:Int->Option Bool):Env cxT:={ Kc:=dL [(109,aIs m109)],Kw:=dK [],lv:=λi=>[],xv:=λi=>none }
theorem i92 (m109:Int->Option Bool)(L:Nat)(a0:Int)(a1:Int):dP prog (aK2 m109) (aW L) f92 (a92.enc (a0,a1))=
 cK (m109 a0) false λ(q1:Bool)=>cK (m109 a1) false λ(q2:Bool)=>bif q1 then bif q2 then some (n92 (0:Int))
    else some (n92 (-(1:Int)))
   else bif q2 then some (n92 (1:Int))
   else bif (decide (a0 < a1))then some (n92 (-(1:Int)))
   else bif (decide (a0 > a1))then some (n92 (1:Int))
   else some (n92 (0:Int)):=by kernel_rfl
def g92 (m109:Int->Option Bool)(L:Nat)(a0:Int)(a1:Int):Option Int:=
 cK (m109 a0) false λ(q1:Bool)=>cK (m109 a1) false λ(q2:Bool)=>bif q1 then bif q2 then some (0:Int)
    else some (-(1:Int))
   else bif q2 then some (1:Int)
   else bif (decide (a0 < a1))then some (-(1:Int))
   else bif (decide (a0 > a1))then some (1:Int)
   else some (0:Int)
theorem e92 (m109:Int->Option Bool)(L:Nat)(a0:Int)(a1:Int):dP prog (aK2 m109) (aW L) f92 (a92.enc (a0,a1))=(g92 m109 L a0 a1).map n92:=by
 rw[i92];simp only[g92,aP,aN,aO,aC,aE]
theorem s92 (m109:Int->Option Bool)(h109:Sat prog cxT 109 (aIs m109))(m:(Int×Int)->Option Int)(hm:∀ (x:(Int×Int)) t,m x=some t->∃ L,g92 m109 L x.1 x.2=some t):Sat prog cxT 92 (c92 m):=
 cT bQ bH (by rfl) (fn:=f92) rfl a92 n92 aQe m (aK2 m109) (aY h109 bG) aZ (λL x=>g92 m109 L x.1 x.2) (λL x=>e92 m109 L x.1 x.2) hm aTP
def aGO:Env cxT:={ Kc:=dL [],Kw:=dK [],lv:=λi=>[],xv:=λi=>none }
theorem aTK (L:Nat)(a0:Int):dP prog aGO (aW L) f105 (aRL.enc a0)=
 bif (a0 == (0:Int))then some (aDk Bool.true)
 else some (aDk (a0 == (1:Int))):=by kernel_rfl
def aIc (L:Nat)(a0:Int):Option Bool:=
 bif (a0 == (0:Int))then some Bool.true
 else some (a0 == (1:Int))
theorem aVg (L:Nat)(a0:Int):dP prog aGO (aW L) f105 (aRL.enc a0)=(aIc L a0).map aDk:=by
 rw[aTK];simp only[aIc,aP,aN,aO,aC,aE]
theorem aTq (m:Int->Option Bool)(hm:∀ (x:Int) t,m x=some t->∃ L,aIc L x=some t):Sat prog cxT 105 (aRz m):=
 cT bQ bH (by rfl) (fn:=f105) rfl aRL aDk aJ4 m aGO bG aZ (λL x=>aIc L x) (λL x=>aVg L x) hm aPJ
def aGN:Env cxT:={ Kc:=dL [],Kw:=dK [],lv:=λi=>[],xv:=λi=>none }
theorem aTH (L:Nat)(a0:Int):dP prog aGN (aW L) f109 (aRI.enc a0)=
 some (aFa (a0 != a0)):=by kernel_rfl
def aGz (L:Nat)(a0:Int):Option Bool:=
 some (a0 != a0)
theorem aVd (L:Nat)(a0:Int):dP prog aGN (aW L) f109 (aRI.enc a0)=(aGz L a0).map aFa:=by
 rw[aTH];simp only[aGz,aP,aN,aO,aC,aE]
theorem aTn (m:Int->Option Bool)(hm:∀ (x:Int) t,m x=some t->∃ L,aGz L x=some t):Sat prog cxT 109 (aIs m):=
 cT bQ bH (by rfl) (fn:=f109) rfl aRI aFa aJ1 m aGN bG aZ (λL x=>aGz L x) (λL x=>aVd L x) hm aPG
def aGM (m92:(Int×Int)->Option Int):Env cxT:={ Kc:=dL [(92,c92 m92)],Kw:=dK [],lv:=λi=>[],xv:=λi=>none }
theorem aTF (m92:(Int×Int)->Option Int)(L:Nat)(a0_0:Int)(a0_1:Int)(a0_2:Int)(a0_3:Int)(a0_4:Bool)(a1:Int):dP prog (aGM m92) (aW L) f111 (aRG.enc ((a0_0,a0_1,a0_2,a0_3,a0_4),a1))=
 cK (m92 (a0_0,a1)) (0:Int) λ(q1:Int)=>some (aE9 q1):=by kernel_rfl
def aIb (m92:(Int×Int)->Option Int)(L:Nat)(a0_0:Int)(a0_1:Int)(a0_2:Int)(a0_3:Int)(a0_4:Bool)(a1:Int):Option Int:=
 cK (m92 (a0_0,a1)) (0:Int) λ(q1:Int)=>some q1
theorem aVb (m92:(Int×Int)->Option Int)(L:Nat)(a0_0:Int)(a0_1:Int)(a0_2:Int)(a0_3:Int)(a0_4:Bool)(a1:Int):dP prog (aGM m92) (aW L) f111 (aRG.enc ((a0_0,a0_1,a0_2,a0_3,a0_4),a1))=(aIb m92 L a0_0 a0_1 a0_2 a0_3 a0_4 a1).map aE9:=by
 rw[aTF];simp only[aIb,aP,aN,aO,aC,aE]
theorem aTl (m92:(Int×Int)->Option Int)(h92:Sat prog cxT 92 (c92 m92))(m:(Bk×Int)->Option Int)(hm:∀ (x:(Bk×Int)) t,m x=some t->∃ L,aIb m92 L x.1.1 x.1.2.1 x.1.2.2.1 x.1.2.2.2.1 x.1.2.2.2.2 x.2=some t):Sat prog cxT 111 (aIq m):=
 cT bQ bH (by rfl) (fn:=f111) rfl aRG aE9 aJZ m (aGM m92) (aY h92 bG) aZ (λL x=>aIb m92 L x.1.1 x.1.2.1 x.1.2.2.1 x.1.2.2.2.1 x.1.2.2.2.2 x.2) (λL x=>aVb m92 L x.1.1 x.1.2.1 x.1.2.2.1 x.1.2.2.2.1 x.1.2.2.2.2 x.2) hm aPE
def aK9:Env cxT:={ Kc:=dL [],Kw:=dK [],lv:=λi=>[],xv:=λi=>none }
theorem i83 (L:Nat)(a0:(List Int))(a1:Int):dP prog aK9 (aW L) f83 (a83.enc (a0,a1))=
 bif (decide ((wrap Go.IntKind.i64 (a1-(Nat.cast (List.length a0):Int))) < (0:Int)))then some (n83 (-(1:Int)))
 else some (n83 (wrap Go.IntKind.i64 (a1-(Nat.cast (List.length a0):Int)))):=by kernel_rfl
def g83 (L:Nat)(a0:(List Int))(a1:Int):Option Int:=
 bif (decide ((wrap Go.IntKind.i64 (a1-(Nat.cast (List.length a0):Int))) < (0:Int)))then some (-(1:Int))
 else some (wrap Go.IntKind.i64 (a1-(Nat.cast (List.length a0):Int)))
theorem e83 (L:Nat)(a0:(List Int))(a1:Int):dP prog aK9 (aW L) f83 (a83.enc (a0,a1))=(g83 L a0 a1).map n83:=by
 rw[i83];simp only[g83,aP,aN,aO,aC,aE]
theorem s83 (m:((List Int)×Int)->Option Int)(hm:∀ (x:((List Int)×Int)) t,m x=some t->∃ L,g83 L x.1 x.2=some t):Sat prog cxT 83 (c83 m):=
 cT bQ bH (by rfl) (fn:=f83) rfl a83 n83 aQn m aK9 bG aZ (λL x=>g83 L x.1 x.2) (λL x=>e83 L x.1 x.2) hm aTY
def vC:Env cxT:={ Kc:=dL [],Kw:=dK [],lv:=λi=>if i=0 then[(0,[some 2]),(3,[some 2]),(4,[])]else[],xv:=λi=>if i=0 then some [(3,[some 2])]else none }
def S84_0 (a0:(List Int))(v0_3:(List Int))(v0_4:Int):St cxT.ty:={ slots:=[(.inl (.inl (ls { own:=0,nm:=0,e:=2,o:=false,xs:=a0 }))),aI,aI,(.inl (.inl (ls { own:=1,nm:=192,e:=2,o:=true,xs:=v0_3 }))),(.inl (.inl (lv (.int .i64 v0_4))))]++List.replicate 17 aI,D:=[],F:=[],ctr:=1 }
def X84_0 (a0:(List Int))(w0_3:(List Int)):St cxT.ty:={ slots:=[aI,aI,aI,(.inl (.inl (ls { own:=1,nm:=192,e:=2,o:=true,xs:=w0_3 })))]++List.replicate 18 aI,D:=[],F:=[],ctr:=1 }
theorem i84 (L:Nat)(a0:(List Int)):dP prog vC (aW L) f84 (a84.enc a0)=
 bif (((decide ((0:Int)<=(Nat.cast (List.length a0):Int)))&&(decide ((Nat.cast (List.length a0):Int)<=(Nat.cast (List.length a0):Int))))&&(decide ((Nat.cast (List.length a0):Int)<=(1000000000:Int))))then bR prog vC L f84 0 [1,1,0,1,0,0] (cA (aT prog f84) (bM prog vC L f84 [1,1,0,1] (aT prog f84)).n (bM prog vC L f84 [1,1,0,1] (aT prog f84)).x) L (S84_0 a0 (List.replicate (Int.toNat (Nat.cast (List.length a0):Int)) (0:Int)) (0:Int))
 else none:=by kernel_rfl
theorem aOE (L:Nat)(a0:(List Int))(k:St cxT.ty->Option (V cxT.ty))(xk:Nat->St cxT.ty->Option (V cxT.ty))(g:St cxT.ty->Option (V cxT.ty))(v0_3:(List Int))(v0_4:Int):dQ prog vC L f84 0 [1,1,0,1,0,0] (cA (aT prog f84) k xk) g (S84_0 a0 v0_3 v0_4)=
 bif (decide (v0_4 < (Nat.cast (List.length a0):Int)))then bif ((decide ((0:Int)<=v0_4))&&(decide (v0_4 < (Nat.cast (List.length a0):Int))))then bif ((decide ((0:Int)<=v0_4))&&(decide (v0_4 < (Nat.cast (List.length v0_3):Int))))then g (S84_0 a0 (List.set v0_3 (Int.toNat v0_4) (List.getD a0 (Int.toNat v0_4) (0:Int))) (wrap Go.IntKind.i64 (v0_4+(1:Int))))
   else none
  else none
 else k (X84_0 a0 v0_3):=by kernel_rfl
theorem aM2 (L:Nat)(a0:(List Int))(w0_3:(List Int)):(bM prog vC L f84 [1,1,0,1] (aT prog f84)).n (X84_0 a0 w0_3)=
 some (n84 w0_3):=by kernel_rfl
def xP (L:Nat)(a0:(List Int)):Nat->(List Int)->Int->((List Int)->Option (List Int))->Option (List Int)
 | 0,_,_,_=>none
 | n+1,v0_3,v0_4,k=>
  bif (decide (v0_4 < (Nat.cast (List.length a0):Int)))then bif ((decide ((0:Int)<=v0_4))&&(decide (v0_4 < (Nat.cast (List.length a0):Int))))then bif ((decide ((0:Int)<=v0_4))&&(decide (v0_4 < (Nat.cast (List.length v0_3):Int))))then xP L a0 n (List.set v0_3 (Int.toNat v0_4) (List.getD a0 (Int.toNat v0_4) (0:Int))) (wrap Go.IntKind.i64 (v0_4+(1:Int))) k
    else none
   else none
  else k v0_3
theorem aJn (L:Nat)(a0:(List Int))(k:St cxT.ty->Option (V cxT.ty))(xk:Nat->St cxT.ty->Option (V cxT.ty))(k':(List Int)->Option (List Int))(hk:∀ (w0_3:(List Int)),k (X84_0 a0 w0_3)=(k' w0_3).map n84):∀ (n:Nat) (v0_3:(List Int)) (v0_4:Int),bR prog vC L f84 0 [1,1,0,1,0,0] (cA (aT prog f84) k xk) n (S84_0 a0 v0_3 v0_4)=(xP L a0 n v0_3 v0_4 k').map n84
 | 0,_,_=>rfl
 | n+1,v0_3,v0_4=>by
  rw[bS,aOE];have ih:=aJn L a0 k xk k' hk n;simp only[xP,aP,aN,aO,aC,aE,ih,hk]
def g84 (L:Nat)(a0:(List Int)):Option (List Int):=
 bif (((decide ((0:Int)<=(Nat.cast (List.length a0):Int)))&&(decide ((Nat.cast (List.length a0):Int)<=(Nat.cast (List.length a0):Int))))&&(decide ((Nat.cast (List.length a0):Int)<=(1000000000:Int))))then xP L a0 L (List.replicate (Int.toNat (Nat.cast (List.length a0):Int)) (0:Int)) (0:Int) (λ(w0_3:(List Int))=>some w0_3)
 else none
theorem e84 (L:Nat)(a0:(List Int)):dP prog vC (aW L) f84 (a84.enc a0)=(g84 L a0).map n84:=by
 let K'0:(List Int)->Option (List Int):=(λ(w0_3:(List Int))=>some w0_3)
 have hin0:∀ (v0_3:(List Int)) (v0_4:Int),bR prog vC L f84 0 [1,1,0,1,0,0] (cA (aT prog f84) (bM prog vC L f84 [1,1,0,1] (aT prog f84)).n (bM prog vC L f84 [1,1,0,1] (aT prog f84)).x) L (S84_0 a0 v0_3 v0_4)=(xP L a0 L v0_3 v0_4 K'0).map n84:=λv0_3 v0_4=>aJn L a0 _ _ K'0 (λw0_3=>by rw[aM2];simp only[K'0,aP,aN,aO,aC,aE]) L v0_3 v0_4
 rw[i84];simp only[g84,aP,aN,aO,aC,aE,hin0,K'0]
theorem s84 (m:(List Int)->Option (List Int))(hm:∀ (x:(List Int)) t,m x=some t->∃ L,g84 L x=some t):Sat prog cxT 84 (c84 m):=
 cT bQ bH (by rfl) (fn:=f84) rfl a84 n84 aQm m vC bG aZ (λL x=>g84 L x) (λL x=>e84 L x) hm aTX
def aLb:Env cxT:={ Kc:=dL [],Kw:=dK [],lv:=λi=>[],xv:=λi=>none }
theorem i79 (L:Nat)(a0_0:Int)(a0_1:Int)(a0_2:Int)(a0_3:Int)(a0_4:Bool)(a1_0:Int)(a1_1:Int)(a1_2:Int)(a1_3:Int)(a1_4:Bool):dP prog aLb (aW L) f79 (a79.enc ((a0_0,a0_1,a0_2,a0_3,a0_4),(a1_0,a1_1,a1_2,a1_3,a1_4)))=
 bif (a0_0 != a1_0)then some (n79 Bool.false)
 else bif (a0_1 != a1_1)then some (n79 Bool.false)
 else bif (a0_2 != a1_2)then some (n79 Bool.false)
 else bif (a0_3 != a1_3)then some (n79 Bool.false)
 else bif (!(a0_4 == a1_4))then some (n79 Bool.false)
 else some (n79 Bool.true):=by kernel_rfl
def g79 (L:Nat)(a0_0:Int)(a0_1:Int)(a0_2:Int)(a0_3:Int)(a0_4:Bool)(a1_0:Int)(a1_1:Int)(a1_2:Int)(a1_3:Int)(a1_4:Bool):Option Bool:=
 bif (a0_0 != a1_0)then some Bool.false
 else bif (a0_1 != a1_1)then some Bool.false
 else bif (a0_2 != a1_2)then some Bool.false
 else bif (a0_3 != a1_3)then some Bool.false
 else bif (!(a0_4 == a1_4))then some Bool.false
 else some Bool.true
theorem e79 (L:Nat)(a0_0:Int)(a0_1:Int)(a0_2:Int)(a0_3:Int)(a0_4:Bool)(a1_0:Int)(a1_1:Int)(a1_2:Int)(a1_3:Int)(a1_4:Bool):dP prog aLb (aW L) f79 (a79.enc ((a0_0,a0_1,a0_2,a0_3,a0_4),(a1_0,a1_1,a1_2,a1_3,a1_4)))=(g79 L a0_0 a0_1 a0_2 a0_3 a0_4 a1_0 a1_1 a1_2 a1_3 a1_4).map n79:=by
 rw[i79];simp only[g79,aP,aN,aO,aC,aE]
theorem s79 (m:(Bk×Bk)->Option Bool)(hm:∀ (x:(Bk×Bk)) t,m x=some t->∃ L,g79 L x.1.1 x.1.2.1 x.1.2.2.1 x.1.2.2.2.1 x.1.2.2.2.2 x.2.1 x.2.2.1 x.2.2.2.1 x.2.2.2.2.1 x.2.2.2.2.2=some t):Sat prog cxT 79 (c79 m):=
 cT bQ bH (by rfl) (fn:=f79) rfl a79 n79 aQr m aLb bG aZ (λL x=>g79 L x.1.1 x.1.2.1 x.1.2.2.1 x.1.2.2.2.1 x.1.2.2.2.2 x.2.1 x.2.2.1 x.2.2.2.1 x.2.2.2.2.1 x.2.2.2.2.2) (λL x=>e79 L x.1.1 x.1.2.1 x.1.2.2.1 x.1.2.2.2.1 x.1.2.2.2.2 x.2.1 x.2.2.1 x.2.2.2.1 x.2.2.2.2.1 x.2.2.2.2.2) hm aT2
def aLa (lM:((List Int)×(List Int))->Option Bool):Env cxT:={ Kc:=dL [(107,aIu lM)],Kw:=dK [],lv:=λi=>[],xv:=λi=>none }
theorem i80 (lM:((List Int)×(List Int))->Option Bool)(L:Nat)(a0_0:Int)(a0_1:Int)(a0_2:Int)(a0_3:(List Int))(a1_0:Int)(a1_1:Int)(a1_2:Int)(a1_3:(List Int)):dP prog (aLa lM) (aW L) f80 (a80.enc ((a0_0,a0_1,a0_2,a0_3),(a1_0,a1_1,a1_2,a1_3)))=
 bif (a0_0 != a1_0)then some (n80 Bool.false)
 else bif (a0_1 != a1_1)then some (n80 Bool.false)
 else bif (a0_2 != a1_2)then some (n80 Bool.false)
 else cK (lM (a0_3,a1_3)) false λ(q1:Bool)=>bif (!q1)then some (n80 Bool.false)
  else some (n80 Bool.true):=by kernel_rfl
def g80 (lM:((List Int)×(List Int))->Option Bool)(L:Nat)(a0_0:Int)(a0_1:Int)(a0_2:Int)(a0_3:(List Int))(a1_0:Int)(a1_1:Int)(a1_2:Int)(a1_3:(List Int)):Option Bool:=
 bif (a0_0 != a1_0)then some Bool.false
 else bif (a0_1 != a1_1)then some Bool.false
 else bif (a0_2 != a1_2)then some Bool.false
 else cK (lM (a0_3,a1_3)) false λ(q1:Bool)=>bif (!q1)then some Bool.false
  else some Bool.true
theorem e80 (lM:((List Int)×(List Int))->Option Bool)(L:Nat)(a0_0:Int)(a0_1:Int)(a0_2:Int)(a0_3:(List Int))(a1_0:Int)(a1_1:Int)(a1_2:Int)(a1_3:(List Int)):dP prog (aLa lM) (aW L) f80 (a80.enc ((a0_0,a0_1,a0_2,a0_3),(a1_0,a1_1,a1_2,a1_3)))=(g80 lM L a0_0 a0_1 a0_2 a0_3 a1_0 a1_1 a1_2 a1_3).map n80:=by
 rw[i80];simp only[g80,aP,aN,aO,aC,aE]
theorem s80 (lM:((List Int)×(List Int))->Option Bool)(h107:Sat prog cxT 107 (aIu lM))(m:(Vp×Vp)->Option Bool)(hm:∀ (x:(Vp×Vp)) t,m x=some t->∃ L,g80 lM L x.1.1 x.1.2.1 x.1.2.2.1 x.1.2.2.2 x.2.1 x.2.2.1 x.2.2.2.1 x.2.2.2.2=some t):Sat prog cxT 80 (c80 m):=
 cT bQ bH (by rfl) (fn:=f80) rfl a80 n80 aQq m (aLa lM) (aY h107 bG) aZ (λL x=>g80 lM L x.1.1 x.1.2.1 x.1.2.2.1 x.1.2.2.2 x.2.1 x.2.2.1 x.2.2.2.1 x.2.2.2.2) (λL x=>e80 lM L x.1.1 x.1.2.1 x.1.2.2.1 x.1.2.2.2 x.2.1 x.2.2.1 x.2.2.2.1 x.2.2.2.2) hm aT1
end Go.Proofs.Tryz
