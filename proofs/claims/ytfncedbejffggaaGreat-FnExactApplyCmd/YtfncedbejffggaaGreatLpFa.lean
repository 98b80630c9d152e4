/- A part of the proof of FnExactApplyCmd: LpFa. -/
import Derived.Test.YtfncedbejffggaaGreatLpBase
set_option linter.unusedSimpArgs false
set_option linter.unusedVariables false
set_option maxHeartbeats 0
set_option maxRecDepth 100000
namespace Go.Proofs.Tryz
open Go.IntKind (wrap)
open Go Go.VM Go.RowKit
def aNx:Env cxT:={ Kc:=eF [],Kw:=eE [],lv:=λi=>[],xv:=λi=>none }
theorem i34 (L:Nat)(a0 a1 a2:Int):eT prog aNx (bH L) f34 (a34.enc (a0,a1,a2))=
 bif (decide (a0>=a1))then some (n34 (decide (a0<=a2)))
 else some (n34 false):=by kernel_rfl
def g34 (L:Nat)(a0 a1 a2:Int):Option Bool:=
 bif (decide (a0>=a1))then some (decide (a0<=a2))
 else some false
theorem e34 (L:Nat)(a0 a1 a2:Int):eT prog aNx (bH L) f34 (a34.enc (a0,a1,a2))=(g34 L a0 a1 a2).map n34:=by
 rw[i34];simp only[g34,aU,aS,aT,aD,aE]
theorem s34 (m:(Int×Int×Int)->Option Bool)(hm:∀ (x:(Int×Int×Int)) t,m x=some t->∃ L,g34 L x.1 x.2.1 x.2.2=some t):Sat prog cxT 34 (c34 m):=
 dS bZ bV (by rfl) (fn:=f34) rfl a34 n34 aS5 m aNx bU bP (λL x=>g34 L x.1 x.2.1 x.2.2) (λL x=>e34 L x.1 x.2.1 x.2.2) hm aWz
def aNv (m34:(Int×Int×Int)->Option Bool):Env cxT:={ Kc:=eF [(34,c34 m34)],Kw:=eE [],lv:=λi=>[],xv:=λi=>none }
theorem i36 (m34:(Int×Int×Int)->Option Bool)(L:Nat)(a0:Int):eT prog (aNv m34) (bH L) f36 (a36.enc a0)=
 cZ (m34 (a0,(1,999))) false λ(q1:Bool)=>some (n36 q1):=by kernel_rfl
def g36 (m34:(Int×Int×Int)->Option Bool)(L:Nat)(a0:Int):Option Bool:=
 cZ (m34 (a0,(1,999))) false λ(q1:Bool)=>some q1
theorem e36 (m34:(Int×Int×Int)->Option Bool)(L:Nat)(a0:Int):eT prog (aNv m34) (bH L) f36 (a36.enc a0)=(g36 m34 L a0).map n36:=by
 rw[i36];simp only[g36,aU,aS,aT,aD,aE]
theorem s36 (m34:(Int×Int×Int)->Option Bool)(h34:Sat prog cxT 34 (c34 m34))(m:Int->Option Bool)(hm:∀ (x:Int) t,m x=some t->∃ L,g36 m34 L x=some t):Sat prog cxT 36 (c36 m):=
 dS bZ bV (by rfl) (fn:=f36) rfl a36 n36 aS3 m (aNv m34) (bN h34 bU) bP (λL x=>g36 m34 L x) (λL x=>e36 m34 L x) hm aWx
def aNu (m34:(Int×Int×Int)->Option Bool):Env cxT:={ Kc:=eF [(34,c34 m34)],Kw:=eE [],lv:=λi=>[],xv:=λi=>none }
theorem i37 (m34:(Int×Int×Int)->Option Bool)(L:Nat)(a0:Int):eT prog (aNu m34) (bH L) f37 (a37.enc a0)=
 cZ (m34 (a0,(0,4294967295))) false λ(q1:Bool)=>some (n37 q1):=by kernel_rfl
def g37 (m34:(Int×Int×Int)->Option Bool)(L:Nat)(a0:Int):Option Bool:=
 cZ (m34 (a0,(0,4294967295))) false λ(q1:Bool)=>some q1
theorem e37 (m34:(Int×Int×Int)->Option Bool)(L:Nat)(a0:Int):eT prog (aNu m34) (bH L) f37 (a37.enc a0)=(g37 m34 L a0).map n37:=by
 rw[i37];simp only[g37,aU,aS,aT,aD,aE]
theorem s37 (m34:(Int×Int×Int)->Option Bool)(h34:Sat prog cxT 34 (c34 m34))(m:Int->Option Bool)(hm:∀ (x:Int) t,m x=some t->∃ L,g37 m34 L x=some t):Sat prog cxT 37 (c37 m):=
 dS bZ bV (by rfl) (fn:=f37) rfl a37 n37 aS2 m (aNu m34) (bN h34 bU) bP (λL x=>g37 m34 L x) (λL x=>e37 m34 L x) hm aWw
def aNs:Env cxT:={ Kc:=eF [],Kw:=eE [],lv:=λi=>[],xv:=λi=>none }
theorem i39 (L:Nat)(a0:Int):eT prog aNs (bH L) f39 (a39.enc a0)=
 bif (a0 == 6)then some (n39 true)
 else some (n39 (a0 == 17)):=by kernel_rfl
def g39 (L:Nat)(a0:Int):Option Bool:=
 bif (a0 == 6)then some true
 else some (a0 == 17)
theorem e39 (L:Nat)(a0:Int):eT prog aNs (bH L) f39 (a39.enc a0)=(g39 L a0).map n39:=by
 rw[i39];simp only[g39,aU,aS,aT,aD,aE]
theorem s39 (m:Int->Option Bool)(hm:∀ (x:Int) t,m x=some t->∃ L,g39 L x=some t):Sat prog cxT 39 (c39 m):=
 dS bZ bV (by rfl) (fn:=f39) rfl a39 n39 aS0 m aNs bU bP (λL x=>g39 L x) (λL x=>e39 L x) hm aWu
def aNp:Env cxT:={ Kc:=eF [],Kw:=eE [],lv:=λi=>[],xv:=λi=>none }
theorem i45 (L:Nat)(a0:Int):eT prog aNp (bH L) f45 (a45.enc a0)=
 bif (decide (a0>=0))then some (n45 (decide (a0<=1000000)))
 else some (n45 false):=by kernel_rfl
def g45 (L:Nat)(a0:Int):Option Bool:=
 bif (decide (a0>=0))then some (decide (a0<=1000000))
 else some false
theorem e45 (L:Nat)(a0:Int):eT prog aNp (bH L) f45 (a45.enc a0)=(g45 L a0).map n45:=by
 rw[i45];simp only[g45,aU,aS,aT,aD,aE]
theorem s45 (m:Int->Option Bool)(hm:∀ (x:Int) t,m x=some t->∃ L,g45 L x=some t):Sat prog cxT 45 (c45 m):=
 dS bZ bV (by rfl) (fn:=f45) rfl a45 n45 aSV m aNp bU bP (λL x=>g45 L x) (λL x=>e45 L x) hm aWo
def aNo (m50:Int->Option Bool)(m51:Int->Option Bool)(m52:Int->Option Bool)(m55:Int->Option Bool):Env cxT:={ Kc:=eF [(50,c50 m50),(51,c51 m51),(52,c52 m52),(55,c55 m55)],Kw:=eE [],lv:=λi=>[],xv:=λi=>none }
theorem i46 (m50:Int->Option Bool)(m51:Int->Option Bool)(m52:Int->Option Bool)(m55:Int->Option Bool)(L:Nat)(x0 x1:Int)(x2 x3:Int)(x4:Bool):eT prog (aNo m50 m51 m52 m55) (bH L) f46 (a46.enc (x0,x1,x2,x3,x4))=
 cZ (m50 x0) false λ(q1:Bool)=>bif q1 then cZ (m51 x1) false λ(q3:Bool)=>bif q3 then cZ (m52 x2) false λ(q5:Bool)=>bif q5 then cZ (m55 x3) false λ(q7:Bool)=>some (n46 q7)
      else some (n46 false)
    else some (n46 false)
  else some (n46 false):=by kernel_rfl
def g46 (m50:Int->Option Bool)(m51:Int->Option Bool)(m52:Int->Option Bool)(m55:Int->Option Bool)(L:Nat)(x0 x1:Int)(x2 x3:Int)(x4:Bool):Option Bool:=
 cZ (m50 x0) false λ(q1:Bool)=>bif q1 then cZ (m51 x1) false λ(q3:Bool)=>bif q3 then cZ (m52 x2) false λ(q5:Bool)=>bif q5 then cZ (m55 x3) false λ(q7:Bool)=>some q7
      else some false
    else some false
  else some false
theorem e46 (m50:Int->Option Bool)(m51:Int->Option Bool)(m52:Int->Option Bool)(m55:Int->Option Bool)(L:Nat)(x0 x1:Int)(x2 x3:Int)(x4:Bool):eT prog (aNo m50 m51 m52 m55) (bH L) f46 (a46.enc (x0,x1,x2,x3,x4))=(g46 m50 m51 m52 m55 L x0 x1 x2 x3 x4).map n46:=by
 rw[i46];simp only[g46,aU,aS,aT,aD,aE]
theorem s46 (m50:Int->Option Bool)(m51:Int->Option Bool)(m52:Int->Option Bool)(m55:Int->Option Bool)(h50:Sat prog cxT 50 (c50 m50))(h51:Sat prog cxT 51 (c51 m51))(h52:Sat prog cxT 52 (c52 m52))(h55:Sat prog cxT 55 (c55 m55))(m:Bk->Option Bool)(hm:∀ (x:Bk) t,m x=some t->∃ L,g46 m50 m51 m52 m55 L x.1 x.2.1 x.2.2.1 x.2.2.2.1 x.2.2.2.2=some t):Sat prog cxT 46 (c46 m):=
 dS bZ bV (by rfl) (fn:=f46) rfl a46 n46 aSU m (aNo m50 m51 m52 m55) (bN h50 (bN h51 (bN h52 (bN h55 bU)))) bP (λL x=>g46 m50 m51 m52 m55 L x.1 x.2.1 x.2.2.1 x.2.2.2.1 x.2.2.2.2) (λL x=>e46 m50 m51 m52 m55 L x.1 x.2.1 x.2.2.1 x.2.2.2.1 x.2.2.2.2) hm aWn
def aNl:Env cxT:={ Kc:=eF [],Kw:=eE [],lv:=λi=>[],xv:=λi=>none }
theorem i50 (L:Nat)(a0:Int):eT prog aNl (bH L) f50 (a50.enc a0)=
 bif (decide (a0>=1))then some (n50 (decide (a0<=999)))
 else some (n50 false):=by kernel_rfl
def g50 (L:Nat)(a0:Int):Option Bool:=
 bif (decide (a0>=1))then some (decide (a0<=999))
 else some false
theorem e50 (L:Nat)(a0:Int):eT prog aNl (bH L) f50 (a50.enc a0)=(g50 L a0).map n50:=by
 rw[i50];simp only[g50,aU,aS,aT,aD,aE]
theorem s50 (m:Int->Option Bool)(hm:∀ (x:Int) t,m x=some t->∃ L,g50 L x=some t):Sat prog cxT 50 (c50 m):=
 dS bZ bV (by rfl) (fn:=f50) rfl a50 n50 aSQ m aNl bU bP (λL x=>g50 L x) (λL x=>e50 L x) hm aWj
def aNk:Env cxT:={ Kc:=eF [],Kw:=eE [],lv:=λi=>[],xv:=λi=>none }
theorem i51 (L:Nat)(a0:Int):eT prog aNk (bH L) f51 (a51.enc a0)=
 bif (decide (a0>=0))then some (n51 (decide (a0<=4294967295)))
 else some (n51 false):=by kernel_rfl
def g51 (L:Nat)(a0:Int):Option Bool:=
 bif (decide (a0>=0))then some (decide (a0<=4294967295))
 else some false
theorem e51 (L:Nat)(a0:Int):eT prog aNk (bH L) f51 (a51.enc a0)=(g51 L a0).map n51:=by
 rw[i51];simp only[g51,aU,aS,aT,aD,aE]
theorem s51 (m:Int->Option Bool)(hm:∀ (x:Int) t,m x=some t->∃ L,g51 L x=some t):Sat prog cxT 51 (c51 m):=
 dS bZ bV (by rfl) (fn:=f51) rfl a51 n51 aSP m aNk bU bP (λL x=>g51 L x) (λL x=>e51 L x) hm aWi
def aNj:Env cxT:={ Kc:=eF [],Kw:=eE [],lv:=λi=>[],xv:=λi=>none }
theorem i52 (L:Nat)(a0:Int):eT prog aNj (bH L) f52 (a52.enc a0)=
 bif (decide (a0>=0))then some (n52 (decide (a0<=9)))
 else some (n52 false):=by kernel_rfl
def g52 (L:Nat)(a0:Int):Option Bool:=
 bif (decide (a0>=0))then some (decide (a0<=9))
 else some false
theorem e52 (L:Nat)(a0:Int):eT prog aNj (bH L) f52 (a52.enc a0)=(g52 L a0).map n52:=by
 rw[i52];simp only[g52,aU,aS,aT,aD,aE]
theorem s52 (m:Int->Option Bool)(hm:∀ (x:Int) t,m x=some t->∃ L,g52 L x=some t):Sat prog cxT 52 (c52 m):=
 dS bZ bV (by rfl) (fn:=f52) rfl a52 n52 aSO m aNj bU bP (λL x=>g52 L x) (λL x=>e52 L x) hm aWh
def aNh:Env cxT:={ Kc:=eF [],Kw:=eE [],lv:=λi=>[],xv:=λi=>none }
theorem i55 (L:Nat)(a0:Int):eT prog aNh (bH L) f55 (a55.enc a0)=
 bif (decide (a0>=1))then some (n55 (decide (a0<=3)))
 else some (n55 false):=by kernel_rfl
def g55 (L:Nat)(a0:Int):Option Bool:=
 bif (decide (a0>=1))then some (decide (a0<=3))
 else some false
theorem e55 (L:Nat)(a0:Int):eT prog aNh (bH L) f55 (a55.enc a0)=(g55 L a0).map n55:=by
 rw[i55];simp only[g55,aU,aS,aT,aD,aE]
theorem s55 (m:Int->Option Bool)(hm:∀ (x:Int) t,m x=some t->∃ L,g55 L x=some t):Sat prog cxT 55 (c55 m):=
 dS bZ bV (by rfl) (fn:=f55) rfl a55 n55 aSN m aNh bU bP (λL x=>g55 L x) (λL x=>e55 L x) hm aWf
def aNg:Env cxT:={ Kc:=eF [],Kw:=eE [],lv:=λi=>[],xv:=λi=>none }
theorem i58 (L:Nat)(a0:Int):eT prog aNg (bH L) f58 (a58.enc a0)=
 bif (decide (a0>=0))then some (n58 (decide (a0<=65535)))
 else some (n58 false):=by kernel_rfl
def g58 (L:Nat)(a0:Int):Option Bool:=
 bif (decide (a0>=0))then some (decide (a0<=65535))
 else some false
theorem e58 (L:Nat)(a0:Int):eT prog aNg (bH L) f58 (a58.enc a0)=(g58 L a0).map n58:=by
 rw[i58];simp only[g58,aU,aS,aT,aD,aE]
theorem s58 (m:Int->Option Bool)(hm:∀ (x:Int) t,m x=some t->∃ L,g58 L x=some t):Sat prog cxT 58 (c58 m):=
 dS bZ bV (by rfl) (fn:=f58) rfl a58 n58 aSM m aNg bU bP (λL x=>g58 L x) (λL x=>e58 L x) hm aWe
def aNf:Env cxT:={ Kc:=eF [],Kw:=eE [],lv:=λi=>[],xv:=λi=>none }
theorem i59 (L:Nat)(a0:Int):eT prog aNf (bH L) f59 (a59.enc a0)=
 bif (a0 == 6)then some (n59 true)
 else some (n59 (a0 == 17)):=by kernel_rfl
def g59 (L:Nat)(a0:Int):Option Bool:=
 bif (a0 == 6)then some true
 else some (a0 == 17)
theorem e59 (L:Nat)(a0:Int):eT prog aNf (bH L) f59 (a59.enc a0)=(g59 L a0).map n59:=by
 rw[i59];simp only[g59,aU,aS,aT,aD,aE]
theorem s59 (m:Int->Option Bool)(hm:∀ (x:Int) t,m x=some t->∃ L,g59 L x=some t):Sat prog cxT 59 (c59 m):=
 dS bZ bV (by rfl) (fn:=f59) rfl a59 n59 aSL m aNf bU bP (λL x=>g59 L x) (λL x=>e59 L x) hm aWd
def aNc:Env cxT:={ Kc:=eF [],Kw:=eE [],lv:=λi=>[],xv:=λi=>none }
theorem i64 (L:Nat)(a0:Int):eT prog aNc (bH L) f64 (a64.enc a0)=
 bif (a0 == 0)then some (n64 true)
 else some (n64 (a0 == 1)):=by kernel_rfl
def g64 (L:Nat)(a0:Int):Option Bool:=
 bif (a0 == 0)then some true
 else some (a0 == 1)
theorem e64 (L:Nat)(a0:Int):eT prog aNc (bH L) f64 (a64.enc a0)=(g64 L a0).map n64:=by
 rw[i64];simp only[g64,aU,aS,aT,aD,aE]
theorem s64 (m:Int->Option Bool)(hm:∀ (x:Int) t,m x=some t->∃ L,g64 L x=some t):Sat prog cxT 64 (c64 m):=
 dS bZ bV (by rfl) (fn:=f64) rfl a64 n64 aSI m aNc bU bP (λL x=>g64 L x) (λL x=>e64 L x) hm aWa
def aM8 (m34:(Int×Int×Int)->Option Bool):Env cxT:={ Kc:=eF [(34,c34 m34)],Kw:=eE [],lv:=λi=>[],xv:=λi=>none }
theorem i72 (m34:(Int×Int×Int)->Option Bool)(L:Nat)(a0:Int):eT prog (aM8 m34) (bH L) f72 (a72.enc a0)=
 cZ (m34 (a0,(0,65535))) false λ(q1:Bool)=>some (n72 q1):=by kernel_rfl
def g72 (m34:(Int×Int×Int)->Option Bool)(L:Nat)(a0:Int):Option Bool:=
 cZ (m34 (a0,(0,65535))) false λ(q1:Bool)=>some q1
theorem e72 (m34:(Int×Int×Int)->Option Bool)(L:Nat)(a0:Int):eT prog (aM8 m34) (bH L) f72 (a72.enc a0)=(g72 m34 L a0).map n72:=by
 rw[i72];simp only[g72,aU,aS,aT,aD,aE]
theorem s72 (m34:(Int×Int×Int)->Option Bool)(h34:Sat prog cxT 34 (c34 m34))(m:Int->Option Bool)(hm:∀ (x:Int) t,m x=some t->∃ L,g72 m34 L x=some t):Sat prog cxT 72 (c72 m):=
 dS bZ bV (by rfl) (fn:=f72) rfl a72 n72 aSB m (aM8 m34) (bN h34 bU) bP (λL x=>g72 m34 L x) (λL x=>e72 m34 L x) hm aV3
def xY:Env cxT:={ Kc:=eF [],Kw:=eE [],lv:=λi=>if i=0 then[(3,[]),(6,[some 3]),(7,[]),(8,[])]else[],xv:=λi=>if i=0 then some [(3,[])]else none }
def S80_0 (a0:LI)(x0:Int):St cxT.ty:={ slots:=[aN,aN,aN,(.inl (.inl (lv (.int .i64 0)))),aN,aN,(.inl (.inl (ls { own:=0,nm:=0,e:=3,o:=false,xs:=a0 }))),(.inl (.inl (lv (.int .i64 (a0.length:Int))))),(.inl (.inl (lv (.int .i64 x0))))]++List.replicate 9 aN,D:=[],F:=[],ctr:=1 }
def X80_0 (a0:LI):St cxT.ty:={ slots:=[aN,aN,aN,(.inl (.inl (lv (.int .i64 0))))]++List.replicate 14 aN,D:=[],F:=[],ctr:=1 }
theorem i80 (L:Nat)(a0:LI):eT prog xY (bH L) f80 (a80.enc a0)=
 cE prog xY L f80 0 [1,1,0,1,0,0] (cW (bI prog f80) (cA prog xY L f80 [1,1,0,1] (bI prog f80)).n (cA prog xY L f80 [1,1,0,1] (bI prog f80)).x) L (S80_0 a0 0):=by kernel_rfl
theorem aQQ (L:Nat)(a0:LI)(k:KT)(xk:Nat->KT)(g:KT)(x0:Int):eW prog xY L f80 0 [1,1,0,1,0,0] (cW (bI prog f80) k xk) g (S80_0 a0 x0)=
 bif (decide (x0 < (a0.length:Int)))then bif ((decide (0<=x0))&&(decide (x0 < (a0.length:Int))))then bif ((List.getD a0 x0.toNat 0) != 0)then some (n80 (List.getD a0 x0.toNat 0))
   else g (S80_0 a0 (wrap .i64 (x0+1)))
  else none
 else k (X80_0 a0):=by kernel_rfl
theorem aPh (L:Nat)(a0:LI):(cA prog xY L f80 [1,1,0,1] (bI prog f80)).n (X80_0 a0)=
 some (n80 0):=by kernel_rfl
def aAk (L:Nat)(a0:LI):Nat->Int->(Option Int)->Option Int
 | 0,_,_=>none
 | n+1,x0,k=>
  bif (decide (x0 < (a0.length:Int)))then bif ((decide (0<=x0))&&(decide (x0 < (a0.length:Int))))then bif ((List.getD a0 x0.toNat 0) != 0)then some (List.getD a0 x0.toNat 0)
    else aAk L a0 n (wrap .i64 (x0+1)) k
   else none
  else k
theorem aLz (L:Nat)(a0:LI)(k:KT)(xk:Nat->KT)(k':Option Int)(hk:k (X80_0 a0)=(k').map n80):∀ (n:Nat) (x0:Int),cE prog xY L f80 0 [1,1,0,1,0,0] (cW (bI prog f80) k xk) n (S80_0 a0 x0)=(aAk L a0 n x0 k').map n80
 | 0,_=>rfl
 | n+1,x0=>by
  rw[cK,aQQ];have ih:=aLz L a0 k xk k' hk n;simp only[aAk,aU,aS,aT,aD,aE,ih,hk]
def g80 (L:Nat)(a0:LI):Option Int:=
 aAk L a0 L 0 (some 0)
theorem e80 (L:Nat)(a0:LI):eT prog xY (bH L) f80 (a80.enc a0)=(g80 L a0).map n80:=by
 let K'0:Option Int:=(some 0)
 have hin0:∀ (x0:Int),cE prog xY L f80 0 [1,1,0,1,0,0] (cW (bI prog f80) (cA prog xY L f80 [1,1,0,1] (bI prog f80)).n (cA prog xY L f80 [1,1,0,1] (bI prog f80)).x) L (S80_0 a0 x0)=(aAk L a0 L x0 K'0).map n80:=λx0=>aLz L a0 _ _ K'0 (by rw[aPh];simp only[K'0,aU,aS,aT,aD,aE]) L x0
 rw[i80];simp only[g80,aU,aS,aT,aD,aE,hin0,K'0]
theorem s80 (m:LI->Option Int)(hm:∀ (x:LI) t,m x=some t->∃ L,g80 L x=some t):Sat prog cxT 80 (c80 m):=
 dS bZ bV (by rfl) (fn:=f80) rfl a80 n80 aSw m xY bU bP (λL x=>g80 L x) (λL x=>e80 L x) hm aVW
def aM6 (m98:Int->Option Bool):Env cxT:={ Kc:=eF [(98,c98 m98)],Kw:=eE [],lv:=λi=>[],xv:=λi=>none }
theorem i81 (m98:Int->Option Bool)(L:Nat)(a0 a1:Int):eT prog (aM6 m98) (bH L) f81 (a81.enc (a0,a1))=
 cZ (m98 a0) false λ(q1:Bool)=>cZ (m98 a1) false λ(q2:Bool)=>bif q1 then bif q2 then some (n81 0)
    else some (n81 (-1))
   else bif q2 then some (n81 1)
   else bif (decide (a0 < a1))then some (n81 (-1))
   else bif (decide (a0 > a1))then some (n81 1)
   else some (n81 0):=by kernel_rfl
def g81 (m98:Int->Option Bool)(L:Nat)(a0 a1:Int):Option Int:=
 cZ (m98 a0) false λ(q1:Bool)=>cZ (m98 a1) false λ(q2:Bool)=>bif q1 then bif q2 then some 0
    else some (-1)
   else bif q2 then some 1
   else bif (decide (a0 < a1))then some (-1)
   else bif (decide (a0 > a1))then some 1
   else some 0
theorem e81 (m98:Int->Option Bool)(L:Nat)(a0 a1:Int):eT prog (aM6 m98) (bH L) f81 (a81.enc (a0,a1))=(g81 m98 L a0 a1).map n81:=by
 rw[i81];simp only[g81,aU,aS,aT,aD,aE]
theorem s81 (m98:Int->Option Bool)(h98:Sat prog cxT 98 (c98 m98))(m:(Int×Int)->Option Int)(hm:∀ (x:(Int×Int)) t,m x=some t->∃ L,g81 m98 L x.1 x.2=some t):Sat prog cxT 81 (c81 m):=
 dS bZ bV (by rfl) (fn:=f81) rfl a81 n81 aSv m (aM6 m98) (bN h98 bU) bP (λL x=>g81 m98 L x.1 x.2) (λL x=>e81 m98 L x.1 x.2) hm aVV
def aM2:Env cxT:={ Kc:=eF [],Kw:=eE [],lv:=λi=>[],xv:=λi=>none }
theorem i98 (L:Nat)(a0:Int):eT prog aM2 (bH L) f98 (a98.enc a0)=
 some (n98 (a0 != a0)):=by kernel_rfl
def g98 (L:Nat)(a0:Int):Option Bool:=
 some (a0 != a0)
theorem e98 (L:Nat)(a0:Int):eT prog aM2 (bH L) f98 (a98.enc a0)=(g98 L a0).map n98:=by
 rw[i98];simp only[g98,aU,aS,aT,aD,aE]
theorem s98 (m:Int->Option Bool)(hm:∀ (x:Int) t,m x=some t->∃ L,g98 L x=some t):Sat prog cxT 98 (c98 m):=
 dS bZ bV (by rfl) (fn:=f98) rfl a98 n98 aSs m aM2 bU bP (λL x=>g98 L x) (λL x=>e98 L x) hm aVO
def aNz (m34:(Int×Int×Int)->Option Bool):Env cxT:={ Kc:=eF [(34,c34 m34)],Kw:=eE [],lv:=λi=>[],xv:=λi=>none }
theorem i31 (m34:(Int×Int×Int)->Option Bool)(L:Nat)(a0:Int):eT prog (aNz m34) (bH L) f31 (a31.enc a0)=
 cZ (m34 (a0,(0,1000000))) false λ(q1:Bool)=>some (n31 q1):=by kernel_rfl
def g31 (m34:(Int×Int×Int)->Option Bool)(L:Nat)(a0:Int):Option Bool:=
 cZ (m34 (a0,(0,1000000))) false λ(q1:Bool)=>some q1
theorem e31 (m34:(Int×Int×Int)->Option Bool)(L:Nat)(a0:Int):eT prog (aNz m34) (bH L) f31 (a31.enc a0)=(g31 m34 L a0).map n31:=by
 rw[i31];simp only[g31,aU,aS,aT,aD,aE]
theorem s31 (m34:(Int×Int×Int)->Option Bool)(h34:Sat prog cxT 34 (c34 m34))(m:Int->Option Bool)(hm:∀ (x:Int) t,m x=some t->∃ L,g31 m34 L x=some t):Sat prog cxT 31 (c31 m):=
 dS bZ bV (by rfl) (fn:=f31) rfl a31 n31 aS8 m (aNz m34) (bN h34 bU) bP (λL x=>g31 m34 L x) (λL x=>e31 m34 L x) hm aWC
def aM7:Env cxT:={ Kc:=eF [],Kw:=eE [],lv:=λi=>[],xv:=λi=>none }
theorem i73 (L:Nat)(x0 x1 x4:Int)(x6:LI)(x2 x3 x5:Int)(x7:LI):eT prog aM7 (bH L) f73 (a73.enc ((x0,x1,x4,x6),(x2,x3,x5,x7)))=
 bif (x0 != x2)then some (n73 (decide (x0 < x2)))
 else bif (x1 != x3)then some (n73 (decide (x1 < x3)))
 else some (n73 (decide (x4 < x5))):=by kernel_rfl
def g73 (L:Nat)(x0 x1 x4:Int)(x6:LI)(x2 x3 x5:Int)(x7:LI):Option Bool:=
 bif (x0 != x2)then some (decide (x0 < x2))
 else bif (x1 != x3)then some (decide (x1 < x3))
 else some (decide (x4 < x5))
theorem e73 (L:Nat)(x0 x1 x2:Int)(x3:LI)(x4 x5 x6:Int)(x7:LI):eT prog aM7 (bH L) f73 (a73.enc ((x0,x1,x2,x3),(x4,x5,x6,x7)))=(g73 L x0 x1 x2 x3 x4 x5 x6 x7).map n73:=by
 rw[i73];simp only[g73,aU,aS,aT,aD,aE]
theorem s73 (m:(Vp×Vp)->Option Bool)(hm:∀ (x:(Vp×Vp)) t,m x=some t->∃ L,g73 L x.1.1 x.1.2.1 x.1.2.2.1 x.1.2.2.2 x.2.1 x.2.2.1 x.2.2.2.1 x.2.2.2.2=some t):Sat prog cxT 73 (c73 m):=
 dS bZ bV (by rfl) (fn:=f73) rfl a73 n73 aNN m aM7 bU bP (λL x=>g73 L x.1.1 x.1.2.1 x.1.2.2.1 x.1.2.2.2 x.2.1 x.2.2.1 x.2.2.2.1 x.2.2.2.2) (λL x=>e73 L x.1.1 x.1.2.1 x.1.2.2.1 x.1.2.2.2 x.2.1 x.2.2.1 x.2.2.2.1 x.2.2.2.2) hm aV2
def yC:Env cxT:={ Kc:=eF [],Kw:=eE [],lv:=λi=>if i=0 then[(0,[some 2]),(1,[]),(5,[])]else[],xv:=λi=>if i=0 then some []else none }
def S76_0 (a0:LI)(a1 x0:Int):St cxT.ty:={ slots:=[(.inl (.inl (ls { own:=0,nm:=0,e:=2,o:=false,xs:=a0 }))),(.inl (.inl (lv (.int .i64 a1)))),aN,aN,aN,(.inl (.inl (lv (.int .i64 x0))))]++List.replicate 12 aN,D:=[],F:=[],ctr:=1 }
def X76_0 (a0:LI)(a1:Int):St cxT.ty:={ slots:=[]++List.replicate 18 aN,D:=[],F:=[],ctr:=1 }
theorem i76 (L:Nat)(a0:LI)(a1:Int):eT prog yC (bH L) f76 (a76.enc (a0,a1))=
 cE prog yC L f76 0 [1,0,1,0,0] (cW (bI prog f76) (cA prog yC L f76 [1,0,1] (bI prog f76)).n (cA prog yC L f76 [1,0,1] (bI prog f76)).x) L (S76_0 a0 a1 0):=by kernel_rfl
theorem aQU (L:Nat)(a0:LI)(a1:Int)(k:KT)(xk:Nat->KT)(g:KT)(x0:Int):eW prog yC L f76 0 [1,0,1,0,0] (cW (bI prog f76) k xk) g (S76_0 a0 a1 x0)=
 bif (decide (x0 < (a0.length:Int)))then bif ((decide (0<=x0))&&(decide (x0 < (a0.length:Int))))then bif ((List.getD a0 x0.toNat 0) == a1)then some (n76 true)
   else g (S76_0 a0 a1 (wrap .i64 (x0+1)))
  else none
 else k (X76_0 a0 a1):=by kernel_rfl
theorem aPl (L:Nat)(a0:LI)(a1:Int):(cA prog yC L f76 [1,0,1] (bI prog f76)).n (X76_0 a0 a1)=
 some (n76 false):=by kernel_rfl
def aAo (L:Nat)(a0:LI)(a1:Int):Nat->Int->(Option Bool)->Option Bool
 | 0,_,_=>none
 | n+1,x0,k=>
  bif (decide (x0 < (a0.length:Int)))then bif ((decide (0<=x0))&&(decide (x0 < (a0.length:Int))))then bif ((List.getD a0 x0.toNat 0) == a1)then some true
    else aAo L a0 a1 n (wrap .i64 (x0+1)) k
   else none
  else k
theorem aLD (L:Nat)(a0:LI)(a1:Int)(k:KT)(xk:Nat->KT)(k':Option Bool)(hk:k (X76_0 a0 a1)=(k').map n76):∀ (n:Nat) (x0:Int),cE prog yC L f76 0 [1,0,1,0,0] (cW (bI prog f76) k xk) n (S76_0 a0 a1 x0)=(aAo L a0 a1 n x0 k').map n76
 | 0,_=>rfl
 | n+1,x0=>by
  rw[cK,aQU];have ih:=aLD L a0 a1 k xk k' hk n;simp only[aAo,aU,aS,aT,aD,aE,ih,hk]
def g76 (L:Nat)(a0:LI)(a1:Int):Option Bool:=
 aAo L a0 a1 L 0 (some false)
theorem e76 (L:Nat)(a0:LI)(a1:Int):eT prog yC (bH L) f76 (a76.enc (a0,a1))=(g76 L a0 a1).map n76:=by
 let K'0:Option Bool:=(some false)
 have hin0:∀ (x0:Int),cE prog yC L f76 0 [1,0,1,0,0] (cW (bI prog f76) (cA prog yC L f76 [1,0,1] (bI prog f76)).n (cA prog yC L f76 [1,0,1] (bI prog f76)).x) L (S76_0 a0 a1 x0)=(aAo L a0 a1 L x0 K'0).map n76:=λx0=>aLD L a0 a1 _ _ K'0 (by rw[aPl];simp only[K'0,aU,aS,aT,aD,aE]) L x0
 rw[i76];simp only[g76,aU,aS,aT,aD,aE,hin0,K'0]
theorem s76 (m:(LI×Int)->Option Bool)(hm:∀ (x:(LI×Int)) t,m x=some t->∃ L,g76 L x.1 x.2=some t):Sat prog cxT 76 (c76 m):=
 dS bZ bV (by rfl) (fn:=f76) rfl a76 n76 aSz m yC bU bP (λL x=>g76 L x.1 x.2) (λL x=>e76 L x.1 x.2) hm aVZ
def aNA (m71:(LI×Int)->Option Int):Env cxT:={ Kc:=eF [(71,c71 m71)],Kw:=eE [],lv:=λi=>[],xv:=λi=>none }
theorem i30 (m71:(LI×Int)->Option Int)(L:Nat)(x1 x2 x3:Int)(x0:LI)(a1:Int):eT prog (aNA m71) (bH L) f30 (a30.enc ((x1,x2,x3,x0),a1))=
 cZ (m71 (x0,a1)) 0 λ(q1:Int)=>bif (decide (q1 < 0))then some (n30 (-1))
  else some (n30 q1):=by kernel_rfl
def g30 (m71:(LI×Int)->Option Int)(L:Nat)(x1 x2 x3:Int)(x0:LI)(a1:Int):Option Int:=
 cZ (m71 (x0,a1)) 0 λ(q1:Int)=>bif (decide (q1 < 0))then some (-1)
  else some q1
theorem e30 (m71:(LI×Int)->Option Int)(L:Nat)(x0 x1 x2:Int)(x3:LI)(a1:Int):eT prog (aNA m71) (bH L) f30 (a30.enc ((x0,x1,x2,x3),a1))=(g30 m71 L x0 x1 x2 x3 a1).map n30:=by
 rw[i30];simp only[g30,aU,aS,aT,aD,aE]
theorem s30 (m71:(LI×Int)->Option Int)(h71:Sat prog cxT 71 (c71 m71))(m:(Vp×Int)->Option Int)(hm:∀ (x:(Vp×Int)) t,m x=some t->∃ L,g30 m71 L x.1.1 x.1.2.1 x.1.2.2.1 x.1.2.2.2 x.2=some t):Sat prog cxT 30 (c30 m):=
 dS bZ bV (by rfl) (fn:=f30) rfl a30 n30 aS9 m (aNA m71) (bN h71 bU) bP (λL x=>g30 m71 L x.1.1 x.1.2.1 x.1.2.2.1 x.1.2.2.2 x.2) (λL x=>e30 m71 L x.1.1 x.1.2.1 x.1.2.2.1 x.1.2.2.2 x.2) hm aWD
def aM9:Env cxT:={ Kc:=eF [],Kw:=eE [],lv:=λi=>[],xv:=λi=>none }
theorem i71 (L:Nat)(a0:LI)(a1:Int):eT prog aM9 (bH L) f71 (a71.enc (a0,a1))=
 bif (decide ((wrap .i64 (a1-(a0.length:Int))) < 0))then some (n71 (-1))
 else some (n71 (wrap .i64 (a1-(a0.length:Int)))):=by kernel_rfl
def g71 (L:Nat)(a0:LI)(a1:Int):Option Int:=
 bif (decide ((wrap .i64 (a1-(a0.length:Int))) < 0))then some (-1)
 else some (wrap .i64 (a1-(a0.length:Int)))
theorem e71 (L:Nat)(a0:LI)(a1:Int):eT prog aM9 (bH L) f71 (a71.enc (a0,a1))=(g71 L a0 a1).map n71:=by
 rw[i71];simp only[g71,aU,aS,aT,aD,aE]
theorem s71 (m:(LI×Int)->Option Int)(hm:∀ (x:(LI×Int)) t,m x=some t->∃ L,g71 L x.1 x.2=some t):Sat prog cxT 71 (c71 m):=
 dS bZ bV (by rfl) (fn:=f71) rfl a71 n71 aSC m aM9 bU bP (λL x=>g71 L x.1 x.2) (λL x=>e71 L x.1 x.2) hm aV4
def aNq (m79:LI->Option LI):Env cxT:={ Kc:=eF [(79,c79 m79)],Kw:=eE [],lv:=λi=>[],xv:=λi=>none }
theorem i44 (m79:LI->Option LI)(L:Nat)(x0 x1 x2:Int)(x3:LI):eT prog (aNq m79) (bH L) f44 (a44.enc (x0,x1,x2,x3))=
 cZ (m79 x3) [] λ(q1:LI)=>some (n44 (x0,x1,x2,q1)):=by kernel_rfl
def g44 (m79:LI->Option LI)(L:Nat)(x0 x1 x2:Int)(x3:LI):Option Vp:=
 cZ (m79 x3) [] λ(q1:LI)=>some (x0,x1,x2,q1)
theorem e44 (m79:LI->Option LI)(L:Nat)(x0 x1 x2:Int)(x3:LI):eT prog (aNq m79) (bH L) f44 (a44.enc (x0,x1,x2,x3))=(g44 m79 L x0 x1 x2 x3).map n44:=by
 rw[i44];simp only[g44,aU,aS,aT,aD,aE]
theorem s44 (m79:LI->Option LI)(h79:Sat prog cxT 79 (c79 m79))(m:Vp->Option Vp)(hm:∀ (x:Vp) t,m x=some t->∃ L,g44 m79 L x.1 x.2.1 x.2.2.1 x.2.2.2=some t):Sat prog cxT 44 (c44 m):=
 dS bZ bV (by rfl) (fn:=f44) rfl a44 n44 aSW m (aNq m79) (bN h79 bU) bP (λL x=>g44 m79 L x.1 x.2.1 x.2.2.1 x.2.2.2) (λL x=>e44 m79 L x.1 x.2.1 x.2.2.1 x.2.2.2) hm aWp
def aNr:Env cxT:={ Kc:=eF [],Kw:=eE [],lv:=λi=>[],xv:=λi=>none }
theorem i43 (L:Nat)(x0 x1:Int)(x2 x3:Int)(x4:Bool):eT prog aNr (bH L) f43 (a43.enc (x0,x1,x2,x3,x4))=
 some (n43 (x0,x1,x2,x3,x4)):=by kernel_rfl
def g43 (L:Nat)(x0 x1:Int)(x2 x3:Int)(x4:Bool):Option Bk:=
 some (x0,x1,x2,x3,x4)
theorem e43 (L:Nat)(x0 x1:Int)(x2 x3:Int)(x4:Bool):eT prog aNr (bH L) f43 (a43.enc (x0,x1,x2,x3,x4))=(g43 L x0 x1 x2 x3 x4).map n43:=by
 rw[i43];simp only[g43,aU,aS,aT,aD,aE]
theorem s43 (m:Bk->Option Bk)(hm:∀ (x:Bk) t,m x=some t->∃ L,g43 L x.1 x.2.1 x.2.2.1 x.2.2.2.1 x.2.2.2.2=some t):Sat prog cxT 43 (c43 m):=
 dS bZ bV (by rfl) (fn:=f43) rfl a43 n43 aSX m aNr bU bP (λL x=>g43 L x.1 x.2.1 x.2.2.1 x.2.2.2.1 x.2.2.2.2) (λL x=>e43 L x.1 x.2.1 x.2.2.1 x.2.2.2.1 x.2.2.2.2) hm aWq
def aNb:Env cxT:={ Kc:=eF [],Kw:=eE [],lv:=λi=>[],xv:=λi=>none }
theorem i66 (L:Nat)(x0 x1:Int)(x2 x3:Int)(x4:Bool)(x5 x6:Int)(x7 x8:Int)(x9:Bool):eT prog aNb (bH L) f66 (a66.enc ((x0,x1,x2,x3,x4),(x5,x6,x7,x8,x9)))=
 bif (x0 != x5)then some (n66 false)
 else bif (x1 != x6)then some (n66 false)
 else bif (x2 != x7)then some (n66 false)
 else bif (x3 != x8)then some (n66 false)
 else bif (!(x4 == x9))then some (n66 false)
 else some (n66 true):=by kernel_rfl
def g66 (L:Nat)(x0 x1:Int)(x2 x3:Int)(x4:Bool)(x5 x6:Int)(x7 x8:Int)(x9:Bool):Option Bool:=
 bif (x0 != x5)then some false
 else bif (x1 != x6)then some false
 else bif (x2 != x7)then some false
 else bif (x3 != x8)then some false
 else bif (!(x4 == x9))then some false
 else some true
theorem e66 (L:Nat)(x0 x1:Int)(x2 x3:Int)(x4:Bool)(x5 x6:Int)(x7 x8:Int)(x9:Bool):eT prog aNb (bH L) f66 (a66.enc ((x0,x1,x2,x3,x4),(x5,x6,x7,x8,x9)))=(g66 L x0 x1 x2 x3 x4 x5 x6 x7 x8 x9).map n66:=by
 rw[i66];simp only[g66,aU,aS,aT,aD,aE]
theorem s66 (m:(Bk×Bk)->Option Bool)(hm:∀ (x:(Bk×Bk)) t,m x=some t->∃ L,g66 L x.1.1 x.1.2.1 x.1.2.2.1 x.1.2.2.2.1 x.1.2.2.2.2 x.2.1 x.2.2.1 x.2.2.2.1 x.2.2.2.2.1 x.2.2.2.2.2=some t):Sat prog cxT 66 (c66 m):=
 dS bZ bV (by rfl) (fn:=f66) rfl a66 n66 aSH m aNb bU bP (λL x=>g66 L x.1.1 x.1.2.1 x.1.2.2.1 x.1.2.2.2.1 x.1.2.2.2.2 x.2.1 x.2.2.1 x.2.2.2.1 x.2.2.2.2.1 x.2.2.2.2.2) (λL x=>e66 L x.1.1 x.1.2.1 x.1.2.2.1 x.1.2.2.2.1 x.1.2.2.2.2 x.2.1 x.2.2.1 x.2.2.2.1 x.2.2.2.2.1 x.2.2.2.2.2) hm aV9
def ev7:Env cxT:={ Kc:=eF [],Kw:=eE [],lv:=λi=>[],xv:=λi=>none }
theorem i7 (L:Nat)(x0 x1:Int)(x2 x3:Int)(x4 x5:Int):eT prog ev7 (bH L) f7 (a7.enc (x0,x1,x2,x3,x4,x5))=
 some (n7 (x0,x1,x2,x3,x4,x5)):=by kernel_rfl
def g7 (L:Nat)(x0 x1:Int)(x2 x3:Int)(x4 x5:Int):Option DZ:=
 some (x0,x1,x2,x3,x4,x5)
theorem e7 (L:Nat)(x0 x1:Int)(x2 x3:Int)(x4 x5:Int):eT prog ev7 (bH L) f7 (a7.enc (x0,x1,x2,x3,x4,x5))=(g7 L x0 x1 x2 x3 x4 x5).map n7:=by
 rw[i7];simp only[g7,aU,aS,aT,aD,aE]
theorem s7 (m:DZ->Option DZ)(hm:∀ (x:DZ) t,m x=some t->∃ L,g7 L x.1 x.2.1 x.2.2.1 x.2.2.2.1 x.2.2.2.2.1 x.2.2.2.2.2=some t):Sat prog cxT 7 (c7 m):=
 dS bZ bV (by rfl) (fn:=f7) rfl a7 n7 dd7 m ev7 bU bP (λL x=>g7 L x.1 x.2.1 x.2.2.1 x.2.2.2.1 x.2.2.2.2.1 x.2.2.2.2.2) (λL x=>e7 L x.1 x.2.1 x.2.2.1 x.2.2.2.1 x.2.2.2.2.1 x.2.2.2.2.2) hm hs7
def aNw (m34:(Int×Int×Int)->Option Bool):Env cxT:={ Kc:=eF [(34,c34 m34)],Kw:=eE [],lv:=λi=>[],xv:=λi=>none }
theorem i35 (m34:(Int×Int×Int)->Option Bool)(L:Nat)(a0:Int):eT prog (aNw m34) (bH L) f35 (a35.enc a0)=
 cZ (m34 (a0,(5,8))) false λ(q1:Bool)=>bif (a0 != 5)then bif (a0 == 1)then some (n35 ((a0 != 6),true,(a0 != 4),q1))
   else some (n35 ((a0 != 6),q1,(a0 != 4),q1))
  else bif (a0 == 1)then some (n35 (false,true,(a0 != 4),q1))
  else some (n35 (false,q1,(a0 != 4),q1)):=by kernel_rfl
def g35 (m34:(Int×Int×Int)->Option Bool)(L:Nat)(a0:Int):Option (Bool×Bool×Bool×Bool):=
 cZ (m34 (a0,(5,8))) false λ(q1:Bool)=>bif (a0 != 5)then bif (a0 == 1)then some ((a0 != 6),true,(a0 != 4),q1)
   else some ((a0 != 6),q1,(a0 != 4),q1)
  else bif (a0 == 1)then some (false,true,(a0 != 4),q1)
  else some (false,q1,(a0 != 4),q1)
theorem e35 (m34:(Int×Int×Int)->Option Bool)(L:Nat)(a0:Int):eT prog (aNw m34) (bH L) f35 (a35.enc a0)=(g35 m34 L a0).map n35:=by
 rw[i35];simp only[g35,aU,aS,aT,aD,aE]
theorem s35 (m34:(Int×Int×Int)->Option Bool)(h34:Sat prog cxT 34 (c34 m34))(m:Int->Option (Bool×Bool×Bool×Bool))(hm:∀ (x:Int) t,m x=some t->∃ L,g35 m34 L x=some t):Sat prog cxT 35 (c35 m):=
 dS bZ bV (by rfl) (fn:=f35) rfl a35 n35 aS4 m (aNw m34) (bN h34 bU) bP (λL x=>g35 m34 L x) (λL x=>e35 m34 L x) hm aWy
def aNt (m34:(Int×Int×Int)->Option Bool)(m72:Int->Option Bool):Env cxT:={ Kc:=eF [(34,c34 m34),(72,c72 m72)],Kw:=eE [],lv:=λi=>[],xv:=λi=>none }
theorem i38 (m34:(Int×Int×Int)->Option Bool)(m72:Int->Option Bool)(L:Nat)(x1 x2:Int)(x3 x4:Int)(x0 x5:Int):eT prog (aNt m34 m72) (bH L) f38 (a38.enc (x1,x2,x3,x4,x0,x5))=
 bif (x1 == 1)then cZ (m34 (x0,(0,9))) false λ(q2:Bool)=>some (n38 q2)
 else bif (x1 == 2)then cZ (m34 (x0,(0,9))) false λ(q2:Bool)=>some (n38 q2)
 else bif (x1 == 3)then cZ (m34 (x0,(1,3))) false λ(q2:Bool)=>some (n38 q2)
 else bif (x1 == 9)then cZ (m34 (x0,(0,1))) false λ(q2:Bool)=>some (n38 q2)
 else cZ (m72 x0) false λ(q1:Bool)=>some (n38 q1):=by kernel_rfl
def g38 (m34:(Int×Int×Int)->Option Bool)(m72:Int->Option Bool)(L:Nat)(x1 x2:Int)(x3 x4:Int)(x0 x5:Int):Option Bool:=
 bif (x1 == 1)then cZ (m34 (x0,(0,9))) false λ(q2:Bool)=>some q2
 else bif (x1 == 2)then cZ (m34 (x0,(0,9))) false λ(q2:Bool)=>some q2
 else bif (x1 == 3)then cZ (m34 (x0,(1,3))) false λ(q2:Bool)=>some q2
 else bif (x1 == 9)then cZ (m34 (x0,(0,1))) false λ(q2:Bool)=>some q2
 else cZ (m72 x0) false λ(q1:Bool)=>some q1
theorem e38 (m34:(Int×Int×Int)->Option Bool)(m72:Int->Option Bool)(L:Nat)(x0 x1:Int)(x2 x3:Int)(x4 x5:Int):eT prog (aNt m34 m72) (bH L) f38 (a38.enc (x0,x1,x2,x3,x4,x5))=(g38 m34 m72 L x0 x1 x2 x3 x4 x5).map n38:=by
 rw[i38];simp only[g38,aU,aS,aT,aD,aE]
theorem s38 (m34:(Int×Int×Int)->Option Bool)(m72:Int->Option Bool)(h34:Sat prog cxT 34 (c34 m34))(h72:Sat prog cxT 72 (c72 m72))(m:DZ->Option Bool)(hm:∀ (x:DZ) t,m x=some t->∃ L,g38 m34 m72 L x.1 x.2.1 x.2.2.1 x.2.2.2.1 x.2.2.2.2.1 x.2.2.2.2.2=some t):Sat prog cxT 38 (c38 m):=
 dS bZ bV (by rfl) (fn:=f38) rfl a38 n38 aS1 m (aNt m34 m72) (bN h34 (bN h72 bU)) bP (λL x=>g38 m34 m72 L x.1 x.2.1 x.2.2.1 x.2.2.2.1 x.2.2.2.2.1 x.2.2.2.2.2) (λL x=>e38 m34 m72 L x.1 x.2.1 x.2.2.1 x.2.2.2.1 x.2.2.2.2.1 x.2.2.2.2.2) hm aWv
def aND:Env cxT:={ Kc:=eF [],Kw:=eE [],lv:=λi=>[],xv:=λi=>none }
theorem i14 (L:Nat)(a0:LB)(a1:Int):eT prog aND (bH L) f14 (a14.enc (a0,a1))=
 bif (decide ((wrap .i64 (a1-(a0.length:Int))) < 0))then some (n14 (-1))
 else some (n14 (wrap .i64 (a1-(a0.length:Int)))):=by kernel_rfl
def g14 (L:Nat)(a0:LB)(a1:Int):Option Int:=
 bif (decide ((wrap .i64 (a1-(a0.length:Int))) < 0))then some (-1)
 else some (wrap .i64 (a1-(a0.length:Int)))
theorem e14 (L:Nat)(a0:LB)(a1:Int):eT prog aND (bH L) f14 (a14.enc (a0,a1))=(g14 L a0 a1).map n14:=by
 rw[i14];simp only[g14,aU,aS,aT,aD,aE]
theorem s14 (m:(LB×Int)->Option Int)(hm:∀ (x:(LB×Int)) t,m x=some t->∃ L,g14 L x.1 x.2=some t):Sat prog cxT 14 (c14 m):=
 dS bZ bV (by rfl) (fn:=f14) rfl a14 n14 aTk m aND bU bP (λL x=>g14 L x.1 x.2) (λL x=>e14 L x.1 x.2) hm aWQ
def yR (oA:(Vp×Int)->Option Int):Env cxT:={ Kc:=eF [(30,c30 oA)],Kw:=eE [],lv:=λi=>if i=0 then[(0,[some 65]),(1,[]),(5,[])]else[],xv:=λi=>if i=0 then some [(1,[])]else none }
def S15_0 (a0:LV)(a1 x0 x1:Int):St cxT.ty:={ slots:=[(.inl (.inl (ls { own:=0,nm:=0,e:=65,o:=false,xs:=a0 }))),(.inl (.inl (lv (.int .i64 x0)))),aN,aN,aN,(.inl (.inl (lv (.int .i64 x1))))]++List.replicate 21 aN,D:=[],F:=[],ctr:=1 }
def X15_0 (a0:LV)(a1 x0:Int):St cxT.ty:={ slots:=[aN,(.inl (.inl (lv (.int .i64 x0))))]++List.replicate 25 aN,D:=[],F:=[],ctr:=1 }
theorem i15 (oA:(Vp×Int)->Option Int)(L:Nat)(a0:LV)(a1:Int):eT prog (yR oA) (bH L) f15 (a15.enc (a0,a1))=
 bif (decide ((wrap .i64 (a1-(a0.length:Int))) < 0))then some (n15 (-1))
 else cE prog (yR oA) L f15 0 [1,1,1,0,1,0,0] (cW (bI prog f15) (cA prog (yR oA) L f15 [1,1,1,0,1] (bI prog f15)).n (cA prog (yR oA) L f15 [1,1,1,0,1] (bI prog f15)).x) L (S15_0 a0 a1 (wrap .i64 (a1-(a0.length:Int))) 0):=by kernel_rfl
theorem aRj (oA:(Vp×Int)->Option Int)(L:Nat)(a0:LV)(a1:Int)(k:KT)(xk:Nat->KT)(g:KT)(x1 x0:Int):eW prog (yR oA) L f15 0 [1,1,1,0,1,0,0] (cW (bI prog f15) k xk) g (S15_0 a0 a1 x1 x0)=
 bif (decide (x0 < (a0.length:Int)))then bif ((decide (0<=x0))&&(decide (x0 < (a0.length:Int))))then cZ (oA (((List.getD a0 x0.toNat ZV).1,((List.getD a0 x0.toNat ZV).2.1,((List.getD a0 x0.toNat ZV).2.2.1,(List.getD a0 x0.toNat ZV).2.2.2))),x1)) 0 λ(q3:Int)=>bif (decide (q3 < 0))then some (n15 (-1))
    else g (S15_0 a0 a1 q3 (wrap .i64 (x0+1)))
  else none
 else k (X15_0 a0 a1 x1):=by kernel_rfl
theorem aPK (oA:(Vp×Int)->Option Int)(L:Nat)(a0:LV)(a1 x0:Int):(cA prog (yR oA) L f15 [1,1,1,0,1] (bI prog f15)).n (X15_0 a0 a1 x0)=
 some (n15 x0):=by kernel_rfl
def aAy (oA:(Vp×Int)->Option Int)(L:Nat)(a0:LV)(a1:Int):Nat->Int->Int->(Int->Option Int)->Option Int
 | 0,_,_,_=>none
 | n+1,x1,x0,k=>
  bif (decide (x0 < (a0.length:Int)))then bif ((decide (0<=x0))&&(decide (x0 < (a0.length:Int))))then cZ (oA (((List.getD a0 x0.toNat ZV).1,((List.getD a0 x0.toNat ZV).2.1,((List.getD a0 x0.toNat ZV).2.2.1,(List.getD a0 x0.toNat ZV).2.2.2))),x1)) 0 λ(q4:Int)=>bif (decide (q4 < 0))then some (-1)
     else aAy oA L a0 a1 n q4 (wrap .i64 (x0+1)) k
   else none
  else k x1
theorem aL2 (oA:(Vp×Int)->Option Int)(L:Nat)(a0:LV)(a1:Int)(k:KT)(xk:Nat->KT)(k':Int->Option Int)(hk:∀ (x2:Int),k (X15_0 a0 a1 x2)=(k' x2).map n15):∀ (n:Nat) (x0 x1:Int),cE prog (yR oA) L f15 0 [1,1,1,0,1,0,0] (cW (bI prog f15) k xk) n (S15_0 a0 a1 x0 x1)=(aAy oA L a0 a1 n x0 x1 k').map n15
 | 0,_,_=>rfl
 | n+1,x0,x1=>by
  rw[cK,aRj];have ih:=aL2 oA L a0 a1 k xk k' hk n;simp only[aAy,aU,aS,aT,aD,aE,ih,hk]
def g15 (oA:(Vp×Int)->Option Int)(L:Nat)(a0:LV)(a1:Int):Option Int:=
 bif (decide ((wrap .i64 (a1-(a0.length:Int))) < 0))then some (-1)
 else aAy oA L a0 a1 L (wrap .i64 (a1-(a0.length:Int))) 0 (λ(x0:Int)=>some x0)
theorem e15 (oA:(Vp×Int)->Option Int)(L:Nat)(a0:LV)(a1:Int):eT prog (yR oA) (bH L) f15 (a15.enc (a0,a1))=(g15 oA L a0 a1).map n15:=by
 let K'0:Int->Option Int:=(λ(x2:Int)=>some x2)
 have hin0:∀ (x0 x1:Int),cE prog (yR oA) L f15 0 [1,1,1,0,1,0,0] (cW (bI prog f15) (cA prog (yR oA) L f15 [1,1,1,0,1] (bI prog f15)).n (cA prog (yR oA) L f15 [1,1,1,0,1] (bI prog f15)).x) L (S15_0 a0 a1 x0 x1)=(aAy oA L a0 a1 L x0 x1 K'0).map n15:=λx0 x1=>aL2 oA L a0 a1 _ _ K'0 (λx2=>by rw[aPK];simp only[K'0,aU,aS,aT,aD,aE]) L x0 x1
 rw[i15];simp only[g15,aU,aS,aT,aD,aE,hin0,K'0]
theorem s15 (oA:(Vp×Int)->Option Int)(h30:Sat prog cxT 30 (c30 oA))(m:(LV×Int)->Option Int)(hm:∀ (x:(LV×Int)) t,m x=some t->∃ L,g15 oA L x.1 x.2=some t):Sat prog cxT 15 (c15 m):=
 dS bZ bV (by rfl) (fn:=f15) rfl a15 n15 aTj m (yR oA) (bN h30 bU) bP (λL x=>g15 oA L x.1 x.2) (λL x=>e15 oA L x.1 x.2) hm aWP
def yQ (m43:Bk->Option Bk):Env cxT:={ Kc:=eF [(43,c43 m43)],Kw:=eE [],lv:=λi=>if i=0 then[(0,[some 75]),(3,[some 68]),(4,[])]else[],xv:=λi=>if i=0 then some [(3,[some 68])]else none }
def S19_0 (a0:LB)(x0:LB)(x1:Int):St cxT.ty:={ slots:=[(.inl (.inl (ls { own:=0,nm:=0,e:=75,o:=false,xs:=a0 }))),aN,aN,(.inl (.inl (ls { own:=1,nm:=192,e:=68,o:=true,xs:=x0 }))),(.inl (.inl (lv (.int .i64 x1))))]++List.replicate 18 aN,D:=[],F:=[],ctr:=1 }
def X19_0 (a0:LB)(x0:LB):St cxT.ty:={ slots:=[aN,aN,aN,(.inl (.inl (ls { own:=1,nm:=192,e:=68,o:=true,xs:=x0 })))]++List.replicate 19 aN,D:=[],F:=[],ctr:=1 }
theorem i19 (m43:Bk->Option Bk)(L:Nat)(a0:LB):eT prog (yQ m43) (bH L) f19 (a19.enc a0)=
 bif (((decide (0<=(a0.length:Int)))&&(decide ((a0.length:Int)<=(a0.length:Int))))&&(decide ((a0.length:Int)<=1000000000)))then cE prog (yQ m43) L f19 0 [1,1,0,1,0,0] (cW (bI prog f19) (cA prog (yQ m43) L f19 [1,1,0,1] (bI prog f19)).n (cA prog (yQ m43) L f19 [1,1,0,1] (bI prog f19)).x) L (S19_0 a0 (List.replicate (Int.toNat (a0.length:Int)) ZB) 0)
 else none:=by kernel_rfl
theorem aRg (m43:Bk->Option Bk)(L:Nat)(a0:LB)(k:KT)(xk:Nat->KT)(g:KT)(x1:LB)(x0:Int):eW prog (yQ m43) L f19 0 [1,1,0,1,0,0] (cW (bI prog f19) k xk) g (S19_0 a0 x1 x0)=
 bif (decide (x0 < (a0.length:Int)))then bif ((decide (0<=x0))&&(decide (x0 < (a0.length:Int))))then cZ (m43 ((List.getD a0 x0.toNat ZB).1,((List.getD a0 x0.toNat ZB).2.1,((List.getD a0 x0.toNat ZB).2.2.1,((List.getD a0 x0.toNat ZB).2.2.2.1,(List.getD a0 x0.toNat ZB).2.2.2.2))))) ZB λ(q3:Bk)=>bif ((decide (0<=x0))&&(decide (x0 < (x1.length:Int))))then g (S19_0 a0 (List.set x1 x0.toNat q3) (wrap .i64 (x0+1)))
    else none
  else none
 else k (X19_0 a0 x1):=by kernel_rfl
theorem aPH (m43:Bk->Option Bk)(L:Nat)(a0:LB)(x0:LB):(cA prog (yQ m43) L f19 [1,1,0,1] (bI prog f19)).n (X19_0 a0 x0)=
 some (n19 x0):=by kernel_rfl
def aAx (m43:Bk->Option Bk)(L:Nat)(a0:LB):Nat->LB->Int->(LB->Option LB)->Option LB
 | 0,_,_,_=>none
 | n+1,x1,x0,k=>
  bif (decide (x0 < (a0.length:Int)))then bif ((decide (0<=x0))&&(decide (x0 < (a0.length:Int))))then cZ (m43 ((List.getD a0 x0.toNat ZB).1,((List.getD a0 x0.toNat ZB).2.1,((List.getD a0 x0.toNat ZB).2.2.1,((List.getD a0 x0.toNat ZB).2.2.2.1,(List.getD a0 x0.toNat ZB).2.2.2.2))))) ZB λ(q4:Bk)=>bif ((decide (0<=x0))&&(decide (x0 < (x1.length:Int))))then aAx m43 L a0 n (List.set x1 x0.toNat q4) (wrap .i64 (x0+1)) k
     else none
   else none
  else k x1
theorem aLZ (m43:Bk->Option Bk)(L:Nat)(a0:LB)(k:KT)(xk:Nat->KT)(k':LB->Option LB)(hk:∀ (x2:LB),k (X19_0 a0 x2)=(k' x2).map n19):∀ (n:Nat) (x0:LB) (x1:Int),cE prog (yQ m43) L f19 0 [1,1,0,1,0,0] (cW (bI prog f19) k xk) n (S19_0 a0 x0 x1)=(aAx m43 L a0 n x0 x1 k').map n19
 | 0,_,_=>rfl
 | n+1,x0,x1=>by
  rw[cK,aRg];have ih:=aLZ m43 L a0 k xk k' hk n;simp only[aAx,aU,aS,aT,aD,aE,ih,hk]
def g19 (m43:Bk->Option Bk)(L:Nat)(a0:LB):Option LB:=
 bif (((decide (0<=(a0.length:Int)))&&(decide ((a0.length:Int)<=(a0.length:Int))))&&(decide ((a0.length:Int)<=1000000000)))then aAx m43 L a0 L (List.replicate (Int.toNat (a0.length:Int)) ZB) 0 (λ(x0:LB)=>some x0)
 else none
theorem e19 (m43:Bk->Option Bk)(L:Nat)(a0:LB):eT prog (yQ m43) (bH L) f19 (a19.enc a0)=(g19 m43 L a0).map n19:=by
 let K'0:LB->Option LB:=(λ(x2:LB)=>some x2)
 have hin0:∀ (x0:LB) (x1:Int),cE prog (yQ m43) L f19 0 [1,1,0,1,0,0] (cW (bI prog f19) (cA prog (yQ m43) L f19 [1,1,0,1] (bI prog f19)).n (cA prog (yQ m43) L f19 [1,1,0,1] (bI prog f19)).x) L (S19_0 a0 x0 x1)=(aAx m43 L a0 L x0 x1 K'0).map n19:=λx0 x1=>aLZ m43 L a0 _ _ K'0 (λx2=>by rw[aPH];simp only[K'0,aU,aS,aT,aD,aE]) L x0 x1
 rw[i19];simp only[g19,aU,aS,aT,aD,aE,hin0,K'0]
theorem s19 (m43:Bk->Option Bk)(h43:Sat prog cxT 43 (c43 m43))(m:LB->Option LB)(hm:∀ (x:LB) t,m x=some t->∃ L,g19 m43 L x=some t):Sat prog cxT 19 (c19 m):=
 dS bZ bV (by rfl) (fn:=f19) rfl a19 n19 aTg m (yQ m43) (bN h43 bU) bP (λL x=>g19 m43 L x) (λL x=>e19 m43 L x) hm aWM
def yP (oJ:Vp->Option Vp):Env cxT:={ Kc:=eF [(44,c44 oJ)],Kw:=eE [],lv:=λi=>if i=0 then[(0,[some 65]),(3,[some 76]),(4,[])]else[],xv:=λi=>if i=0 then some [(3,[some 76])]else none }
def S20_0 (a0:LV)(x0:LV)(x1:Int):St cxT.ty:={ slots:=[(.inl (.inl (ls { own:=0,nm:=0,e:=65,o:=false,xs:=a0 }))),aN,aN,(.inl (.inl (ls { own:=1,nm:=192,e:=76,o:=true,xs:=x0 }))),(.inl (.inl (lv (.int .i64 x1))))]++List.replicate 18 aN,D:=[],F:=[],ctr:=1 }
def X20_0 (a0:LV)(x0:LV):St cxT.ty:={ slots:=[aN,aN,aN,(.inl (.inl (ls { own:=1,nm:=192,e:=76,o:=true,xs:=x0 })))]++List.replicate 19 aN,D:=[],F:=[],ctr:=1 }
theorem i20 (oJ:Vp->Option Vp)(L:Nat)(a0:LV):eT prog (yP oJ) (bH L) f20 (a20.enc a0)=
 bif (((decide (0<=(a0.length:Int)))&&(decide ((a0.length:Int)<=(a0.length:Int))))&&(decide ((a0.length:Int)<=1000000000)))then cE prog (yP oJ) L f20 0 [1,1,0,1,0,0] (cW (bI prog f20) (cA prog (yP oJ) L f20 [1,1,0,1] (bI prog f20)).n (cA prog (yP oJ) L f20 [1,1,0,1] (bI prog f20)).x) L (S20_0 a0 (List.replicate (Int.toNat (a0.length:Int)) ZV) 0)
 else none:=by kernel_rfl
theorem aRf (oJ:Vp->Option Vp)(L:Nat)(a0:LV)(k:KT)(xk:Nat->KT)(g:KT)(x1:LV)(x0:Int):eW prog (yP oJ) L f20 0 [1,1,0,1,0,0] (cW (bI prog f20) k xk) g (S20_0 a0 x1 x0)=
 bif (decide (x0 < (a0.length:Int)))then bif ((decide (0<=x0))&&(decide (x0 < (a0.length:Int))))then cZ (oJ ((List.getD a0 x0.toNat ZV).1,((List.getD a0 x0.toNat ZV).2.1,((List.getD a0 x0.toNat ZV).2.2.1,(List.getD a0 x0.toNat ZV).2.2.2)))) ZV λ(q3:Vp)=>bif ((decide (0<=x0))&&(decide (x0 < (x1.length:Int))))then g (S20_0 a0 (List.set x1 x0.toNat q3) (wrap .i64 (x0+1)))
    else none
  else none
 else k (X20_0 a0 x1):=by kernel_rfl
theorem aPG (oJ:Vp->Option Vp)(L:Nat)(a0:LV)(x0:LV):(cA prog (yP oJ) L f20 [1,1,0,1] (bI prog f20)).n (X20_0 a0 x0)=
 some (n20 x0):=by kernel_rfl
def aAw (oJ:Vp->Option Vp)(L:Nat)(a0:LV):Nat->LV->Int->(LV->Option LV)->Option LV
 | 0,_,_,_=>none
 | n+1,x1,x0,k=>
  bif (decide (x0 < (a0.length:Int)))then bif ((decide (0<=x0))&&(decide (x0 < (a0.length:Int))))then cZ (oJ ((List.getD a0 x0.toNat ZV).1,((List.getD a0 x0.toNat ZV).2.1,((List.getD a0 x0.toNat ZV).2.2.1,(List.getD a0 x0.toNat ZV).2.2.2)))) ZV λ(q4:Vp)=>bif ((decide (0<=x0))&&(decide (x0 < (x1.length:Int))))then aAw oJ L a0 n (List.set x1 x0.toNat q4) (wrap .i64 (x0+1)) k
     else none
   else none
  else k x1
theorem aLY (oJ:Vp->Option Vp)(L:Nat)(a0:LV)(k:KT)(xk:Nat->KT)(k':LV->Option LV)(hk:∀ (x2:LV),k (X20_0 a0 x2)=(k' x2).map n20):∀ (n:Nat) (x0:LV) (x1:Int),cE prog (yP oJ) L f20 0 [1,1,0,1,0,0] (cW (bI prog f20) k xk) n (S20_0 a0 x0 x1)=(aAw oJ L a0 n x0 x1 k').map n20
 | 0,_,_=>rfl
 | n+1,x0,x1=>by
  rw[cK,aRf];have ih:=aLY oJ L a0 k xk k' hk n;simp only[aAw,aU,aS,aT,aD,aE,ih,hk]
def g20 (oJ:Vp->Option Vp)(L:Nat)(a0:LV):Option LV:=
 bif (((decide (0<=(a0.length:Int)))&&(decide ((a0.length:Int)<=(a0.length:Int))))&&(decide ((a0.length:Int)<=1000000000)))then aAw oJ L a0 L (List.replicate (Int.toNat (a0.length:Int)) ZV) 0 (λ(x0:LV)=>some x0)
 else none
theorem e20 (oJ:Vp->Option Vp)(L:Nat)(a0:LV):eT prog (yP oJ) (bH L) f20 (a20.enc a0)=(g20 oJ L a0).map n20:=by
 let K'0:LV->Option LV:=(λ(x2:LV)=>some x2)
 have hin0:∀ (x0:LV) (x1:Int),cE prog (yP oJ) L f20 0 [1,1,0,1,0,0] (cW (bI prog f20) (cA prog (yP oJ) L f20 [1,1,0,1] (bI prog f20)).n (cA prog (yP oJ) L f20 [1,1,0,1] (bI prog f20)).x) L (S20_0 a0 x0 x1)=(aAw oJ L a0 L x0 x1 K'0).map n20:=λx0 x1=>aLY oJ L a0 _ _ K'0 (λx2=>by rw[aPG];simp only[K'0,aU,aS,aT,aD,aE]) L x0 x1
 rw[i20];simp only[g20,aU,aS,aT,aD,aE,hin0,K'0]
theorem s20 (oJ:Vp->Option Vp)(h44:Sat prog cxT 44 (c44 oJ))(m:LV->Option LV)(hm:∀ (x:LV) t,m x=some t->∃ L,g20 oJ L x=some t):Sat prog cxT 20 (c20 m):=
 dS bZ bV (by rfl) (fn:=f20) rfl a20 n20 aTf m (yP oJ) (bN h44 bU) bP (λL x=>g20 oJ L x) (λL x=>e20 oJ L x) hm aWL
def xZ:Env cxT:={ Kc:=eF [],Kw:=eE [],lv:=λi=>if i=0 then[(0,[some 2]),(3,[some 2]),(4,[])]else[],xv:=λi=>if i=0 then some [(3,[some 2])]else none }
def S79_0 (a0 x0:LI)(x1:Int):St cxT.ty:={ slots:=[(.inl (.inl (ls { own:=0,nm:=0,e:=2,o:=false,xs:=a0 }))),aN,aN,(.inl (.inl (ls { own:=1,nm:=192,e:=2,o:=true,xs:=x0 }))),(.inl (.inl (lv (.int .i64 x1))))]++List.replicate 17 aN,D:=[],F:=[],ctr:=1 }
def X79_0 (a0 x0:LI):St cxT.ty:={ slots:=[aN,aN,aN,(.inl (.inl (ls { own:=1,nm:=192,e:=2,o:=true,xs:=x0 })))]++List.replicate 18 aN,D:=[],F:=[],ctr:=1 }
theorem i79 (L:Nat)(a0:LI):eT prog xZ (bH L) f79 (a79.enc a0)=
 bif (((decide (0<=(a0.length:Int)))&&(decide ((a0.length:Int)<=(a0.length:Int))))&&(decide ((a0.length:Int)<=1000000000)))then cE prog xZ L f79 0 [1,1,0,1,0,0] (cW (bI prog f79) (cA prog xZ L f79 [1,1,0,1] (bI prog f79)).n (cA prog xZ L f79 [1,1,0,1] (bI prog f79)).x) L (S79_0 a0 (List.replicate (Int.toNat (a0.length:Int)) 0) 0)
 else none:=by kernel_rfl
theorem aQR (L:Nat)(a0:LI)(k:KT)(xk:Nat->KT)(g:KT)(x1:LI)(x0:Int):eW prog xZ L f79 0 [1,1,0,1,0,0] (cW (bI prog f79) k xk) g (S79_0 a0 x1 x0)=
 bif (decide (x0 < (a0.length:Int)))then bif ((decide (0<=x0))&&(decide (x0 < (a0.length:Int))))then bif ((decide (0<=x0))&&(decide (x0 < (x1.length:Int))))then g (S79_0 a0 (List.set x1 x0.toNat (List.getD a0 x0.toNat 0)) (wrap .i64 (x0+1)))
   else none
  else none
 else k (X79_0 a0 x1):=by kernel_rfl
theorem aPi (L:Nat)(a0 x0:LI):(cA prog xZ L f79 [1,1,0,1] (bI prog f79)).n (X79_0 a0 x0)=
 some (n79 x0):=by kernel_rfl
def aAl (L:Nat)(a0:LI):Nat->LI->Int->(LI->Option LI)->Option LI
 | 0,_,_,_=>none
 | n+1,x1,x0,k=>
  bif (decide (x0 < (a0.length:Int)))then bif ((decide (0<=x0))&&(decide (x0 < (a0.length:Int))))then bif ((decide (0<=x0))&&(decide (x0 < (x1.length:Int))))then aAl L a0 n (List.set x1 x0.toNat (List.getD a0 x0.toNat 0)) (wrap .i64 (x0+1)) k
    else none
   else none
  else k x1
theorem aLA (L:Nat)(a0:LI)(k:KT)(xk:Nat->KT)(k':LI->Option LI)(hk:∀ (x2:LI),k (X79_0 a0 x2)=(k' x2).map n79):∀ (n:Nat) (x0:LI) (x1:Int),cE prog xZ L f79 0 [1,1,0,1,0,0] (cW (bI prog f79) k xk) n (S79_0 a0 x0 x1)=(aAl L a0 n x0 x1 k').map n79
 | 0,_,_=>rfl
 | n+1,x0,x1=>by
  rw[cK,aQR];have ih:=aLA L a0 k xk k' hk n;simp only[aAl,aU,aS,aT,aD,aE,ih,hk]
def g79 (L:Nat)(a0:LI):Option LI:=
 bif (((decide (0<=(a0.length:Int)))&&(decide ((a0.length:Int)<=(a0.length:Int))))&&(decide ((a0.length:Int)<=1000000000)))then aAl L a0 L (List.replicate (Int.toNat (a0.length:Int)) 0) 0 (λ(x0:LI)=>some x0)
 else none
theorem e79 (L:Nat)(a0:LI):eT prog xZ (bH L) f79 (a79.enc a0)=(g79 L a0).map n79:=by
 let K'0:LI->Option LI:=(λ(x2:LI)=>some x2)
 have hin0:∀ (x0:LI) (x1:Int),cE prog xZ L f79 0 [1,1,0,1,0,0] (cW (bI prog f79) (cA prog xZ L f79 [1,1,0,1] (bI prog f79)).n (cA prog xZ L f79 [1,1,0,1] (bI prog f79)).x) L (S79_0 a0 x0 x1)=(aAl L a0 L x0 x1 K'0).map n79:=λx0 x1=>aLA L a0 _ _ K'0 (λx2=>by rw[aPi];simp only[K'0,aU,aS,aT,aD,aE]) L x0 x1
 rw[i79];simp only[g79,aU,aS,aT,aD,aE,hin0,K'0]
theorem s79 (m:LI->Option LI)(hm:∀ (x:LI) t,m x=some t->∃ L,g79 L x=some t):Sat prog cxT 79 (c79 m):=
 dS bZ bV (by rfl) (fn:=f79) rfl a79 n79 aSx m xZ bU bP (λL x=>g79 L x) (λL x=>e79 L x) hm aVX
def ev4 (m14:(LB×Int)->Option Int)(m15:(LV×Int)->Option Int):Env cxT:={ Kc:=eF [(14,c14 m14),(15,c15 m15)],Kw:=eE [],lv:=λi=>[],xv:=λi=>none }
theorem i4 (m14:(LB×Int)->Option Int)(m15:(LV×Int)->Option Int)(L:Nat)(x2:Int)(x0:LB)(x1:LV)(a1:Int):eT prog (ev4 m14 m15) (bH L) f4 (a4.enc ((x2,x0,x1),a1))=
 cZ (m14 (x0,a1)) 0 λ(q1:Int)=>bif (decide (q1 < 0))then some (n4 (-1))
  else cZ (m15 (x1,q1)) 0 λ(q2:Int)=>bif (decide (q2 < 0))then some (n4 (-1))
   else some (n4 q2):=by kernel_rfl
def g4 (m14:(LB×Int)->Option Int)(m15:(LV×Int)->Option Int)(L:Nat)(x2:Int)(x0:LB)(x1:LV)(a1:Int):Option Int:=
 cZ (m14 (x0,a1)) 0 λ(q1:Int)=>bif (decide (q1 < 0))then some (-1)
  else cZ (m15 (x1,q1)) 0 λ(q2:Int)=>bif (decide (q2 < 0))then some (-1)
   else some q2
theorem e4 (m14:(LB×Int)->Option Int)(m15:(LV×Int)->Option Int)(L:Nat)(x0:Int)(x1:LB)(x2:LV)(a1:Int):eT prog (ev4 m14 m15) (bH L) f4 (a4.enc ((x0,x1,x2),a1))=(g4 m14 m15 L x0 x1 x2 a1).map n4:=by
 rw[i4];simp only[g4,aU,aS,aT,aD,aE]
theorem s4 (m14:(LB×Int)->Option Int)(m15:(LV×Int)->Option Int)(h14:Sat prog cxT 14 (c14 m14))(h15:Sat prog cxT 15 (c15 m15))(m:(CZ×Int)->Option Int)(hm:∀ (x:(CZ×Int)) t,m x=some t->∃ L,g4 m14 m15 L x.1.1 x.1.2.1 x.1.2.2 x.2=some t):Sat prog cxT 4 (c4 m):=
 dS bZ bV (by rfl) (fn:=f4) rfl a4 n4 dd4 m (ev4 m14 m15) (bN h14 (bN h15 bU)) bP (λL x=>g4 m14 m15 L x.1.1 x.1.2.1 x.1.2.2 x.2) (λL x=>e4 m14 m15 L x.1.1 x.1.2.1 x.1.2.2 x.2) hm hs4
def ev6 (m19:LB->Option LB)(m20:LV->Option LV):Env cxT:={ Kc:=eF [(19,c19 m19),(20,c20 m20)],Kw:=eE [],lv:=λi=>[],xv:=λi=>none }
theorem i6 (m19:LB->Option LB)(m20:LV->Option LV)(L:Nat)(x0:Int)(x1:LB)(x2:LV):eT prog (ev6 m19 m20) (bH L) f6 (a6.enc (x0,x1,x2))=
 cZ (m19 x1) [] λ(q1:LB)=>cZ (m20 x2) [] λ(q2:LV)=>some (n6 (x0,q1,q2)):=by kernel_rfl
def g6 (m19:LB->Option LB)(m20:LV->Option LV)(L:Nat)(x0:Int)(x1:LB)(x2:LV):Option CZ:=
 cZ (m19 x1) [] λ(q1:LB)=>cZ (m20 x2) [] λ(q2:LV)=>some (x0,q1,q2)
theorem e6 (m19:LB->Option LB)(m20:LV->Option LV)(L:Nat)(x0:Int)(x1:LB)(x2:LV):eT prog (ev6 m19 m20) (bH L) f6 (a6.enc (x0,x1,x2))=(g6 m19 m20 L x0 x1 x2).map n6:=by
 rw[i6];simp only[g6,aU,aS,aT,aD,aE]
theorem s6 (m19:LB->Option LB)(m20:LV->Option LV)(h19:Sat prog cxT 19 (c19 m19))(h20:Sat prog cxT 20 (c20 m20))(m:CZ->Option CZ)(hm:∀ (x:CZ) t,m x=some t->∃ L,g6 m19 m20 L x.1 x.2.1 x.2.2=some t):Sat prog cxT 6 (c6 m):=
 dS bZ bV (by rfl) (fn:=f6) rfl a6 n6 dd6 m (ev6 m19 m20) (bN h19 (bN h20 bU)) bP (λL x=>g6 m19 m20 L x.1 x.2.1 x.2.2) (λL x=>e6 m19 m20 L x.1 x.2.1 x.2.2) hm hs6
def xW:Env cxT:={ Kc:=eF [],Kw:=eE [],lv:=λi=>if i=0 then[(0,[some 2]),(1,[some 2]),(5,[])]else[],xv:=λi=>if i=0 then some []else none }
def S96_0 (a0 a1:LI)(x0:Int):St cxT.ty:={ slots:=[(.inl (.inl (ls { own:=0,nm:=0,e:=2,o:=false,xs:=a0 }))),(.inl (.inl (ls { own:=0,nm:=0,e:=2,o:=false,xs:=a1 }))),aN,aN,aN,(.inl (.inl (lv (.int .i64 x0))))]++List.replicate 20 aN,D:=[],F:=[],ctr:=1 }
def X96_0 (a0 a1:LI):St cxT.ty:={ slots:=[]++List.replicate 26 aN,D:=[],F:=[],ctr:=1 }
theorem i96 (L:Nat)(a0 a1:LI):eT prog xW (bH L) f96 (a96.enc (a0,a1))=
 bif ((a0.length:Int) != (a1.length:Int))then some (n96 false)
 else cE prog xW L f96 0 [1,1,0,1,0,0] (cW (bI prog f96) (cA prog xW L f96 [1,1,0,1] (bI prog f96)).n (cA prog xW L f96 [1,1,0,1] (bI prog f96)).x) L (S96_0 a0 a1 0):=by kernel_rfl
theorem aQO (L:Nat)(a0 a1:LI)(k:KT)(xk:Nat->KT)(g:KT)(x0:Int):eW prog xW L f96 0 [1,1,0,1,0,0] (cW (bI prog f96) k xk) g (S96_0 a0 a1 x0)=
 bif (decide (x0 < (a0.length:Int)))then bif ((decide (0<=x0))&&(decide (x0 < (a0.length:Int))))then bif ((decide (0<=x0))&&(decide (x0 < (a1.length:Int))))then bif ((List.getD a0 x0.toNat 0) != (List.getD a1 x0.toNat 0))then some (n96 false)
    else g (S96_0 a0 a1 (wrap .i64 (x0+1)))
   else none
  else none
 else k (X96_0 a0 a1):=by kernel_rfl
theorem aPf (L:Nat)(a0 a1:LI):(cA prog xW L f96 [1,1,0,1] (bI prog f96)).n (X96_0 a0 a1)=
 some (n96 true):=by kernel_rfl
def aAj (L:Nat)(a0 a1:LI):Nat->Int->(Option Bool)->Option Bool
 | 0,_,_=>none
 | n+1,x0,k=>
  bif (decide (x0 < (a0.length:Int)))then bif ((decide (0<=x0))&&(decide (x0 < (a0.length:Int))))then bif ((decide (0<=x0))&&(decide (x0 < (a1.length:Int))))then bif ((List.getD a0 x0.toNat 0) != (List.getD a1 x0.toNat 0))then some false
     else aAj L a0 a1 n (wrap .i64 (x0+1)) k
    else none
   else none
  else k
theorem aLx (L:Nat)(a0 a1:LI)(k:KT)(xk:Nat->KT)(k':Option Bool)(hk:k (X96_0 a0 a1)=(k').map n96):∀ (n:Nat) (x0:Int),cE prog xW L f96 0 [1,1,0,1,0,0] (cW (bI prog f96) k xk) n (S96_0 a0 a1 x0)=(aAj L a0 a1 n x0 k').map n96
 | 0,_=>rfl
 | n+1,x0=>by
  rw[cK,aQO];have ih:=aLx L a0 a1 k xk k' hk n;simp only[aAj,aU,aS,aT,aD,aE,ih,hk]
def g96 (L:Nat)(a0 a1:LI):Option Bool:=
 bif ((a0.length:Int) != (a1.length:Int))then some false
 else aAj L a0 a1 L 0 (some true)
theorem e96 (L:Nat)(a0 a1:LI):eT prog xW (bH L) f96 (a96.enc (a0,a1))=(g96 L a0 a1).map n96:=by
 let K'0:Option Bool:=(some true)
 have hin0:∀ (x0:Int),cE prog xW L f96 0 [1,1,0,1,0,0] (cW (bI prog f96) (cA prog xW L f96 [1,1,0,1] (bI prog f96)).n (cA prog xW L f96 [1,1,0,1] (bI prog f96)).x) L (S96_0 a0 a1 x0)=(aAj L a0 a1 L x0 K'0).map n96:=λx0=>aLx L a0 a1 _ _ K'0 (by rw[aPf];simp only[K'0,aU,aS,aT,aD,aE]) L x0
 rw[i96];simp only[g96,aU,aS,aT,aD,aE,hin0,K'0]
theorem s96 (m:(LI×LI)->Option Bool)(hm:∀ (x:(LI×LI)) t,m x=some t->∃ L,g96 L x.1 x.2=some t):Sat prog cxT 96 (c96 m):=
 dS bZ bV (by rfl) (fn:=f96) rfl a96 n96 aSu m xW bU bP (λL x=>g96 L x.1 x.2) (λL x=>e96 L x.1 x.2) hm aVQ
def aNa (m96:(LI×LI)->Option Bool):Env cxT:={ Kc:=eF [(96,c96 m96)],Kw:=eE [],lv:=λi=>[],xv:=λi=>none }
theorem i67 (m96:(LI×LI)->Option Bool)(L:Nat)(x0 x1 x2:Int)(x3:LI)(x4 x5 x6:Int)(x7:LI):eT prog (aNa m96) (bH L) f67 (a67.enc ((x0,x1,x2,x3),(x4,x5,x6,x7)))=
 bif (x0 != x4)then some (n67 false)
 else bif (x1 != x5)then some (n67 false)
 else bif (x2 != x6)then some (n67 false)
 else cZ (m96 (x3,x7)) false λ(q1:Bool)=>bif (!q1)then some (n67 false)
  else some (n67 true):=by kernel_rfl
def g67 (m96:(LI×LI)->Option Bool)(L:Nat)(x0 x1 x2:Int)(x3:LI)(x4 x5 x6:Int)(x7:LI):Option Bool:=
 bif (x0 != x4)then some false
 else bif (x1 != x5)then some false
 else bif (x2 != x6)then some false
 else cZ (m96 (x3,x7)) false λ(q1:Bool)=>bif (!q1)then some false
  else some true
theorem e67 (m96:(LI×LI)->Option Bool)(L:Nat)(x0 x1 x2:Int)(x3:LI)(x4 x5 x6:Int)(x7:LI):eT prog (aNa m96) (bH L) f67 (a67.enc ((x0,x1,x2,x3),(x4,x5,x6,x7)))=(g67 m96 L x0 x1 x2 x3 x4 x5 x6 x7).map n67:=by
 rw[i67];simp only[g67,aU,aS,aT,aD,aE]
theorem s67 (m96:(LI×LI)->Option Bool)(h96:Sat prog cxT 96 (c96 m96))(m:(Vp×Vp)->Option Bool)(hm:∀ (x:(Vp×Vp)) t,m x=some t->∃ L,g67 m96 L x.1.1 x.1.2.1 x.1.2.2.1 x.1.2.2.2 x.2.1 x.2.2.1 x.2.2.2.1 x.2.2.2.2=some t):Sat prog cxT 67 (c67 m):=
 dS bZ bV (by rfl) (fn:=f67) rfl a67 n67 aSG m (aNa m96) (bN h96 bU) bP (λL x=>g67 m96 L x.1.1 x.1.2.1 x.1.2.2.1 x.1.2.2.2 x.2.1 x.2.2.1 x.2.2.2.1 x.2.2.2.2) (λL x=>e67 m96 L x.1.1 x.1.2.1 x.1.2.2.1 x.1.2.2.2 x.2.1 x.2.2.1 x.2.2.2.1 x.2.2.2.2) hm aV8
def yN (m66:(Bk×Bk)->Option Bool):Env cxT:={ Kc:=eF [(66,c66 m66)],Kw:=eE [],lv:=λi=>if i=0 then[(0,[some 68]),(1,[some 68]),(5,[])]else[],xv:=λi=>if i=0 then some []else none }
def S25_0 (a0:LB)(a1:LB)(x0:Int):St cxT.ty:={ slots:=[(.inl (.inl (ls { own:=0,nm:=0,e:=68,o:=false,xs:=a0 }))),(.inl (.inl (ls { own:=0,nm:=0,e:=68,o:=false,xs:=a1 }))),aN,aN,aN,(.inl (.inl (lv (.int .i64 x0))))]++List.replicate 21 aN,D:=[],F:=[],ctr:=1 }
def X25_0 (a0:LB)(a1:LB):St cxT.ty:={ slots:=[]++List.replicate 27 aN,D:=[],F:=[],ctr:=1 }
theorem i25 (m66:(Bk×Bk)->Option Bool)(L:Nat)(a0:LB)(a1:LB):eT prog (yN m66) (bH L) f25 (a25.enc (a0,a1))=
 bif ((a0.length:Int) != (a1.length:Int))then some (n25 false)
 else cE prog (yN m66) L f25 0 [1,1,0,1,0,0] (cW (bI prog f25) (cA prog (yN m66) L f25 [1,1,0,1] (bI prog f25)).n (cA prog (yN m66) L f25 [1,1,0,1] (bI prog f25)).x) L (S25_0 a0 a1 0):=by kernel_rfl
theorem aRb (m66:(Bk×Bk)->Option Bool)(L:Nat)(a0:LB)(a1:LB)(k:KT)(xk:Nat->KT)(g:KT)(x0:Int):eW prog (yN m66) L f25 0 [1,1,0,1,0,0] (cW (bI prog f25) k xk) g (S25_0 a0 a1 x0)=
 bif (decide (x0 < (a0.length:Int)))then bif ((decide (0<=x0))&&(decide (x0 < (a0.length:Int))))then bif ((decide (0<=x0))&&(decide (x0 < (a1.length:Int))))then cZ (m66 (((List.getD a0 x0.toNat ZB).1,((List.getD a0 x0.toNat ZB).2.1,((List.getD a0 x0.toNat ZB).2.2.1,((List.getD a0 x0.toNat ZB).2.2.2.1,(List.getD a0 x0.toNat ZB).2.2.2.2)))),((List.getD a1 x0.toNat ZB).1,((List.getD a1 x0.toNat ZB).2.1,((List.getD a1 x0.toNat ZB).2.2.1,((List.getD a1 x0.toNat ZB).2.2.2.1,(List.getD a1 x0.toNat ZB).2.2.2.2)))))) false λ(q4:Bool)=>bif (!q4)then some (n25 false)
     else g (S25_0 a0 a1 (wrap .i64 (x0+1)))
   else none
  else none
 else k (X25_0 a0 a1):=by kernel_rfl
theorem aPC (m66:(Bk×Bk)->Option Bool)(L:Nat)(a0:LB)(a1:LB):(cA prog (yN m66) L f25 [1,1,0,1] (bI prog f25)).n (X25_0 a0 a1)=
 some (n25 true):=by kernel_rfl
def aAu (m66:(Bk×Bk)->Option Bool)(L:Nat)(a0:LB)(a1:LB):Nat->Int->(Option Bool)->Option Bool
 | 0,_,_=>none
 | n+1,x0,k=>
  bif (decide (x0 < (a0.length:Int)))then bif ((decide (0<=x0))&&(decide (x0 < (a0.length:Int))))then bif ((decide (0<=x0))&&(decide (x0 < (a1.length:Int))))then cZ (m66 (((List.getD a0 x0.toNat ZB).1,((List.getD a0 x0.toNat ZB).2.1,((List.getD a0 x0.toNat ZB).2.2.1,((List.getD a0 x0.toNat ZB).2.2.2.1,(List.getD a0 x0.toNat ZB).2.2.2.2)))),((List.getD a1 x0.toNat ZB).1,((List.getD a1 x0.toNat ZB).2.1,((List.getD a1 x0.toNat ZB).2.2.1,((List.getD a1 x0.toNat ZB).2.2.2.1,(List.getD a1 x0.toNat ZB).2.2.2.2)))))) false λ(q5:Bool)=>bif (!q5)then some false
      else aAu m66 L a0 a1 n (wrap .i64 (x0+1)) k
    else none
   else none
  else k
theorem aLU (m66:(Bk×Bk)->Option Bool)(L:Nat)(a0:LB)(a1:LB)(k:KT)(xk:Nat->KT)(k':Option Bool)(hk:k (X25_0 a0 a1)=(k').map n25):∀ (n:Nat) (x0:Int),cE prog (yN m66) L f25 0 [1,1,0,1,0,0] (cW (bI prog f25) k xk) n (S25_0 a0 a1 x0)=(aAu m66 L a0 a1 n x0 k').map n25
 | 0,_=>rfl
 | n+1,x0=>by
  rw[cK,aRb];have ih:=aLU m66 L a0 a1 k xk k' hk n;simp only[aAu,aU,aS,aT,aD,aE,ih,hk]
def g25 (m66:(Bk×Bk)->Option Bool)(L:Nat)(a0:LB)(a1:LB):Option Bool:=
 bif ((a0.length:Int) != (a1.length:Int))then some false
 else aAu m66 L a0 a1 L 0 (some true)
theorem e25 (m66:(Bk×Bk)->Option Bool)(L:Nat)(a0:LB)(a1:LB):eT prog (yN m66) (bH L) f25 (a25.enc (a0,a1))=(g25 m66 L a0 a1).map n25:=by
 let K'0:Option Bool:=(some true)
 have hin0:∀ (x0:Int),cE prog (yN m66) L f25 0 [1,1,0,1,0,0] (cW (bI prog f25) (cA prog (yN m66) L f25 [1,1,0,1] (bI prog f25)).n (cA prog (yN m66) L f25 [1,1,0,1] (bI prog f25)).x) L (S25_0 a0 a1 x0)=(aAu m66 L a0 a1 L x0 K'0).map n25:=λx0=>aLU m66 L a0 a1 _ _ K'0 (by rw[aPC];simp only[K'0,aU,aS,aT,aD,aE]) L x0
 rw[i25];simp only[g25,aU,aS,aT,aD,aE,hin0,K'0]
theorem s25 (m66:(Bk×Bk)->Option Bool)(h66:Sat prog cxT 66 (c66 m66))(m:(LB×LB)->Option Bool)(hm:∀ (x:(LB×LB)) t,m x=some t->∃ L,g25 m66 L x.1 x.2=some t):Sat prog cxT 25 (c25 m):=
 dS bZ bV (by rfl) (fn:=f25) rfl a25 n25 aTe m (yN m66) (bN h66 bU) bP (λL x=>g25 m66 L x.1 x.2) (λL x=>e25 m66 L x.1 x.2) hm aWI
def yM (oI:(Vp×Vp)->Option Bool):Env cxT:={ Kc:=eF [(67,c67 oI)],Kw:=eE [],lv:=λi=>if i=0 then[(0,[some 76]),(1,[some 76]),(5,[])]else[],xv:=λi=>if i=0 then some []else none }
def S26_0 (a0:LV)(a1:LV)(x0:Int):St cxT.ty:={ slots:=[(.inl (.inl (ls { own:=0,nm:=0,e:=76,o:=false,xs:=a0 }))),(.inl (.inl (ls { own:=0,nm:=0,e:=76,o:=false,xs:=a1 }))),aN,aN,aN,(.inl (.inl (lv (.int .i64 x0))))]++List.replicate 21 aN,D:=[],F:=[],ctr:=1 }
def X26_0 (a0:LV)(a1:LV):St cxT.ty:={ slots:=[]++List.replicate 27 aN,D:=[],F:=[],ctr:=1 }
theorem i26 (oI:(Vp×Vp)->Option Bool)(L:Nat)(a0:LV)(a1:LV):eT prog (yM oI) (bH L) f26 (a26.enc (a0,a1))=
 bif ((a0.length:Int) != (a1.length:Int))then some (n26 false)
 else cE prog (yM oI) L f26 0 [1,1,0,1,0,0] (cW (bI prog f26) (cA prog (yM oI) L f26 [1,1,0,1] (bI prog f26)).n (cA prog (yM oI) L f26 [1,1,0,1] (bI prog f26)).x) L (S26_0 a0 a1 0):=by kernel_rfl
theorem aRa (oI:(Vp×Vp)->Option Bool)(L:Nat)(a0:LV)(a1:LV)(k:KT)(xk:Nat->KT)(g:KT)(x0:Int):eW prog (yM oI) L f26 0 [1,1,0,1,0,0] (cW (bI prog f26) k xk) g (S26_0 a0 a1 x0)=
 bif (decide (x0 < (a0.length:Int)))then bif ((decide (0<=x0))&&(decide (x0 < (a0.length:Int))))then bif ((decide (0<=x0))&&(decide (x0 < (a1.length:Int))))then cZ (oI (((List.getD a0 x0.toNat ZV).1,((List.getD a0 x0.toNat ZV).2.1,((List.getD a0 x0.toNat ZV).2.2.1,(List.getD a0 x0.toNat ZV).2.2.2))),((List.getD a1 x0.toNat ZV).1,((List.getD a1 x0.toNat ZV).2.1,((List.getD a1 x0.toNat ZV).2.2.1,(List.getD a1 x0.toNat ZV).2.2.2))))) false λ(q4:Bool)=>bif (!q4)then some (n26 false)
     else g (S26_0 a0 a1 (wrap .i64 (x0+1)))
   else none
  else none
 else k (X26_0 a0 a1):=by kernel_rfl
theorem aPB (oI:(Vp×Vp)->Option Bool)(L:Nat)(a0:LV)(a1:LV):(cA prog (yM oI) L f26 [1,1,0,1] (bI prog f26)).n (X26_0 a0 a1)=
 some (n26 true):=by kernel_rfl
def aAt (oI:(Vp×Vp)->Option Bool)(L:Nat)(a0:LV)(a1:LV):Nat->Int->(Option Bool)->Option Bool
 | 0,_,_=>none
 | n+1,x0,k=>
  bif (decide (x0 < (a0.length:Int)))then bif ((decide (0<=x0))&&(decide (x0 < (a0.length:Int))))then bif ((decide (0<=x0))&&(decide (x0 < (a1.length:Int))))then cZ (oI (((List.getD a0 x0.toNat ZV).1,((List.getD a0 x0.toNat ZV).2.1,((List.getD a0 x0.toNat ZV).2.2.1,(List.getD a0 x0.toNat ZV).2.2.2))),((List.getD a1 x0.toNat ZV).1,((List.getD a1 x0.toNat ZV).2.1,((List.getD a1 x0.toNat ZV).2.2.1,(List.getD a1 x0.toNat ZV).2.2.2))))) false λ(q5:Bool)=>bif (!q5)then some false
      else aAt oI L a0 a1 n (wrap .i64 (x0+1)) k
    else none
   else none
  else k
theorem aLT (oI:(Vp×Vp)->Option Bool)(L:Nat)(a0:LV)(a1:LV)(k:KT)(xk:Nat->KT)(k':Option Bool)(hk:k (X26_0 a0 a1)=(k').map n26):∀ (n:Nat) (x0:Int),cE prog (yM oI) L f26 0 [1,1,0,1,0,0] (cW (bI prog f26) k xk) n (S26_0 a0 a1 x0)=(aAt oI L a0 a1 n x0 k').map n26
 | 0,_=>rfl
 | n+1,x0=>by
  rw[cK,aRa];have ih:=aLT oI L a0 a1 k xk k' hk n;simp only[aAt,aU,aS,aT,aD,aE,ih,hk]
def g26 (oI:(Vp×Vp)->Option Bool)(L:Nat)(a0:LV)(a1:LV):Option Bool:=
 bif ((a0.length:Int) != (a1.length:Int))then some false
 else aAt oI L a0 a1 L 0 (some true)
theorem e26 (oI:(Vp×Vp)->Option Bool)(L:Nat)(a0:LV)(a1:LV):eT prog (yM oI) (bH L) f26 (a26.enc (a0,a1))=(g26 oI L a0 a1).map n26:=by
 let K'0:Option Bool:=(some true)
 have hin0:∀ (x0:Int),cE prog (yM oI) L f26 0 [1,1,0,1,0,0] (cW (bI prog f26) (cA prog (yM oI) L f26 [1,1,0,1] (bI prog f26)).n (cA prog (yM oI) L f26 [1,1,0,1] (bI prog f26)).x) L (S26_0 a0 a1 x0)=(aAt oI L a0 a1 L x0 K'0).map n26:=λx0=>aLT oI L a0 a1 _ _ K'0 (by rw[aPB];simp only[K'0,aU,aS,aT,aD,aE]) L x0
 rw[i26];simp only[g26,aU,aS,aT,aD,aE,hin0,K'0]
theorem s26 (oI:(Vp×Vp)->Option Bool)(h67:Sat prog cxT 67 (c67 oI))(m:(LV×LV)->Option Bool)(hm:∀ (x:(LV×LV)) t,m x=some t->∃ L,g26 oI L x.1 x.2=some t):Sat prog cxT 26 (c26 m):=
 dS bZ bV (by rfl) (fn:=f26) rfl a26 n26 aTd m (yM oI) (bN h67 bU) bP (λL x=>g26 oI L x.1 x.2) (λL x=>e26 oI L x.1 x.2) hm aWH
def aNH (m25:(LB×LB)->Option Bool)(m26:(LV×LV)->Option Bool):Env cxT:={ Kc:=eF [(25,c25 m25),(26,c26 m26)],Kw:=eE [],lv:=λi=>[],xv:=λi=>none }
theorem i10 (m25:(LB×LB)->Option Bool)(m26:(LV×LV)->Option Bool)(L:Nat)(x0:Int)(x1:LB)(x2:LV)(x3:Int)(x4:LB)(x5:LV):eT prog (aNH m25 m26) (bH L) f10 (a10.enc ((x0,x1,x2),(x3,x4,x5)))=
 bif (x0 != x3)then some (n10 false)
 else cZ (m25 (x1,x4)) false λ(q1:Bool)=>bif (!q1)then some (n10 false)
  else cZ (m26 (x2,x5)) false λ(q2:Bool)=>bif (!q2)then some (n10 false)
   else some (n10 true):=by kernel_rfl
def g10 (m25:(LB×LB)->Option Bool)(m26:(LV×LV)->Option Bool)(L:Nat)(x0:Int)(x1:LB)(x2:LV)(x3:Int)(x4:LB)(x5:LV):Option Bool:=
 bif (x0 != x3)then some false
 else cZ (m25 (x1,x4)) false λ(q1:Bool)=>bif (!q1)then some false
  else cZ (m26 (x2,x5)) false λ(q2:Bool)=>bif (!q2)then some false
   else some true
theorem e10 (m25:(LB×LB)->Option Bool)(m26:(LV×LV)->Option Bool)(L:Nat)(x0:Int)(x1:LB)(x2:LV)(x3:Int)(x4:LB)(x5:LV):eT prog (aNH m25 m26) (bH L) f10 (a10.enc ((x0,x1,x2),(x3,x4,x5)))=(g10 m25 m26 L x0 x1 x2 x3 x4 x5).map n10:=by
 rw[i10];simp only[g10,aU,aS,aT,aD,aE]
theorem s10 (m25:(LB×LB)->Option Bool)(m26:(LV×LV)->Option Bool)(h25:Sat prog cxT 25 (c25 m25))(h26:Sat prog cxT 26 (c26 m26))(m:(CZ×CZ)->Option Bool)(hm:∀ (x:(CZ×CZ)) t,m x=some t->∃ L,g10 m25 m26 L x.1.1 x.1.2.1 x.1.2.2 x.2.1 x.2.2.1 x.2.2.2=some t):Sat prog cxT 10 (c10 m):=
 dS bZ bV (by rfl) (fn:=f10) rfl a10 n10 aTo m (aNH m25 m26) (bN h25 (bN h26 bU)) bP (λL x=>g10 m25 m26 L x.1.1 x.1.2.1 x.1.2.2 x.2.1 x.2.2.1 x.2.2.2) (λL x=>e10 m25 m26 L x.1.1 x.1.2.1 x.1.2.2 x.2.1 x.2.2.1 x.2.2.2) hm aWU
def ev9 (oK:(CZ×CZ)->Option Bool):Env cxT:={ Kc:=eF [(10,c10 oK)],Kw:=eE [],lv:=λi=>[],xv:=λi=>none }
theorem i9 (oK:(CZ×CZ)->Option Bool)(L:Nat)(x0 x1:Int)(x2:LB)(x3:LV)(x4 x5:Int)(x6:LB)(x7:LV):eT prog (ev9 oK) (bH L) f9 (a9.enc ((x0,x1,x2,x3),(x4,x5,x6,x7)))=
 bif (x0 != x4)then some (n9 false)
 else cZ (oK ((x1,(x2,x3)),(x5,(x6,x7)))) false λ(q1:Bool)=>bif (!q1)then some (n9 false)
  else some (n9 true):=by kernel_rfl
def g9 (oK:(CZ×CZ)->Option Bool)(L:Nat)(x0 x1:Int)(x2:LB)(x3:LV)(x4 x5:Int)(x6:LB)(x7:LV):Option Bool:=
 bif (x0 != x4)then some false
 else cZ (oK ((x1,(x2,x3)),(x5,(x6,x7)))) false λ(q1:Bool)=>bif (!q1)then some false
  else some true
theorem e9 (oK:(CZ×CZ)->Option Bool)(L:Nat)(x0 x1:Int)(x2:LB)(x3:LV)(x4 x5:Int)(x6:LB)(x7:LV):eT prog (ev9 oK) (bH L) f9 (a9.enc ((x0,x1,x2,x3),(x4,x5,x6,x7)))=(g9 oK L x0 x1 x2 x3 x4 x5 x6 x7).map n9:=by
 rw[i9];simp only[g9,aU,aS,aT,aD,aE]
theorem s9 (oK:(CZ×CZ)->Option Bool)(h10:Sat prog cxT 10 (c10 oK))(m:(CR×CR)->Option Bool)(hm:∀ (x:(CR×CR)) t,m x=some t->∃ L,g9 oK L x.1.1 x.1.2.1 x.1.2.2.1 x.1.2.2.2 x.2.1 x.2.2.1 x.2.2.2.1 x.2.2.2.2=some t):Sat prog cxT 9 (c9 m):=
 dS bZ bV (by rfl) (fn:=f9) rfl a9 n9 dd9 m (ev9 oK) (bN h10 bU) bP (λL x=>g9 oK L x.1.1 x.1.2.1 x.1.2.2.1 x.1.2.2.2 x.2.1 x.2.2.1 x.2.2.2.1 x.2.2.2.2) (λL x=>e9 oK L x.1.1 x.1.2.1 x.1.2.2.1 x.1.2.2.2 x.2.1 x.2.2.1 x.2.2.2.1 x.2.2.2.2) hm hs9
def aNm (m81:(Int×Int)->Option Int)(m80:LI->Option Int):Env cxT:={ Kc:=eF [(81,c81 m81),(80,c80 m80)],Kw:=eE [],lv:=λi=>[],xv:=λi=>none }
theorem i48 (m81:(Int×Int)->Option Int)(m80:LI->Option Int)(L:Nat)(x0 x1 x2:Int)(x6:LI)(x3 x4 x5:Int)(x7:LI):eT prog (aNm m81 m80) (bH L) f48 (a48.enc ((x0,x1,x2,x6),(x3,x4,x5,x7)))=
 cZ (m81 (x0,x3)) 0 λ(q1:Int)=>cZ (m81 (x1,x4)) 0 λ(q2:Int)=>cZ (m81 (x2,x5)) 0 λ(q3:Int)=>cZ (m80 (List.cons q1 (List.cons q2 (List.cons q3 [])))) 0 λ(q4:Int)=>some (n48 q4):=by kernel_rfl
def g48 (m81:(Int×Int)->Option Int)(m80:LI->Option Int)(L:Nat)(x0 x1 x2:Int)(x6:LI)(x3 x4 x5:Int)(x7:LI):Option Int:=
 cZ (m81 (x0,x3)) 0 λ(q1:Int)=>cZ (m81 (x1,x4)) 0 λ(q2:Int)=>cZ (m81 (x2,x5)) 0 λ(q3:Int)=>cZ (m80 (List.cons q1 (List.cons q2 (List.cons q3 [])))) 0 λ(q4:Int)=>some q4
theorem e48 (m81:(Int×Int)->Option Int)(m80:LI->Option Int)(L:Nat)(x0 x1 x2:Int)(x3:LI)(x4 x5 x6:Int)(x7:LI):eT prog (aNm m81 m80) (bH L) f48 (a48.enc ((x0,x1,x2,x3),(x4,x5,x6,x7)))=(g48 m81 m80 L x0 x1 x2 x3 x4 x5 x6 x7).map n48:=by
 rw[i48];simp only[g48,aU,aS,aT,aD,aE]
theorem s48 (m81:(Int×Int)->Option Int)(m80:LI->Option Int)(h81:Sat prog cxT 81 (c81 m81))(h80:Sat prog cxT 80 (c80 m80))(m:(Vp×Vp)->Option Int)(hm:∀ (x:(Vp×Vp)) t,m x=some t->∃ L,g48 m81 m80 L x.1.1 x.1.2.1 x.1.2.2.1 x.1.2.2.2 x.2.1 x.2.2.1 x.2.2.2.1 x.2.2.2.2=some t):Sat prog cxT 48 (c48 m):=
 dS bZ bV (by rfl) (fn:=f48) rfl a48 n48 aSS m (aNm m81 m80) (bN h81 (bN h80 bU)) bP (λL x=>g48 m81 m80 L x.1.1 x.1.2.1 x.1.2.2.1 x.1.2.2.2 x.2.1 x.2.2.1 x.2.2.2.1 x.2.2.2.2) (λL x=>e48 m81 m80 L x.1.1 x.1.2.1 x.1.2.2.1 x.1.2.2.2 x.2.1 x.2.2.1 x.2.2.2.1 x.2.2.2.2) hm aWl
def aNy (m36:Int->Option Bool)(m37:Int->Option Bool)(m34:(Int×Int×Int)->Option Bool):Env cxT:={ Kc:=eF [(36,c36 m36),(37,c37 m37),(34,c34 m34)],Kw:=eE [],lv:=λi=>[],xv:=λi=>none }
theorem i32 (m36:Int->Option Bool)(m37:Int->Option Bool)(m34:(Int×Int×Int)->Option Bool)(L:Nat)(x0 x1:Int)(x2 x3:Int)(x4:Bool):eT prog (aNy m36 m37 m34) (bH L) f32 (a32.enc (x0,x1,x2,x3,x4))=
 cZ (m36 x0) false λ(q1:Bool)=>bif q1 then cZ (m37 x1) false λ(q3:Bool)=>bif q3 then cZ (m34 (x2,(0,9))) false λ(q5:Bool)=>bif q5 then cZ (m34 (x3,(1,3))) false λ(q7:Bool)=>some (n32 q7)
      else some (n32 false)
    else some (n32 false)
  else some (n32 false):=by kernel_rfl
def g32 (m36:Int->Option Bool)(m37:Int->Option Bool)(m34:(Int×Int×Int)->Option Bool)(L:Nat)(x0 x1:Int)(x2 x3:Int)(x4:Bool):Option Bool:=
 cZ (m36 x0) false λ(q1:Bool)=>bif q1 then cZ (m37 x1) false λ(q3:Bool)=>bif q3 then cZ (m34 (x2,(0,9))) false λ(q5:Bool)=>bif q5 then cZ (m34 (x3,(1,3))) false λ(q7:Bool)=>some q7
      else some false
    else some false
  else some false
theorem e32 (m36:Int->Option Bool)(m37:Int->Option Bool)(m34:(Int×Int×Int)->Option Bool)(L:Nat)(x0 x1:Int)(x2 x3:Int)(x4:Bool):eT prog (aNy m36 m37 m34) (bH L) f32 (a32.enc (x0,x1,x2,x3,x4))=(g32 m36 m37 m34 L x0 x1 x2 x3 x4).map n32:=by
 rw[i32];simp only[g32,aU,aS,aT,aD,aE]
theorem s32 (m36:Int->Option Bool)(m37:Int->Option Bool)(m34:(Int×Int×Int)->Option Bool)(h36:Sat prog cxT 36 (c36 m36))(h37:Sat prog cxT 37 (c37 m37))(h34:Sat prog cxT 34 (c34 m34))(m:Bk->Option Bool)(hm:∀ (x:Bk) t,m x=some t->∃ L,g32 m36 m37 m34 L x.1 x.2.1 x.2.2.1 x.2.2.2.1 x.2.2.2.2=some t):Sat prog cxT 32 (c32 m):=
 dS bZ bV (by rfl) (fn:=f32) rfl a32 n32 aS7 m (aNy m36 m37 m34) (bN h36 (bN h37 (bN h34 bU))) bP (λL x=>g32 m36 m37 m34 L x.1 x.2.1 x.2.2.1 x.2.2.2.1 x.2.2.2.2) (λL x=>e32 m36 m37 m34 L x.1 x.2.1 x.2.2.1 x.2.2.2.1 x.2.2.2.2) hm aWB
end Go.Proofs.Tryz
