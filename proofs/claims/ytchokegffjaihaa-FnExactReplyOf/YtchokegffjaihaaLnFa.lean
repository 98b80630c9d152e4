/- A part of the proof of FnExactReplyOf: LnFa. -/
import Derived.Test.YtchokegffjaihaaLnBase
set_option linter.unusedSimpArgs false
set_option linter.unusedVariables false
set_option maxHeartbeats 0
set_option maxRecDepth 100000
namespace Go.Proofs.Try
open Go.IntKind (wrap)
open Go Go.VM Go.RowKit
def aIa:Env cxT:={ Kc:=dN [],Kw:=dP [],lv:=λi=>[],xv:=λi=>none }
theorem i34 (L:Nat)(a0:Int)(a1:Int)(a2:Int):dW prog aIa (bB L) f34 (a34.enc (a0,a1,a2))=
 bif (decide (a0>=a1))then some (n34 (decide (a0<=a2)))
 else some (n34 Bool.false):=by kernel_rfl
def g34 (L:Nat)(a0:Int)(a1:Int)(a2:Int):Option Bool:=
 bif (decide (a0>=a1))then some (decide (a0<=a2))
 else some Bool.false
theorem e34 (L:Nat)(a0:Int)(a1:Int)(a2:Int):dW prog aIa (bB L) f34 (a34.enc (a0,a1,a2))=(g34 L a0 a1 a2).map n34:=by
 rw[i34];simp only[g34,aS,aQ,aR,aD,aH]
theorem s34 (m:(Int×Int×Int)->Option Bool)(hm:∀ (x:(Int×Int×Int)) t,m x=some t->∃ L,g34 L x.1 x.2.1 x.2.2=some t):Sat prog cxT 34 (c34 m):=
 dA cA bP (by rfl) (fn:=f34) rfl a34 n34 aMh m aIa bO bH (λL x=>g34 L x.1 x.2.1 x.2.2) (λL x=>e34 L x.1 x.2.1 x.2.2) hm aO1
def aH8:Env cxT:={ Kc:=dN [],Kw:=dP [],lv:=λi=>[],xv:=λi=>none }
theorem i38 (L:Nat)(a0:Int):dW prog aH8 (bB L) f38 (a38.enc a0)=
 bif (decide (a0>=(0:Int)))then some (n38 (decide (a0<=(1000000:Int))))
 else some (n38 Bool.false):=by kernel_rfl
def g38 (L:Nat)(a0:Int):Option Bool:=
 bif (decide (a0>=(0:Int)))then some (decide (a0<=(1000000:Int)))
 else some Bool.false
theorem e38 (L:Nat)(a0:Int):dW prog aH8 (bB L) f38 (a38.enc a0)=(g38 L a0).map n38:=by
 rw[i38];simp only[g38,aS,aQ,aR,aD,aH]
theorem s38 (m:Int->Option Bool)(hm:∀ (x:Int) t,m x=some t->∃ L,g38 L x=some t):Sat prog cxT 38 (c38 m):=
 dA cA bP (by rfl) (fn:=f38) rfl a38 n38 aMd m aH8 bO bH (λL x=>g38 L x) (λL x=>e38 L x) hm aOX
def aH4:Env cxT:={ Kc:=dN [],Kw:=dP [],lv:=λi=>[],xv:=λi=>none }
theorem i43 (L:Nat)(a0:Int):dW prog aH4 (bB L) f43 (a43.enc a0)=
 bif (decide (a0>=(0:Int)))then some (n43 (decide (a0<=(999:Int))))
 else some (n43 Bool.false):=by kernel_rfl
def g43 (L:Nat)(a0:Int):Option Bool:=
 bif (decide (a0>=(0:Int)))then some (decide (a0<=(999:Int)))
 else some Bool.false
theorem e43 (L:Nat)(a0:Int):dW prog aH4 (bB L) f43 (a43.enc a0)=(g43 L a0).map n43:=by
 rw[i43];simp only[g43,aS,aQ,aR,aD,aH]
theorem s43 (m:Int->Option Bool)(hm:∀ (x:Int) t,m x=some t->∃ L,g43 L x=some t):Sat prog cxT 43 (c43 m):=
 dA cA bP (by rfl) (fn:=f43) rfl a43 n43 aL8 m aH4 bO bH (λL x=>g43 L x) (λL x=>e43 L x) hm aOS
def aH3:Env cxT:={ Kc:=dN [],Kw:=dP [],lv:=λi=>[],xv:=λi=>none }
theorem i44 (L:Nat)(a0:Int):dW prog aH3 (bB L) f44 (a44.enc a0)=
 bif (decide (a0>=(0:Int)))then some (n44 (decide (a0<=(1000000:Int))))
 else some (n44 Bool.false):=by kernel_rfl
def g44 (L:Nat)(a0:Int):Option Bool:=
 bif (decide (a0>=(0:Int)))then some (decide (a0<=(1000000:Int)))
 else some Bool.false
theorem e44 (L:Nat)(a0:Int):dW prog aH3 (bB L) f44 (a44.enc a0)=(g44 L a0).map n44:=by
 rw[i44];simp only[g44,aS,aQ,aR,aD,aH]
theorem s44 (m:Int->Option Bool)(hm:∀ (x:Int) t,m x=some t->∃ L,g44 L x=some t):Sat prog cxT 44 (c44 m):=
 dA cA bP (by rfl) (fn:=f44) rfl a44 n44 aL7 m aH3 bO bH (λL x=>g44 L x) (λL x=>e44 L x) hm aOR
def aH2:Env cxT:={ Kc:=dN [],Kw:=dP [],lv:=λi=>[],xv:=λi=>none }
theorem i45 (L:Nat)(a0:Int):dW prog aH2 (bB L) f45 (a45.enc a0)=
 bif (decide (a0>=(0:Int)))then some (n45 (decide (a0<=(10:Int))))
 else some (n45 Bool.false):=by kernel_rfl
def g45 (L:Nat)(a0:Int):Option Bool:=
 bif (decide (a0>=(0:Int)))then some (decide (a0<=(10:Int)))
 else some Bool.false
theorem e45 (L:Nat)(a0:Int):dW prog aH2 (bB L) f45 (a45.enc a0)=(g45 L a0).map n45:=by
 rw[i45];simp only[g45,aS,aQ,aR,aD,aH]
theorem s45 (m:Int->Option Bool)(hm:∀ (x:Int) t,m x=some t->∃ L,g45 L x=some t):Sat prog cxT 45 (c45 m):=
 dA cA bP (by rfl) (fn:=f45) rfl a45 n45 aL6 m aH2 bO bH (λL x=>g45 L x) (λL x=>e45 L x) hm aOQ
def aHZ (m34:(Int×Int×Int)->Option Bool):Env cxT:={ Kc:=dN [(34,c34 m34)],Kw:=dP [],lv:=λi=>[],xv:=λi=>none }
theorem i54 (m34:(Int×Int×Int)->Option Bool)(L:Nat)(a0:Int):dW prog (aHZ m34) (bB L) f54 (a54.enc a0)=
 cV (m34 (a0,((0:Int),(1000000:Int)))) false λ(q1:Bool)=>some (n54 q1):=by kernel_rfl
def g54 (m34:(Int×Int×Int)->Option Bool)(L:Nat)(a0:Int):Option Bool:=
 cV (m34 (a0,((0:Int),(1000000:Int)))) false λ(q1:Bool)=>some q1
theorem e54 (m34:(Int×Int×Int)->Option Bool)(L:Nat)(a0:Int):dW prog (aHZ m34) (bB L) f54 (a54.enc a0)=(g54 m34 L a0).map n54:=by
 rw[i54];simp only[g54,aS,aQ,aR,aD,aH]
theorem s54 (m34:(Int×Int×Int)->Option Bool)(h34:Sat prog cxT 34 (c34 m34))(m:Int->Option Bool)(hm:∀ (x:Int) t,m x=some t->∃ L,g54 m34 L x=some t):Sat prog cxT 54 (c54 m):=
 dA cA bP (by rfl) (fn:=f54) rfl a54 n54 aL1 m (aHZ m34) (bA h34 bO) bH (λL x=>g54 m34 L x) (λL x=>e54 m34 L x) hm aOL
def aHY (m72:Int->Option Bool)(m73:Int->Option Bool)(m34:(Int×Int×Int)->Option Bool):Env cxT:={ Kc:=dN [(72,c72 m72),(73,c73 m73),(34,c34 m34)],Kw:=dP [],lv:=λi=>[],xv:=λi=>none }
theorem i55 (m72:Int->Option Bool)(m73:Int->Option Bool)(m34:(Int×Int×Int)->Option Bool)(L:Nat)(a0_0:Int)(a0_1:Int)(a0_2:Int)(a0_3:Int)(a0_4:Bool):dW prog (aHY m72 m73 m34) (bB L) f55 (a55.enc (a0_0,a0_1,a0_2,a0_3,a0_4))=
 cV (m72 a0_0) false λ(q1:Bool)=>bif q1 then cV (m73 a0_1) false λ(q3:Bool)=>bif q3 then cV (m34 (a0_2,((0:Int),(9:Int)))) false λ(q5:Bool)=>bif q5 then cV (m34 (a0_3,((1:Int),(3:Int)))) false λ(q7:Bool)=>some (n55 q7)
      else some (n55 Bool.false)
    else some (n55 Bool.false)
  else some (n55 Bool.false):=by kernel_rfl
def g55 (m72:Int->Option Bool)(m73:Int->Option Bool)(m34:(Int×Int×Int)->Option Bool)(L:Nat)(a0_0:Int)(a0_1:Int)(a0_2:Int)(a0_3:Int)(a0_4:Bool):Option Bool:=
 cV (m72 a0_0) false λ(q1:Bool)=>bif q1 then cV (m73 a0_1) false λ(q3:Bool)=>bif q3 then cV (m34 (a0_2,((0:Int),(9:Int)))) false λ(q5:Bool)=>bif q5 then cV (m34 (a0_3,((1:Int),(3:Int)))) false λ(q7:Bool)=>some q7
      else some Bool.false
    else some Bool.false
  else some Bool.false
theorem e55 (m72:Int->Option Bool)(m73:Int->Option Bool)(m34:(Int×Int×Int)->Option Bool)(L:Nat)(a0_0:Int)(a0_1:Int)(a0_2:Int)(a0_3:Int)(a0_4:Bool):dW prog (aHY m72 m73 m34) (bB L) f55 (a55.enc (a0_0,a0_1,a0_2,a0_3,a0_4))=(g55 m72 m73 m34 L a0_0 a0_1 a0_2 a0_3 a0_4).map n55:=by
 rw[i55];simp only[g55,aS,aQ,aR,aD,aH]
theorem s55 (m72:Int->Option Bool)(m73:Int->Option Bool)(m34:(Int×Int×Int)->Option Bool)(h72:Sat prog cxT 72 (c72 m72))(h73:Sat prog cxT 73 (c73 m73))(h34:Sat prog cxT 34 (c34 m34))(m:(Int×Int×Int×Int×Bool)->Option Bool)(hm:∀ (x:(Int×Int×Int×Int×Bool)) t,m x=some t->∃ L,g55 m72 m73 m34 L x.1 x.2.1 x.2.2.1 x.2.2.2.1 x.2.2.2.2=some t):Sat prog cxT 55 (c55 m):=
 dA cA bP (by rfl) (fn:=f55) rfl a55 n55 aL0 m (aHY m72 m73 m34) (bA h72 (bA h73 (bA h34 bO))) bH (λL x=>g55 m72 m73 m34 L x.1 x.2.1 x.2.2.1 x.2.2.2.1 x.2.2.2.2) (λL x=>e55 m72 m73 m34 L x.1 x.2.1 x.2.2.1 x.2.2.2.1 x.2.2.2.2) hm aOK
def aHX:Env cxT:={ Kc:=dN [],Kw:=dP [],lv:=λi=>[],xv:=λi=>none }
theorem i57 (L:Nat)(a0_0:Int)(a0_1:Int)(a0_2:Int)(a0_3:Int)(a0_4:Bool):dW prog aHX (bB L) f57 (a57.enc (a0_0,a0_1,a0_2,a0_3,a0_4))=
 some (n57 (a0_0,a0_1,a0_2,a0_3,a0_4)):=by kernel_rfl
def g57 (L:Nat)(a0_0:Int)(a0_1:Int)(a0_2:Int)(a0_3:Int)(a0_4:Bool):Option (Int×Int×Int×Int×Bool):=
 some (a0_0,a0_1,a0_2,a0_3,a0_4)
theorem e57 (L:Nat)(a0_0:Int)(a0_1:Int)(a0_2:Int)(a0_3:Int)(a0_4:Bool):dW prog aHX (bB L) f57 (a57.enc (a0_0,a0_1,a0_2,a0_3,a0_4))=(g57 L a0_0 a0_1 a0_2 a0_3 a0_4).map n57:=by
 rw[i57];simp only[g57,aS,aQ,aR,aD,aH]
theorem s57 (m:(Int×Int×Int×Int×Bool)->Option (Int×Int×Int×Int×Bool))(hm:∀ (x:(Int×Int×Int×Int×Bool)) t,m x=some t->∃ L,g57 L x.1 x.2.1 x.2.2.1 x.2.2.2.1 x.2.2.2.2=some t):Sat prog cxT 57 (c57 m):=
 dA cA bP (by rfl) (fn:=f57) rfl a57 n57 aLY m aHX bO bH (λL x=>g57 L x.1 x.2.1 x.2.2.1 x.2.2.2.1 x.2.2.2.2) (λL x=>e57 L x.1 x.2.1 x.2.2.1 x.2.2.2.1 x.2.2.2.2) hm aOI
def aHV:Env cxT:={ Kc:=dN [],Kw:=dP [],lv:=λi=>[],xv:=λi=>none }
theorem i59 (L:Nat)(a0:Int):dW prog aHV (bB L) f59 (a59.enc a0)=
 bif (decide (a0>=(1:Int)))then some (n59 (decide (a0<=(999:Int))))
 else some (n59 Bool.false):=by kernel_rfl
def g59 (L:Nat)(a0:Int):Option Bool:=
 bif (decide (a0>=(1:Int)))then some (decide (a0<=(999:Int)))
 else some Bool.false
theorem e59 (L:Nat)(a0:Int):dW prog aHV (bB L) f59 (a59.enc a0)=(g59 L a0).map n59:=by
 rw[i59];simp only[g59,aS,aQ,aR,aD,aH]
theorem s59 (m:Int->Option Bool)(hm:∀ (x:Int) t,m x=some t->∃ L,g59 L x=some t):Sat prog cxT 59 (c59 m):=
 dA cA bP (by rfl) (fn:=f59) rfl a59 n59 aLW m aHV bO bH (λL x=>g59 L x) (λL x=>e59 L x) hm aOG
def aHU:Env cxT:={ Kc:=dN [],Kw:=dP [],lv:=λi=>[],xv:=λi=>none }
theorem i60 (L:Nat)(a0:Int):dW prog aHU (bB L) f60 (a60.enc a0)=
 bif (decide (a0>=(0:Int)))then some (n60 (decide (a0<=(4294967295:Int))))
 else some (n60 Bool.false):=by kernel_rfl
def g60 (L:Nat)(a0:Int):Option Bool:=
 bif (decide (a0>=(0:Int)))then some (decide (a0<=(4294967295:Int)))
 else some Bool.false
theorem e60 (L:Nat)(a0:Int):dW prog aHU (bB L) f60 (a60.enc a0)=(g60 L a0).map n60:=by
 rw[i60];simp only[g60,aS,aQ,aR,aD,aH]
theorem s60 (m:Int->Option Bool)(hm:∀ (x:Int) t,m x=some t->∃ L,g60 L x=some t):Sat prog cxT 60 (c60 m):=
 dA cA bP (by rfl) (fn:=f60) rfl a60 n60 aLV m aHU bO bH (λL x=>g60 L x) (λL x=>e60 L x) hm aOF
def aHT:Env cxT:={ Kc:=dN [],Kw:=dP [],lv:=λi=>[],xv:=λi=>none }
theorem i61 (L:Nat)(a0:Int):dW prog aHT (bB L) f61 (a61.enc a0)=
 bif (decide (a0>=(0:Int)))then some (n61 (decide (a0<=(9:Int))))
 else some (n61 Bool.false):=by kernel_rfl
def g61 (L:Nat)(a0:Int):Option Bool:=
 bif (decide (a0>=(0:Int)))then some (decide (a0<=(9:Int)))
 else some Bool.false
theorem e61 (L:Nat)(a0:Int):dW prog aHT (bB L) f61 (a61.enc a0)=(g61 L a0).map n61:=by
 rw[i61];simp only[g61,aS,aQ,aR,aD,aH]
theorem s61 (m:Int->Option Bool)(hm:∀ (x:Int) t,m x=some t->∃ L,g61 L x=some t):Sat prog cxT 61 (c61 m):=
 dA cA bP (by rfl) (fn:=f61) rfl a61 n61 aLU m aHT bO bH (λL x=>g61 L x) (λL x=>e61 L x) hm aOE
def aHS:Env cxT:={ Kc:=dN [],Kw:=dP [],lv:=λi=>[],xv:=λi=>none }
theorem i62 (L:Nat)(a0:Int):dW prog aHS (bB L) f62 (a62.enc a0)=
 bif (decide (a0>=(1:Int)))then some (n62 (decide (a0<=(3:Int))))
 else some (n62 Bool.false):=by kernel_rfl
def g62 (L:Nat)(a0:Int):Option Bool:=
 bif (decide (a0>=(1:Int)))then some (decide (a0<=(3:Int)))
 else some Bool.false
theorem e62 (L:Nat)(a0:Int):dW prog aHS (bB L) f62 (a62.enc a0)=(g62 L a0).map n62:=by
 rw[i62];simp only[g62,aS,aQ,aR,aD,aH]
theorem s62 (m:Int->Option Bool)(hm:∀ (x:Int) t,m x=some t->∃ L,g62 L x=some t):Sat prog cxT 62 (c62 m):=
 dA cA bP (by rfl) (fn:=f62) rfl a62 n62 aLT m aHS bO bH (λL x=>g62 L x) (λL x=>e62 L x) hm aOD
def aHR:Env cxT:={ Kc:=dN [],Kw:=dP [],lv:=λi=>[],xv:=λi=>none }
theorem i63 (L:Nat)(a0:Int):dW prog aHR (bB L) f63 (a63.enc a0)=
 bif (decide (a0>=(0:Int)))then some (n63 (decide (a0<=(65535:Int))))
 else some (n63 Bool.false):=by kernel_rfl
def g63 (L:Nat)(a0:Int):Option Bool:=
 bif (decide (a0>=(0:Int)))then some (decide (a0<=(65535:Int)))
 else some Bool.false
theorem e63 (L:Nat)(a0:Int):dW prog aHR (bB L) f63 (a63.enc a0)=(g63 L a0).map n63:=by
 rw[i63];simp only[g63,aS,aQ,aR,aD,aH]
theorem s63 (m:Int->Option Bool)(hm:∀ (x:Int) t,m x=some t->∃ L,g63 L x=some t):Sat prog cxT 63 (c63 m):=
 dA cA bP (by rfl) (fn:=f63) rfl a63 n63 aLS m aHR bO bH (λL x=>g63 L x) (λL x=>e63 L x) hm aOC
def aHQ:Env cxT:={ Kc:=dN [],Kw:=dP [],lv:=λi=>[],xv:=λi=>none }
theorem i64 (L:Nat)(a0:Int):dW prog aHQ (bB L) f64 (a64.enc a0)=
 bif (a0 == (6:Int))then some (n64 Bool.true)
 else some (n64 (a0 == (17:Int))):=by kernel_rfl
def g64 (L:Nat)(a0:Int):Option Bool:=
 bif (a0 == (6:Int))then some Bool.true
 else some (a0 == (17:Int))
theorem e64 (L:Nat)(a0:Int):dW prog aHQ (bB L) f64 (a64.enc a0)=(g64 L a0).map n64:=by
 rw[i64];simp only[g64,aS,aQ,aR,aD,aH]
theorem s64 (m:Int->Option Bool)(hm:∀ (x:Int) t,m x=some t->∃ L,g64 L x=some t):Sat prog cxT 64 (c64 m):=
 dA cA bP (by rfl) (fn:=f64) rfl a64 n64 aLR m aHQ bO bH (λL x=>g64 L x) (λL x=>e64 L x) hm aOB
def sV:Env cxT:={ Kc:=dN [],Kw:=dP [],lv:=λi=>if i=0 then[(3,[]),(6,[some 3]),(7,[]),(8,[])]else[],xv:=λi=>if i=0 then some [(3,[])]else none }
def S65_0 (a0:(List Int))(v0_8:Int):St cxT.ty:={ slots:=[aK,aK,aK,(.inl (.inl (lv (.int .i64 (0:Int))))),aK,aK,(.inl (.inl (ls { own:=0,nm:=0,e:=3,o:=false,xs:=a0 }))),(.inl (.inl (lv (.int .i64 (Nat.cast (List.length a0):Int))))),(.inl (.inl (lv (.int .i64 v0_8))))]++List.replicate 9 aK,D:=[],F:=[],ctr:=1 }
def X65_0 (a0:(List Int)):St cxT.ty:={ slots:=[aK,aK,aK,(.inl (.inl (lv (.int .i64 (0:Int)))))]++List.replicate 14 aK,D:=[],F:=[],ctr:=1 }
theorem i65 (L:Nat)(a0:(List Int)):dW prog sV (bB L) f65 (a65.enc a0)=
 cS prog sV L f65 0 [1,1,0,1,0,0] (dC (aZ prog f65) (cK prog sV L f65 [1,1,0,1] (aZ prog f65)).n (cK prog sV L f65 [1,1,0,1] (aZ prog f65)).x) L (S65_0 a0 (0:Int)):=by kernel_rfl
theorem aKL (L:Nat)(a0:(List Int))(k:St cxT.ty->Option (V cxT.ty))(xk:Nat->St cxT.ty->Option (V cxT.ty))(g:St cxT.ty->Option (V cxT.ty))(v0_8:Int):eW prog sV L f65 0 [1,1,0,1,0,0] (dC (aZ prog f65) k xk) g (S65_0 a0 v0_8)=
 bif (decide (v0_8 < (Nat.cast (List.length a0):Int)))then bif ((decide ((0:Int)<=v0_8))&&(decide (v0_8 < (Nat.cast (List.length a0):Int))))then bif ((List.getD a0 (Int.toNat v0_8) (0:Int)) != (0:Int))then some (n65 (List.getD a0 (Int.toNat v0_8) (0:Int)))
   else g (S65_0 a0 (wrap Go.IntKind.i64 (v0_8+(1:Int))))
  else none
 else k (X65_0 a0):=by kernel_rfl
theorem aJp (L:Nat)(a0:(List Int)):(cK prog sV L f65 [1,1,0,1] (aZ prog f65)).n (X65_0 a0)=
 some (n65 (0:Int)):=by kernel_rfl
def uM (L:Nat)(a0:(List Int)):Nat->Int->(Option Int)->Option Int
 | 0,_,_=>none
 | n+1,v0_8,k=>
  bif (decide (v0_8 < (Nat.cast (List.length a0):Int)))then bif ((decide ((0:Int)<=v0_8))&&(decide (v0_8 < (Nat.cast (List.length a0):Int))))then bif ((List.getD a0 (Int.toNat v0_8) (0:Int)) != (0:Int))then some (List.getD a0 (Int.toNat v0_8) (0:Int))
    else uM L a0 n (wrap Go.IntKind.i64 (v0_8+(1:Int))) k
   else none
  else k
theorem aGF (L:Nat)(a0:(List Int))(k:St cxT.ty->Option (V cxT.ty))(xk:Nat->St cxT.ty->Option (V cxT.ty))(k':Option Int)(hk:k (X65_0 a0)=(k').map n65):∀ (n:Nat) (v0_8:Int),cS prog sV L f65 0 [1,1,0,1,0,0] (dC (aZ prog f65) k xk) n (S65_0 a0 v0_8)=(uM L a0 n v0_8 k').map n65
 | 0,_=>rfl
 | n+1,v0_8=>by
  rw[cU,aKL];have ih:=aGF L a0 k xk k' hk n;simp only[uM,aS,aQ,aR,aD,aH,ih,hk]
def g65 (L:Nat)(a0:(List Int)):Option Int:=
 uM L a0 L (0:Int) (some (0:Int))
theorem e65 (L:Nat)(a0:(List Int)):dW prog sV (bB L) f65 (a65.enc a0)=(g65 L a0).map n65:=by
 let K'0:Option Int:=(some (0:Int))
 have hin0:∀ (v0_8:Int),cS prog sV L f65 0 [1,1,0,1,0,0] (dC (aZ prog f65) (cK prog sV L f65 [1,1,0,1] (aZ prog f65)).n (cK prog sV L f65 [1,1,0,1] (aZ prog f65)).x) L (S65_0 a0 v0_8)=(uM L a0 L v0_8 K'0).map n65:=λv0_8=>aGF L a0 _ _ K'0 (by rw[aJp];simp only[K'0,aS,aQ,aR,aD,aH]) L v0_8
 rw[i65];simp only[g65,aS,aQ,aR,aD,aH,hin0,K'0]
theorem s65 (m:(List Int)->Option Int)(hm:∀ (x:(List Int)) t,m x=some t->∃ L,g65 L x=some t):Sat prog cxT 65 (c65 m):=
 dA cA bP (by rfl) (fn:=f65) rfl a65 n65 aLQ m sV bO bH (λL x=>g65 L x) (λL x=>e65 L x) hm aOA
def aHP (m79:Int->Option Bool):Env cxT:={ Kc:=dN [(79,c79 m79)],Kw:=dP [],lv:=λi=>[],xv:=λi=>none }
theorem i66 (m79:Int->Option Bool)(L:Nat)(a0:Int)(a1:Int):dW prog (aHP m79) (bB L) f66 (a66.enc (a0,a1))=
 cV (m79 a0) false λ(q1:Bool)=>cV (m79 a1) false λ(q2:Bool)=>bif q1 then bif q2 then some (n66 (0:Int))
    else some (n66 (-(1:Int)))
   else bif q2 then some (n66 (1:Int))
   else bif (decide (a0 < a1))then some (n66 (-(1:Int)))
   else bif (decide (a0 > a1))then some (n66 (1:Int))
   else some (n66 (0:Int)):=by kernel_rfl
def g66 (m79:Int->Option Bool)(L:Nat)(a0:Int)(a1:Int):Option Int:=
 cV (m79 a0) false λ(q1:Bool)=>cV (m79 a1) false λ(q2:Bool)=>bif q1 then bif q2 then some (0:Int)
    else some (-(1:Int))
   else bif q2 then some (1:Int)
   else bif (decide (a0 < a1))then some (-(1:Int))
   else bif (decide (a0 > a1))then some (1:Int)
   else some (0:Int)
theorem e66 (m79:Int->Option Bool)(L:Nat)(a0:Int)(a1:Int):dW prog (aHP m79) (bB L) f66 (a66.enc (a0,a1))=(g66 m79 L a0 a1).map n66:=by
 rw[i66];simp only[g66,aS,aQ,aR,aD,aH]
theorem s66 (m79:Int->Option Bool)(h79:Sat prog cxT 79 (c79 m79))(m:(Int×Int)->Option Int)(hm:∀ (x:(Int×Int)) t,m x=some t->∃ L,g66 m79 L x.1 x.2=some t):Sat prog cxT 66 (c66 m):=
 dA cA bP (by rfl) (fn:=f66) rfl a66 n66 aLP m (aHP m79) (bA h79 bO) bH (λL x=>g66 m79 L x.1 x.2) (λL x=>e66 m79 L x.1 x.2) hm aOz
def aHN:Env cxT:={ Kc:=dN [],Kw:=dP [],lv:=λi=>[],xv:=λi=>none }
theorem i68 (L:Nat)(a0_0:Int)(a0_1:Int)(a0_2:Int)(a0_3:Int)(a0_4:Bool)(a1_0:Int)(a1_1:Int)(a1_2:Int)(a1_3:Int)(a1_4:Bool):dW prog aHN (bB L) f68 (a68.enc ((a0_0,a0_1,a0_2,a0_3,a0_4),(a1_0,a1_1,a1_2,a1_3,a1_4)))=
 bif (a0_0 != a1_0)then some (n68 Bool.false)
 else bif (a0_1 != a1_1)then some (n68 Bool.false)
 else bif (a0_2 != a1_2)then some (n68 Bool.false)
 else bif (a0_3 != a1_3)then some (n68 Bool.false)
 else bif (!(a0_4 == a1_4))then some (n68 Bool.false)
 else some (n68 Bool.true):=by kernel_rfl
def g68 (L:Nat)(a0_0:Int)(a0_1:Int)(a0_2:Int)(a0_3:Int)(a0_4:Bool)(a1_0:Int)(a1_1:Int)(a1_2:Int)(a1_3:Int)(a1_4:Bool):Option Bool:=
 bif (a0_0 != a1_0)then some Bool.false
 else bif (a0_1 != a1_1)then some Bool.false
 else bif (a0_2 != a1_2)then some Bool.false
 else bif (a0_3 != a1_3)then some Bool.false
 else bif (!(a0_4 == a1_4))then some Bool.false
 else some Bool.true
theorem e68 (L:Nat)(a0_0:Int)(a0_1:Int)(a0_2:Int)(a0_3:Int)(a0_4:Bool)(a1_0:Int)(a1_1:Int)(a1_2:Int)(a1_3:Int)(a1_4:Bool):dW prog aHN (bB L) f68 (a68.enc ((a0_0,a0_1,a0_2,a0_3,a0_4),(a1_0,a1_1,a1_2,a1_3,a1_4)))=(g68 L a0_0 a0_1 a0_2 a0_3 a0_4 a1_0 a1_1 a1_2 a1_3 a1_4).map n68:=by
 rw[i68];simp only[g68,aS,aQ,aR,aD,aH]
theorem s68 (m:((Int×Int×Int×Int×Bool)×(Int×Int×Int×Int×Bool))->Option Bool)(hm:∀ (x:((Int×Int×Int×Int×Bool)×(Int×Int×Int×Int×Bool))) t,m x=some t->∃ L,g68 L x.1.1 x.1.2.1 x.1.2.2.1 x.1.2.2.2.1 x.1.2.2.2.2 x.2.1 x.2.2.1 x.2.2.2.1 x.2.2.2.2.1 x.2.2.2.2.2=some t):Sat prog cxT 68 (c68 m):=
 dA cA bP (by rfl) (fn:=f68) rfl a68 n68 aLN m aHN bO bH (λL x=>g68 L x.1.1 x.1.2.1 x.1.2.2.1 x.1.2.2.2.1 x.1.2.2.2.2 x.2.1 x.2.2.1 x.2.2.2.1 x.2.2.2.2.1 x.2.2.2.2.2) (λL x=>e68 L x.1.1 x.1.2.1 x.1.2.2.1 x.1.2.2.2.1 x.1.2.2.2.2 x.2.1 x.2.2.1 x.2.2.2.1 x.2.2.2.2.1 x.2.2.2.2.2) hm aOx
def aHL:Env cxT:={ Kc:=dN [],Kw:=dP [],lv:=λi=>[],xv:=λi=>none }
theorem i71 (L:Nat)(a0:(List Int))(a1:Int):dW prog aHL (bB L) f71 (a71.enc (a0,a1))=
 bif (decide ((wrap Go.IntKind.i64 (a1-(Nat.cast (List.length a0):Int))) < (0:Int)))then some (n71 (-(1:Int)))
 else some (n71 (wrap Go.IntKind.i64 (a1-(Nat.cast (List.length a0):Int)))):=by kernel_rfl
def g71 (L:Nat)(a0:(List Int))(a1:Int):Option Int:=
 bif (decide ((wrap Go.IntKind.i64 (a1-(Nat.cast (List.length a0):Int))) < (0:Int)))then some (-(1:Int))
 else some (wrap Go.IntKind.i64 (a1-(Nat.cast (List.length a0):Int)))
theorem e71 (L:Nat)(a0:(List Int))(a1:Int):dW prog aHL (bB L) f71 (a71.enc (a0,a1))=(g71 L a0 a1).map n71:=by
 rw[i71];simp only[g71,aS,aQ,aR,aD,aH]
theorem s71 (m:((List Int)×Int)->Option Int)(hm:∀ (x:((List Int)×Int)) t,m x=some t->∃ L,g71 L x.1 x.2=some t):Sat prog cxT 71 (c71 m):=
 dA cA bP (by rfl) (fn:=f71) rfl a71 n71 aLL m aHL bO bH (λL x=>g71 L x.1 x.2) (λL x=>e71 L x.1 x.2) hm aOv
def aHK (m34:(Int×Int×Int)->Option Bool):Env cxT:={ Kc:=dN [(34,c34 m34)],Kw:=dP [],lv:=λi=>[],xv:=λi=>none }
theorem i72 (m34:(Int×Int×Int)->Option Bool)(L:Nat)(a0:Int):dW prog (aHK m34) (bB L) f72 (a72.enc a0)=
 cV (m34 (a0,((1:Int),(999:Int)))) false λ(q1:Bool)=>some (n72 q1):=by kernel_rfl
def g72 (m34:(Int×Int×Int)->Option Bool)(L:Nat)(a0:Int):Option Bool:=
 cV (m34 (a0,((1:Int),(999:Int)))) false λ(q1:Bool)=>some q1
theorem e72 (m34:(Int×Int×Int)->Option Bool)(L:Nat)(a0:Int):dW prog (aHK m34) (bB L) f72 (a72.enc a0)=(g72 m34 L a0).map n72:=by
 rw[i72];simp only[g72,aS,aQ,aR,aD,aH]
theorem s72 (m34:(Int×Int×Int)->Option Bool)(h34:Sat prog cxT 34 (c34 m34))(m:Int->Option Bool)(hm:∀ (x:Int) t,m x=some t->∃ L,g72 m34 L x=some t):Sat prog cxT 72 (c72 m):=
 dA cA bP (by rfl) (fn:=f72) rfl a72 n72 aLK m (aHK m34) (bA h34 bO) bH (λL x=>g72 m34 L x) (λL x=>e72 m34 L x) hm aOu
def aHJ (m34:(Int×Int×Int)->Option Bool):Env cxT:={ Kc:=dN [(34,c34 m34)],Kw:=dP [],lv:=λi=>[],xv:=λi=>none }
theorem i73 (m34:(Int×Int×Int)->Option Bool)(L:Nat)(a0:Int):dW prog (aHJ m34) (bB L) f73 (a73.enc a0)=
 cV (m34 (a0,((0:Int),(4294967295:Int)))) false λ(q1:Bool)=>some (n73 q1):=by kernel_rfl
def g73 (m34:(Int×Int×Int)->Option Bool)(L:Nat)(a0:Int):Option Bool:=
 cV (m34 (a0,((0:Int),(4294967295:Int)))) false λ(q1:Bool)=>some q1
theorem e73 (m34:(Int×Int×Int)->Option Bool)(L:Nat)(a0:Int):dW prog (aHJ m34) (bB L) f73 (a73.enc a0)=(g73 m34 L a0).map n73:=by
 rw[i73];simp only[g73,aS,aQ,aR,aD,aH]
theorem s73 (m34:(Int×Int×Int)->Option Bool)(h34:Sat prog cxT 34 (c34 m34))(m:Int->Option Bool)(hm:∀ (x:Int) t,m x=some t->∃ L,g73 m34 L x=some t):Sat prog cxT 73 (c73 m):=
 dA cA bP (by rfl) (fn:=f73) rfl a73 n73 aLJ m (aHJ m34) (bA h34 bO) bH (λL x=>g73 m34 L x) (λL x=>e73 m34 L x) hm aOt
def aHI (m34:(Int×Int×Int)->Option Bool):Env cxT:={ Kc:=dN [(34,c34 m34)],Kw:=dP [],lv:=λi=>[],xv:=λi=>none }
theorem i74 (m34:(Int×Int×Int)->Option Bool)(L:Nat)(a0:Int):dW prog (aHI m34) (bB L) f74 (a74.enc a0)=
 cV (m34 (a0,((0:Int),(65535:Int)))) false λ(q1:Bool)=>some (n74 q1):=by kernel_rfl
def g74 (m34:(Int×Int×Int)->Option Bool)(L:Nat)(a0:Int):Option Bool:=
 cV (m34 (a0,((0:Int),(65535:Int)))) false λ(q1:Bool)=>some q1
theorem e74 (m34:(Int×Int×Int)->Option Bool)(L:Nat)(a0:Int):dW prog (aHI m34) (bB L) f74 (a74.enc a0)=(g74 m34 L a0).map n74:=by
 rw[i74];simp only[g74,aS,aQ,aR,aD,aH]
theorem s74 (m34:(Int×Int×Int)->Option Bool)(h34:Sat prog cxT 34 (c34 m34))(m:Int->Option Bool)(hm:∀ (x:Int) t,m x=some t->∃ L,g74 m34 L x=some t):Sat prog cxT 74 (c74 m):=
 dA cA bP (by rfl) (fn:=f74) rfl a74 n74 aLI m (aHI m34) (bA h34 bO) bH (λL x=>g74 m34 L x) (λL x=>e74 m34 L x) hm aOs
def aHH:Env cxT:={ Kc:=dN [],Kw:=dP [],lv:=λi=>[],xv:=λi=>none }
theorem i75 (L:Nat)(a0:Int):dW prog aHH (bB L) f75 (a75.enc a0)=
 bif (a0 == (6:Int))then some (n75 Bool.true)
 else some (n75 (a0 == (17:Int))):=by kernel_rfl
def g75 (L:Nat)(a0:Int):Option Bool:=
 bif (a0 == (6:Int))then some Bool.true
 else some (a0 == (17:Int))
theorem e75 (L:Nat)(a0:Int):dW prog aHH (bB L) f75 (a75.enc a0)=(g75 L a0).map n75:=by
 rw[i75];simp only[g75,aS,aQ,aR,aD,aH]
theorem s75 (m:Int->Option Bool)(hm:∀ (x:Int) t,m x=some t->∃ L,g75 L x=some t):Sat prog cxT 75 (c75 m):=
 dA cA bP (by rfl) (fn:=f75) rfl a75 n75 aLH m aHH bO bH (λL x=>g75 L x) (λL x=>e75 L x) hm aOr
def aHG:Env cxT:={ Kc:=dN [],Kw:=dP [],lv:=λi=>[],xv:=λi=>none }
theorem i76 (L:Nat)(a0_0:Int)(a0_1:Int)(a0_2:Int)(a0_3:(List Int))(a1_0:Int)(a1_1:Int)(a1_2:Int)(a1_3:(List Int)):dW prog aHG (bB L) f76 (a76.enc ((a0_0,a0_1,a0_2,a0_3),(a1_0,a1_1,a1_2,a1_3)))=
 bif (a0_0 != a1_0)then some (n76 (decide (a0_0 < a1_0)))
 else bif (a0_1 != a1_1)then some (n76 (decide (a0_1 < a1_1)))
 else some (n76 (decide (a0_2 < a1_2))):=by kernel_rfl
def g76 (L:Nat)(a0_0:Int)(a0_1:Int)(a0_2:Int)(a0_3:(List Int))(a1_0:Int)(a1_1:Int)(a1_2:Int)(a1_3:(List Int)):Option Bool:=
 bif (a0_0 != a1_0)then some (decide (a0_0 < a1_0))
 else bif (a0_1 != a1_1)then some (decide (a0_1 < a1_1))
 else some (decide (a0_2 < a1_2))
theorem e76 (L:Nat)(a0_0:Int)(a0_1:Int)(a0_2:Int)(a0_3:(List Int))(a1_0:Int)(a1_1:Int)(a1_2:Int)(a1_3:(List Int)):dW prog aHG (bB L) f76 (a76.enc ((a0_0,a0_1,a0_2,a0_3),(a1_0,a1_1,a1_2,a1_3)))=(g76 L a0_0 a0_1 a0_2 a0_3 a1_0 a1_1 a1_2 a1_3).map n76:=by
 rw[i76];simp only[g76,aS,aQ,aR,aD,aH]
theorem s76 (m:((Int×Int×Int×(List Int))×(Int×Int×Int×(List Int)))->Option Bool)(hm:∀ (x:((Int×Int×Int×(List Int))×(Int×Int×Int×(List Int)))) t,m x=some t->∃ L,g76 L x.1.1 x.1.2.1 x.1.2.2.1 x.1.2.2.2 x.2.1 x.2.2.1 x.2.2.2.1 x.2.2.2.2=some t):Sat prog cxT 76 (c76 m):=
 dA cA bP (by rfl) (fn:=f76) rfl a76 n76 aLG m aHG bO bH (λL x=>g76 L x.1.1 x.1.2.1 x.1.2.2.1 x.1.2.2.2 x.2.1 x.2.2.1 x.2.2.2.1 x.2.2.2.2) (λL x=>e76 L x.1.1 x.1.2.1 x.1.2.2.1 x.1.2.2.2 x.2.1 x.2.2.1 x.2.2.2.1 x.2.2.2.2) hm aOq
def sS:Env cxT:={ Kc:=dN [],Kw:=dP [],lv:=λi=>if i=0 then[(0,[some 2]),(3,[some 2]),(4,[])]else[],xv:=λi=>if i=0 then some [(3,[some 2])]else none }
def S78_0 (a0:(List Int))(v0_3:(List Int))(v0_4:Int):St cxT.ty:={ slots:=[(.inl (.inl (ls { own:=0,nm:=0,e:=2,o:=false,xs:=a0 }))),aK,aK,(.inl (.inl (ls { own:=1,nm:=192,e:=2,o:=true,xs:=v0_3 }))),(.inl (.inl (lv (.int .i64 v0_4))))]++List.replicate 17 aK,D:=[],F:=[],ctr:=1 }
def X78_0 (a0:(List Int))(w0_3:(List Int)):St cxT.ty:={ slots:=[aK,aK,aK,(.inl (.inl (ls { own:=1,nm:=192,e:=2,o:=true,xs:=w0_3 })))]++List.replicate 18 aK,D:=[],F:=[],ctr:=1 }
theorem i78 (L:Nat)(a0:(List Int)):dW prog sS (bB L) f78 (a78.enc a0)=
 bif (((decide ((0:Int)<=(Nat.cast (List.length a0):Int)))&&(decide ((Nat.cast (List.length a0):Int)<=(Nat.cast (List.length a0):Int))))&&(decide ((Nat.cast (List.length a0):Int)<=(1000000000:Int))))then cS prog sS L f78 0 [1,1,0,1,0,0] (dC (aZ prog f78) (cK prog sS L f78 [1,1,0,1] (aZ prog f78)).n (cK prog sS L f78 [1,1,0,1] (aZ prog f78)).x) L (S78_0 a0 (List.replicate (Int.toNat (Nat.cast (List.length a0):Int)) (0:Int)) (0:Int))
 else none:=by kernel_rfl
theorem aKJ (L:Nat)(a0:(List Int))(k:St cxT.ty->Option (V cxT.ty))(xk:Nat->St cxT.ty->Option (V cxT.ty))(g:St cxT.ty->Option (V cxT.ty))(v0_3:(List Int))(v0_4:Int):eW prog sS L f78 0 [1,1,0,1,0,0] (dC (aZ prog f78) k xk) g (S78_0 a0 v0_3 v0_4)=
 bif (decide (v0_4 < (Nat.cast (List.length a0):Int)))then bif ((decide ((0:Int)<=v0_4))&&(decide (v0_4 < (Nat.cast (List.length a0):Int))))then bif ((decide ((0:Int)<=v0_4))&&(decide (v0_4 < (Nat.cast (List.length v0_3):Int))))then g (S78_0 a0 (List.set v0_3 (Int.toNat v0_4) (List.getD a0 (Int.toNat v0_4) (0:Int))) (wrap Go.IntKind.i64 (v0_4+(1:Int))))
   else none
  else none
 else k (X78_0 a0 v0_3):=by kernel_rfl
theorem aJn (L:Nat)(a0:(List Int))(w0_3:(List Int)):(cK prog sS L f78 [1,1,0,1] (aZ prog f78)).n (X78_0 a0 w0_3)=
 some (n78 w0_3):=by kernel_rfl
def uK (L:Nat)(a0:(List Int)):Nat->(List Int)->Int->((List Int)->Option (List Int))->Option (List Int)
 | 0,_,_,_=>none
 | n+1,v0_3,v0_4,k=>
  bif (decide (v0_4 < (Nat.cast (List.length a0):Int)))then bif ((decide ((0:Int)<=v0_4))&&(decide (v0_4 < (Nat.cast (List.length a0):Int))))then bif ((decide ((0:Int)<=v0_4))&&(decide (v0_4 < (Nat.cast (List.length v0_3):Int))))then uK L a0 n (List.set v0_3 (Int.toNat v0_4) (List.getD a0 (Int.toNat v0_4) (0:Int))) (wrap Go.IntKind.i64 (v0_4+(1:Int))) k
    else none
   else none
  else k v0_3
theorem aGD (L:Nat)(a0:(List Int))(k:St cxT.ty->Option (V cxT.ty))(xk:Nat->St cxT.ty->Option (V cxT.ty))(k':(List Int)->Option (List Int))(hk:∀ (w0_3:(List Int)),k (X78_0 a0 w0_3)=(k' w0_3).map n78):∀ (n:Nat) (v0_3:(List Int)) (v0_4:Int),cS prog sS L f78 0 [1,1,0,1,0,0] (dC (aZ prog f78) k xk) n (S78_0 a0 v0_3 v0_4)=(uK L a0 n v0_3 v0_4 k').map n78
 | 0,_,_=>rfl
 | n+1,v0_3,v0_4=>by
  rw[cU,aKJ];have ih:=aGD L a0 k xk k' hk n;simp only[uK,aS,aQ,aR,aD,aH,ih,hk]
def g78 (L:Nat)(a0:(List Int)):Option (List Int):=
 bif (((decide ((0:Int)<=(Nat.cast (List.length a0):Int)))&&(decide ((Nat.cast (List.length a0):Int)<=(Nat.cast (List.length a0):Int))))&&(decide ((Nat.cast (List.length a0):Int)<=(1000000000:Int))))then uK L a0 L (List.replicate (Int.toNat (Nat.cast (List.length a0):Int)) (0:Int)) (0:Int) (λ(w0_3:(List Int))=>some w0_3)
 else none
theorem e78 (L:Nat)(a0:(List Int)):dW prog sS (bB L) f78 (a78.enc a0)=(g78 L a0).map n78:=by
 let K'0:(List Int)->Option (List Int):=(λ(w0_3:(List Int))=>some w0_3)
 have hin0:∀ (v0_3:(List Int)) (v0_4:Int),cS prog sS L f78 0 [1,1,0,1,0,0] (dC (aZ prog f78) (cK prog sS L f78 [1,1,0,1] (aZ prog f78)).n (cK prog sS L f78 [1,1,0,1] (aZ prog f78)).x) L (S78_0 a0 v0_3 v0_4)=(uK L a0 L v0_3 v0_4 K'0).map n78:=λv0_3 v0_4=>aGD L a0 _ _ K'0 (λw0_3=>by rw[aJn];simp only[K'0,aS,aQ,aR,aD,aH]) L v0_3 v0_4
 rw[i78];simp only[g78,aS,aQ,aR,aD,aH,hin0,K'0]
theorem s78 (m:(List Int)->Option (List Int))(hm:∀ (x:(List Int)) t,m x=some t->∃ L,g78 L x=some t):Sat prog cxT 78 (c78 m):=
 dA cA bP (by rfl) (fn:=f78) rfl a78 n78 aLE m sS bO bH (λL x=>g78 L x) (λL x=>e78 L x) hm aOo
def aHF:Env cxT:={ Kc:=dN [],Kw:=dP [],lv:=λi=>[],xv:=λi=>none }
theorem i79 (L:Nat)(a0:Int):dW prog aHF (bB L) f79 (a79.enc a0)=
 some (n79 (a0 != a0)):=by kernel_rfl
def g79 (L:Nat)(a0:Int):Option Bool:=
 some (a0 != a0)
theorem e79 (L:Nat)(a0:Int):dW prog aHF (bB L) f79 (a79.enc a0)=(g79 L a0).map n79:=by
 rw[i79];simp only[g79,aS,aQ,aR,aD,aH]
theorem s79 (m:Int->Option Bool)(hm:∀ (x:Int) t,m x=some t->∃ L,g79 L x=some t):Sat prog cxT 79 (c79 m):=
 dA cA bP (by rfl) (fn:=f79) rfl a79 n79 aLD m aHF bO bH (λL x=>g79 L x) (λL x=>e79 L x) hm aOn
def aHE (m66:(Int×Int)->Option Int):Env cxT:={ Kc:=dN [(66,c66 m66)],Kw:=dP [],lv:=λi=>[],xv:=λi=>none }
theorem i81 (m66:(Int×Int)->Option Int)(L:Nat)(a0_0:Int)(a0_1:Int)(a0_2:Int)(a0_3:Int)(a0_4:Bool)(a1:Int):dW prog (aHE m66) (bB L) f81 (a81.enc ((a0_0,a0_1,a0_2,a0_3,a0_4),a1))=
 cV (m66 (a0_0,a1)) (0:Int) λ(q1:Int)=>some (n81 q1):=by kernel_rfl
def g81 (m66:(Int×Int)->Option Int)(L:Nat)(a0_0:Int)(a0_1:Int)(a0_2:Int)(a0_3:Int)(a0_4:Bool)(a1:Int):Option Int:=
 cV (m66 (a0_0,a1)) (0:Int) λ(q1:Int)=>some q1
theorem e81 (m66:(Int×Int)->Option Int)(L:Nat)(a0_0:Int)(a0_1:Int)(a0_2:Int)(a0_3:Int)(a0_4:Bool)(a1:Int):dW prog (aHE m66) (bB L) f81 (a81.enc ((a0_0,a0_1,a0_2,a0_3,a0_4),a1))=(g81 m66 L a0_0 a0_1 a0_2 a0_3 a0_4 a1).map n81:=by
 rw[i81];simp only[g81,aS,aQ,aR,aD,aH]
theorem s81 (m66:(Int×Int)->Option Int)(h66:Sat prog cxT 66 (c66 m66))(m:((Int×Int×Int×Int×Bool)×Int)->Option Int)(hm:∀ (x:((Int×Int×Int×Int×Bool)×Int)) t,m x=some t->∃ L,g81 m66 L x.1.1 x.1.2.1 x.1.2.2.1 x.1.2.2.2.1 x.1.2.2.2.2 x.2=some t):Sat prog cxT 81 (c81 m):=
 dA cA bP (by rfl) (fn:=f81) rfl a81 n81 aLB m (aHE m66) (bA h66 bO) bH (λL x=>g81 m66 L x.1.1 x.1.2.1 x.1.2.2.1 x.1.2.2.2.1 x.1.2.2.2.2 x.2) (λL x=>e81 m66 L x.1.1 x.1.2.1 x.1.2.2.1 x.1.2.2.2.1 x.1.2.2.2.2 x.2) hm aOl
def aH0 (wS:((List Int)×Int)->Option Int):Env cxT:={ Kc:=dN [(71,c71 wS)],Kw:=dP [],lv:=λi=>[],xv:=λi=>none }
theorem i53 (wS:((List Int)×Int)->Option Int)(L:Nat)(a0_0:Int)(a0_1:Int)(a0_2:Int)(a0_3:(List Int))(a1:Int):dW prog (aH0 wS) (bB L) f53 (a53.enc ((a0_0,a0_1,a0_2,a0_3),a1))=
 cV (wS (a0_3,a1)) (0:Int) λ(q1:Int)=>bif (decide (q1 < (0:Int)))then some (n53 (-(1:Int)))
  else some (n53 q1):=by kernel_rfl
def g53 (wS:((List Int)×Int)->Option Int)(L:Nat)(a0_0:Int)(a0_1:Int)(a0_2:Int)(a0_3:(List Int))(a1:Int):Option Int:=
 cV (wS (a0_3,a1)) (0:Int) λ(q1:Int)=>bif (decide (q1 < (0:Int)))then some (-(1:Int))
  else some q1
theorem e53 (wS:((List Int)×Int)->Option Int)(L:Nat)(a0_0:Int)(a0_1:Int)(a0_2:Int)(a0_3:(List Int))(a1:Int):dW prog (aH0 wS) (bB L) f53 (a53.enc ((a0_0,a0_1,a0_2,a0_3),a1))=(g53 wS L a0_0 a0_1 a0_2 a0_3 a1).map n53:=by
 rw[i53];simp only[g53,aS,aQ,aR,aD,aH]
theorem s53 (wS:((List Int)×Int)->Option Int)(h71:Sat prog cxT 71 (c71 wS))(m:((Int×Int×Int×(List Int))×Int)->Option Int)(hm:∀ (x:((Int×Int×Int×(List Int))×Int)) t,m x=some t->∃ L,g53 wS L x.1.1 x.1.2.1 x.1.2.2.1 x.1.2.2.2 x.2=some t):Sat prog cxT 53 (c53 m):=
 dA cA bP (by rfl) (fn:=f53) rfl a53 n53 aL2 m (aH0 wS) (bA h71 bO) bH (λL x=>g53 wS L x.1.1 x.1.2.1 x.1.2.2.1 x.1.2.2.2 x.2) (λL x=>e53 wS L x.1.1 x.1.2.1 x.1.2.2.1 x.1.2.2.2 x.2) hm aOM
def aHW (wR:(List Int)->Option (List Int)):Env cxT:={ Kc:=dN [(78,c78 wR)],Kw:=dP [],lv:=λi=>[],xv:=λi=>none }
theorem i58 (wR:(List Int)->Option (List Int))(L:Nat)(a0_0:Int)(a0_1:Int)(a0_2:Int)(a0_3:(List Int)):dW prog (aHW wR) (bB L) f58 (a58.enc (a0_0,a0_1,a0_2,a0_3))=
 cV (wR a0_3) [] λ(q1:(List Int))=>some (n58 (a0_0,a0_1,a0_2,q1)):=by kernel_rfl
def g58 (wR:(List Int)->Option (List Int))(L:Nat)(a0_0:Int)(a0_1:Int)(a0_2:Int)(a0_3:(List Int)):Option (Int×Int×Int×(List Int)):=
 cV (wR a0_3) [] λ(q1:(List Int))=>some (a0_0,a0_1,a0_2,q1)
theorem e58 (wR:(List Int)->Option (List Int))(L:Nat)(a0_0:Int)(a0_1:Int)(a0_2:Int)(a0_3:(List Int)):dW prog (aHW wR) (bB L) f58 (a58.enc (a0_0,a0_1,a0_2,a0_3))=(g58 wR L a0_0 a0_1 a0_2 a0_3).map n58:=by
 rw[i58];simp only[g58,aS,aQ,aR,aD,aH]
theorem s58 (wR:(List Int)->Option (List Int))(h78:Sat prog cxT 78 (c78 wR))(m:(Int×Int×Int×(List Int))->Option (Int×Int×Int×(List Int)))(hm:∀ (x:(Int×Int×Int×(List Int))) t,m x=some t->∃ L,g58 wR L x.1 x.2.1 x.2.2.1 x.2.2.2=some t):Sat prog cxT 58 (c58 m):=
 dA cA bP (by rfl) (fn:=f58) rfl a58 n58 aLX m (aHW wR) (bA h78 bO) bH (λL x=>g58 wR L x.1 x.2.1 x.2.2.1 x.2.2.2) (λL x=>e58 wR L x.1 x.2.1 x.2.2.1 x.2.2.2) hm aOH
def sQ:Env cxT:={ Kc:=dN [],Kw:=dP [],lv:=λi=>if i=0 then[(0,[some 2]),(1,[some 2]),(5,[])]else[],xv:=λi=>if i=0 then some []else none }
def S82_0 (a0:(List Int))(a1:(List Int))(v0_5:Int):St cxT.ty:={ slots:=[(.inl (.inl (ls { own:=0,nm:=0,e:=2,o:=false,xs:=a0 }))),(.inl (.inl (ls { own:=0,nm:=0,e:=2,o:=false,xs:=a1 }))),aK,aK,aK,(.inl (.inl (lv (.int .i64 v0_5))))]++List.replicate 20 aK,D:=[],F:=[],ctr:=1 }
def X82_0 (a0:(List Int))(a1:(List Int)):St cxT.ty:={ slots:=[]++List.replicate 26 aK,D:=[],F:=[],ctr:=1 }
theorem i82 (L:Nat)(a0:(List Int))(a1:(List Int)):dW prog sQ (bB L) f82 (a82.enc (a0,a1))=
 bif ((Nat.cast (List.length a0):Int) != (Nat.cast (List.length a1):Int))then some (n82 Bool.false)
 else cS prog sQ L f82 0 [1,1,0,1,0,0] (dC (aZ prog f82) (cK prog sQ L f82 [1,1,0,1] (aZ prog f82)).n (cK prog sQ L f82 [1,1,0,1] (aZ prog f82)).x) L (S82_0 a0 a1 (0:Int)):=by kernel_rfl
theorem aKH (L:Nat)(a0:(List Int))(a1:(List Int))(k:St cxT.ty->Option (V cxT.ty))(xk:Nat->St cxT.ty->Option (V cxT.ty))(g:St cxT.ty->Option (V cxT.ty))(v0_5:Int):eW prog sQ L f82 0 [1,1,0,1,0,0] (dC (aZ prog f82) k xk) g (S82_0 a0 a1 v0_5)=
 bif (decide (v0_5 < (Nat.cast (List.length a0):Int)))then bif ((decide ((0:Int)<=v0_5))&&(decide (v0_5 < (Nat.cast (List.length a0):Int))))then bif ((decide ((0:Int)<=v0_5))&&(decide (v0_5 < (Nat.cast (List.length a1):Int))))then bif ((List.getD a0 (Int.toNat v0_5) (0:Int)) != (List.getD a1 (Int.toNat v0_5) (0:Int)))then some (n82 Bool.false)
    else g (S82_0 a0 a1 (wrap Go.IntKind.i64 (v0_5+(1:Int))))
   else none
  else none
 else k (X82_0 a0 a1):=by kernel_rfl
theorem aJl (L:Nat)(a0:(List Int))(a1:(List Int)):(cK prog sQ L f82 [1,1,0,1] (aZ prog f82)).n (X82_0 a0 a1)=
 some (n82 Bool.true):=by kernel_rfl
def uJ (L:Nat)(a0:(List Int))(a1:(List Int)):Nat->Int->(Option Bool)->Option Bool
 | 0,_,_=>none
 | n+1,v0_5,k=>
  bif (decide (v0_5 < (Nat.cast (List.length a0):Int)))then bif ((decide ((0:Int)<=v0_5))&&(decide (v0_5 < (Nat.cast (List.length a0):Int))))then bif ((decide ((0:Int)<=v0_5))&&(decide (v0_5 < (Nat.cast (List.length a1):Int))))then bif ((List.getD a0 (Int.toNat v0_5) (0:Int)) != (List.getD a1 (Int.toNat v0_5) (0:Int)))then some Bool.false
     else uJ L a0 a1 n (wrap Go.IntKind.i64 (v0_5+(1:Int))) k
    else none
   else none
  else k
theorem aGB (L:Nat)(a0:(List Int))(a1:(List Int))(k:St cxT.ty->Option (V cxT.ty))(xk:Nat->St cxT.ty->Option (V cxT.ty))(k':Option Bool)(hk:k (X82_0 a0 a1)=(k').map n82):∀ (n:Nat) (v0_5:Int),cS prog sQ L f82 0 [1,1,0,1,0,0] (dC (aZ prog f82) k xk) n (S82_0 a0 a1 v0_5)=(uJ L a0 a1 n v0_5 k').map n82
 | 0,_=>rfl
 | n+1,v0_5=>by
  rw[cU,aKH];have ih:=aGB L a0 a1 k xk k' hk n;simp only[uJ,aS,aQ,aR,aD,aH,ih,hk]
def g82 (L:Nat)(a0:(List Int))(a1:(List Int)):Option Bool:=
 bif ((Nat.cast (List.length a0):Int) != (Nat.cast (List.length a1):Int))then some Bool.false
 else uJ L a0 a1 L (0:Int) (some Bool.true)
theorem e82 (L:Nat)(a0:(List Int))(a1:(List Int)):dW prog sQ (bB L) f82 (a82.enc (a0,a1))=(g82 L a0 a1).map n82:=by
 let K'0:Option Bool:=(some Bool.true)
 have hin0:∀ (v0_5:Int),cS prog sQ L f82 0 [1,1,0,1,0,0] (dC (aZ prog f82) (cK prog sQ L f82 [1,1,0,1] (aZ prog f82)).n (cK prog sQ L f82 [1,1,0,1] (aZ prog f82)).x) L (S82_0 a0 a1 v0_5)=(uJ L a0 a1 L v0_5 K'0).map n82:=λv0_5=>aGB L a0 a1 _ _ K'0 (by rw[aJl];simp only[K'0,aS,aQ,aR,aD,aH]) L v0_5
 rw[i82];simp only[g82,aS,aQ,aR,aD,aH,hin0,K'0]
theorem s82 (m:((List Int)×(List Int))->Option Bool)(hm:∀ (x:((List Int)×(List Int))) t,m x=some t->∃ L,g82 L x.1 x.2=some t):Sat prog cxT 82 (c82 m):=
 dA cA bP (by rfl) (fn:=f82) rfl a82 n82 aLA m sQ bO bH (λL x=>g82 L x.1 x.2) (λL x=>e82 L x.1 x.2) hm aOk
def aIf:Env cxT:={ Kc:=dN [],Kw:=dP [],lv:=λi=>[],xv:=λi=>none }
theorem i17 (L:Nat)(a0:(List (Int×(Int×Int))))(a1:Int):dW prog aIf (bB L) f17 (a17.enc (a0,a1))=
 bif (decide ((wrap Go.IntKind.i64 (a1-(Nat.cast (List.length a0):Int))) < (0:Int)))then some (n17 (-(1:Int)))
 else some (n17 (wrap Go.IntKind.i64 (a1-(Nat.cast (List.length a0):Int)))):=by kernel_rfl
def g17 (L:Nat)(a0:(List (Int×(Int×Int))))(a1:Int):Option Int:=
 bif (decide ((wrap Go.IntKind.i64 (a1-(Nat.cast (List.length a0):Int))) < (0:Int)))then some (-(1:Int))
 else some (wrap Go.IntKind.i64 (a1-(Nat.cast (List.length a0):Int)))
theorem e17 (L:Nat)(a0:(List (Int×(Int×Int))))(a1:Int):dW prog aIf (bB L) f17 (a17.enc (a0,a1))=(g17 L a0 a1).map n17:=by
 rw[i17];simp only[g17,aS,aQ,aR,aD,aH]
theorem s17 (m:((List (Int×(Int×Int)))×Int)->Option Int)(hm:∀ (x:((List (Int×(Int×Int)))×Int)) t,m x=some t->∃ L,g17 L x.1 x.2=some t):Sat prog cxT 17 (c17 m):=
 dA cA bP (by rfl) (fn:=f17) rfl a17 n17 aMt m aIf bO bH (λL x=>g17 L x.1 x.2) (λL x=>e17 L x.1 x.2) hm aPd
def aIb:Env cxT:={ Kc:=dN [],Kw:=dP [],lv:=λi=>[],xv:=λi=>none }
theorem i31 (L:Nat)(a0:(List (Int×(Int×(Int×(Int×Bool))))))(a1:Int):dW prog aIb (bB L) f31 (a31.enc (a0,a1))=
 bif (decide ((wrap Go.IntKind.i64 (a1-(Nat.cast (List.length a0):Int))) < (0:Int)))then some (n31 (-(1:Int)))
 else some (n31 (wrap Go.IntKind.i64 (a1-(Nat.cast (List.length a0):Int)))):=by kernel_rfl
def g31 (L:Nat)(a0:(List (Int×(Int×(Int×(Int×Bool))))))(a1:Int):Option Int:=
 bif (decide ((wrap Go.IntKind.i64 (a1-(Nat.cast (List.length a0):Int))) < (0:Int)))then some (-(1:Int))
 else some (wrap Go.IntKind.i64 (a1-(Nat.cast (List.length a0):Int)))
theorem e31 (L:Nat)(a0:(List (Int×(Int×(Int×(Int×Bool))))))(a1:Int):dW prog aIb (bB L) f31 (a31.enc (a0,a1))=(g31 L a0 a1).map n31:=by
 rw[i31];simp only[g31,aS,aQ,aR,aD,aH]
theorem s31 (m:((List (Int×(Int×(Int×(Int×Bool)))))×Int)->Option Int)(hm:∀ (x:((List (Int×(Int×(Int×(Int×Bool)))))×Int)) t,m x=some t->∃ L,g31 L x.1 x.2=some t):Sat prog cxT 31 (c31 m):=
 dA cA bP (by rfl) (fn:=f31) rfl a31 n31 aMk m aIb bO bH (λL x=>g31 L x.1 x.2) (λL x=>e31 L x.1 x.2) hm aO4
def tA (kV:((Int×Int×Int×(List Int))×Int)->Option Int):Env cxT:={ Kc:=dN [(53,c53 kV)],Kw:=dP [],lv:=λi=>if i=0 then[(0,[some 91]),(1,[]),(5,[])]else[],xv:=λi=>if i=0 then some [(1,[])]else none }
def S32_0 (a0:(List (Int×(Int×(Int×(List Int))))))(a1:Int)(v0_1:Int)(v0_5:Int):St cxT.ty:={ slots:=[(.inl (.inl (ls { own:=0,nm:=0,e:=91,o:=false,xs:=a0 }))),(.inl (.inl (lv (.int .i64 v0_1)))),aK,aK,aK,(.inl (.inl (lv (.int .i64 v0_5))))]++List.replicate 21 aK,D:=[],F:=[],ctr:=1 }
def X32_0 (a0:(List (Int×(Int×(Int×(List Int))))))(a1:Int)(w0_1:Int):St cxT.ty:={ slots:=[aK,(.inl (.inl (lv (.int .i64 w0_1))))]++List.replicate 25 aK,D:=[],F:=[],ctr:=1 }
theorem i32 (kV:((Int×Int×Int×(List Int))×Int)->Option Int)(L:Nat)(a0:(List (Int×(Int×(Int×(List Int))))))(a1:Int):dW prog (tA kV) (bB L) f32 (a32.enc (a0,a1))=
 bif (decide ((wrap Go.IntKind.i64 (a1-(Nat.cast (List.length a0):Int))) < (0:Int)))then some (n32 (-(1:Int)))
 else cS prog (tA kV) L f32 0 [1,1,1,0,1,0,0] (dC (aZ prog f32) (cK prog (tA kV) L f32 [1,1,1,0,1] (aZ prog f32)).n (cK prog (tA kV) L f32 [1,1,1,0,1] (aZ prog f32)).x) L (S32_0 a0 a1 (wrap Go.IntKind.i64 (a1-(Nat.cast (List.length a0):Int))) (0:Int)):=by kernel_rfl
theorem aKW (kV:((Int×Int×Int×(List Int))×Int)->Option Int)(L:Nat)(a0:(List (Int×(Int×(Int×(List Int))))))(a1:Int)(k:St cxT.ty->Option (V cxT.ty))(xk:Nat->St cxT.ty->Option (V cxT.ty))(g:St cxT.ty->Option (V cxT.ty))(v0_1:Int)(v0_5:Int):eW prog (tA kV) L f32 0 [1,1,1,0,1,0,0] (dC (aZ prog f32) k xk) g (S32_0 a0 a1 v0_1 v0_5)=
 bif (decide (v0_5 < (Nat.cast (List.length a0):Int)))then bif ((decide ((0:Int)<=v0_5))&&(decide (v0_5 < (Nat.cast (List.length a0):Int))))then cV (kV (((List.getD a0 (Int.toNat v0_5) ((0:Int),((0:Int),((0:Int),([]:List (Int)))))).1,((List.getD a0 (Int.toNat v0_5) ((0:Int),((0:Int),((0:Int),([]:List (Int)))))).2.1,((List.getD a0 (Int.toNat v0_5) ((0:Int),((0:Int),((0:Int),([]:List (Int)))))).2.2.1,(List.getD a0 (Int.toNat v0_5) ((0:Int),((0:Int),((0:Int),([]:List (Int)))))).2.2.2))),v0_1)) (0:Int) λ(q3:Int)=>bif (decide (q3 < (0:Int)))then some (n32 (-(1:Int)))
    else g (S32_0 a0 a1 q3 (wrap Go.IntKind.i64 (v0_5+(1:Int))))
  else none
 else k (X32_0 a0 a1 v0_1):=by kernel_rfl
theorem aJA (kV:((Int×Int×Int×(List Int))×Int)->Option Int)(L:Nat)(a0:(List (Int×(Int×(Int×(List Int))))))(a1:Int)(w0_1:Int):(cK prog (tA kV) L f32 [1,1,1,0,1] (aZ prog f32)).n (X32_0 a0 a1 w0_1)=
 some (n32 w0_1):=by kernel_rfl
def uS (kV:((Int×Int×Int×(List Int))×Int)->Option Int)(L:Nat)(a0:(List (Int×(Int×(Int×(List Int))))))(a1:Int):Nat->Int->Int->(Int->Option Int)->Option Int
 | 0,_,_,_=>none
 | n+1,v0_1,v0_5,k=>
  bif (decide (v0_5 < (Nat.cast (List.length a0):Int)))then bif ((decide ((0:Int)<=v0_5))&&(decide (v0_5 < (Nat.cast (List.length a0):Int))))then cV (kV (((List.getD a0 (Int.toNat v0_5) ((0:Int),((0:Int),((0:Int),([]:List (Int)))))).1,((List.getD a0 (Int.toNat v0_5) ((0:Int),((0:Int),((0:Int),([]:List (Int)))))).2.1,((List.getD a0 (Int.toNat v0_5) ((0:Int),((0:Int),((0:Int),([]:List (Int)))))).2.2.1,(List.getD a0 (Int.toNat v0_5) ((0:Int),((0:Int),((0:Int),([]:List (Int)))))).2.2.2))),v0_1)) (0:Int) λ(q4:Int)=>bif (decide (q4 < (0:Int)))then some (-(1:Int))
     else uS kV L a0 a1 n q4 (wrap Go.IntKind.i64 (v0_5+(1:Int))) k
   else none
  else k v0_1
theorem aGQ (kV:((Int×Int×Int×(List Int))×Int)->Option Int)(L:Nat)(a0:(List (Int×(Int×(Int×(List Int))))))(a1:Int)(k:St cxT.ty->Option (V cxT.ty))(xk:Nat->St cxT.ty->Option (V cxT.ty))(k':Int->Option Int)(hk:∀ (w0_1:Int),k (X32_0 a0 a1 w0_1)=(k' w0_1).map n32):∀ (n:Nat) (v0_1:Int) (v0_5:Int),cS prog (tA kV) L f32 0 [1,1,1,0,1,0,0] (dC (aZ prog f32) k xk) n (S32_0 a0 a1 v0_1 v0_5)=(uS kV L a0 a1 n v0_1 v0_5 k').map n32
 | 0,_,_=>rfl
 | n+1,v0_1,v0_5=>by
  rw[cU,aKW];have ih:=aGQ kV L a0 a1 k xk k' hk n;simp only[uS,aS,aQ,aR,aD,aH,ih,hk]
def g32 (kV:((Int×Int×Int×(List Int))×Int)->Option Int)(L:Nat)(a0:(List (Int×(Int×(Int×(List Int))))))(a1:Int):Option Int:=
 bif (decide ((wrap Go.IntKind.i64 (a1-(Nat.cast (List.length a0):Int))) < (0:Int)))then some (-(1:Int))
 else uS kV L a0 a1 L (wrap Go.IntKind.i64 (a1-(Nat.cast (List.length a0):Int))) (0:Int) (λ(w0_1:Int)=>some w0_1)
theorem e32 (kV:((Int×Int×Int×(List Int))×Int)->Option Int)(L:Nat)(a0:(List (Int×(Int×(Int×(List Int))))))(a1:Int):dW prog (tA kV) (bB L) f32 (a32.enc (a0,a1))=(g32 kV L a0 a1).map n32:=by
 let K'0:Int->Option Int:=(λ(w0_1:Int)=>some w0_1)
 have hin0:∀ (v0_1:Int) (v0_5:Int),cS prog (tA kV) L f32 0 [1,1,1,0,1,0,0] (dC (aZ prog f32) (cK prog (tA kV) L f32 [1,1,1,0,1] (aZ prog f32)).n (cK prog (tA kV) L f32 [1,1,1,0,1] (aZ prog f32)).x) L (S32_0 a0 a1 v0_1 v0_5)=(uS kV L a0 a1 L v0_1 v0_5 K'0).map n32:=λv0_1 v0_5=>aGQ kV L a0 a1 _ _ K'0 (λw0_1=>by rw[aJA];simp only[K'0,aS,aQ,aR,aD,aH]) L v0_1 v0_5
 rw[i32];simp only[g32,aS,aQ,aR,aD,aH,hin0,K'0]
theorem s32 (kV:((Int×Int×Int×(List Int))×Int)->Option Int)(h53:Sat prog cxT 53 (c53 kV))(m:((List (Int×(Int×(Int×(List Int)))))×Int)->Option Int)(hm:∀ (x:((List (Int×(Int×(Int×(List Int)))))×Int)) t,m x=some t->∃ L,g32 kV L x.1 x.2=some t):Sat prog cxT 32 (c32 m):=
 dA cA bP (by rfl) (fn:=f32) rfl a32 n32 aMj m (tA kV) (bA h53 bO) bH (λL x=>g32 kV L x.1 x.2) (λL x=>e32 kV L x.1 x.2) hm aO3
def sZ (m57:(Int×Int×Int×Int×Bool)->Option (Int×Int×Int×Int×Bool)):Env cxT:={ Kc:=dN [(57,c57 m57)],Kw:=dP [],lv:=λi=>if i=0 then[(0,[some 94]),(3,[some 75]),(4,[])]else[],xv:=λi=>if i=0 then some [(3,[some 75])]else none }
def S35_0 (a0:(List (Int×(Int×(Int×(Int×Bool))))))(v0_3:(List (Int×(Int×(Int×(Int×Bool))))))(v0_4:Int):St cxT.ty:={ slots:=[(.inl (.inl (ls { own:=0,nm:=0,e:=94,o:=false,xs:=a0 }))),aK,aK,(.inl (.inl (ls { own:=1,nm:=192,e:=75,o:=true,xs:=v0_3 }))),(.inl (.inl (lv (.int .i64 v0_4))))]++List.replicate 18 aK,D:=[],F:=[],ctr:=1 }
def X35_0 (a0:(List (Int×(Int×(Int×(Int×Bool))))))(w0_3:(List (Int×(Int×(Int×(Int×Bool)))))):St cxT.ty:={ slots:=[aK,aK,aK,(.inl (.inl (ls { own:=1,nm:=192,e:=75,o:=true,xs:=w0_3 })))]++List.replicate 19 aK,D:=[],F:=[],ctr:=1 }
theorem i35 (m57:(Int×Int×Int×Int×Bool)->Option (Int×Int×Int×Int×Bool))(L:Nat)(a0:(List (Int×(Int×(Int×(Int×Bool)))))):dW prog (sZ m57) (bB L) f35 (a35.enc a0)=
 bif (((decide ((0:Int)<=(Nat.cast (List.length a0):Int)))&&(decide ((Nat.cast (List.length a0):Int)<=(Nat.cast (List.length a0):Int))))&&(decide ((Nat.cast (List.length a0):Int)<=(1000000000:Int))))then cS prog (sZ m57) L f35 0 [1,1,0,1,0,0] (dC (aZ prog f35) (cK prog (sZ m57) L f35 [1,1,0,1] (aZ prog f35)).n (cK prog (sZ m57) L f35 [1,1,0,1] (aZ prog f35)).x) L (S35_0 a0 (List.replicate (Int.toNat (Nat.cast (List.length a0):Int)) ((0:Int),((0:Int),((0:Int),((0:Int),Bool.false))))) (0:Int))
 else none:=by kernel_rfl
theorem aKT (m57:(Int×Int×Int×Int×Bool)->Option (Int×Int×Int×Int×Bool))(L:Nat)(a0:(List (Int×(Int×(Int×(Int×Bool))))))(k:St cxT.ty->Option (V cxT.ty))(xk:Nat->St cxT.ty->Option (V cxT.ty))(g:St cxT.ty->Option (V cxT.ty))(v0_3:(List (Int×(Int×(Int×(Int×Bool))))))(v0_4:Int):eW prog (sZ m57) L f35 0 [1,1,0,1,0,0] (dC (aZ prog f35) k xk) g (S35_0 a0 v0_3 v0_4)=
 bif (decide (v0_4 < (Nat.cast (List.length a0):Int)))then bif ((decide ((0:Int)<=v0_4))&&(decide (v0_4 < (Nat.cast (List.length a0):Int))))then cV (m57 ((List.getD a0 (Int.toNat v0_4) ((0:Int),((0:Int),((0:Int),((0:Int),Bool.false))))).1,((List.getD a0 (Int.toNat v0_4) ((0:Int),((0:Int),((0:Int),((0:Int),Bool.false))))).2.1,((List.getD a0 (Int.toNat v0_4) ((0:Int),((0:Int),((0:Int),((0:Int),Bool.false))))).2.2.1,((List.getD a0 (Int.toNat v0_4) ((0:Int),((0:Int),((0:Int),((0:Int),Bool.false))))).2.2.2.1,(List.getD a0 (Int.toNat v0_4) ((0:Int),((0:Int),((0:Int),((0:Int),Bool.false))))).2.2.2.2))))) ((0:Int),(0:Int),(0:Int),(0:Int),false) λ(q3:(Int×Int×Int×Int×Bool))=>bif ((decide ((0:Int)<=v0_4))&&(decide (v0_4 < (Nat.cast (List.length v0_3):Int))))then g (S35_0 a0 (List.set v0_3 (Int.toNat v0_4) (q3.1,(q3.2.1,(q3.2.2.1,(q3.2.2.2.1,q3.2.2.2.2))))) (wrap Go.IntKind.i64 (v0_4+(1:Int))))
    else none
  else none
 else k (X35_0 a0 v0_3):=by kernel_rfl
theorem aJx (m57:(Int×Int×Int×Int×Bool)->Option (Int×Int×Int×Int×Bool))(L:Nat)(a0:(List (Int×(Int×(Int×(Int×Bool))))))(w0_3:(List (Int×(Int×(Int×(Int×Bool)))))):(cK prog (sZ m57) L f35 [1,1,0,1] (aZ prog f35)).n (X35_0 a0 w0_3)=
 some (n35 w0_3):=by kernel_rfl
def uR (m57:(Int×Int×Int×Int×Bool)->Option (Int×Int×Int×Int×Bool))(L:Nat)(a0:(List (Int×(Int×(Int×(Int×Bool)))))):Nat->(List (Int×(Int×(Int×(Int×Bool)))))->Int->((List (Int×(Int×(Int×(Int×Bool)))))->Option (List (Int×(Int×(Int×(Int×Bool))))))->Option (List (Int×(Int×(Int×(Int×Bool)))))
 | 0,_,_,_=>none
 | n+1,v0_3,v0_4,k=>
  bif (decide (v0_4 < (Nat.cast (List.length a0):Int)))then bif ((decide ((0:Int)<=v0_4))&&(decide (v0_4 < (Nat.cast (List.length a0):Int))))then cV (m57 ((List.getD a0 (Int.toNat v0_4) ((0:Int),((0:Int),((0:Int),((0:Int),Bool.false))))).1,((List.getD a0 (Int.toNat v0_4) ((0:Int),((0:Int),((0:Int),((0:Int),Bool.false))))).2.1,((List.getD a0 (Int.toNat v0_4) ((0:Int),((0:Int),((0:Int),((0:Int),Bool.false))))).2.2.1,((List.getD a0 (Int.toNat v0_4) ((0:Int),((0:Int),((0:Int),((0:Int),Bool.false))))).2.2.2.1,(List.getD a0 (Int.toNat v0_4) ((0:Int),((0:Int),((0:Int),((0:Int),Bool.false))))).2.2.2.2))))) ((0:Int),(0:Int),(0:Int),(0:Int),false) λ(q4:(Int×Int×Int×Int×Bool))=>bif ((decide ((0:Int)<=v0_4))&&(decide (v0_4 < (Nat.cast (List.length v0_3):Int))))then uR m57 L a0 n (List.set v0_3 (Int.toNat v0_4) (q4.1,(q4.2.1,(q4.2.2.1,(q4.2.2.2.1,q4.2.2.2.2))))) (wrap Go.IntKind.i64 (v0_4+(1:Int))) k
     else none
   else none
  else k v0_3
theorem aGN (m57:(Int×Int×Int×Int×Bool)->Option (Int×Int×Int×Int×Bool))(L:Nat)(a0:(List (Int×(Int×(Int×(Int×Bool))))))(k:St cxT.ty->Option (V cxT.ty))(xk:Nat->St cxT.ty->Option (V cxT.ty))(k':(List (Int×(Int×(Int×(Int×Bool)))))->Option (List (Int×(Int×(Int×(Int×Bool))))))(hk:∀ (w0_3:(List (Int×(Int×(Int×(Int×Bool)))))),k (X35_0 a0 w0_3)=(k' w0_3).map n35):∀ (n:Nat) (v0_3:(List (Int×(Int×(Int×(Int×Bool)))))) (v0_4:Int),cS prog (sZ m57) L f35 0 [1,1,0,1,0,0] (dC (aZ prog f35) k xk) n (S35_0 a0 v0_3 v0_4)=(uR m57 L a0 n v0_3 v0_4 k').map n35
 | 0,_,_=>rfl
 | n+1,v0_3,v0_4=>by
  rw[cU,aKT];have ih:=aGN m57 L a0 k xk k' hk n;simp only[uR,aS,aQ,aR,aD,aH,ih,hk]
def g35 (m57:(Int×Int×Int×Int×Bool)->Option (Int×Int×Int×Int×Bool))(L:Nat)(a0:(List (Int×(Int×(Int×(Int×Bool)))))):Option (List (Int×(Int×(Int×(Int×Bool))))):=
 bif (((decide ((0:Int)<=(Nat.cast (List.length a0):Int)))&&(decide ((Nat.cast (List.length a0):Int)<=(Nat.cast (List.length a0):Int))))&&(decide ((Nat.cast (List.length a0):Int)<=(1000000000:Int))))then uR m57 L a0 L (List.replicate (Int.toNat (Nat.cast (List.length a0):Int)) ((0:Int),((0:Int),((0:Int),((0:Int),Bool.false))))) (0:Int) (λ(w0_3:(List (Int×(Int×(Int×(Int×Bool))))))=>some w0_3)
 else none
theorem e35 (m57:(Int×Int×Int×Int×Bool)->Option (Int×Int×Int×Int×Bool))(L:Nat)(a0:(List (Int×(Int×(Int×(Int×Bool)))))):dW prog (sZ m57) (bB L) f35 (a35.enc a0)=(g35 m57 L a0).map n35:=by
 let K'0:(List (Int×(Int×(Int×(Int×Bool)))))->Option (List (Int×(Int×(Int×(Int×Bool))))):=(λ(w0_3:(List (Int×(Int×(Int×(Int×Bool))))))=>some w0_3)
 have hin0:∀ (v0_3:(List (Int×(Int×(Int×(Int×Bool)))))) (v0_4:Int),cS prog (sZ m57) L f35 0 [1,1,0,1,0,0] (dC (aZ prog f35) (cK prog (sZ m57) L f35 [1,1,0,1] (aZ prog f35)).n (cK prog (sZ m57) L f35 [1,1,0,1] (aZ prog f35)).x) L (S35_0 a0 v0_3 v0_4)=(uR m57 L a0 L v0_3 v0_4 K'0).map n35:=λv0_3 v0_4=>aGN m57 L a0 _ _ K'0 (λw0_3=>by rw[aJx];simp only[K'0,aS,aQ,aR,aD,aH]) L v0_3 v0_4
 rw[i35];simp only[g35,aS,aQ,aR,aD,aH,hin0,K'0]
theorem s35 (m57:(Int×Int×Int×Int×Bool)->Option (Int×Int×Int×Int×Bool))(h57:Sat prog cxT 57 (c57 m57))(m:(List (Int×(Int×(Int×(Int×Bool)))))->Option (List (Int×(Int×(Int×(Int×Bool))))))(hm:∀ (x:(List (Int×(Int×(Int×(Int×Bool)))))) t,m x=some t->∃ L,g35 m57 L x=some t):Sat prog cxT 35 (c35 m):=
 dA cA bP (by rfl) (fn:=f35) rfl a35 n35 aMg m (sZ m57) (bA h57 bO) bH (λL x=>g35 m57 L x) (λL x=>e35 m57 L x) hm aO0
def sY (lG:(Int×Int×Int×(List Int))->Option (Int×Int×Int×(List Int))):Env cxT:={ Kc:=dN [(58,c58 lG)],Kw:=dP [],lv:=λi=>if i=0 then[(0,[some 91]),(3,[some 79]),(4,[])]else[],xv:=λi=>if i=0 then some [(3,[some 79])]else none }
def S36_0 (a0:(List (Int×(Int×(Int×(List Int))))))(v0_3:(List (Int×(Int×(Int×(List Int))))))(v0_4:Int):St cxT.ty:={ slots:=[(.inl (.inl (ls { own:=0,nm:=0,e:=91,o:=false,xs:=a0 }))),aK,aK,(.inl (.inl (ls { own:=1,nm:=192,e:=79,o:=true,xs:=v0_3 }))),(.inl (.inl (lv (.int .i64 v0_4))))]++List.replicate 18 aK,D:=[],F:=[],ctr:=1 }
def X36_0 (a0:(List (Int×(Int×(Int×(List Int))))))(w0_3:(List (Int×(Int×(Int×(List Int)))))):St cxT.ty:={ slots:=[aK,aK,aK,(.inl (.inl (ls { own:=1,nm:=192,e:=79,o:=true,xs:=w0_3 })))]++List.replicate 19 aK,D:=[],F:=[],ctr:=1 }
theorem i36 (lG:(Int×Int×Int×(List Int))->Option (Int×Int×Int×(List Int)))(L:Nat)(a0:(List (Int×(Int×(Int×(List Int)))))):dW prog (sY lG) (bB L) f36 (a36.enc a0)=
 bif (((decide ((0:Int)<=(Nat.cast (List.length a0):Int)))&&(decide ((Nat.cast (List.length a0):Int)<=(Nat.cast (List.length a0):Int))))&&(decide ((Nat.cast (List.length a0):Int)<=(1000000000:Int))))then cS prog (sY lG) L f36 0 [1,1,0,1,0,0] (dC (aZ prog f36) (cK prog (sY lG) L f36 [1,1,0,1] (aZ prog f36)).n (cK prog (sY lG) L f36 [1,1,0,1] (aZ prog f36)).x) L (S36_0 a0 (List.replicate (Int.toNat (Nat.cast (List.length a0):Int)) ((0:Int),((0:Int),((0:Int),([]:List (Int)))))) (0:Int))
 else none:=by kernel_rfl
theorem aKS (lG:(Int×Int×Int×(List Int))->Option (Int×Int×Int×(List Int)))(L:Nat)(a0:(List (Int×(Int×(Int×(List Int))))))(k:St cxT.ty->Option (V cxT.ty))(xk:Nat->St cxT.ty->Option (V cxT.ty))(g:St cxT.ty->Option (V cxT.ty))(v0_3:(List (Int×(Int×(Int×(List Int))))))(v0_4:Int):eW prog (sY lG) L f36 0 [1,1,0,1,0,0] (dC (aZ prog f36) k xk) g (S36_0 a0 v0_3 v0_4)=
 bif (decide (v0_4 < (Nat.cast (List.length a0):Int)))then bif ((decide ((0:Int)<=v0_4))&&(decide (v0_4 < (Nat.cast (List.length a0):Int))))then cV (lG ((List.getD a0 (Int.toNat v0_4) ((0:Int),((0:Int),((0:Int),([]:List (Int)))))).1,((List.getD a0 (Int.toNat v0_4) ((0:Int),((0:Int),((0:Int),([]:List (Int)))))).2.1,((List.getD a0 (Int.toNat v0_4) ((0:Int),((0:Int),((0:Int),([]:List (Int)))))).2.2.1,(List.getD a0 (Int.toNat v0_4) ((0:Int),((0:Int),((0:Int),([]:List (Int)))))).2.2.2)))) ((0:Int),(0:Int),(0:Int),[]) λ(q3:(Int×Int×Int×(List Int)))=>bif ((decide ((0:Int)<=v0_4))&&(decide (v0_4 < (Nat.cast (List.length v0_3):Int))))then g (S36_0 a0 (List.set v0_3 (Int.toNat v0_4) (q3.1,(q3.2.1,(q3.2.2.1,q3.2.2.2)))) (wrap Go.IntKind.i64 (v0_4+(1:Int))))
    else none
  else none
 else k (X36_0 a0 v0_3):=by kernel_rfl
theorem aJw (lG:(Int×Int×Int×(List Int))->Option (Int×Int×Int×(List Int)))(L:Nat)(a0:(List (Int×(Int×(Int×(List Int))))))(w0_3:(List (Int×(Int×(Int×(List Int)))))):(cK prog (sY lG) L f36 [1,1,0,1] (aZ prog f36)).n (X36_0 a0 w0_3)=
 some (n36 w0_3):=by kernel_rfl
def uQ (lG:(Int×Int×Int×(List Int))->Option (Int×Int×Int×(List Int)))(L:Nat)(a0:(List (Int×(Int×(Int×(List Int)))))):Nat->(List (Int×(Int×(Int×(List Int)))))->Int->((List (Int×(Int×(Int×(List Int)))))->Option (List (Int×(Int×(Int×(List Int))))))->Option (List (Int×(Int×(Int×(List Int)))))
 | 0,_,_,_=>none
 | n+1,v0_3,v0_4,k=>
  bif (decide (v0_4 < (Nat.cast (List.length a0):Int)))then bif ((decide ((0:Int)<=v0_4))&&(decide (v0_4 < (Nat.cast (List.length a0):Int))))then cV (lG ((List.getD a0 (Int.toNat v0_4) ((0:Int),((0:Int),((0:Int),([]:List (Int)))))).1,((List.getD a0 (Int.toNat v0_4) ((0:Int),((0:Int),((0:Int),([]:List (Int)))))).2.1,((List.getD a0 (Int.toNat v0_4) ((0:Int),((0:Int),((0:Int),([]:List (Int)))))).2.2.1,(List.getD a0 (Int.toNat v0_4) ((0:Int),((0:Int),((0:Int),([]:List (Int)))))).2.2.2)))) ((0:Int),(0:Int),(0:Int),[]) λ(q4:(Int×Int×Int×(List Int)))=>bif ((decide ((0:Int)<=v0_4))&&(decide (v0_4 < (Nat.cast (List.length v0_3):Int))))then uQ lG L a0 n (List.set v0_3 (Int.toNat v0_4) (q4.1,(q4.2.1,(q4.2.2.1,q4.2.2.2)))) (wrap Go.IntKind.i64 (v0_4+(1:Int))) k
     else none
   else none
  else k v0_3
theorem aGM (lG:(Int×Int×Int×(List Int))->Option (Int×Int×Int×(List Int)))(L:Nat)(a0:(List (Int×(Int×(Int×(List Int))))))(k:St cxT.ty->Option (V cxT.ty))(xk:Nat->St cxT.ty->Option (V cxT.ty))(k':(List (Int×(Int×(Int×(List Int)))))->Option (List (Int×(Int×(Int×(List Int))))))(hk:∀ (w0_3:(List (Int×(Int×(Int×(List Int)))))),k (X36_0 a0 w0_3)=(k' w0_3).map n36):∀ (n:Nat) (v0_3:(List (Int×(Int×(Int×(List Int)))))) (v0_4:Int),cS prog (sY lG) L f36 0 [1,1,0,1,0,0] (dC (aZ prog f36) k xk) n (S36_0 a0 v0_3 v0_4)=(uQ lG L a0 n v0_3 v0_4 k').map n36
 | 0,_,_=>rfl
 | n+1,v0_3,v0_4=>by
  rw[cU,aKS];have ih:=aGM lG L a0 k xk k' hk n;simp only[uQ,aS,aQ,aR,aD,aH,ih,hk]
def g36 (lG:(Int×Int×Int×(List Int))->Option (Int×Int×Int×(List Int)))(L:Nat)(a0:(List (Int×(Int×(Int×(List Int)))))):Option (List (Int×(Int×(Int×(List Int))))):=
 bif (((decide ((0:Int)<=(Nat.cast (List.length a0):Int)))&&(decide ((Nat.cast (List.length a0):Int)<=(Nat.cast (List.length a0):Int))))&&(decide ((Nat.cast (List.length a0):Int)<=(1000000000:Int))))then uQ lG L a0 L (List.replicate (Int.toNat (Nat.cast (List.length a0):Int)) ((0:Int),((0:Int),((0:Int),([]:List (Int)))))) (0:Int) (λ(w0_3:(List (Int×(Int×(Int×(List Int))))))=>some w0_3)
 else none
theorem e36 (lG:(Int×Int×Int×(List Int))->Option (Int×Int×Int×(List Int)))(L:Nat)(a0:(List (Int×(Int×(Int×(List Int)))))):dW prog (sY lG) (bB L) f36 (a36.enc a0)=(g36 lG L a0).map n36:=by
 let K'0:(List (Int×(Int×(Int×(List Int)))))->Option (List (Int×(Int×(Int×(List Int))))):=(λ(w0_3:(List (Int×(Int×(Int×(List Int))))))=>some w0_3)
 have hin0:∀ (v0_3:(List (Int×(Int×(Int×(List Int)))))) (v0_4:Int),cS prog (sY lG) L f36 0 [1,1,0,1,0,0] (dC (aZ prog f36) (cK prog (sY lG) L f36 [1,1,0,1] (aZ prog f36)).n (cK prog (sY lG) L f36 [1,1,0,1] (aZ prog f36)).x) L (S36_0 a0 v0_3 v0_4)=(uQ lG L a0 L v0_3 v0_4 K'0).map n36:=λv0_3 v0_4=>aGM lG L a0 _ _ K'0 (λw0_3=>by rw[aJw];simp only[K'0,aS,aQ,aR,aD,aH]) L v0_3 v0_4
 rw[i36];simp only[g36,aS,aQ,aR,aD,aH,hin0,K'0]
theorem s36 (lG:(Int×Int×Int×(List Int))->Option (Int×Int×Int×(List Int)))(h58:Sat prog cxT 58 (c58 lG))(m:(List (Int×(Int×(Int×(List Int)))))->Option (List (Int×(Int×(Int×(List Int))))))(hm:∀ (x:(List (Int×(Int×(Int×(List Int)))))) t,m x=some t->∃ L,g36 lG L x=some t):Sat prog cxT 36 (c36 m):=
 dA cA bP (by rfl) (fn:=f36) rfl a36 n36 aMf m (sY lG) (bA h58 bO) bH (λL x=>g36 lG L x) (λL x=>e36 lG L x) hm aOZ
def aIg (wZ:((List (Int×(Int×(Int×(Int×Bool)))))×Int)->Option Int)(wY:((List (Int×(Int×(Int×(List Int)))))×Int)->Option Int):Env cxT:={ Kc:=dN [(31,c31 wZ),(32,c32 wY)],Kw:=dP [],lv:=λi=>[],xv:=λi=>none }
theorem i16 (wZ:((List (Int×(Int×(Int×(Int×Bool)))))×Int)->Option Int)(wY:((List (Int×(Int×(Int×(List Int)))))×Int)->Option Int)(L:Nat)(a0_0:Int)(a0_1:(List (Int×(Int×(Int×(Int×Bool))))))(a0_2:(List (Int×(Int×(Int×(List Int))))))(a1:Int):dW prog (aIg wZ wY) (bB L) f16 (a16.enc ((a0_0,a0_1,a0_2),a1))=
 cV (wZ (a0_1,a1)) (0:Int) λ(q1:Int)=>bif (decide (q1 < (0:Int)))then some (n16 (-(1:Int)))
  else cV (wY (a0_2,q1)) (0:Int) λ(q2:Int)=>bif (decide (q2 < (0:Int)))then some (n16 (-(1:Int)))
   else some (n16 q2):=by kernel_rfl
def g16 (wZ:((List (Int×(Int×(Int×(Int×Bool)))))×Int)->Option Int)(wY:((List (Int×(Int×(Int×(List Int)))))×Int)->Option Int)(L:Nat)(a0_0:Int)(a0_1:(List (Int×(Int×(Int×(Int×Bool))))))(a0_2:(List (Int×(Int×(Int×(List Int))))))(a1:Int):Option Int:=
 cV (wZ (a0_1,a1)) (0:Int) λ(q1:Int)=>bif (decide (q1 < (0:Int)))then some (-(1:Int))
  else cV (wY (a0_2,q1)) (0:Int) λ(q2:Int)=>bif (decide (q2 < (0:Int)))then some (-(1:Int))
   else some q2
theorem e16 (wZ:((List (Int×(Int×(Int×(Int×Bool)))))×Int)->Option Int)(wY:((List (Int×(Int×(Int×(List Int)))))×Int)->Option Int)(L:Nat)(a0_0:Int)(a0_1:(List (Int×(Int×(Int×(Int×Bool))))))(a0_2:(List (Int×(Int×(Int×(List Int))))))(a1:Int):dW prog (aIg wZ wY) (bB L) f16 (a16.enc ((a0_0,a0_1,a0_2),a1))=(g16 wZ wY L a0_0 a0_1 a0_2 a1).map n16:=by
 rw[i16];simp only[g16,aS,aQ,aR,aD,aH]
theorem s16 (wZ:((List (Int×(Int×(Int×(Int×Bool)))))×Int)->Option Int)(wY:((List (Int×(Int×(Int×(List Int)))))×Int)->Option Int)(h31:Sat prog cxT 31 (c31 wZ))(h32:Sat prog cxT 32 (c32 wY))(m:((Int×(List (Int×(Int×(Int×(Int×Bool)))))×(List (Int×(Int×(Int×(List Int))))))×Int)->Option Int)(hm:∀ (x:((Int×(List (Int×(Int×(Int×(Int×Bool)))))×(List (Int×(Int×(Int×(List Int))))))×Int)) t,m x=some t->∃ L,g16 wZ wY L x.1.1 x.1.2.1 x.1.2.2 x.2=some t):Sat prog cxT 16 (c16 m):=
 dA cA bP (by rfl) (fn:=f16) rfl a16 n16 aMu m (aIg wZ wY) (bA h31 (bA h32 bO)) bH (λL x=>g16 wZ wY L x.1.1 x.1.2.1 x.1.2.2 x.2) (λL x=>e16 wZ wY L x.1.1 x.1.2.1 x.1.2.2 x.2) hm aPe
def aIe (wX:(List (Int×(Int×(Int×(Int×Bool)))))->Option (List (Int×(Int×(Int×(Int×Bool))))))(wW:(List (Int×(Int×(Int×(List Int)))))->Option (List (Int×(Int×(Int×(List Int)))))):Env cxT:={ Kc:=dN [(35,c35 wX),(36,c36 wW)],Kw:=dP [],lv:=λi=>[],xv:=λi=>none }
theorem i19 (wX:(List (Int×(Int×(Int×(Int×Bool)))))->Option (List (Int×(Int×(Int×(Int×Bool))))))(wW:(List (Int×(Int×(Int×(List Int)))))->Option (List (Int×(Int×(Int×(List Int))))))(L:Nat)(a0_0:Int)(a0_1:(List (Int×(Int×(Int×(Int×Bool))))))(a0_2:(List (Int×(Int×(Int×(List Int)))))):dW prog (aIe wX wW) (bB L) f19 (a19.enc (a0_0,a0_1,a0_2))=
 cV (wX a0_1) [] λ(q1:(List (Int×(Int×(Int×(Int×Bool))))))=>cV (wW a0_2) [] λ(q2:(List (Int×(Int×(Int×(List Int))))))=>some (n19 (a0_0,q1,q2)):=by kernel_rfl
def g19 (wX:(List (Int×(Int×(Int×(Int×Bool)))))->Option (List (Int×(Int×(Int×(Int×Bool))))))(wW:(List (Int×(Int×(Int×(List Int)))))->Option (List (Int×(Int×(Int×(List Int))))))(L:Nat)(a0_0:Int)(a0_1:(List (Int×(Int×(Int×(Int×Bool))))))(a0_2:(List (Int×(Int×(Int×(List Int)))))):Option (Int×(List (Int×(Int×(Int×(Int×Bool)))))×(List (Int×(Int×(Int×(List Int)))))):=
 cV (wX a0_1) [] λ(q1:(List (Int×(Int×(Int×(Int×Bool))))))=>cV (wW a0_2) [] λ(q2:(List (Int×(Int×(Int×(List Int))))))=>some (a0_0,q1,q2)
theorem e19 (wX:(List (Int×(Int×(Int×(Int×Bool)))))->Option (List (Int×(Int×(Int×(Int×Bool))))))(wW:(List (Int×(Int×(Int×(List Int)))))->Option (List (Int×(Int×(Int×(List Int))))))(L:Nat)(a0_0:Int)(a0_1:(List (Int×(Int×(Int×(Int×Bool))))))(a0_2:(List (Int×(Int×(Int×(List Int)))))):dW prog (aIe wX wW) (bB L) f19 (a19.enc (a0_0,a0_1,a0_2))=(g19 wX wW L a0_0 a0_1 a0_2).map n19:=by
 rw[i19];simp only[g19,aS,aQ,aR,aD,aH]
theorem s19 (wX:(List (Int×(Int×(Int×(Int×Bool)))))->Option (List (Int×(Int×(Int×(Int×Bool))))))(wW:(List (Int×(Int×(Int×(List Int)))))->Option (List (Int×(Int×(Int×(List Int))))))(h35:Sat prog cxT 35 (c35 wX))(h36:Sat prog cxT 36 (c36 wW))(m:(Int×(List (Int×(Int×(Int×(Int×Bool)))))×(List (Int×(Int×(Int×(List Int))))))->Option (Int×(List (Int×(Int×(Int×(Int×Bool)))))×(List (Int×(Int×(Int×(List Int)))))))(hm:∀ (x:(Int×(List (Int×(Int×(Int×(Int×Bool)))))×(List (Int×(Int×(Int×(List Int))))))) t,m x=some t->∃ L,g19 wX wW L x.1 x.2.1 x.2.2=some t):Sat prog cxT 19 (c19 m):=
 dA cA bP (by rfl) (fn:=f19) rfl a19 n19 aMr m (aIe wX wW) (bA h35 (bA h36 bO)) bH (λL x=>g19 wX wW L x.1 x.2.1 x.2.2) (λL x=>e19 wX wW L x.1 x.2.1 x.2.2) hm aPb
def aH9:Env cxT:={ Kc:=dN [],Kw:=dP [],lv:=λi=>[],xv:=λi=>none }
theorem i37 (L:Nat)(a0_0:Int)(a0_1:Int)(a0_2:Int):dW prog aH9 (bB L) f37 (a37.enc (a0_0,a0_1,a0_2))=
 some (n37 (a0_0,a0_1,a0_2)):=by kernel_rfl
def g37 (L:Nat)(a0_0:Int)(a0_1:Int)(a0_2:Int):Option (Int×Int×Int):=
 some (a0_0,a0_1,a0_2)
theorem e37 (L:Nat)(a0_0:Int)(a0_1:Int)(a0_2:Int):dW prog aH9 (bB L) f37 (a37.enc (a0_0,a0_1,a0_2))=(g37 L a0_0 a0_1 a0_2).map n37:=by
 rw[i37];simp only[g37,aS,aQ,aR,aD,aH]
theorem s37 (m:(Int×Int×Int)->Option (Int×Int×Int))(hm:∀ (x:(Int×Int×Int)) t,m x=some t->∃ L,g37 L x.1 x.2.1 x.2.2=some t):Sat prog cxT 37 (c37 m):=
 dA cA bP (by rfl) (fn:=f37) rfl a37 n37 aMe m aH9 bO bH (λL x=>g37 L x.1 x.2.1 x.2.2) (λL x=>e37 L x.1 x.2.1 x.2.2) hm aOY
def tD (m37:(Int×Int×Int)->Option (Int×Int×Int)):Env cxT:={ Kc:=dN [(37,c37 m37)],Kw:=dP [],lv:=λi=>if i=0 then[(0,[some 72]),(3,[some 55]),(4,[])]else[],xv:=λi=>if i=0 then some [(3,[some 55])]else none }
def S20_0 (a0:(List (Int×(Int×Int))))(v0_3:(List (Int×(Int×Int))))(v0_4:Int):St cxT.ty:={ slots:=[(.inl (.inl (ls { own:=0,nm:=0,e:=72,o:=false,xs:=a0 }))),aK,aK,(.inl (.inl (ls { own:=1,nm:=192,e:=55,o:=true,xs:=v0_3 }))),(.inl (.inl (lv (.int .i64 v0_4))))]++List.replicate 18 aK,D:=[],F:=[],ctr:=1 }
def X20_0 (a0:(List (Int×(Int×Int))))(w0_3:(List (Int×(Int×Int)))):St cxT.ty:={ slots:=[aK,aK,aK,(.inl (.inl (ls { own:=1,nm:=192,e:=55,o:=true,xs:=w0_3 })))]++List.replicate 19 aK,D:=[],F:=[],ctr:=1 }
theorem i20 (m37:(Int×Int×Int)->Option (Int×Int×Int))(L:Nat)(a0:(List (Int×(Int×Int)))):dW prog (tD m37) (bB L) f20 (a20.enc a0)=
 bif (((decide ((0:Int)<=(Nat.cast (List.length a0):Int)))&&(decide ((Nat.cast (List.length a0):Int)<=(Nat.cast (List.length a0):Int))))&&(decide ((Nat.cast (List.length a0):Int)<=(1000000000:Int))))then cS prog (tD m37) L f20 0 [1,1,0,1,0,0] (dC (aZ prog f20) (cK prog (tD m37) L f20 [1,1,0,1] (aZ prog f20)).n (cK prog (tD m37) L f20 [1,1,0,1] (aZ prog f20)).x) L (S20_0 a0 (List.replicate (Int.toNat (Nat.cast (List.length a0):Int)) ((0:Int),((0:Int),(0:Int)))) (0:Int))
 else none:=by kernel_rfl
theorem aK1 (m37:(Int×Int×Int)->Option (Int×Int×Int))(L:Nat)(a0:(List (Int×(Int×Int))))(k:St cxT.ty->Option (V cxT.ty))(xk:Nat->St cxT.ty->Option (V cxT.ty))(g:St cxT.ty->Option (V cxT.ty))(v0_3:(List (Int×(Int×Int))))(v0_4:Int):eW prog (tD m37) L f20 0 [1,1,0,1,0,0] (dC (aZ prog f20) k xk) g (S20_0 a0 v0_3 v0_4)=
 bif (decide (v0_4 < (Nat.cast (List.length a0):Int)))then bif ((decide ((0:Int)<=v0_4))&&(decide (v0_4 < (Nat.cast (List.length a0):Int))))then cV (m37 ((List.getD a0 (Int.toNat v0_4) ((0:Int),((0:Int),(0:Int)))).1,((List.getD a0 (Int.toNat v0_4) ((0:Int),((0:Int),(0:Int)))).2.1,(List.getD a0 (Int.toNat v0_4) ((0:Int),((0:Int),(0:Int)))).2.2))) ((0:Int),(0:Int),(0:Int)) λ(q3:(Int×Int×Int))=>bif ((decide ((0:Int)<=v0_4))&&(decide (v0_4 < (Nat.cast (List.length v0_3):Int))))then g (S20_0 a0 (List.set v0_3 (Int.toNat v0_4) (q3.1,(q3.2.1,q3.2.2))) (wrap Go.IntKind.i64 (v0_4+(1:Int))))
    else none
  else none
 else k (X20_0 a0 v0_3):=by kernel_rfl
theorem aJF (m37:(Int×Int×Int)->Option (Int×Int×Int))(L:Nat)(a0:(List (Int×(Int×Int))))(w0_3:(List (Int×(Int×Int)))):(cK prog (tD m37) L f20 [1,1,0,1] (aZ prog f20)).n (X20_0 a0 w0_3)=
 some (n20 w0_3):=by kernel_rfl
def uU (m37:(Int×Int×Int)->Option (Int×Int×Int))(L:Nat)(a0:(List (Int×(Int×Int)))):Nat->(List (Int×(Int×Int)))->Int->((List (Int×(Int×Int)))->Option (List (Int×(Int×Int))))->Option (List (Int×(Int×Int)))
 | 0,_,_,_=>none
 | n+1,v0_3,v0_4,k=>
  bif (decide (v0_4 < (Nat.cast (List.length a0):Int)))then bif ((decide ((0:Int)<=v0_4))&&(decide (v0_4 < (Nat.cast (List.length a0):Int))))then cV (m37 ((List.getD a0 (Int.toNat v0_4) ((0:Int),((0:Int),(0:Int)))).1,((List.getD a0 (Int.toNat v0_4) ((0:Int),((0:Int),(0:Int)))).2.1,(List.getD a0 (Int.toNat v0_4) ((0:Int),((0:Int),(0:Int)))).2.2))) ((0:Int),(0:Int),(0:Int)) λ(q4:(Int×Int×Int))=>bif ((decide ((0:Int)<=v0_4))&&(decide (v0_4 < (Nat.cast (List.length v0_3):Int))))then uU m37 L a0 n (List.set v0_3 (Int.toNat v0_4) (q4.1,(q4.2.1,q4.2.2))) (wrap Go.IntKind.i64 (v0_4+(1:Int))) k
     else none
   else none
  else k v0_3
theorem aGV (m37:(Int×Int×Int)->Option (Int×Int×Int))(L:Nat)(a0:(List (Int×(Int×Int))))(k:St cxT.ty->Option (V cxT.ty))(xk:Nat->St cxT.ty->Option (V cxT.ty))(k':(List (Int×(Int×Int)))->Option (List (Int×(Int×Int))))(hk:∀ (w0_3:(List (Int×(Int×Int)))),k (X20_0 a0 w0_3)=(k' w0_3).map n20):∀ (n:Nat) (v0_3:(List (Int×(Int×Int)))) (v0_4:Int),cS prog (tD m37) L f20 0 [1,1,0,1,0,0] (dC (aZ prog f20) k xk) n (S20_0 a0 v0_3 v0_4)=(uU m37 L a0 n v0_3 v0_4 k').map n20
 | 0,_,_=>rfl
 | n+1,v0_3,v0_4=>by
  rw[cU,aK1];have ih:=aGV m37 L a0 k xk k' hk n;simp only[uU,aS,aQ,aR,aD,aH,ih,hk]
def g20 (m37:(Int×Int×Int)->Option (Int×Int×Int))(L:Nat)(a0:(List (Int×(Int×Int)))):Option (List (Int×(Int×Int))):=
 bif (((decide ((0:Int)<=(Nat.cast (List.length a0):Int)))&&(decide ((Nat.cast (List.length a0):Int)<=(Nat.cast (List.length a0):Int))))&&(decide ((Nat.cast (List.length a0):Int)<=(1000000000:Int))))then uU m37 L a0 L (List.replicate (Int.toNat (Nat.cast (List.length a0):Int)) ((0:Int),((0:Int),(0:Int)))) (0:Int) (λ(w0_3:(List (Int×(Int×Int))))=>some w0_3)
 else none
theorem e20 (m37:(Int×Int×Int)->Option (Int×Int×Int))(L:Nat)(a0:(List (Int×(Int×Int)))):dW prog (tD m37) (bB L) f20 (a20.enc a0)=(g20 m37 L a0).map n20:=by
 let K'0:(List (Int×(Int×Int)))->Option (List (Int×(Int×Int))):=(λ(w0_3:(List (Int×(Int×Int))))=>some w0_3)
 have hin0:∀ (v0_3:(List (Int×(Int×Int)))) (v0_4:Int),cS prog (tD m37) L f20 0 [1,1,0,1,0,0] (dC (aZ prog f20) (cK prog (tD m37) L f20 [1,1,0,1] (aZ prog f20)).n (cK prog (tD m37) L f20 [1,1,0,1] (aZ prog f20)).x) L (S20_0 a0 v0_3 v0_4)=(uU m37 L a0 L v0_3 v0_4 K'0).map n20:=λv0_3 v0_4=>aGV m37 L a0 _ _ K'0 (λw0_3=>by rw[aJF];simp only[K'0,aS,aQ,aR,aD,aH]) L v0_3 v0_4
 rw[i20];simp only[g20,aS,aQ,aR,aD,aH,hin0,K'0]
theorem s20 (m37:(Int×Int×Int)->Option (Int×Int×Int))(h37:Sat prog cxT 37 (c37 m37))(m:(List (Int×(Int×Int)))->Option (List (Int×(Int×Int))))(hm:∀ (x:(List (Int×(Int×Int)))) t,m x=some t->∃ L,g20 m37 L x=some t):Sat prog cxT 20 (c20 m):=
 dA cA bP (by rfl) (fn:=f20) rfl a20 n20 aMq m (tD m37) (bA h37 bO) bH (λL x=>g20 m37 L x) (λL x=>e20 m37 L x) hm aPa
def aH5 (m66:(Int×Int)->Option Int)(yQ:(List Int)->Option Int):Env cxT:={ Kc:=dN [(66,c66 m66),(65,c65 yQ)],Kw:=dP [],lv:=λi=>[],xv:=λi=>none }
theorem i41 (m66:(Int×Int)->Option Int)(yQ:(List Int)->Option Int)(L:Nat)(a0_0:Int)(a0_1:Int)(a0_2:Int)(a0_3:(List Int))(a1_0:Int)(a1_1:Int)(a1_2:Int)(a1_3:(List Int)):dW prog (aH5 m66 yQ) (bB L) f41 (a41.enc ((a0_0,a0_1,a0_2,a0_3),(a1_0,a1_1,a1_2,a1_3)))=
 cV (m66 (a0_0,a1_0)) (0:Int) λ(q1:Int)=>cV (m66 (a0_1,a1_1)) (0:Int) λ(q2:Int)=>cV (m66 (a0_2,a1_2)) (0:Int) λ(q3:Int)=>cV (yQ (List.cons q1 (List.cons q2 (List.cons q3 ([]:List (Int)))))) (0:Int) λ(q4:Int)=>some (n41 q4):=by kernel_rfl
def g41 (m66:(Int×Int)->Option Int)(yQ:(List Int)->Option Int)(L:Nat)(a0_0:Int)(a0_1:Int)(a0_2:Int)(a0_3:(List Int))(a1_0:Int)(a1_1:Int)(a1_2:Int)(a1_3:(List Int)):Option Int:=
 cV (m66 (a0_0,a1_0)) (0:Int) λ(q1:Int)=>cV (m66 (a0_1,a1_1)) (0:Int) λ(q2:Int)=>cV (m66 (a0_2,a1_2)) (0:Int) λ(q3:Int)=>cV (yQ (List.cons q1 (List.cons q2 (List.cons q3 ([]:List (Int)))))) (0:Int) λ(q4:Int)=>some q4
theorem e41 (m66:(Int×Int)->Option Int)(yQ:(List Int)->Option Int)(L:Nat)(a0_0:Int)(a0_1:Int)(a0_2:Int)(a0_3:(List Int))(a1_0:Int)(a1_1:Int)(a1_2:Int)(a1_3:(List Int)):dW prog (aH5 m66 yQ) (bB L) f41 (a41.enc ((a0_0,a0_1,a0_2,a0_3),(a1_0,a1_1,a1_2,a1_3)))=(g41 m66 yQ L a0_0 a0_1 a0_2 a0_3 a1_0 a1_1 a1_2 a1_3).map n41:=by
 rw[i41];simp only[g41,aS,aQ,aR,aD,aH]
theorem s41 (m66:(Int×Int)->Option Int)(yQ:(List Int)->Option Int)(h66:Sat prog cxT 66 (c66 m66))(h65:Sat prog cxT 65 (c65 yQ))(m:((Int×Int×Int×(List Int))×(Int×Int×Int×(List Int)))->Option Int)(hm:∀ (x:((Int×Int×Int×(List Int))×(Int×Int×Int×(List Int)))) t,m x=some t->∃ L,g41 m66 yQ L x.1.1 x.1.2.1 x.1.2.2.1 x.1.2.2.2 x.2.1 x.2.2.1 x.2.2.2.1 x.2.2.2.2=some t):Sat prog cxT 41 (c41 m):=
 dA cA bP (by rfl) (fn:=f41) rfl a41 n41 aMa m (aH5 m66 yQ) (bA h66 (bA h65 bO)) bH (λL x=>g41 m66 yQ L x.1.1 x.1.2.1 x.1.2.2.1 x.1.2.2.2 x.2.1 x.2.2.1 x.2.2.2.1 x.2.2.2.2) (λL x=>e41 m66 yQ L x.1.1 x.1.2.1 x.1.2.2.1 x.1.2.2.2 x.2.1 x.2.2.1 x.2.2.2.1 x.2.2.2.2) hm aOU
def aId (m43:Int->Option Bool)(m44:Int->Option Bool)(m45:Int->Option Bool):Env cxT:={ Kc:=dN [(43,c43 m43),(44,c44 m44),(45,c45 m45)],Kw:=dP [],lv:=λi=>[],xv:=λi=>none }
theorem i22 (m43:Int->Option Bool)(m44:Int->Option Bool)(m45:Int->Option Bool)(L:Nat)(a0_0:Int)(a0_1:Int)(a0_2:Int):dW prog (aId m43 m44 m45) (bB L) f22 (a22.enc (a0_0,a0_1,a0_2))=
 cV (m43 a0_0) false λ(q1:Bool)=>bif q1 then bif (a0_0 != (0:Int))then cV (m44 a0_1) false λ(q4:Bool)=>bif q4 then bif (a0_1 != (0:Int))then cV (m45 a0_2) false λ(q7:Bool)=>some (n22 q7)
      else some (n22 Bool.false)
     else some (n22 Bool.false)
   else some (n22 Bool.false)
  else some (n22 Bool.false):=by kernel_rfl
def g22 (m43:Int->Option Bool)(m44:Int->Option Bool)(m45:Int->Option Bool)(L:Nat)(a0_0:Int)(a0_1:Int)(a0_2:Int):Option Bool:=
 cV (m43 a0_0) false λ(q1:Bool)=>bif q1 then bif (a0_0 != (0:Int))then cV (m44 a0_1) false λ(q4:Bool)=>bif q4 then bif (a0_1 != (0:Int))then cV (m45 a0_2) false λ(q7:Bool)=>some q7
      else some Bool.false
     else some Bool.false
   else some Bool.false
  else some Bool.false
theorem e22 (m43:Int->Option Bool)(m44:Int->Option Bool)(m45:Int->Option Bool)(L:Nat)(a0_0:Int)(a0_1:Int)(a0_2:Int):dW prog (aId m43 m44 m45) (bB L) f22 (a22.enc (a0_0,a0_1,a0_2))=(g22 m43 m44 m45 L a0_0 a0_1 a0_2).map n22:=by
 rw[i22];simp only[g22,aS,aQ,aR,aD,aH]
theorem s22 (m43:Int->Option Bool)(m44:Int->Option Bool)(m45:Int->Option Bool)(h43:Sat prog cxT 43 (c43 m43))(h44:Sat prog cxT 44 (c44 m44))(h45:Sat prog cxT 45 (c45 m45))(m:(Int×Int×Int)->Option Bool)(hm:∀ (x:(Int×Int×Int)) t,m x=some t->∃ L,g22 m43 m44 m45 L x.1 x.2.1 x.2.2=some t):Sat prog cxT 22 (c22 m):=
 dA cA bP (by rfl) (fn:=f22) rfl a22 n22 aMo m (aId m43 m44 m45) (bA h43 (bA h44 (bA h45 bO))) bH (λL x=>g22 m43 m44 m45 L x.1 x.2.1 x.2.2) (λL x=>e22 m43 m44 m45 L x.1 x.2.1 x.2.2) hm aO8
end Go.Proofs.Try
