/- A part of the proof of FnExactMachineFault: LnFa. -/
import Derived.Test.YtchokegffjaihaaLnBase
set_option linter.unusedSimpArgs false
set_option linter.unusedVariables false
set_option maxHeartbeats 0
set_option maxRecDepth 100000
namespace Go.Proofs.Try
open Go.IntKind (wrap)
open Go Go.VM Go.RowKit
def aHp:Env cxT:={ Kc:=dN [],Kw:=dQ [],lv:=λi=>[],xv:=λi=>none }
theorem i34 (L:Nat)(a0:Int)(a1:Int)(a2:Int):dW prog aHp (aZ L) f34 (a34.enc (a0,a1,a2))=
 bif (decide (a0>=a1))then some (n34 (decide (a0<=a2)))
 else some (n34 Bool.false):=by kernel_rfl
def g34 (L:Nat)(a0:Int)(a1:Int)(a2:Int):Option Bool:=
 bif (decide (a0>=a1))then some (decide (a0<=a2))
 else some Bool.false
theorem e34 (L:Nat)(a0:Int)(a1:Int)(a2:Int):dW prog aHp (aZ L) f34 (a34.enc (a0,a1,a2))=(g34 L a0 a1 a2).map n34:=by
 rw[i34];simp only[g34,aS,aQ,aR,aD,aH]
theorem s34 (m:(Int×Int×Int)->Option Bool)(hm:∀ (x:(Int×Int×Int)) t,m x=some t->∃ L,g34 L x.1 x.2.1 x.2.2=some t):Sat prog cxT 34 (c34 m):=
 dB cA bR (by rfl) (fn:=f34) rfl a34 n34 aLk m aHp bQ bH (λL x=>g34 L x.1 x.2.1 x.2.2) (λL x=>e34 L x.1 x.2.1 x.2.2) hm aNZ
def aHn:Env cxT:={ Kc:=dN [],Kw:=dQ [],lv:=λi=>[],xv:=λi=>none }
theorem i38 (L:Nat)(a0:Int):dW prog aHn (aZ L) f38 (a38.enc a0)=
 bif (decide (a0>=(0:Int)))then some (n38 (decide (a0<=(1000000:Int))))
 else some (n38 Bool.false):=by kernel_rfl
def g38 (L:Nat)(a0:Int):Option Bool:=
 bif (decide (a0>=(0:Int)))then some (decide (a0<=(1000000:Int)))
 else some Bool.false
theorem e38 (L:Nat)(a0:Int):dW prog aHn (aZ L) f38 (a38.enc a0)=(g38 L a0).map n38:=by
 rw[i38];simp only[g38,aS,aQ,aR,aD,aH]
theorem s38 (m:Int->Option Bool)(hm:∀ (x:Int) t,m x=some t->∃ L,g38 L x=some t):Sat prog cxT 38 (c38 m):=
 dB cA bR (by rfl) (fn:=f38) rfl a38 n38 aLg m aHn bQ bH (λL x=>g38 L x) (λL x=>e38 L x) hm aNV
def aHj:Env cxT:={ Kc:=dN [],Kw:=dQ [],lv:=λi=>[],xv:=λi=>none }
theorem i43 (L:Nat)(a0:Int):dW prog aHj (aZ L) f43 (a43.enc a0)=
 bif (decide (a0>=(0:Int)))then some (n43 (decide (a0<=(999:Int))))
 else some (n43 Bool.false):=by kernel_rfl
def g43 (L:Nat)(a0:Int):Option Bool:=
 bif (decide (a0>=(0:Int)))then some (decide (a0<=(999:Int)))
 else some Bool.false
theorem e43 (L:Nat)(a0:Int):dW prog aHj (aZ L) f43 (a43.enc a0)=(g43 L a0).map n43:=by
 rw[i43];simp only[g43,aS,aQ,aR,aD,aH]
theorem s43 (m:Int->Option Bool)(hm:∀ (x:Int) t,m x=some t->∃ L,g43 L x=some t):Sat prog cxT 43 (c43 m):=
 dB cA bR (by rfl) (fn:=f43) rfl a43 n43 aLb m aHj bQ bH (λL x=>g43 L x) (λL x=>e43 L x) hm aNQ
def aHi:Env cxT:={ Kc:=dN [],Kw:=dQ [],lv:=λi=>[],xv:=λi=>none }
theorem i44 (L:Nat)(a0:Int):dW prog aHi (aZ L) f44 (a44.enc a0)=
 bif (decide (a0>=(0:Int)))then some (n44 (decide (a0<=(1000000:Int))))
 else some (n44 Bool.false):=by kernel_rfl
def g44 (L:Nat)(a0:Int):Option Bool:=
 bif (decide (a0>=(0:Int)))then some (decide (a0<=(1000000:Int)))
 else some Bool.false
theorem e44 (L:Nat)(a0:Int):dW prog aHi (aZ L) f44 (a44.enc a0)=(g44 L a0).map n44:=by
 rw[i44];simp only[g44,aS,aQ,aR,aD,aH]
theorem s44 (m:Int->Option Bool)(hm:∀ (x:Int) t,m x=some t->∃ L,g44 L x=some t):Sat prog cxT 44 (c44 m):=
 dB cA bR (by rfl) (fn:=f44) rfl a44 n44 aLa m aHi bQ bH (λL x=>g44 L x) (λL x=>e44 L x) hm aNP
def aHh:Env cxT:={ Kc:=dN [],Kw:=dQ [],lv:=λi=>[],xv:=λi=>none }
theorem i45 (L:Nat)(a0:Int):dW prog aHh (aZ L) f45 (a45.enc a0)=
 bif (decide (a0>=(0:Int)))then some (n45 (decide (a0<=(10:Int))))
 else some (n45 Bool.false):=by kernel_rfl
def g45 (L:Nat)(a0:Int):Option Bool:=
 bif (decide (a0>=(0:Int)))then some (decide (a0<=(10:Int)))
 else some Bool.false
theorem e45 (L:Nat)(a0:Int):dW prog aHh (aZ L) f45 (a45.enc a0)=(g45 L a0).map n45:=by
 rw[i45];simp only[g45,aS,aQ,aR,aD,aH]
theorem s45 (m:Int->Option Bool)(hm:∀ (x:Int) t,m x=some t->∃ L,g45 L x=some t):Sat prog cxT 45 (c45 m):=
 dB cA bR (by rfl) (fn:=f45) rfl a45 n45 aK9 m aHh bQ bH (λL x=>g45 L x) (λL x=>e45 L x) hm aNO
def aHe (m34:(Int×Int×Int)->Option Bool):Env cxT:={ Kc:=dN [(34,c34 m34)],Kw:=dQ [],lv:=λi=>[],xv:=λi=>none }
theorem i54 (m34:(Int×Int×Int)->Option Bool)(L:Nat)(a0:Int):dW prog (aHe m34) (aZ L) f54 (a54.enc a0)=
 cU (m34 (a0,((0:Int),(1000000:Int)))) false λ(q1:Bool)=>some (n54 q1):=by kernel_rfl
def g54 (m34:(Int×Int×Int)->Option Bool)(L:Nat)(a0:Int):Option Bool:=
 cU (m34 (a0,((0:Int),(1000000:Int)))) false λ(q1:Bool)=>some q1
theorem e54 (m34:(Int×Int×Int)->Option Bool)(L:Nat)(a0:Int):dW prog (aHe m34) (aZ L) f54 (a54.enc a0)=(g54 m34 L a0).map n54:=by
 rw[i54];simp only[g54,aS,aQ,aR,aD,aH]
theorem s54 (m34:(Int×Int×Int)->Option Bool)(h34:Sat prog cxT 34 (c34 m34))(m:Int->Option Bool)(hm:∀ (x:Int) t,m x=some t->∃ L,g54 m34 L x=some t):Sat prog cxT 54 (c54 m):=
 dB cA bR (by rfl) (fn:=f54) rfl a54 n54 aK4 m (aHe m34) (bA h34 bQ) bH (λL x=>g54 m34 L x) (λL x=>e54 m34 L x) hm aNJ
def aHd (m72:Int->Option Bool)(m73:Int->Option Bool)(m34:(Int×Int×Int)->Option Bool):Env cxT:={ Kc:=dN [(72,c72 m72),(73,c73 m73),(34,c34 m34)],Kw:=dQ [],lv:=λi=>[],xv:=λi=>none }
theorem i55 (m72:Int->Option Bool)(m73:Int->Option Bool)(m34:(Int×Int×Int)->Option Bool)(L:Nat)(a0_0:Int)(a0_1:Int)(a0_2:Int)(a0_3:Int)(a0_4:Bool):dW prog (aHd m72 m73 m34) (aZ L) f55 (a55.enc (a0_0,a0_1,a0_2,a0_3,a0_4))=
 cU (m72 a0_0) false λ(q1:Bool)=>bif q1 then cU (m73 a0_1) false λ(q3:Bool)=>bif q3 then cU (m34 (a0_2,((0:Int),(9:Int)))) false λ(q5:Bool)=>bif q5 then cU (m34 (a0_3,((1:Int),(3:Int)))) false λ(q7:Bool)=>some (n55 q7)
      else some (n55 Bool.false)
    else some (n55 Bool.false)
  else some (n55 Bool.false):=by kernel_rfl
def g55 (m72:Int->Option Bool)(m73:Int->Option Bool)(m34:(Int×Int×Int)->Option Bool)(L:Nat)(a0_0:Int)(a0_1:Int)(a0_2:Int)(a0_3:Int)(a0_4:Bool):Option Bool:=
 cU (m72 a0_0) false λ(q1:Bool)=>bif q1 then cU (m73 a0_1) false λ(q3:Bool)=>bif q3 then cU (m34 (a0_2,((0:Int),(9:Int)))) false λ(q5:Bool)=>bif q5 then cU (m34 (a0_3,((1:Int),(3:Int)))) false λ(q7:Bool)=>some q7
      else some Bool.false
    else some Bool.false
  else some Bool.false
theorem e55 (m72:Int->Option Bool)(m73:Int->Option Bool)(m34:(Int×Int×Int)->Option Bool)(L:Nat)(a0_0:Int)(a0_1:Int)(a0_2:Int)(a0_3:Int)(a0_4:Bool):dW prog (aHd m72 m73 m34) (aZ L) f55 (a55.enc (a0_0,a0_1,a0_2,a0_3,a0_4))=(g55 m72 m73 m34 L a0_0 a0_1 a0_2 a0_3 a0_4).map n55:=by
 rw[i55];simp only[g55,aS,aQ,aR,aD,aH]
theorem s55 (m72:Int->Option Bool)(m73:Int->Option Bool)(m34:(Int×Int×Int)->Option Bool)(h72:Sat prog cxT 72 (c72 m72))(h73:Sat prog cxT 73 (c73 m73))(h34:Sat prog cxT 34 (c34 m34))(m:(Int×Int×Int×Int×Bool)->Option Bool)(hm:∀ (x:(Int×Int×Int×Int×Bool)) t,m x=some t->∃ L,g55 m72 m73 m34 L x.1 x.2.1 x.2.2.1 x.2.2.2.1 x.2.2.2.2=some t):Sat prog cxT 55 (c55 m):=
 dB cA bR (by rfl) (fn:=f55) rfl a55 n55 aK3 m (aHd m72 m73 m34) (bA h72 (bA h73 (bA h34 bQ))) bH (λL x=>g55 m72 m73 m34 L x.1 x.2.1 x.2.2.1 x.2.2.2.1 x.2.2.2.2) (λL x=>e55 m72 m73 m34 L x.1 x.2.1 x.2.2.1 x.2.2.2.1 x.2.2.2.2) hm aNI
def aHc:Env cxT:={ Kc:=dN [],Kw:=dQ [],lv:=λi=>[],xv:=λi=>none }
theorem i57 (L:Nat)(a0_0:Int)(a0_1:Int)(a0_2:Int)(a0_3:Int)(a0_4:Bool):dW prog aHc (aZ L) f57 (a57.enc (a0_0,a0_1,a0_2,a0_3,a0_4))=
 some (n57 (a0_0,a0_1,a0_2,a0_3,a0_4)):=by kernel_rfl
def g57 (L:Nat)(a0_0:Int)(a0_1:Int)(a0_2:Int)(a0_3:Int)(a0_4:Bool):Option (Int×Int×Int×Int×Bool):=
 some (a0_0,a0_1,a0_2,a0_3,a0_4)
theorem e57 (L:Nat)(a0_0:Int)(a0_1:Int)(a0_2:Int)(a0_3:Int)(a0_4:Bool):dW prog aHc (aZ L) f57 (a57.enc (a0_0,a0_1,a0_2,a0_3,a0_4))=(g57 L a0_0 a0_1 a0_2 a0_3 a0_4).map n57:=by
 rw[i57];simp only[g57,aS,aQ,aR,aD,aH]
theorem s57 (m:(Int×Int×Int×Int×Bool)->Option (Int×Int×Int×Int×Bool))(hm:∀ (x:(Int×Int×Int×Int×Bool)) t,m x=some t->∃ L,g57 L x.1 x.2.1 x.2.2.1 x.2.2.2.1 x.2.2.2.2=some t):Sat prog cxT 57 (c57 m):=
 dB cA bR (by rfl) (fn:=f57) rfl a57 n57 aK1 m aHc bQ bH (λL x=>g57 L x.1 x.2.1 x.2.2.1 x.2.2.2.1 x.2.2.2.2) (λL x=>e57 L x.1 x.2.1 x.2.2.1 x.2.2.2.1 x.2.2.2.2) hm aNG
def aHa:Env cxT:={ Kc:=dN [],Kw:=dQ [],lv:=λi=>[],xv:=λi=>none }
theorem i59 (L:Nat)(a0:Int):dW prog aHa (aZ L) f59 (a59.enc a0)=
 bif (decide (a0>=(1:Int)))then some (n59 (decide (a0<=(999:Int))))
 else some (n59 Bool.false):=by kernel_rfl
def g59 (L:Nat)(a0:Int):Option Bool:=
 bif (decide (a0>=(1:Int)))then some (decide (a0<=(999:Int)))
 else some Bool.false
theorem e59 (L:Nat)(a0:Int):dW prog aHa (aZ L) f59 (a59.enc a0)=(g59 L a0).map n59:=by
 rw[i59];simp only[g59,aS,aQ,aR,aD,aH]
theorem s59 (m:Int->Option Bool)(hm:∀ (x:Int) t,m x=some t->∃ L,g59 L x=some t):Sat prog cxT 59 (c59 m):=
 dB cA bR (by rfl) (fn:=f59) rfl a59 n59 aKZ m aHa bQ bH (λL x=>g59 L x) (λL x=>e59 L x) hm aNE
def aG9:Env cxT:={ Kc:=dN [],Kw:=dQ [],lv:=λi=>[],xv:=λi=>none }
theorem i60 (L:Nat)(a0:Int):dW prog aG9 (aZ L) f60 (a60.enc a0)=
 bif (decide (a0>=(0:Int)))then some (n60 (decide (a0<=(4294967295:Int))))
 else some (n60 Bool.false):=by kernel_rfl
def g60 (L:Nat)(a0:Int):Option Bool:=
 bif (decide (a0>=(0:Int)))then some (decide (a0<=(4294967295:Int)))
 else some Bool.false
theorem e60 (L:Nat)(a0:Int):dW prog aG9 (aZ L) f60 (a60.enc a0)=(g60 L a0).map n60:=by
 rw[i60];simp only[g60,aS,aQ,aR,aD,aH]
theorem s60 (m:Int->Option Bool)(hm:∀ (x:Int) t,m x=some t->∃ L,g60 L x=some t):Sat prog cxT 60 (c60 m):=
 dB cA bR (by rfl) (fn:=f60) rfl a60 n60 aKY m aG9 bQ bH (λL x=>g60 L x) (λL x=>e60 L x) hm aND
def aG8:Env cxT:={ Kc:=dN [],Kw:=dQ [],lv:=λi=>[],xv:=λi=>none }
theorem i61 (L:Nat)(a0:Int):dW prog aG8 (aZ L) f61 (a61.enc a0)=
 bif (decide (a0>=(0:Int)))then some (n61 (decide (a0<=(9:Int))))
 else some (n61 Bool.false):=by kernel_rfl
def g61 (L:Nat)(a0:Int):Option Bool:=
 bif (decide (a0>=(0:Int)))then some (decide (a0<=(9:Int)))
 else some Bool.false
theorem e61 (L:Nat)(a0:Int):dW prog aG8 (aZ L) f61 (a61.enc a0)=(g61 L a0).map n61:=by
 rw[i61];simp only[g61,aS,aQ,aR,aD,aH]
theorem s61 (m:Int->Option Bool)(hm:∀ (x:Int) t,m x=some t->∃ L,g61 L x=some t):Sat prog cxT 61 (c61 m):=
 dB cA bR (by rfl) (fn:=f61) rfl a61 n61 aKX m aG8 bQ bH (λL x=>g61 L x) (λL x=>e61 L x) hm aNC
def aG7:Env cxT:={ Kc:=dN [],Kw:=dQ [],lv:=λi=>[],xv:=λi=>none }
theorem i62 (L:Nat)(a0:Int):dW prog aG7 (aZ L) f62 (a62.enc a0)=
 bif (decide (a0>=(1:Int)))then some (n62 (decide (a0<=(3:Int))))
 else some (n62 Bool.false):=by kernel_rfl
def g62 (L:Nat)(a0:Int):Option Bool:=
 bif (decide (a0>=(1:Int)))then some (decide (a0<=(3:Int)))
 else some Bool.false
theorem e62 (L:Nat)(a0:Int):dW prog aG7 (aZ L) f62 (a62.enc a0)=(g62 L a0).map n62:=by
 rw[i62];simp only[g62,aS,aQ,aR,aD,aH]
theorem s62 (m:Int->Option Bool)(hm:∀ (x:Int) t,m x=some t->∃ L,g62 L x=some t):Sat prog cxT 62 (c62 m):=
 dB cA bR (by rfl) (fn:=f62) rfl a62 n62 aKW m aG7 bQ bH (λL x=>g62 L x) (λL x=>e62 L x) hm aNB
def aG6:Env cxT:={ Kc:=dN [],Kw:=dQ [],lv:=λi=>[],xv:=λi=>none }
theorem i63 (L:Nat)(a0:Int):dW prog aG6 (aZ L) f63 (a63.enc a0)=
 bif (decide (a0>=(0:Int)))then some (n63 (decide (a0<=(65535:Int))))
 else some (n63 Bool.false):=by kernel_rfl
def g63 (L:Nat)(a0:Int):Option Bool:=
 bif (decide (a0>=(0:Int)))then some (decide (a0<=(65535:Int)))
 else some Bool.false
theorem e63 (L:Nat)(a0:Int):dW prog aG6 (aZ L) f63 (a63.enc a0)=(g63 L a0).map n63:=by
 rw[i63];simp only[g63,aS,aQ,aR,aD,aH]
theorem s63 (m:Int->Option Bool)(hm:∀ (x:Int) t,m x=some t->∃ L,g63 L x=some t):Sat prog cxT 63 (c63 m):=
 dB cA bR (by rfl) (fn:=f63) rfl a63 n63 aKV m aG6 bQ bH (λL x=>g63 L x) (λL x=>e63 L x) hm aNA
def aG5:Env cxT:={ Kc:=dN [],Kw:=dQ [],lv:=λi=>[],xv:=λi=>none }
theorem i64 (L:Nat)(a0:Int):dW prog aG5 (aZ L) f64 (a64.enc a0)=
 bif (a0 == (6:Int))then some (n64 Bool.true)
 else some (n64 (a0 == (17:Int))):=by kernel_rfl
def g64 (L:Nat)(a0:Int):Option Bool:=
 bif (a0 == (6:Int))then some Bool.true
 else some (a0 == (17:Int))
theorem e64 (L:Nat)(a0:Int):dW prog aG5 (aZ L) f64 (a64.enc a0)=(g64 L a0).map n64:=by
 rw[i64];simp only[g64,aS,aQ,aR,aD,aH]
theorem s64 (m:Int->Option Bool)(hm:∀ (x:Int) t,m x=some t->∃ L,g64 L x=some t):Sat prog cxT 64 (c64 m):=
 dB cA bR (by rfl) (fn:=f64) rfl a64 n64 aKU m aG5 bQ bH (λL x=>g64 L x) (λL x=>e64 L x) hm aNz
def sG:Env cxT:={ Kc:=dN [],Kw:=dQ [],lv:=λi=>if i=0 then[(3,[]),(6,[some 3]),(7,[]),(8,[])]else[],xv:=λi=>if i=0 then some [(3,[])]else none }
def S65_0 (a0:(List Int))(v0_8:Int):St cxT.ty:={ slots:=[aL,aL,aL,(.inl (.inl (lv (.int .i64 (0:Int))))),aL,aL,(.inl (.inl (ls { own:=0,nm:=0,e:=3,o:=false,xs:=a0 }))),(.inl (.inl (lv (.int .i64 (Nat.cast (List.length a0):Int))))),(.inl (.inl (lv (.int .i64 v0_8))))]++List.replicate 9 aL,D:=[],F:=[],ctr:=1 }
def X65_0 (a0:(List Int)):St cxT.ty:={ slots:=[aL,aL,aL,(.inl (.inl (lv (.int .i64 (0:Int)))))]++List.replicate 14 aL,D:=[],F:=[],ctr:=1 }
theorem i65 (L:Nat)(a0:(List Int)):dW prog sG (aZ L) f65 (a65.enc a0)=
 cS prog sG L f65 0 [1,1,0,1,0,0] (dC (bB prog f65) (cO prog sG L f65 [1,1,0,1] (bB prog f65)).n (cO prog sG L f65 [1,1,0,1] (bB prog f65)).x) L (S65_0 a0 (0:Int)):=by kernel_rfl
theorem aJR (L:Nat)(a0:(List Int))(k:St cxT.ty->Option (V cxT.ty))(xk:Nat->St cxT.ty->Option (V cxT.ty))(g:St cxT.ty->Option (V cxT.ty))(v0_8:Int):eZ prog sG L f65 0 [1,1,0,1,0,0] (dC (bB prog f65) k xk) g (S65_0 a0 v0_8)=
 bif (decide (v0_8 < (Nat.cast (List.length a0):Int)))then bif ((decide ((0:Int)<=v0_8))&&(decide (v0_8 < (Nat.cast (List.length a0):Int))))then bif ((List.getD a0 (Int.toNat v0_8) (0:Int)) != (0:Int))then some (n65 (List.getD a0 (Int.toNat v0_8) (0:Int)))
   else g (S65_0 a0 (wrap Go.IntKind.i64 (v0_8+(1:Int))))
  else none
 else k (X65_0 a0):=by kernel_rfl
theorem aIB (L:Nat)(a0:(List Int)):(cO prog sG L f65 [1,1,0,1] (bB prog f65)).n (X65_0 a0)=
 some (n65 (0:Int)):=by kernel_rfl
def tX (L:Nat)(a0:(List Int)):Nat->Int->(Option Int)->Option Int
 | 0,_,_=>none
 | n+1,v0_8,k=>
  bif (decide (v0_8 < (Nat.cast (List.length a0):Int)))then bif ((decide ((0:Int)<=v0_8))&&(decide (v0_8 < (Nat.cast (List.length a0):Int))))then bif ((List.getD a0 (Int.toNat v0_8) (0:Int)) != (0:Int))then some (List.getD a0 (Int.toNat v0_8) (0:Int))
    else tX L a0 n (wrap Go.IntKind.i64 (v0_8+(1:Int))) k
   else none
  else k
theorem aFZ (L:Nat)(a0:(List Int))(k:St cxT.ty->Option (V cxT.ty))(xk:Nat->St cxT.ty->Option (V cxT.ty))(k':Option Int)(hk:k (X65_0 a0)=(k').map n65):∀ (n:Nat) (v0_8:Int),cS prog sG L f65 0 [1,1,0,1,0,0] (dC (bB prog f65) k xk) n (S65_0 a0 v0_8)=(tX L a0 n v0_8 k').map n65
 | 0,_=>rfl
 | n+1,v0_8=>by
  rw[cV,aJR];have ih:=aFZ L a0 k xk k' hk n;simp only[tX,aS,aQ,aR,aD,aH,ih,hk]
def g65 (L:Nat)(a0:(List Int)):Option Int:=
 tX L a0 L (0:Int) (some (0:Int))
theorem e65 (L:Nat)(a0:(List Int)):dW prog sG (aZ L) f65 (a65.enc a0)=(g65 L a0).map n65:=by
 let K'0:Option Int:=(some (0:Int))
 have hin0:∀ (v0_8:Int),cS prog sG L f65 0 [1,1,0,1,0,0] (dC (bB prog f65) (cO prog sG L f65 [1,1,0,1] (bB prog f65)).n (cO prog sG L f65 [1,1,0,1] (bB prog f65)).x) L (S65_0 a0 v0_8)=(tX L a0 L v0_8 K'0).map n65:=λv0_8=>aFZ L a0 _ _ K'0 (by rw[aIB];simp only[K'0,aS,aQ,aR,aD,aH]) L v0_8
 rw[i65];simp only[g65,aS,aQ,aR,aD,aH,hin0,K'0]
theorem s65 (m:(List Int)->Option Int)(hm:∀ (x:(List Int)) t,m x=some t->∃ L,g65 L x=some t):Sat prog cxT 65 (c65 m):=
 dB cA bR (by rfl) (fn:=f65) rfl a65 n65 aKT m sG bQ bH (λL x=>g65 L x) (λL x=>e65 L x) hm aNy
def aG4 (m79:Int->Option Bool):Env cxT:={ Kc:=dN [(79,c79 m79)],Kw:=dQ [],lv:=λi=>[],xv:=λi=>none }
theorem i66 (m79:Int->Option Bool)(L:Nat)(a0:Int)(a1:Int):dW prog (aG4 m79) (aZ L) f66 (a66.enc (a0,a1))=
 cU (m79 a0) false λ(q1:Bool)=>cU (m79 a1) false λ(q2:Bool)=>bif q1 then bif q2 then some (n66 (0:Int))
    else some (n66 (-(1:Int)))
   else bif q2 then some (n66 (1:Int))
   else bif (decide (a0 < a1))then some (n66 (-(1:Int)))
   else bif (decide (a0 > a1))then some (n66 (1:Int))
   else some (n66 (0:Int)):=by kernel_rfl
def g66 (m79:Int->Option Bool)(L:Nat)(a0:Int)(a1:Int):Option Int:=
 cU (m79 a0) false λ(q1:Bool)=>cU (m79 a1) false λ(q2:Bool)=>bif q1 then bif q2 then some (0:Int)
    else some (-(1:Int))
   else bif q2 then some (1:Int)
   else bif (decide (a0 < a1))then some (-(1:Int))
   else bif (decide (a0 > a1))then some (1:Int)
   else some (0:Int)
theorem e66 (m79:Int->Option Bool)(L:Nat)(a0:Int)(a1:Int):dW prog (aG4 m79) (aZ L) f66 (a66.enc (a0,a1))=(g66 m79 L a0 a1).map n66:=by
 rw[i66];simp only[g66,aS,aQ,aR,aD,aH]
theorem s66 (m79:Int->Option Bool)(h79:Sat prog cxT 79 (c79 m79))(m:(Int×Int)->Option Int)(hm:∀ (x:(Int×Int)) t,m x=some t->∃ L,g66 m79 L x.1 x.2=some t):Sat prog cxT 66 (c66 m):=
 dB cA bR (by rfl) (fn:=f66) rfl a66 n66 aKS m (aG4 m79) (bA h79 bQ) bH (λL x=>g66 m79 L x.1 x.2) (λL x=>e66 m79 L x.1 x.2) hm aNx
def aG2:Env cxT:={ Kc:=dN [],Kw:=dQ [],lv:=λi=>[],xv:=λi=>none }
theorem i68 (L:Nat)(a0_0:Int)(a0_1:Int)(a0_2:Int)(a0_3:Int)(a0_4:Bool)(a1_0:Int)(a1_1:Int)(a1_2:Int)(a1_3:Int)(a1_4:Bool):dW prog aG2 (aZ L) f68 (a68.enc ((a0_0,a0_1,a0_2,a0_3,a0_4),(a1_0,a1_1,a1_2,a1_3,a1_4)))=
 bif (a0_0 != a1_0)then some (n68 Bool.false)
 else bif (a0_1 != a1_1)then some (n68 Bool.false)
 else bif (a0_2 != a1_2)then some (n68 Bool.false)
 else bif (a0_3 != a1_3)then some (n68 Bool.false)
 else bif (!(a0_4 == a1_4))then some (n68 Bool.false)
 else some (n68 Bool.true):=by kernel_rfl
def g68 (L:Nat)(a0_0:Int)(a0_1:Int)(a0_2:Int)(a0_3:Int)(a0_4:Bool)(a1_0:Int)(a1_1:Int)(a1_2:Int)(a1_3:Int)(a1_4:Bool):Option Bool:=
 bif (a0_0 != a1_0)then some Bool.false
 else bif (a0_1 != a1_1)then some Bool.false
 else bif (a0_2 != a1_2)then some Bool.false
 else bif (a0_3 != a1_3)then some Bool.false
 else bif (!(a0_4 == a1_4))then some Bool.false
 else some Bool.true
theorem e68 (L:Nat)(a0_0:Int)(a0_1:Int)(a0_2:Int)(a0_3:Int)(a0_4:Bool)(a1_0:Int)(a1_1:Int)(a1_2:Int)(a1_3:Int)(a1_4:Bool):dW prog aG2 (aZ L) f68 (a68.enc ((a0_0,a0_1,a0_2,a0_3,a0_4),(a1_0,a1_1,a1_2,a1_3,a1_4)))=(g68 L a0_0 a0_1 a0_2 a0_3 a0_4 a1_0 a1_1 a1_2 a1_3 a1_4).map n68:=by
 rw[i68];simp only[g68,aS,aQ,aR,aD,aH]
theorem s68 (m:((Int×Int×Int×Int×Bool)×(Int×Int×Int×Int×Bool))->Option Bool)(hm:∀ (x:((Int×Int×Int×Int×Bool)×(Int×Int×Int×Int×Bool))) t,m x=some t->∃ L,g68 L x.1.1 x.1.2.1 x.1.2.2.1 x.1.2.2.2.1 x.1.2.2.2.2 x.2.1 x.2.2.1 x.2.2.2.1 x.2.2.2.2.1 x.2.2.2.2.2=some t):Sat prog cxT 68 (c68 m):=
 dB cA bR (by rfl) (fn:=f68) rfl a68 n68 aKQ m aG2 bQ bH (λL x=>g68 L x.1.1 x.1.2.1 x.1.2.2.1 x.1.2.2.2.1 x.1.2.2.2.2 x.2.1 x.2.2.1 x.2.2.2.1 x.2.2.2.2.1 x.2.2.2.2.2) (λL x=>e68 L x.1.1 x.1.2.1 x.1.2.2.1 x.1.2.2.2.1 x.1.2.2.2.2 x.2.1 x.2.2.1 x.2.2.2.1 x.2.2.2.2.1 x.2.2.2.2.2) hm aNv
def aG0:Env cxT:={ Kc:=dN [],Kw:=dQ [],lv:=λi=>[],xv:=λi=>none }
theorem i71 (L:Nat)(a0:(List Int))(a1:Int):dW prog aG0 (aZ L) f71 (a71.enc (a0,a1))=
 bif (decide ((wrap Go.IntKind.i64 (a1-(Nat.cast (List.length a0):Int))) < (0:Int)))then some (n71 (-(1:Int)))
 else some (n71 (wrap Go.IntKind.i64 (a1-(Nat.cast (List.length a0):Int)))):=by kernel_rfl
def g71 (L:Nat)(a0:(List Int))(a1:Int):Option Int:=
 bif (decide ((wrap Go.IntKind.i64 (a1-(Nat.cast (List.length a0):Int))) < (0:Int)))then some (-(1:Int))
 else some (wrap Go.IntKind.i64 (a1-(Nat.cast (List.length a0):Int)))
theorem e71 (L:Nat)(a0:(List Int))(a1:Int):dW prog aG0 (aZ L) f71 (a71.enc (a0,a1))=(g71 L a0 a1).map n71:=by
 rw[i71];simp only[g71,aS,aQ,aR,aD,aH]
theorem s71 (m:((List Int)×Int)->Option Int)(hm:∀ (x:((List Int)×Int)) t,m x=some t->∃ L,g71 L x.1 x.2=some t):Sat prog cxT 71 (c71 m):=
 dB cA bR (by rfl) (fn:=f71) rfl a71 n71 aKO m aG0 bQ bH (λL x=>g71 L x.1 x.2) (λL x=>e71 L x.1 x.2) hm aNt
def aGZ (m34:(Int×Int×Int)->Option Bool):Env cxT:={ Kc:=dN [(34,c34 m34)],Kw:=dQ [],lv:=λi=>[],xv:=λi=>none }
theorem i72 (m34:(Int×Int×Int)->Option Bool)(L:Nat)(a0:Int):dW prog (aGZ m34) (aZ L) f72 (a72.enc a0)=
 cU (m34 (a0,((1:Int),(999:Int)))) false λ(q1:Bool)=>some (n72 q1):=by kernel_rfl
def g72 (m34:(Int×Int×Int)->Option Bool)(L:Nat)(a0:Int):Option Bool:=
 cU (m34 (a0,((1:Int),(999:Int)))) false λ(q1:Bool)=>some q1
theorem e72 (m34:(Int×Int×Int)->Option Bool)(L:Nat)(a0:Int):dW prog (aGZ m34) (aZ L) f72 (a72.enc a0)=(g72 m34 L a0).map n72:=by
 rw[i72];simp only[g72,aS,aQ,aR,aD,aH]
theorem s72 (m34:(Int×Int×Int)->Option Bool)(h34:Sat prog cxT 34 (c34 m34))(m:Int->Option Bool)(hm:∀ (x:Int) t,m x=some t->∃ L,g72 m34 L x=some t):Sat prog cxT 72 (c72 m):=
 dB cA bR (by rfl) (fn:=f72) rfl a72 n72 aKN m (aGZ m34) (bA h34 bQ) bH (λL x=>g72 m34 L x) (λL x=>e72 m34 L x) hm aNs
def aGY (m34:(Int×Int×Int)->Option Bool):Env cxT:={ Kc:=dN [(34,c34 m34)],Kw:=dQ [],lv:=λi=>[],xv:=λi=>none }
theorem i73 (m34:(Int×Int×Int)->Option Bool)(L:Nat)(a0:Int):dW prog (aGY m34) (aZ L) f73 (a73.enc a0)=
 cU (m34 (a0,((0:Int),(4294967295:Int)))) false λ(q1:Bool)=>some (n73 q1):=by kernel_rfl
def g73 (m34:(Int×Int×Int)->Option Bool)(L:Nat)(a0:Int):Option Bool:=
 cU (m34 (a0,((0:Int),(4294967295:Int)))) false λ(q1:Bool)=>some q1
theorem e73 (m34:(Int×Int×Int)->Option Bool)(L:Nat)(a0:Int):dW prog (aGY m34) (aZ L) f73 (a73.enc a0)=(g73 m34 L a0).map n73:=by
 rw[i73];simp only[g73,aS,aQ,aR,aD,aH]
theorem s73 (m34:(Int×Int×Int)->Option Bool)(h34:Sat prog cxT 34 (c34 m34))(m:Int->Option Bool)(hm:∀ (x:Int) t,m x=some t->∃ L,g73 m34 L x=some t):Sat prog cxT 73 (c73 m):=
 dB cA bR (by rfl) (fn:=f73) rfl a73 n73 aKM m (aGY m34) (bA h34 bQ) bH (λL x=>g73 m34 L x) (λL x=>e73 m34 L x) hm aNr
def aGX (m34:(Int×Int×Int)->Option Bool):Env cxT:={ Kc:=dN [(34,c34 m34)],Kw:=dQ [],lv:=λi=>[],xv:=λi=>none }
theorem i74 (m34:(Int×Int×Int)->Option Bool)(L:Nat)(a0:Int):dW prog (aGX m34) (aZ L) f74 (a74.enc a0)=
 cU (m34 (a0,((0:Int),(65535:Int)))) false λ(q1:Bool)=>some (n74 q1):=by kernel_rfl
def g74 (m34:(Int×Int×Int)->Option Bool)(L:Nat)(a0:Int):Option Bool:=
 cU (m34 (a0,((0:Int),(65535:Int)))) false λ(q1:Bool)=>some q1
theorem e74 (m34:(Int×Int×Int)->Option Bool)(L:Nat)(a0:Int):dW prog (aGX m34) (aZ L) f74 (a74.enc a0)=(g74 m34 L a0).map n74:=by
 rw[i74];simp only[g74,aS,aQ,aR,aD,aH]
theorem s74 (m34:(Int×Int×Int)->Option Bool)(h34:Sat prog cxT 34 (c34 m34))(m:Int->Option Bool)(hm:∀ (x:Int) t,m x=some t->∃ L,g74 m34 L x=some t):Sat prog cxT 74 (c74 m):=
 dB cA bR (by rfl) (fn:=f74) rfl a74 n74 aKL m (aGX m34) (bA h34 bQ) bH (λL x=>g74 m34 L x) (λL x=>e74 m34 L x) hm aNq
def aGW:Env cxT:={ Kc:=dN [],Kw:=dQ [],lv:=λi=>[],xv:=λi=>none }
theorem i75 (L:Nat)(a0:Int):dW prog aGW (aZ L) f75 (a75.enc a0)=
 bif (a0 == (6:Int))then some (n75 Bool.true)
 else some (n75 (a0 == (17:Int))):=by kernel_rfl
def g75 (L:Nat)(a0:Int):Option Bool:=
 bif (a0 == (6:Int))then some Bool.true
 else some (a0 == (17:Int))
theorem e75 (L:Nat)(a0:Int):dW prog aGW (aZ L) f75 (a75.enc a0)=(g75 L a0).map n75:=by
 rw[i75];simp only[g75,aS,aQ,aR,aD,aH]
theorem s75 (m:Int->Option Bool)(hm:∀ (x:Int) t,m x=some t->∃ L,g75 L x=some t):Sat prog cxT 75 (c75 m):=
 dB cA bR (by rfl) (fn:=f75) rfl a75 n75 aKK m aGW bQ bH (λL x=>g75 L x) (λL x=>e75 L x) hm aNp
def aGV:Env cxT:={ Kc:=dN [],Kw:=dQ [],lv:=λi=>[],xv:=λi=>none }
theorem i76 (L:Nat)(a0_0:Int)(a0_1:Int)(a0_2:Int)(a0_3:(List Int))(a1_0:Int)(a1_1:Int)(a1_2:Int)(a1_3:(List Int)):dW prog aGV (aZ L) f76 (a76.enc ((a0_0,a0_1,a0_2,a0_3),(a1_0,a1_1,a1_2,a1_3)))=
 bif (a0_0 != a1_0)then some (n76 (decide (a0_0 < a1_0)))
 else bif (a0_1 != a1_1)then some (n76 (decide (a0_1 < a1_1)))
 else some (n76 (decide (a0_2 < a1_2))):=by kernel_rfl
def g76 (L:Nat)(a0_0:Int)(a0_1:Int)(a0_2:Int)(a0_3:(List Int))(a1_0:Int)(a1_1:Int)(a1_2:Int)(a1_3:(List Int)):Option Bool:=
 bif (a0_0 != a1_0)then some (decide (a0_0 < a1_0))
 else bif (a0_1 != a1_1)then some (decide (a0_1 < a1_1))
 else some (decide (a0_2 < a1_2))
theorem e76 (L:Nat)(a0_0:Int)(a0_1:Int)(a0_2:Int)(a0_3:(List Int))(a1_0:Int)(a1_1:Int)(a1_2:Int)(a1_3:(List Int)):dW prog aGV (aZ L) f76 (a76.enc ((a0_0,a0_1,a0_2,a0_3),(a1_0,a1_1,a1_2,a1_3)))=(g76 L a0_0 a0_1 a0_2 a0_3 a1_0 a1_1 a1_2 a1_3).map n76:=by
 rw[i76];simp only[g76,aS,aQ,aR,aD,aH]
theorem s76 (m:((Int×Int×Int×(List Int))×(Int×Int×Int×(List Int)))->Option Bool)(hm:∀ (x:((Int×Int×Int×(List Int))×(Int×Int×Int×(List Int)))) t,m x=some t->∃ L,g76 L x.1.1 x.1.2.1 x.1.2.2.1 x.1.2.2.2 x.2.1 x.2.2.1 x.2.2.2.1 x.2.2.2.2=some t):Sat prog cxT 76 (c76 m):=
 dB cA bR (by rfl) (fn:=f76) rfl a76 n76 aKJ m aGV bQ bH (λL x=>g76 L x.1.1 x.1.2.1 x.1.2.2.1 x.1.2.2.2 x.2.1 x.2.2.1 x.2.2.2.1 x.2.2.2.2) (λL x=>e76 L x.1.1 x.1.2.1 x.1.2.2.1 x.1.2.2.2 x.2.1 x.2.2.1 x.2.2.2.1 x.2.2.2.2) hm aNo
def sE:Env cxT:={ Kc:=dN [],Kw:=dQ [],lv:=λi=>if i=0 then[(0,[some 2]),(3,[some 2]),(4,[])]else[],xv:=λi=>if i=0 then some [(3,[some 2])]else none }
def S78_0 (a0:(List Int))(v0_3:(List Int))(v0_4:Int):St cxT.ty:={ slots:=[(.inl (.inl (ls { own:=0,nm:=0,e:=2,o:=false,xs:=a0 }))),aL,aL,(.inl (.inl (ls { own:=1,nm:=192,e:=2,o:=true,xs:=v0_3 }))),(.inl (.inl (lv (.int .i64 v0_4))))]++List.replicate 17 aL,D:=[],F:=[],ctr:=1 }
def X78_0 (a0:(List Int))(w0_3:(List Int)):St cxT.ty:={ slots:=[aL,aL,aL,(.inl (.inl (ls { own:=1,nm:=192,e:=2,o:=true,xs:=w0_3 })))]++List.replicate 18 aL,D:=[],F:=[],ctr:=1 }
theorem i78 (L:Nat)(a0:(List Int)):dW prog sE (aZ L) f78 (a78.enc a0)=
 bif (((decide ((0:Int)<=(Nat.cast (List.length a0):Int)))&&(decide ((Nat.cast (List.length a0):Int)<=(Nat.cast (List.length a0):Int))))&&(decide ((Nat.cast (List.length a0):Int)<=(1000000000:Int))))then cS prog sE L f78 0 [1,1,0,1,0,0] (dC (bB prog f78) (cO prog sE L f78 [1,1,0,1] (bB prog f78)).n (cO prog sE L f78 [1,1,0,1] (bB prog f78)).x) L (S78_0 a0 (List.replicate (Int.toNat (Nat.cast (List.length a0):Int)) (0:Int)) (0:Int))
 else none:=by kernel_rfl
theorem aJP (L:Nat)(a0:(List Int))(k:St cxT.ty->Option (V cxT.ty))(xk:Nat->St cxT.ty->Option (V cxT.ty))(g:St cxT.ty->Option (V cxT.ty))(v0_3:(List Int))(v0_4:Int):eZ prog sE L f78 0 [1,1,0,1,0,0] (dC (bB prog f78) k xk) g (S78_0 a0 v0_3 v0_4)=
 bif (decide (v0_4 < (Nat.cast (List.length a0):Int)))then bif ((decide ((0:Int)<=v0_4))&&(decide (v0_4 < (Nat.cast (List.length a0):Int))))then bif ((decide ((0:Int)<=v0_4))&&(decide (v0_4 < (Nat.cast (List.length v0_3):Int))))then g (S78_0 a0 (List.set v0_3 (Int.toNat v0_4) (List.getD a0 (Int.toNat v0_4) (0:Int))) (wrap Go.IntKind.i64 (v0_4+(1:Int))))
   else none
  else none
 else k (X78_0 a0 v0_3):=by kernel_rfl
theorem aIz (L:Nat)(a0:(List Int))(w0_3:(List Int)):(cO prog sE L f78 [1,1,0,1] (bB prog f78)).n (X78_0 a0 w0_3)=
 some (n78 w0_3):=by kernel_rfl
def tV (L:Nat)(a0:(List Int)):Nat->(List Int)->Int->((List Int)->Option (List Int))->Option (List Int)
 | 0,_,_,_=>none
 | n+1,v0_3,v0_4,k=>
  bif (decide (v0_4 < (Nat.cast (List.length a0):Int)))then bif ((decide ((0:Int)<=v0_4))&&(decide (v0_4 < (Nat.cast (List.length a0):Int))))then bif ((decide ((0:Int)<=v0_4))&&(decide (v0_4 < (Nat.cast (List.length v0_3):Int))))then tV L a0 n (List.set v0_3 (Int.toNat v0_4) (List.getD a0 (Int.toNat v0_4) (0:Int))) (wrap Go.IntKind.i64 (v0_4+(1:Int))) k
    else none
   else none
  else k v0_3
theorem aFX (L:Nat)(a0:(List Int))(k:St cxT.ty->Option (V cxT.ty))(xk:Nat->St cxT.ty->Option (V cxT.ty))(k':(List Int)->Option (List Int))(hk:∀ (w0_3:(List Int)),k (X78_0 a0 w0_3)=(k' w0_3).map n78):∀ (n:Nat) (v0_3:(List Int)) (v0_4:Int),cS prog sE L f78 0 [1,1,0,1,0,0] (dC (bB prog f78) k xk) n (S78_0 a0 v0_3 v0_4)=(tV L a0 n v0_3 v0_4 k').map n78
 | 0,_,_=>rfl
 | n+1,v0_3,v0_4=>by
  rw[cV,aJP];have ih:=aFX L a0 k xk k' hk n;simp only[tV,aS,aQ,aR,aD,aH,ih,hk]
def g78 (L:Nat)(a0:(List Int)):Option (List Int):=
 bif (((decide ((0:Int)<=(Nat.cast (List.length a0):Int)))&&(decide ((Nat.cast (List.length a0):Int)<=(Nat.cast (List.length a0):Int))))&&(decide ((Nat.cast (List.length a0):Int)<=(1000000000:Int))))then tV L a0 L (List.replicate (Int.toNat (Nat.cast (List.length a0):Int)) (0:Int)) (0:Int) (λ(w0_3:(List Int))=>some w0_3)
 else none
theorem e78 (L:Nat)(a0:(List Int)):dW prog sE (aZ L) f78 (a78.enc a0)=(g78 L a0).map n78:=by
 let K'0:(List Int)->Option (List Int):=(λ(w0_3:(List Int))=>some w0_3)
 have hin0:∀ (v0_3:(List Int)) (v0_4:Int),cS prog sE L f78 0 [1,1,0,1,0,0] (dC (bB prog f78) (cO prog sE L f78 [1,1,0,1] (bB prog f78)).n (cO prog sE L f78 [1,1,0,1] (bB prog f78)).x) L (S78_0 a0 v0_3 v0_4)=(tV L a0 L v0_3 v0_4 K'0).map n78:=λv0_3 v0_4=>aFX L a0 _ _ K'0 (λw0_3=>by rw[aIz];simp only[K'0,aS,aQ,aR,aD,aH]) L v0_3 v0_4
 rw[i78];simp only[g78,aS,aQ,aR,aD,aH,hin0,K'0]
theorem s78 (m:(List Int)->Option (List Int))(hm:∀ (x:(List Int)) t,m x=some t->∃ L,g78 L x=some t):Sat prog cxT 78 (c78 m):=
 dB cA bR (by rfl) (fn:=f78) rfl a78 n78 aKH m sE bQ bH (λL x=>g78 L x) (λL x=>e78 L x) hm aNm
def aGU:Env cxT:={ Kc:=dN [],Kw:=dQ [],lv:=λi=>[],xv:=λi=>none }
theorem i79 (L:Nat)(a0:Int):dW prog aGU (aZ L) f79 (a79.enc a0)=
 some (n79 (a0 != a0)):=by kernel_rfl
def g79 (L:Nat)(a0:Int):Option Bool:=
 some (a0 != a0)
theorem e79 (L:Nat)(a0:Int):dW prog aGU (aZ L) f79 (a79.enc a0)=(g79 L a0).map n79:=by
 rw[i79];simp only[g79,aS,aQ,aR,aD,aH]
theorem s79 (m:Int->Option Bool)(hm:∀ (x:Int) t,m x=some t->∃ L,g79 L x=some t):Sat prog cxT 79 (c79 m):=
 dB cA bR (by rfl) (fn:=f79) rfl a79 n79 aKG m aGU bQ bH (λL x=>g79 L x) (λL x=>e79 L x) hm aNl
def aGT (m66:(Int×Int)->Option Int):Env cxT:={ Kc:=dN [(66,c66 m66)],Kw:=dQ [],lv:=λi=>[],xv:=λi=>none }
theorem i81 (m66:(Int×Int)->Option Int)(L:Nat)(a0_0:Int)(a0_1:Int)(a0_2:Int)(a0_3:Int)(a0_4:Bool)(a1:Int):dW prog (aGT m66) (aZ L) f81 (a81.enc ((a0_0,a0_1,a0_2,a0_3,a0_4),a1))=
 cU (m66 (a0_0,a1)) (0:Int) λ(q1:Int)=>some (n81 q1):=by kernel_rfl
def g81 (m66:(Int×Int)->Option Int)(L:Nat)(a0_0:Int)(a0_1:Int)(a0_2:Int)(a0_3:Int)(a0_4:Bool)(a1:Int):Option Int:=
 cU (m66 (a0_0,a1)) (0:Int) λ(q1:Int)=>some q1
theorem e81 (m66:(Int×Int)->Option Int)(L:Nat)(a0_0:Int)(a0_1:Int)(a0_2:Int)(a0_3:Int)(a0_4:Bool)(a1:Int):dW prog (aGT m66) (aZ L) f81 (a81.enc ((a0_0,a0_1,a0_2,a0_3,a0_4),a1))=(g81 m66 L a0_0 a0_1 a0_2 a0_3 a0_4 a1).map n81:=by
 rw[i81];simp only[g81,aS,aQ,aR,aD,aH]
theorem s81 (m66:(Int×Int)->Option Int)(h66:Sat prog cxT 66 (c66 m66))(m:((Int×Int×Int×Int×Bool)×Int)->Option Int)(hm:∀ (x:((Int×Int×Int×Int×Bool)×Int)) t,m x=some t->∃ L,g81 m66 L x.1.1 x.1.2.1 x.1.2.2.1 x.1.2.2.2.1 x.1.2.2.2.2 x.2=some t):Sat prog cxT 81 (c81 m):=
 dB cA bR (by rfl) (fn:=f81) rfl a81 n81 aKE m (aGT m66) (bA h66 bQ) bH (λL x=>g81 m66 L x.1.1 x.1.2.1 x.1.2.2.1 x.1.2.2.2.1 x.1.2.2.2.2 x.2) (λL x=>e81 m66 L x.1.1 x.1.2.1 x.1.2.2.1 x.1.2.2.2.1 x.1.2.2.2.2 x.2) hm aNj
def aHf (wA:((List Int)×Int)->Option Int):Env cxT:={ Kc:=dN [(71,c71 wA)],Kw:=dQ [],lv:=λi=>[],xv:=λi=>none }
theorem i53 (wA:((List Int)×Int)->Option Int)(L:Nat)(a0_0:Int)(a0_1:Int)(a0_2:Int)(a0_3:(List Int))(a1:Int):dW prog (aHf wA) (aZ L) f53 (a53.enc ((a0_0,a0_1,a0_2,a0_3),a1))=
 cU (wA (a0_3,a1)) (0:Int) λ(q1:Int)=>bif (decide (q1 < (0:Int)))then some (n53 (-(1:Int)))
  else some (n53 q1):=by kernel_rfl
def g53 (wA:((List Int)×Int)->Option Int)(L:Nat)(a0_0:Int)(a0_1:Int)(a0_2:Int)(a0_3:(List Int))(a1:Int):Option Int:=
 cU (wA (a0_3,a1)) (0:Int) λ(q1:Int)=>bif (decide (q1 < (0:Int)))then some (-(1:Int))
  else some q1
theorem e53 (wA:((List Int)×Int)->Option Int)(L:Nat)(a0_0:Int)(a0_1:Int)(a0_2:Int)(a0_3:(List Int))(a1:Int):dW prog (aHf wA) (aZ L) f53 (a53.enc ((a0_0,a0_1,a0_2,a0_3),a1))=(g53 wA L a0_0 a0_1 a0_2 a0_3 a1).map n53:=by
 rw[i53];simp only[g53,aS,aQ,aR,aD,aH]
theorem s53 (wA:((List Int)×Int)->Option Int)(h71:Sat prog cxT 71 (c71 wA))(m:((Int×Int×Int×(List Int))×Int)->Option Int)(hm:∀ (x:((Int×Int×Int×(List Int))×Int)) t,m x=some t->∃ L,g53 wA L x.1.1 x.1.2.1 x.1.2.2.1 x.1.2.2.2 x.2=some t):Sat prog cxT 53 (c53 m):=
 dB cA bR (by rfl) (fn:=f53) rfl a53 n53 aK5 m (aHf wA) (bA h71 bQ) bH (λL x=>g53 wA L x.1.1 x.1.2.1 x.1.2.2.1 x.1.2.2.2 x.2) (λL x=>e53 wA L x.1.1 x.1.2.1 x.1.2.2.1 x.1.2.2.2 x.2) hm aNK
def aHb (vZ:(List Int)->Option (List Int)):Env cxT:={ Kc:=dN [(78,c78 vZ)],Kw:=dQ [],lv:=λi=>[],xv:=λi=>none }
theorem i58 (vZ:(List Int)->Option (List Int))(L:Nat)(a0_0:Int)(a0_1:Int)(a0_2:Int)(a0_3:(List Int)):dW prog (aHb vZ) (aZ L) f58 (a58.enc (a0_0,a0_1,a0_2,a0_3))=
 cU (vZ a0_3) [] λ(q1:(List Int))=>some (n58 (a0_0,a0_1,a0_2,q1)):=by kernel_rfl
def g58 (vZ:(List Int)->Option (List Int))(L:Nat)(a0_0:Int)(a0_1:Int)(a0_2:Int)(a0_3:(List Int)):Option (Int×Int×Int×(List Int)):=
 cU (vZ a0_3) [] λ(q1:(List Int))=>some (a0_0,a0_1,a0_2,q1)
theorem e58 (vZ:(List Int)->Option (List Int))(L:Nat)(a0_0:Int)(a0_1:Int)(a0_2:Int)(a0_3:(List Int)):dW prog (aHb vZ) (aZ L) f58 (a58.enc (a0_0,a0_1,a0_2,a0_3))=(g58 vZ L a0_0 a0_1 a0_2 a0_3).map n58:=by
 rw[i58];simp only[g58,aS,aQ,aR,aD,aH]
theorem s58 (vZ:(List Int)->Option (List Int))(h78:Sat prog cxT 78 (c78 vZ))(m:(Int×Int×Int×(List Int))->Option (Int×Int×Int×(List Int)))(hm:∀ (x:(Int×Int×Int×(List Int))) t,m x=some t->∃ L,g58 vZ L x.1 x.2.1 x.2.2.1 x.2.2.2=some t):Sat prog cxT 58 (c58 m):=
 dB cA bR (by rfl) (fn:=f58) rfl a58 n58 aK0 m (aHb vZ) (bA h78 bQ) bH (λL x=>g58 vZ L x.1 x.2.1 x.2.2.1 x.2.2.2) (λL x=>e58 vZ L x.1 x.2.1 x.2.2.1 x.2.2.2) hm aNF
def sC:Env cxT:={ Kc:=dN [],Kw:=dQ [],lv:=λi=>if i=0 then[(0,[some 2]),(1,[some 2]),(5,[])]else[],xv:=λi=>if i=0 then some []else none }
def S82_0 (a0:(List Int))(a1:(List Int))(v0_5:Int):St cxT.ty:={ slots:=[(.inl (.inl (ls { own:=0,nm:=0,e:=2,o:=false,xs:=a0 }))),(.inl (.inl (ls { own:=0,nm:=0,e:=2,o:=false,xs:=a1 }))),aL,aL,aL,(.inl (.inl (lv (.int .i64 v0_5))))]++List.replicate 20 aL,D:=[],F:=[],ctr:=1 }
def X82_0 (a0:(List Int))(a1:(List Int)):St cxT.ty:={ slots:=[]++List.replicate 26 aL,D:=[],F:=[],ctr:=1 }
theorem i82 (L:Nat)(a0:(List Int))(a1:(List Int)):dW prog sC (aZ L) f82 (a82.enc (a0,a1))=
 bif ((Nat.cast (List.length a0):Int) != (Nat.cast (List.length a1):Int))then some (n82 Bool.false)
 else cS prog sC L f82 0 [1,1,0,1,0,0] (dC (bB prog f82) (cO prog sC L f82 [1,1,0,1] (bB prog f82)).n (cO prog sC L f82 [1,1,0,1] (bB prog f82)).x) L (S82_0 a0 a1 (0:Int)):=by kernel_rfl
theorem aJN (L:Nat)(a0:(List Int))(a1:(List Int))(k:St cxT.ty->Option (V cxT.ty))(xk:Nat->St cxT.ty->Option (V cxT.ty))(g:St cxT.ty->Option (V cxT.ty))(v0_5:Int):eZ prog sC L f82 0 [1,1,0,1,0,0] (dC (bB prog f82) k xk) g (S82_0 a0 a1 v0_5)=
 bif (decide (v0_5 < (Nat.cast (List.length a0):Int)))then bif ((decide ((0:Int)<=v0_5))&&(decide (v0_5 < (Nat.cast (List.length a0):Int))))then bif ((decide ((0:Int)<=v0_5))&&(decide (v0_5 < (Nat.cast (List.length a1):Int))))then bif ((List.getD a0 (Int.toNat v0_5) (0:Int)) != (List.getD a1 (Int.toNat v0_5) (0:Int)))then some (n82 Bool.false)
    else g (S82_0 a0 a1 (wrap Go.IntKind.i64 (v0_5+(1:Int))))
   else none
  else none
 else k (X82_0 a0 a1):=by kernel_rfl
theorem aIx (L:Nat)(a0:(List Int))(a1:(List Int)):(cO prog sC L f82 [1,1,0,1] (bB prog f82)).n (X82_0 a0 a1)=
 some (n82 Bool.true):=by kernel_rfl
def tU (L:Nat)(a0:(List Int))(a1:(List Int)):Nat->Int->(Option Bool)->Option Bool
 | 0,_,_=>none
 | n+1,v0_5,k=>
  bif (decide (v0_5 < (Nat.cast (List.length a0):Int)))then bif ((decide ((0:Int)<=v0_5))&&(decide (v0_5 < (Nat.cast (List.length a0):Int))))then bif ((decide ((0:Int)<=v0_5))&&(decide (v0_5 < (Nat.cast (List.length a1):Int))))then bif ((List.getD a0 (Int.toNat v0_5) (0:Int)) != (List.getD a1 (Int.toNat v0_5) (0:Int)))then some Bool.false
     else tU L a0 a1 n (wrap Go.IntKind.i64 (v0_5+(1:Int))) k
    else none
   else none
  else k
theorem aFV (L:Nat)(a0:(List Int))(a1:(List Int))(k:St cxT.ty->Option (V cxT.ty))(xk:Nat->St cxT.ty->Option (V cxT.ty))(k':Option Bool)(hk:k (X82_0 a0 a1)=(k').map n82):∀ (n:Nat) (v0_5:Int),cS prog sC L f82 0 [1,1,0,1,0,0] (dC (bB prog f82) k xk) n (S82_0 a0 a1 v0_5)=(tU L a0 a1 n v0_5 k').map n82
 | 0,_=>rfl
 | n+1,v0_5=>by
  rw[cV,aJN];have ih:=aFV L a0 a1 k xk k' hk n;simp only[tU,aS,aQ,aR,aD,aH,ih,hk]
def g82 (L:Nat)(a0:(List Int))(a1:(List Int)):Option Bool:=
 bif ((Nat.cast (List.length a0):Int) != (Nat.cast (List.length a1):Int))then some Bool.false
 else tU L a0 a1 L (0:Int) (some Bool.true)
theorem e82 (L:Nat)(a0:(List Int))(a1:(List Int)):dW prog sC (aZ L) f82 (a82.enc (a0,a1))=(g82 L a0 a1).map n82:=by
 let K'0:Option Bool:=(some Bool.true)
 have hin0:∀ (v0_5:Int),cS prog sC L f82 0 [1,1,0,1,0,0] (dC (bB prog f82) (cO prog sC L f82 [1,1,0,1] (bB prog f82)).n (cO prog sC L f82 [1,1,0,1] (bB prog f82)).x) L (S82_0 a0 a1 v0_5)=(tU L a0 a1 L v0_5 K'0).map n82:=λv0_5=>aFV L a0 a1 _ _ K'0 (by rw[aIx];simp only[K'0,aS,aQ,aR,aD,aH]) L v0_5
 rw[i82];simp only[g82,aS,aQ,aR,aD,aH,hin0,K'0]
theorem s82 (m:((List Int)×(List Int))->Option Bool)(hm:∀ (x:((List Int)×(List Int))) t,m x=some t->∃ L,g82 L x.1 x.2=some t):Sat prog cxT 82 (c82 m):=
 dB cA bR (by rfl) (fn:=f82) rfl a82 n82 aKD m sC bQ bH (λL x=>g82 L x.1 x.2) (λL x=>e82 L x.1 x.2) hm aNi
def aHu:Env cxT:={ Kc:=dN [],Kw:=dQ [],lv:=λi=>[],xv:=λi=>none }
theorem i17 (L:Nat)(a0:(List (Int×(Int×Int))))(a1:Int):dW prog aHu (aZ L) f17 (a17.enc (a0,a1))=
 bif (decide ((wrap Go.IntKind.i64 (a1-(Nat.cast (List.length a0):Int))) < (0:Int)))then some (n17 (-(1:Int)))
 else some (n17 (wrap Go.IntKind.i64 (a1-(Nat.cast (List.length a0):Int)))):=by kernel_rfl
def g17 (L:Nat)(a0:(List (Int×(Int×Int))))(a1:Int):Option Int:=
 bif (decide ((wrap Go.IntKind.i64 (a1-(Nat.cast (List.length a0):Int))) < (0:Int)))then some (-(1:Int))
 else some (wrap Go.IntKind.i64 (a1-(Nat.cast (List.length a0):Int)))
theorem e17 (L:Nat)(a0:(List (Int×(Int×Int))))(a1:Int):dW prog aHu (aZ L) f17 (a17.enc (a0,a1))=(g17 L a0 a1).map n17:=by
 rw[i17];simp only[g17,aS,aQ,aR,aD,aH]
theorem s17 (m:((List (Int×(Int×Int)))×Int)->Option Int)(hm:∀ (x:((List (Int×(Int×Int)))×Int)) t,m x=some t->∃ L,g17 L x.1 x.2=some t):Sat prog cxT 17 (c17 m):=
 dB cA bR (by rfl) (fn:=f17) rfl a17 n17 aLv m aHu bQ bH (λL x=>g17 L x.1 x.2) (λL x=>e17 L x.1 x.2) hm aOa
def aHq:Env cxT:={ Kc:=dN [],Kw:=dQ [],lv:=λi=>[],xv:=λi=>none }
theorem i31 (L:Nat)(a0:(List (Int×(Int×(Int×(Int×Bool))))))(a1:Int):dW prog aHq (aZ L) f31 (a31.enc (a0,a1))=
 bif (decide ((wrap Go.IntKind.i64 (a1-(Nat.cast (List.length a0):Int))) < (0:Int)))then some (n31 (-(1:Int)))
 else some (n31 (wrap Go.IntKind.i64 (a1-(Nat.cast (List.length a0):Int)))):=by kernel_rfl
def g31 (L:Nat)(a0:(List (Int×(Int×(Int×(Int×Bool))))))(a1:Int):Option Int:=
 bif (decide ((wrap Go.IntKind.i64 (a1-(Nat.cast (List.length a0):Int))) < (0:Int)))then some (-(1:Int))
 else some (wrap Go.IntKind.i64 (a1-(Nat.cast (List.length a0):Int)))
theorem e31 (L:Nat)(a0:(List (Int×(Int×(Int×(Int×Bool))))))(a1:Int):dW prog aHq (aZ L) f31 (a31.enc (a0,a1))=(g31 L a0 a1).map n31:=by
 rw[i31];simp only[g31,aS,aQ,aR,aD,aH]
theorem s31 (m:((List (Int×(Int×(Int×(Int×Bool)))))×Int)->Option Int)(hm:∀ (x:((List (Int×(Int×(Int×(Int×Bool)))))×Int)) t,m x=some t->∃ L,g31 L x.1 x.2=some t):Sat prog cxT 31 (c31 m):=
 dB cA bR (by rfl) (fn:=f31) rfl a31 n31 aLn m aHq bQ bH (λL x=>g31 L x.1 x.2) (λL x=>e31 L x.1 x.2) hm aN2
def sL (kQ:((Int×Int×Int×(List Int))×Int)->Option Int):Env cxT:={ Kc:=dN [(53,c53 kQ)],Kw:=dQ [],lv:=λi=>if i=0 then[(0,[some 91]),(1,[]),(5,[])]else[],xv:=λi=>if i=0 then some [(1,[])]else none }
def S32_0 (a0:(List (Int×(Int×(Int×(List Int))))))(a1:Int)(v0_1:Int)(v0_5:Int):St cxT.ty:={ slots:=[(.inl (.inl (ls { own:=0,nm:=0,e:=91,o:=false,xs:=a0 }))),(.inl (.inl (lv (.int .i64 v0_1)))),aL,aL,aL,(.inl (.inl (lv (.int .i64 v0_5))))]++List.replicate 21 aL,D:=[],F:=[],ctr:=1 }
def X32_0 (a0:(List (Int×(Int×(Int×(List Int))))))(a1:Int)(w0_1:Int):St cxT.ty:={ slots:=[aL,(.inl (.inl (lv (.int .i64 w0_1))))]++List.replicate 25 aL,D:=[],F:=[],ctr:=1 }
theorem i32 (kQ:((Int×Int×Int×(List Int))×Int)->Option Int)(L:Nat)(a0:(List (Int×(Int×(Int×(List Int))))))(a1:Int):dW prog (sL kQ) (aZ L) f32 (a32.enc (a0,a1))=
 bif (decide ((wrap Go.IntKind.i64 (a1-(Nat.cast (List.length a0):Int))) < (0:Int)))then some (n32 (-(1:Int)))
 else cS prog (sL kQ) L f32 0 [1,1,1,0,1,0,0] (dC (bB prog f32) (cO prog (sL kQ) L f32 [1,1,1,0,1] (bB prog f32)).n (cO prog (sL kQ) L f32 [1,1,1,0,1] (bB prog f32)).x) L (S32_0 a0 a1 (wrap Go.IntKind.i64 (a1-(Nat.cast (List.length a0):Int))) (0:Int)):=by kernel_rfl
theorem aJ2 (kQ:((Int×Int×Int×(List Int))×Int)->Option Int)(L:Nat)(a0:(List (Int×(Int×(Int×(List Int))))))(a1:Int)(k:St cxT.ty->Option (V cxT.ty))(xk:Nat->St cxT.ty->Option (V cxT.ty))(g:St cxT.ty->Option (V cxT.ty))(v0_1:Int)(v0_5:Int):eZ prog (sL kQ) L f32 0 [1,1,1,0,1,0,0] (dC (bB prog f32) k xk) g (S32_0 a0 a1 v0_1 v0_5)=
 bif (decide (v0_5 < (Nat.cast (List.length a0):Int)))then bif ((decide ((0:Int)<=v0_5))&&(decide (v0_5 < (Nat.cast (List.length a0):Int))))then cU (kQ (((List.getD a0 (Int.toNat v0_5) ((0:Int),((0:Int),((0:Int),([]:List (Int)))))).1,((List.getD a0 (Int.toNat v0_5) ((0:Int),((0:Int),((0:Int),([]:List (Int)))))).2.1,((List.getD a0 (Int.toNat v0_5) ((0:Int),((0:Int),((0:Int),([]:List (Int)))))).2.2.1,(List.getD a0 (Int.toNat v0_5) ((0:Int),((0:Int),((0:Int),([]:List (Int)))))).2.2.2))),v0_1)) (0:Int) λ(q3:Int)=>bif (decide (q3 < (0:Int)))then some (n32 (-(1:Int)))
    else g (S32_0 a0 a1 q3 (wrap Go.IntKind.i64 (v0_5+(1:Int))))
  else none
 else k (X32_0 a0 a1 v0_1):=by kernel_rfl
theorem aIM (kQ:((Int×Int×Int×(List Int))×Int)->Option Int)(L:Nat)(a0:(List (Int×(Int×(Int×(List Int))))))(a1:Int)(w0_1:Int):(cO prog (sL kQ) L f32 [1,1,1,0,1] (bB prog f32)).n (X32_0 a0 a1 w0_1)=
 some (n32 w0_1):=by kernel_rfl
def uD (kQ:((Int×Int×Int×(List Int))×Int)->Option Int)(L:Nat)(a0:(List (Int×(Int×(Int×(List Int))))))(a1:Int):Nat->Int->Int->(Int->Option Int)->Option Int
 | 0,_,_,_=>none
 | n+1,v0_1,v0_5,k=>
  bif (decide (v0_5 < (Nat.cast (List.length a0):Int)))then bif ((decide ((0:Int)<=v0_5))&&(decide (v0_5 < (Nat.cast (List.length a0):Int))))then cU (kQ (((List.getD a0 (Int.toNat v0_5) ((0:Int),((0:Int),((0:Int),([]:List (Int)))))).1,((List.getD a0 (Int.toNat v0_5) ((0:Int),((0:Int),((0:Int),([]:List (Int)))))).2.1,((List.getD a0 (Int.toNat v0_5) ((0:Int),((0:Int),((0:Int),([]:List (Int)))))).2.2.1,(List.getD a0 (Int.toNat v0_5) ((0:Int),((0:Int),((0:Int),([]:List (Int)))))).2.2.2))),v0_1)) (0:Int) λ(q4:Int)=>bif (decide (q4 < (0:Int)))then some (-(1:Int))
     else uD kQ L a0 a1 n q4 (wrap Go.IntKind.i64 (v0_5+(1:Int))) k
   else none
  else k v0_1
theorem aGa (kQ:((Int×Int×Int×(List Int))×Int)->Option Int)(L:Nat)(a0:(List (Int×(Int×(Int×(List Int))))))(a1:Int)(k:St cxT.ty->Option (V cxT.ty))(xk:Nat->St cxT.ty->Option (V cxT.ty))(k':Int->Option Int)(hk:∀ (w0_1:Int),k (X32_0 a0 a1 w0_1)=(k' w0_1).map n32):∀ (n:Nat) (v0_1:Int) (v0_5:Int),cS prog (sL kQ) L f32 0 [1,1,1,0,1,0,0] (dC (bB prog f32) k xk) n (S32_0 a0 a1 v0_1 v0_5)=(uD kQ L a0 a1 n v0_1 v0_5 k').map n32
 | 0,_,_=>rfl
 | n+1,v0_1,v0_5=>by
  rw[cV,aJ2];have ih:=aGa kQ L a0 a1 k xk k' hk n;simp only[uD,aS,aQ,aR,aD,aH,ih,hk]
def g32 (kQ:((Int×Int×Int×(List Int))×Int)->Option Int)(L:Nat)(a0:(List (Int×(Int×(Int×(List Int))))))(a1:Int):Option Int:=
 bif (decide ((wrap Go.IntKind.i64 (a1-(Nat.cast (List.length a0):Int))) < (0:Int)))then some (-(1:Int))
 else uD kQ L a0 a1 L (wrap Go.IntKind.i64 (a1-(Nat.cast (List.length a0):Int))) (0:Int) (λ(w0_1:Int)=>some w0_1)
theorem e32 (kQ:((Int×Int×Int×(List Int))×Int)->Option Int)(L:Nat)(a0:(List (Int×(Int×(Int×(List Int))))))(a1:Int):dW prog (sL kQ) (aZ L) f32 (a32.enc (a0,a1))=(g32 kQ L a0 a1).map n32:=by
 let K'0:Int->Option Int:=(λ(w0_1:Int)=>some w0_1)
 have hin0:∀ (v0_1:Int) (v0_5:Int),cS prog (sL kQ) L f32 0 [1,1,1,0,1,0,0] (dC (bB prog f32) (cO prog (sL kQ) L f32 [1,1,1,0,1] (bB prog f32)).n (cO prog (sL kQ) L f32 [1,1,1,0,1] (bB prog f32)).x) L (S32_0 a0 a1 v0_1 v0_5)=(uD kQ L a0 a1 L v0_1 v0_5 K'0).map n32:=λv0_1 v0_5=>aGa kQ L a0 a1 _ _ K'0 (λw0_1=>by rw[aIM];simp only[K'0,aS,aQ,aR,aD,aH]) L v0_1 v0_5
 rw[i32];simp only[g32,aS,aQ,aR,aD,aH,hin0,K'0]
theorem s32 (kQ:((Int×Int×Int×(List Int))×Int)->Option Int)(h53:Sat prog cxT 53 (c53 kQ))(m:((List (Int×(Int×(Int×(List Int)))))×Int)->Option Int)(hm:∀ (x:((List (Int×(Int×(Int×(List Int)))))×Int)) t,m x=some t->∃ L,g32 kQ L x.1 x.2=some t):Sat prog cxT 32 (c32 m):=
 dB cA bR (by rfl) (fn:=f32) rfl a32 n32 aLm m (sL kQ) (bA h53 bQ) bH (λL x=>g32 kQ L x.1 x.2) (λL x=>e32 kQ L x.1 x.2) hm aN1
def sK (m57:(Int×Int×Int×Int×Bool)->Option (Int×Int×Int×Int×Bool)):Env cxT:={ Kc:=dN [(57,c57 m57)],Kw:=dQ [],lv:=λi=>if i=0 then[(0,[some 94]),(3,[some 75]),(4,[])]else[],xv:=λi=>if i=0 then some [(3,[some 75])]else none }
def S35_0 (a0:(List (Int×(Int×(Int×(Int×Bool))))))(v0_3:(List (Int×(Int×(Int×(Int×Bool))))))(v0_4:Int):St cxT.ty:={ slots:=[(.inl (.inl (ls { own:=0,nm:=0,e:=94,o:=false,xs:=a0 }))),aL,aL,(.inl (.inl (ls { own:=1,nm:=192,e:=75,o:=true,xs:=v0_3 }))),(.inl (.inl (lv (.int .i64 v0_4))))]++List.replicate 18 aL,D:=[],F:=[],ctr:=1 }
def X35_0 (a0:(List (Int×(Int×(Int×(Int×Bool))))))(w0_3:(List (Int×(Int×(Int×(Int×Bool)))))):St cxT.ty:={ slots:=[aL,aL,aL,(.inl (.inl (ls { own:=1,nm:=192,e:=75,o:=true,xs:=w0_3 })))]++List.replicate 19 aL,D:=[],F:=[],ctr:=1 }
theorem i35 (m57:(Int×Int×Int×Int×Bool)->Option (Int×Int×Int×Int×Bool))(L:Nat)(a0:(List (Int×(Int×(Int×(Int×Bool)))))):dW prog (sK m57) (aZ L) f35 (a35.enc a0)=
 bif (((decide ((0:Int)<=(Nat.cast (List.length a0):Int)))&&(decide ((Nat.cast (List.length a0):Int)<=(Nat.cast (List.length a0):Int))))&&(decide ((Nat.cast (List.length a0):Int)<=(1000000000:Int))))then cS prog (sK m57) L f35 0 [1,1,0,1,0,0] (dC (bB prog f35) (cO prog (sK m57) L f35 [1,1,0,1] (bB prog f35)).n (cO prog (sK m57) L f35 [1,1,0,1] (bB prog f35)).x) L (S35_0 a0 (List.replicate (Int.toNat (Nat.cast (List.length a0):Int)) ((0:Int),((0:Int),((0:Int),((0:Int),Bool.false))))) (0:Int))
 else none:=by kernel_rfl
theorem aJZ (m57:(Int×Int×Int×Int×Bool)->Option (Int×Int×Int×Int×Bool))(L:Nat)(a0:(List (Int×(Int×(Int×(Int×Bool))))))(k:St cxT.ty->Option (V cxT.ty))(xk:Nat->St cxT.ty->Option (V cxT.ty))(g:St cxT.ty->Option (V cxT.ty))(v0_3:(List (Int×(Int×(Int×(Int×Bool))))))(v0_4:Int):eZ prog (sK m57) L f35 0 [1,1,0,1,0,0] (dC (bB prog f35) k xk) g (S35_0 a0 v0_3 v0_4)=
 bif (decide (v0_4 < (Nat.cast (List.length a0):Int)))then bif ((decide ((0:Int)<=v0_4))&&(decide (v0_4 < (Nat.cast (List.length a0):Int))))then cU (m57 ((List.getD a0 (Int.toNat v0_4) ((0:Int),((0:Int),((0:Int),((0:Int),Bool.false))))).1,((List.getD a0 (Int.toNat v0_4) ((0:Int),((0:Int),((0:Int),((0:Int),Bool.false))))).2.1,((List.getD a0 (Int.toNat v0_4) ((0:Int),((0:Int),((0:Int),((0:Int),Bool.false))))).2.2.1,((List.getD a0 (Int.toNat v0_4) ((0:Int),((0:Int),((0:Int),((0:Int),Bool.false))))).2.2.2.1,(List.getD a0 (Int.toNat v0_4) ((0:Int),((0:Int),((0:Int),((0:Int),Bool.false))))).2.2.2.2))))) ((0:Int),(0:Int),(0:Int),(0:Int),false) λ(q3:(Int×Int×Int×Int×Bool))=>bif ((decide ((0:Int)<=v0_4))&&(decide (v0_4 < (Nat.cast (List.length v0_3):Int))))then g (S35_0 a0 (List.set v0_3 (Int.toNat v0_4) (q3.1,(q3.2.1,(q3.2.2.1,(q3.2.2.2.1,q3.2.2.2.2))))) (wrap Go.IntKind.i64 (v0_4+(1:Int))))
    else none
  else none
 else k (X35_0 a0 v0_3):=by kernel_rfl
theorem aIJ (m57:(Int×Int×Int×Int×Bool)->Option (Int×Int×Int×Int×Bool))(L:Nat)(a0:(List (Int×(Int×(Int×(Int×Bool))))))(w0_3:(List (Int×(Int×(Int×(Int×Bool)))))):(cO prog (sK m57) L f35 [1,1,0,1] (bB prog f35)).n (X35_0 a0 w0_3)=
 some (n35 w0_3):=by kernel_rfl
def uC (m57:(Int×Int×Int×Int×Bool)->Option (Int×Int×Int×Int×Bool))(L:Nat)(a0:(List (Int×(Int×(Int×(Int×Bool)))))):Nat->(List (Int×(Int×(Int×(Int×Bool)))))->Int->((List (Int×(Int×(Int×(Int×Bool)))))->Option (List (Int×(Int×(Int×(Int×Bool))))))->Option (List (Int×(Int×(Int×(Int×Bool)))))
 | 0,_,_,_=>none
 | n+1,v0_3,v0_4,k=>
  bif (decide (v0_4 < (Nat.cast (List.length a0):Int)))then bif ((decide ((0:Int)<=v0_4))&&(decide (v0_4 < (Nat.cast (List.length a0):Int))))then cU (m57 ((List.getD a0 (Int.toNat v0_4) ((0:Int),((0:Int),((0:Int),((0:Int),Bool.false))))).1,((List.getD a0 (Int.toNat v0_4) ((0:Int),((0:Int),((0:Int),((0:Int),Bool.false))))).2.1,((List.getD a0 (Int.toNat v0_4) ((0:Int),((0:Int),((0:Int),((0:Int),Bool.false))))).2.2.1,((List.getD a0 (Int.toNat v0_4) ((0:Int),((0:Int),((0:Int),((0:Int),Bool.false))))).2.2.2.1,(List.getD a0 (Int.toNat v0_4) ((0:Int),((0:Int),((0:Int),((0:Int),Bool.false))))).2.2.2.2))))) ((0:Int),(0:Int),(0:Int),(0:Int),false) λ(q4:(Int×Int×Int×Int×Bool))=>bif ((decide ((0:Int)<=v0_4))&&(decide (v0_4 < (Nat.cast (List.length v0_3):Int))))then uC m57 L a0 n (List.set v0_3 (Int.toNat v0_4) (q4.1,(q4.2.1,(q4.2.2.1,(q4.2.2.2.1,q4.2.2.2.2))))) (wrap Go.IntKind.i64 (v0_4+(1:Int))) k
     else none
   else none
  else k v0_3
theorem aF7 (m57:(Int×Int×Int×Int×Bool)->Option (Int×Int×Int×Int×Bool))(L:Nat)(a0:(List (Int×(Int×(Int×(Int×Bool))))))(k:St cxT.ty->Option (V cxT.ty))(xk:Nat->St cxT.ty->Option (V cxT.ty))(k':(List (Int×(Int×(Int×(Int×Bool)))))->Option (List (Int×(Int×(Int×(Int×Bool))))))(hk:∀ (w0_3:(List (Int×(Int×(Int×(Int×Bool)))))),k (X35_0 a0 w0_3)=(k' w0_3).map n35):∀ (n:Nat) (v0_3:(List (Int×(Int×(Int×(Int×Bool)))))) (v0_4:Int),cS prog (sK m57) L f35 0 [1,1,0,1,0,0] (dC (bB prog f35) k xk) n (S35_0 a0 v0_3 v0_4)=(uC m57 L a0 n v0_3 v0_4 k').map n35
 | 0,_,_=>rfl
 | n+1,v0_3,v0_4=>by
  rw[cV,aJZ];have ih:=aF7 m57 L a0 k xk k' hk n;simp only[uC,aS,aQ,aR,aD,aH,ih,hk]
def g35 (m57:(Int×Int×Int×Int×Bool)->Option (Int×Int×Int×Int×Bool))(L:Nat)(a0:(List (Int×(Int×(Int×(Int×Bool)))))):Option (List (Int×(Int×(Int×(Int×Bool))))):=
 bif (((decide ((0:Int)<=(Nat.cast (List.length a0):Int)))&&(decide ((Nat.cast (List.length a0):Int)<=(Nat.cast (List.length a0):Int))))&&(decide ((Nat.cast (List.length a0):Int)<=(1000000000:Int))))then uC m57 L a0 L (List.replicate (Int.toNat (Nat.cast (List.length a0):Int)) ((0:Int),((0:Int),((0:Int),((0:Int),Bool.false))))) (0:Int) (λ(w0_3:(List (Int×(Int×(Int×(Int×Bool))))))=>some w0_3)
 else none
theorem e35 (m57:(Int×Int×Int×Int×Bool)->Option (Int×Int×Int×Int×Bool))(L:Nat)(a0:(List (Int×(Int×(Int×(Int×Bool)))))):dW prog (sK m57) (aZ L) f35 (a35.enc a0)=(g35 m57 L a0).map n35:=by
 let K'0:(List (Int×(Int×(Int×(Int×Bool)))))->Option (List (Int×(Int×(Int×(Int×Bool))))):=(λ(w0_3:(List (Int×(Int×(Int×(Int×Bool))))))=>some w0_3)
 have hin0:∀ (v0_3:(List (Int×(Int×(Int×(Int×Bool)))))) (v0_4:Int),cS prog (sK m57) L f35 0 [1,1,0,1,0,0] (dC (bB prog f35) (cO prog (sK m57) L f35 [1,1,0,1] (bB prog f35)).n (cO prog (sK m57) L f35 [1,1,0,1] (bB prog f35)).x) L (S35_0 a0 v0_3 v0_4)=(uC m57 L a0 L v0_3 v0_4 K'0).map n35:=λv0_3 v0_4=>aF7 m57 L a0 _ _ K'0 (λw0_3=>by rw[aIJ];simp only[K'0,aS,aQ,aR,aD,aH]) L v0_3 v0_4
 rw[i35];simp only[g35,aS,aQ,aR,aD,aH,hin0,K'0]
theorem s35 (m57:(Int×Int×Int×Int×Bool)->Option (Int×Int×Int×Int×Bool))(h57:Sat prog cxT 57 (c57 m57))(m:(List (Int×(Int×(Int×(Int×Bool)))))->Option (List (Int×(Int×(Int×(Int×Bool))))))(hm:∀ (x:(List (Int×(Int×(Int×(Int×Bool)))))) t,m x=some t->∃ L,g35 m57 L x=some t):Sat prog cxT 35 (c35 m):=
 dB cA bR (by rfl) (fn:=f35) rfl a35 n35 aLj m (sK m57) (bA h57 bQ) bH (λL x=>g35 m57 L x) (λL x=>e35 m57 L x) hm aNY
def sJ (lB:(Int×Int×Int×(List Int))->Option (Int×Int×Int×(List Int))):Env cxT:={ Kc:=dN [(58,c58 lB)],Kw:=dQ [],lv:=λi=>if i=0 then[(0,[some 91]),(3,[some 79]),(4,[])]else[],xv:=λi=>if i=0 then some [(3,[some 79])]else none }
def S36_0 (a0:(List (Int×(Int×(Int×(List Int))))))(v0_3:(List (Int×(Int×(Int×(List Int))))))(v0_4:Int):St cxT.ty:={ slots:=[(.inl (.inl (ls { own:=0,nm:=0,e:=91,o:=false,xs:=a0 }))),aL,aL,(.inl (.inl (ls { own:=1,nm:=192,e:=79,o:=true,xs:=v0_3 }))),(.inl (.inl (lv (.int .i64 v0_4))))]++List.replicate 18 aL,D:=[],F:=[],ctr:=1 }
def X36_0 (a0:(List (Int×(Int×(Int×(List Int))))))(w0_3:(List (Int×(Int×(Int×(List Int)))))):St cxT.ty:={ slots:=[aL,aL,aL,(.inl (.inl (ls { own:=1,nm:=192,e:=79,o:=true,xs:=w0_3 })))]++List.replicate 19 aL,D:=[],F:=[],ctr:=1 }
theorem i36 (lB:(Int×Int×Int×(List Int))->Option (Int×Int×Int×(List Int)))(L:Nat)(a0:(List (Int×(Int×(Int×(List Int)))))):dW prog (sJ lB) (aZ L) f36 (a36.enc a0)=
 bif (((decide ((0:Int)<=(Nat.cast (List.length a0):Int)))&&(decide ((Nat.cast (List.length a0):Int)<=(Nat.cast (List.length a0):Int))))&&(decide ((Nat.cast (List.length a0):Int)<=(1000000000:Int))))then cS prog (sJ lB) L f36 0 [1,1,0,1,0,0] (dC (bB prog f36) (cO prog (sJ lB) L f36 [1,1,0,1] (bB prog f36)).n (cO prog (sJ lB) L f36 [1,1,0,1] (bB prog f36)).x) L (S36_0 a0 (List.replicate (Int.toNat (Nat.cast (List.length a0):Int)) ((0:Int),((0:Int),((0:Int),([]:List (Int)))))) (0:Int))
 else none:=by kernel_rfl
theorem aJY (lB:(Int×Int×Int×(List Int))->Option (Int×Int×Int×(List Int)))(L:Nat)(a0:(List (Int×(Int×(Int×(List Int))))))(k:St cxT.ty->Option (V cxT.ty))(xk:Nat->St cxT.ty->Option (V cxT.ty))(g:St cxT.ty->Option (V cxT.ty))(v0_3:(List (Int×(Int×(Int×(List Int))))))(v0_4:Int):eZ prog (sJ lB) L f36 0 [1,1,0,1,0,0] (dC (bB prog f36) k xk) g (S36_0 a0 v0_3 v0_4)=
 bif (decide (v0_4 < (Nat.cast (List.length a0):Int)))then bif ((decide ((0:Int)<=v0_4))&&(decide (v0_4 < (Nat.cast (List.length a0):Int))))then cU (lB ((List.getD a0 (Int.toNat v0_4) ((0:Int),((0:Int),((0:Int),([]:List (Int)))))).1,((List.getD a0 (Int.toNat v0_4) ((0:Int),((0:Int),((0:Int),([]:List (Int)))))).2.1,((List.getD a0 (Int.toNat v0_4) ((0:Int),((0:Int),((0:Int),([]:List (Int)))))).2.2.1,(List.getD a0 (Int.toNat v0_4) ((0:Int),((0:Int),((0:Int),([]:List (Int)))))).2.2.2)))) ((0:Int),(0:Int),(0:Int),[]) λ(q3:(Int×Int×Int×(List Int)))=>bif ((decide ((0:Int)<=v0_4))&&(decide (v0_4 < (Nat.cast (List.length v0_3):Int))))then g (S36_0 a0 (List.set v0_3 (Int.toNat v0_4) (q3.1,(q3.2.1,(q3.2.2.1,q3.2.2.2)))) (wrap Go.IntKind.i64 (v0_4+(1:Int))))
    else none
  else none
 else k (X36_0 a0 v0_3):=by kernel_rfl
theorem aII (lB:(Int×Int×Int×(List Int))->Option (Int×Int×Int×(List Int)))(L:Nat)(a0:(List (Int×(Int×(Int×(List Int))))))(w0_3:(List (Int×(Int×(Int×(List Int)))))):(cO prog (sJ lB) L f36 [1,1,0,1] (bB prog f36)).n (X36_0 a0 w0_3)=
 some (n36 w0_3):=by kernel_rfl
def uB (lB:(Int×Int×Int×(List Int))->Option (Int×Int×Int×(List Int)))(L:Nat)(a0:(List (Int×(Int×(Int×(List Int)))))):Nat->(List (Int×(Int×(Int×(List Int)))))->Int->((List (Int×(Int×(Int×(List Int)))))->Option (List (Int×(Int×(Int×(List Int))))))->Option (List (Int×(Int×(Int×(List Int)))))
 | 0,_,_,_=>none
 | n+1,v0_3,v0_4,k=>
  bif (decide (v0_4 < (Nat.cast (List.length a0):Int)))then bif ((decide ((0:Int)<=v0_4))&&(decide (v0_4 < (Nat.cast (List.length a0):Int))))then cU (lB ((List.getD a0 (Int.toNat v0_4) ((0:Int),((0:Int),((0:Int),([]:List (Int)))))).1,((List.getD a0 (Int.toNat v0_4) ((0:Int),((0:Int),((0:Int),([]:List (Int)))))).2.1,((List.getD a0 (Int.toNat v0_4) ((0:Int),((0:Int),((0:Int),([]:List (Int)))))).2.2.1,(List.getD a0 (Int.toNat v0_4) ((0:Int),((0:Int),((0:Int),([]:List (Int)))))).2.2.2)))) ((0:Int),(0:Int),(0:Int),[]) λ(q4:(Int×Int×Int×(List Int)))=>bif ((decide ((0:Int)<=v0_4))&&(decide (v0_4 < (Nat.cast (List.length v0_3):Int))))then uB lB L a0 n (List.set v0_3 (Int.toNat v0_4) (q4.1,(q4.2.1,(q4.2.2.1,q4.2.2.2)))) (wrap Go.IntKind.i64 (v0_4+(1:Int))) k
     else none
   else none
  else k v0_3
theorem aF6 (lB:(Int×Int×Int×(List Int))->Option (Int×Int×Int×(List Int)))(L:Nat)(a0:(List (Int×(Int×(Int×(List Int))))))(k:St cxT.ty->Option (V cxT.ty))(xk:Nat->St cxT.ty->Option (V cxT.ty))(k':(List (Int×(Int×(Int×(List Int)))))->Option (List (Int×(Int×(Int×(List Int))))))(hk:∀ (w0_3:(List (Int×(Int×(Int×(List Int)))))),k (X36_0 a0 w0_3)=(k' w0_3).map n36):∀ (n:Nat) (v0_3:(List (Int×(Int×(Int×(List Int)))))) (v0_4:Int),cS prog (sJ lB) L f36 0 [1,1,0,1,0,0] (dC (bB prog f36) k xk) n (S36_0 a0 v0_3 v0_4)=(uB lB L a0 n v0_3 v0_4 k').map n36
 | 0,_,_=>rfl
 | n+1,v0_3,v0_4=>by
  rw[cV,aJY];have ih:=aF6 lB L a0 k xk k' hk n;simp only[uB,aS,aQ,aR,aD,aH,ih,hk]
def g36 (lB:(Int×Int×Int×(List Int))->Option (Int×Int×Int×(List Int)))(L:Nat)(a0:(List (Int×(Int×(Int×(List Int)))))):Option (List (Int×(Int×(Int×(List Int))))):=
 bif (((decide ((0:Int)<=(Nat.cast (List.length a0):Int)))&&(decide ((Nat.cast (List.length a0):Int)<=(Nat.cast (List.length a0):Int))))&&(decide ((Nat.cast (List.length a0):Int)<=(1000000000:Int))))then uB lB L a0 L (List.replicate (Int.toNat (Nat.cast (List.length a0):Int)) ((0:Int),((0:Int),((0:Int),([]:List (Int)))))) (0:Int) (λ(w0_3:(List (Int×(Int×(Int×(List Int))))))=>some w0_3)
 else none
theorem e36 (lB:(Int×Int×Int×(List Int))->Option (Int×Int×Int×(List Int)))(L:Nat)(a0:(List (Int×(Int×(Int×(List Int)))))):dW prog (sJ lB) (aZ L) f36 (a36.enc a0)=(g36 lB L a0).map n36:=by
 let K'0:(List (Int×(Int×(Int×(List Int)))))->Option (List (Int×(Int×(Int×(List Int))))):=(λ(w0_3:(List (Int×(Int×(Int×(List Int))))))=>some w0_3)
 have hin0:∀ (v0_3:(List (Int×(Int×(Int×(List Int)))))) (v0_4:Int),cS prog (sJ lB) L f36 0 [1,1,0,1,0,0] (dC (bB prog f36) (cO prog (sJ lB) L f36 [1,1,0,1] (bB prog f36)).n (cO prog (sJ lB) L f36 [1,1,0,1] (bB prog f36)).x) L (S36_0 a0 v0_3 v0_4)=(uB lB L a0 L v0_3 v0_4 K'0).map n36:=λv0_3 v0_4=>aF6 lB L a0 _ _ K'0 (λw0_3=>by rw[aII];simp only[K'0,aS,aQ,aR,aD,aH]) L v0_3 v0_4
 rw[i36];simp only[g36,aS,aQ,aR,aD,aH,hin0,K'0]
theorem s36 (lB:(Int×Int×Int×(List Int))->Option (Int×Int×Int×(List Int)))(h58:Sat prog cxT 58 (c58 lB))(m:(List (Int×(Int×(Int×(List Int)))))->Option (List (Int×(Int×(Int×(List Int))))))(hm:∀ (x:(List (Int×(Int×(Int×(List Int)))))) t,m x=some t->∃ L,g36 lB L x=some t):Sat prog cxT 36 (c36 m):=
 dB cA bR (by rfl) (fn:=f36) rfl a36 n36 aLi m (sJ lB) (bA h58 bQ) bH (λL x=>g36 lB L x) (λL x=>e36 lB L x) hm aNX
def aHv (wI:((List (Int×(Int×(Int×(Int×Bool)))))×Int)->Option Int)(wH:((List (Int×(Int×(Int×(List Int)))))×Int)->Option Int):Env cxT:={ Kc:=dN [(31,c31 wI),(32,c32 wH)],Kw:=dQ [],lv:=λi=>[],xv:=λi=>none }
theorem i16 (wI:((List (Int×(Int×(Int×(Int×Bool)))))×Int)->Option Int)(wH:((List (Int×(Int×(Int×(List Int)))))×Int)->Option Int)(L:Nat)(a0_0:Int)(a0_1:(List (Int×(Int×(Int×(Int×Bool))))))(a0_2:(List (Int×(Int×(Int×(List Int))))))(a1:Int):dW prog (aHv wI wH) (aZ L) f16 (a16.enc ((a0_0,a0_1,a0_2),a1))=
 cU (wI (a0_1,a1)) (0:Int) λ(q1:Int)=>bif (decide (q1 < (0:Int)))then some (n16 (-(1:Int)))
  else cU (wH (a0_2,q1)) (0:Int) λ(q2:Int)=>bif (decide (q2 < (0:Int)))then some (n16 (-(1:Int)))
   else some (n16 q2):=by kernel_rfl
def g16 (wI:((List (Int×(Int×(Int×(Int×Bool)))))×Int)->Option Int)(wH:((List (Int×(Int×(Int×(List Int)))))×Int)->Option Int)(L:Nat)(a0_0:Int)(a0_1:(List (Int×(Int×(Int×(Int×Bool))))))(a0_2:(List (Int×(Int×(Int×(List Int))))))(a1:Int):Option Int:=
 cU (wI (a0_1,a1)) (0:Int) λ(q1:Int)=>bif (decide (q1 < (0:Int)))then some (-(1:Int))
  else cU (wH (a0_2,q1)) (0:Int) λ(q2:Int)=>bif (decide (q2 < (0:Int)))then some (-(1:Int))
   else some q2
theorem e16 (wI:((List (Int×(Int×(Int×(Int×Bool)))))×Int)->Option Int)(wH:((List (Int×(Int×(Int×(List Int)))))×Int)->Option Int)(L:Nat)(a0_0:Int)(a0_1:(List (Int×(Int×(Int×(Int×Bool))))))(a0_2:(List (Int×(Int×(Int×(List Int))))))(a1:Int):dW prog (aHv wI wH) (aZ L) f16 (a16.enc ((a0_0,a0_1,a0_2),a1))=(g16 wI wH L a0_0 a0_1 a0_2 a1).map n16:=by
 rw[i16];simp only[g16,aS,aQ,aR,aD,aH]
theorem s16 (wI:((List (Int×(Int×(Int×(Int×Bool)))))×Int)->Option Int)(wH:((List (Int×(Int×(Int×(List Int)))))×Int)->Option Int)(h31:Sat prog cxT 31 (c31 wI))(h32:Sat prog cxT 32 (c32 wH))(m:((Int×(List (Int×(Int×(Int×(Int×Bool)))))×(List (Int×(Int×(Int×(List Int))))))×Int)->Option Int)(hm:∀ (x:((Int×(List (Int×(Int×(Int×(Int×Bool)))))×(List (Int×(Int×(Int×(List Int))))))×Int)) t,m x=some t->∃ L,g16 wI wH L x.1.1 x.1.2.1 x.1.2.2 x.2=some t):Sat prog cxT 16 (c16 m):=
 dB cA bR (by rfl) (fn:=f16) rfl a16 n16 aLw m (aHv wI wH) (bA h31 (bA h32 bQ)) bH (λL x=>g16 wI wH L x.1.1 x.1.2.1 x.1.2.2 x.2) (λL x=>e16 wI wH L x.1.1 x.1.2.1 x.1.2.2 x.2) hm aOb
def aHt (wF:(List (Int×(Int×(Int×(Int×Bool)))))->Option (List (Int×(Int×(Int×(Int×Bool))))))(wE:(List (Int×(Int×(Int×(List Int)))))->Option (List (Int×(Int×(Int×(List Int)))))):Env cxT:={ Kc:=dN [(35,c35 wF),(36,c36 wE)],Kw:=dQ [],lv:=λi=>[],xv:=λi=>none }
theorem i19 (wF:(List (Int×(Int×(Int×(Int×Bool)))))->Option (List (Int×(Int×(Int×(Int×Bool))))))(wE:(List (Int×(Int×(Int×(List Int)))))->Option (List (Int×(Int×(Int×(List Int))))))(L:Nat)(a0_0:Int)(a0_1:(List (Int×(Int×(Int×(Int×Bool))))))(a0_2:(List (Int×(Int×(Int×(List Int)))))):dW prog (aHt wF wE) (aZ L) f19 (a19.enc (a0_0,a0_1,a0_2))=
 cU (wF a0_1) [] λ(q1:(List (Int×(Int×(Int×(Int×Bool))))))=>cU (wE a0_2) [] λ(q2:(List (Int×(Int×(Int×(List Int))))))=>some (n19 (a0_0,q1,q2)):=by kernel_rfl
def g19 (wF:(List (Int×(Int×(Int×(Int×Bool)))))->Option (List (Int×(Int×(Int×(Int×Bool))))))(wE:(List (Int×(Int×(Int×(List Int)))))->Option (List (Int×(Int×(Int×(List Int))))))(L:Nat)(a0_0:Int)(a0_1:(List (Int×(Int×(Int×(Int×Bool))))))(a0_2:(List (Int×(Int×(Int×(List Int)))))):Option (Int×(List (Int×(Int×(Int×(Int×Bool)))))×(List (Int×(Int×(Int×(List Int)))))):=
 cU (wF a0_1) [] λ(q1:(List (Int×(Int×(Int×(Int×Bool))))))=>cU (wE a0_2) [] λ(q2:(List (Int×(Int×(Int×(List Int))))))=>some (a0_0,q1,q2)
theorem e19 (wF:(List (Int×(Int×(Int×(Int×Bool)))))->Option (List (Int×(Int×(Int×(Int×Bool))))))(wE:(List (Int×(Int×(Int×(List Int)))))->Option (List (Int×(Int×(Int×(List Int))))))(L:Nat)(a0_0:Int)(a0_1:(List (Int×(Int×(Int×(Int×Bool))))))(a0_2:(List (Int×(Int×(Int×(List Int)))))):dW prog (aHt wF wE) (aZ L) f19 (a19.enc (a0_0,a0_1,a0_2))=(g19 wF wE L a0_0 a0_1 a0_2).map n19:=by
 rw[i19];simp only[g19,aS,aQ,aR,aD,aH]
theorem s19 (wF:(List (Int×(Int×(Int×(Int×Bool)))))->Option (List (Int×(Int×(Int×(Int×Bool))))))(wE:(List (Int×(Int×(Int×(List Int)))))->Option (List (Int×(Int×(Int×(List Int))))))(h35:Sat prog cxT 35 (c35 wF))(h36:Sat prog cxT 36 (c36 wE))(m:(Int×(List (Int×(Int×(Int×(Int×Bool)))))×(List (Int×(Int×(Int×(List Int))))))->Option (Int×(List (Int×(Int×(Int×(Int×Bool)))))×(List (Int×(Int×(Int×(List Int)))))))(hm:∀ (x:(Int×(List (Int×(Int×(Int×(Int×Bool)))))×(List (Int×(Int×(Int×(List Int))))))) t,m x=some t->∃ L,g19 wF wE L x.1 x.2.1 x.2.2=some t):Sat prog cxT 19 (c19 m):=
 dB cA bR (by rfl) (fn:=f19) rfl a19 n19 aLt m (aHt wF wE) (bA h35 (bA h36 bQ)) bH (λL x=>g19 wF wE L x.1 x.2.1 x.2.2) (λL x=>e19 wF wE L x.1 x.2.1 x.2.2) hm aN8
def aHo:Env cxT:={ Kc:=dN [],Kw:=dQ [],lv:=λi=>[],xv:=λi=>none }
theorem i37 (L:Nat)(a0_0:Int)(a0_1:Int)(a0_2:Int):dW prog aHo (aZ L) f37 (a37.enc (a0_0,a0_1,a0_2))=
 some (n37 (a0_0,a0_1,a0_2)):=by kernel_rfl
def g37 (L:Nat)(a0_0:Int)(a0_1:Int)(a0_2:Int):Option (Int×Int×Int):=
 some (a0_0,a0_1,a0_2)
theorem e37 (L:Nat)(a0_0:Int)(a0_1:Int)(a0_2:Int):dW prog aHo (aZ L) f37 (a37.enc (a0_0,a0_1,a0_2))=(g37 L a0_0 a0_1 a0_2).map n37:=by
 rw[i37];simp only[g37,aS,aQ,aR,aD,aH]
theorem s37 (m:(Int×Int×Int)->Option (Int×Int×Int))(hm:∀ (x:(Int×Int×Int)) t,m x=some t->∃ L,g37 L x.1 x.2.1 x.2.2=some t):Sat prog cxT 37 (c37 m):=
 dB cA bR (by rfl) (fn:=f37) rfl a37 n37 aLh m aHo bQ bH (λL x=>g37 L x.1 x.2.1 x.2.2) (λL x=>e37 L x.1 x.2.1 x.2.2) hm aNW
def sN (m37:(Int×Int×Int)->Option (Int×Int×Int)):Env cxT:={ Kc:=dN [(37,c37 m37)],Kw:=dQ [],lv:=λi=>if i=0 then[(0,[some 72]),(3,[some 55]),(4,[])]else[],xv:=λi=>if i=0 then some [(3,[some 55])]else none }
def S20_0 (a0:(List (Int×(Int×Int))))(v0_3:(List (Int×(Int×Int))))(v0_4:Int):St cxT.ty:={ slots:=[(.inl (.inl (ls { own:=0,nm:=0,e:=72,o:=false,xs:=a0 }))),aL,aL,(.inl (.inl (ls { own:=1,nm:=192,e:=55,o:=true,xs:=v0_3 }))),(.inl (.inl (lv (.int .i64 v0_4))))]++List.replicate 18 aL,D:=[],F:=[],ctr:=1 }
def X20_0 (a0:(List (Int×(Int×Int))))(w0_3:(List (Int×(Int×Int)))):St cxT.ty:={ slots:=[aL,aL,aL,(.inl (.inl (ls { own:=1,nm:=192,e:=55,o:=true,xs:=w0_3 })))]++List.replicate 19 aL,D:=[],F:=[],ctr:=1 }
theorem i20 (m37:(Int×Int×Int)->Option (Int×Int×Int))(L:Nat)(a0:(List (Int×(Int×Int)))):dW prog (sN m37) (aZ L) f20 (a20.enc a0)=
 bif (((decide ((0:Int)<=(Nat.cast (List.length a0):Int)))&&(decide ((Nat.cast (List.length a0):Int)<=(Nat.cast (List.length a0):Int))))&&(decide ((Nat.cast (List.length a0):Int)<=(1000000000:Int))))then cS prog (sN m37) L f20 0 [1,1,0,1,0,0] (dC (bB prog f20) (cO prog (sN m37) L f20 [1,1,0,1] (bB prog f20)).n (cO prog (sN m37) L f20 [1,1,0,1] (bB prog f20)).x) L (S20_0 a0 (List.replicate (Int.toNat (Nat.cast (List.length a0):Int)) ((0:Int),((0:Int),(0:Int)))) (0:Int))
 else none:=by kernel_rfl
theorem aJ6 (m37:(Int×Int×Int)->Option (Int×Int×Int))(L:Nat)(a0:(List (Int×(Int×Int))))(k:St cxT.ty->Option (V cxT.ty))(xk:Nat->St cxT.ty->Option (V cxT.ty))(g:St cxT.ty->Option (V cxT.ty))(v0_3:(List (Int×(Int×Int))))(v0_4:Int):eZ prog (sN m37) L f20 0 [1,1,0,1,0,0] (dC (bB prog f20) k xk) g (S20_0 a0 v0_3 v0_4)=
 bif (decide (v0_4 < (Nat.cast (List.length a0):Int)))then bif ((decide ((0:Int)<=v0_4))&&(decide (v0_4 < (Nat.cast (List.length a0):Int))))then cU (m37 ((List.getD a0 (Int.toNat v0_4) ((0:Int),((0:Int),(0:Int)))).1,((List.getD a0 (Int.toNat v0_4) ((0:Int),((0:Int),(0:Int)))).2.1,(List.getD a0 (Int.toNat v0_4) ((0:Int),((0:Int),(0:Int)))).2.2))) ((0:Int),(0:Int),(0:Int)) λ(q3:(Int×Int×Int))=>bif ((decide ((0:Int)<=v0_4))&&(decide (v0_4 < (Nat.cast (List.length v0_3):Int))))then g (S20_0 a0 (List.set v0_3 (Int.toNat v0_4) (q3.1,(q3.2.1,q3.2.2))) (wrap Go.IntKind.i64 (v0_4+(1:Int))))
    else none
  else none
 else k (X20_0 a0 v0_3):=by kernel_rfl
theorem aIQ (m37:(Int×Int×Int)->Option (Int×Int×Int))(L:Nat)(a0:(List (Int×(Int×Int))))(w0_3:(List (Int×(Int×Int)))):(cO prog (sN m37) L f20 [1,1,0,1] (bB prog f20)).n (X20_0 a0 w0_3)=
 some (n20 w0_3):=by kernel_rfl
def uF (m37:(Int×Int×Int)->Option (Int×Int×Int))(L:Nat)(a0:(List (Int×(Int×Int)))):Nat->(List (Int×(Int×Int)))->Int->((List (Int×(Int×Int)))->Option (List (Int×(Int×Int))))->Option (List (Int×(Int×Int)))
 | 0,_,_,_=>none
 | n+1,v0_3,v0_4,k=>
  bif (decide (v0_4 < (Nat.cast (List.length a0):Int)))then bif ((decide ((0:Int)<=v0_4))&&(decide (v0_4 < (Nat.cast (List.length a0):Int))))then cU (m37 ((List.getD a0 (Int.toNat v0_4) ((0:Int),((0:Int),(0:Int)))).1,((List.getD a0 (Int.toNat v0_4) ((0:Int),((0:Int),(0:Int)))).2.1,(List.getD a0 (Int.toNat v0_4) ((0:Int),((0:Int),(0:Int)))).2.2))) ((0:Int),(0:Int),(0:Int)) λ(q4:(Int×Int×Int))=>bif ((decide ((0:Int)<=v0_4))&&(decide (v0_4 < (Nat.cast (List.length v0_3):Int))))then uF m37 L a0 n (List.set v0_3 (Int.toNat v0_4) (q4.1,(q4.2.1,q4.2.2))) (wrap Go.IntKind.i64 (v0_4+(1:Int))) k
     else none
   else none
  else k v0_3
theorem aGe (m37:(Int×Int×Int)->Option (Int×Int×Int))(L:Nat)(a0:(List (Int×(Int×Int))))(k:St cxT.ty->Option (V cxT.ty))(xk:Nat->St cxT.ty->Option (V cxT.ty))(k':(List (Int×(Int×Int)))->Option (List (Int×(Int×Int))))(hk:∀ (w0_3:(List (Int×(Int×Int)))),k (X20_0 a0 w0_3)=(k' w0_3).map n20):∀ (n:Nat) (v0_3:(List (Int×(Int×Int)))) (v0_4:Int),cS prog (sN m37) L f20 0 [1,1,0,1,0,0] (dC (bB prog f20) k xk) n (S20_0 a0 v0_3 v0_4)=(uF m37 L a0 n v0_3 v0_4 k').map n20
 | 0,_,_=>rfl
 | n+1,v0_3,v0_4=>by
  rw[cV,aJ6];have ih:=aGe m37 L a0 k xk k' hk n;simp only[uF,aS,aQ,aR,aD,aH,ih,hk]
def g20 (m37:(Int×Int×Int)->Option (Int×Int×Int))(L:Nat)(a0:(List (Int×(Int×Int)))):Option (List (Int×(Int×Int))):=
 bif (((decide ((0:Int)<=(Nat.cast (List.length a0):Int)))&&(decide ((Nat.cast (List.length a0):Int)<=(Nat.cast (List.length a0):Int))))&&(decide ((Nat.cast (List.length a0):Int)<=(1000000000:Int))))then uF m37 L a0 L (List.replicate (Int.toNat (Nat.cast (List.length a0):Int)) ((0:Int),((0:Int),(0:Int)))) (0:Int) (λ(w0_3:(List (Int×(Int×Int))))=>some w0_3)
 else none
theorem e20 (m37:(Int×Int×Int)->Option (Int×Int×Int))(L:Nat)(a0:(List (Int×(Int×Int)))):dW prog (sN m37) (aZ L) f20 (a20.enc a0)=(g20 m37 L a0).map n20:=by
 let K'0:(List (Int×(Int×Int)))->Option (List (Int×(Int×Int))):=(λ(w0_3:(List (Int×(Int×Int))))=>some w0_3)
 have hin0:∀ (v0_3:(List (Int×(Int×Int)))) (v0_4:Int),cS prog (sN m37) L f20 0 [1,1,0,1,0,0] (dC (bB prog f20) (cO prog (sN m37) L f20 [1,1,0,1] (bB prog f20)).n (cO prog (sN m37) L f20 [1,1,0,1] (bB prog f20)).x) L (S20_0 a0 v0_3 v0_4)=(uF m37 L a0 L v0_3 v0_4 K'0).map n20:=λv0_3 v0_4=>aGe m37 L a0 _ _ K'0 (λw0_3=>by rw[aIQ];simp only[K'0,aS,aQ,aR,aD,aH]) L v0_3 v0_4
 rw[i20];simp only[g20,aS,aQ,aR,aD,aH,hin0,K'0]
theorem s20 (m37:(Int×Int×Int)->Option (Int×Int×Int))(h37:Sat prog cxT 37 (c37 m37))(m:(List (Int×(Int×Int)))->Option (List (Int×(Int×Int))))(hm:∀ (x:(List (Int×(Int×Int)))) t,m x=some t->∃ L,g20 m37 L x=some t):Sat prog cxT 20 (c20 m):=
 dB cA bR (by rfl) (fn:=f20) rfl a20 n20 aLs m (sN m37) (bA h37 bQ) bH (λL x=>g20 m37 L x) (λL x=>e20 m37 L x) hm aN7
def aHk (m66:(Int×Int)->Option Int)(xX:(List Int)->Option Int):Env cxT:={ Kc:=dN [(66,c66 m66),(65,c65 xX)],Kw:=dQ [],lv:=λi=>[],xv:=λi=>none }
theorem i41 (m66:(Int×Int)->Option Int)(xX:(List Int)->Option Int)(L:Nat)(a0_0:Int)(a0_1:Int)(a0_2:Int)(a0_3:(List Int))(a1_0:Int)(a1_1:Int)(a1_2:Int)(a1_3:(List Int)):dW prog (aHk m66 xX) (aZ L) f41 (a41.enc ((a0_0,a0_1,a0_2,a0_3),(a1_0,a1_1,a1_2,a1_3)))=
 cU (m66 (a0_0,a1_0)) (0:Int) λ(q1:Int)=>cU (m66 (a0_1,a1_1)) (0:Int) λ(q2:Int)=>cU (m66 (a0_2,a1_2)) (0:Int) λ(q3:Int)=>cU (xX (List.cons q1 (List.cons q2 (List.cons q3 ([]:List (Int)))))) (0:Int) λ(q4:Int)=>some (n41 q4):=by kernel_rfl
def g41 (m66:(Int×Int)->Option Int)(xX:(List Int)->Option Int)(L:Nat)(a0_0:Int)(a0_1:Int)(a0_2:Int)(a0_3:(List Int))(a1_0:Int)(a1_1:Int)(a1_2:Int)(a1_3:(List Int)):Option Int:=
 cU (m66 (a0_0,a1_0)) (0:Int) λ(q1:Int)=>cU (m66 (a0_1,a1_1)) (0:Int) λ(q2:Int)=>cU (m66 (a0_2,a1_2)) (0:Int) λ(q3:Int)=>cU (xX (List.cons q1 (List.cons q2 (List.cons q3 ([]:List (Int)))))) (0:Int) λ(q4:Int)=>some q4
theorem e41 (m66:(Int×Int)->Option Int)(xX:(List Int)->Option Int)(L:Nat)(a0_0:Int)(a0_1:Int)(a0_2:Int)(a0_3:(List Int))(a1_0:Int)(a1_1:Int)(a1_2:Int)(a1_3:(List Int)):dW prog (aHk m66 xX) (aZ L) f41 (a41.enc ((a0_0,a0_1,a0_2,a0_3),(a1_0,a1_1,a1_2,a1_3)))=(g41 m66 xX L a0_0 a0_1 a0_2 a0_3 a1_0 a1_1 a1_2 a1_3).map n41:=by
 rw[i41];simp only[g41,aS,aQ,aR,aD,aH]
theorem s41 (m66:(Int×Int)->Option Int)(xX:(List Int)->Option Int)(h66:Sat prog cxT 66 (c66 m66))(h65:Sat prog cxT 65 (c65 xX))(m:((Int×Int×Int×(List Int))×(Int×Int×Int×(List Int)))->Option Int)(hm:∀ (x:((Int×Int×Int×(List Int))×(Int×Int×Int×(List Int)))) t,m x=some t->∃ L,g41 m66 xX L x.1.1 x.1.2.1 x.1.2.2.1 x.1.2.2.2 x.2.1 x.2.2.1 x.2.2.2.1 x.2.2.2.2=some t):Sat prog cxT 41 (c41 m):=
 dB cA bR (by rfl) (fn:=f41) rfl a41 n41 aLd m (aHk m66 xX) (bA h66 (bA h65 bQ)) bH (λL x=>g41 m66 xX L x.1.1 x.1.2.1 x.1.2.2.1 x.1.2.2.2 x.2.1 x.2.2.1 x.2.2.2.1 x.2.2.2.2) (λL x=>e41 m66 xX L x.1.1 x.1.2.1 x.1.2.2.1 x.1.2.2.2 x.2.1 x.2.2.1 x.2.2.2.1 x.2.2.2.2) hm aNS
def aHs (m43:Int->Option Bool)(m44:Int->Option Bool)(m45:Int->Option Bool):Env cxT:={ Kc:=dN [(43,c43 m43),(44,c44 m44),(45,c45 m45)],Kw:=dQ [],lv:=λi=>[],xv:=λi=>none }
theorem i22 (m43:Int->Option Bool)(m44:Int->Option Bool)(m45:Int->Option Bool)(L:Nat)(a0_0:Int)(a0_1:Int)(a0_2:Int):dW prog (aHs m43 m44 m45) (aZ L) f22 (a22.enc (a0_0,a0_1,a0_2))=
 cU (m43 a0_0) false λ(q1:Bool)=>bif q1 then bif (a0_0 != (0:Int))then cU (m44 a0_1) false λ(q4:Bool)=>bif q4 then bif (a0_1 != (0:Int))then cU (m45 a0_2) false λ(q7:Bool)=>some (n22 q7)
      else some (n22 Bool.false)
     else some (n22 Bool.false)
   else some (n22 Bool.false)
  else some (n22 Bool.false):=by kernel_rfl
def g22 (m43:Int->Option Bool)(m44:Int->Option Bool)(m45:Int->Option Bool)(L:Nat)(a0_0:Int)(a0_1:Int)(a0_2:Int):Option Bool:=
 cU (m43 a0_0) false λ(q1:Bool)=>bif q1 then bif (a0_0 != (0:Int))then cU (m44 a0_1) false λ(q4:Bool)=>bif q4 then bif (a0_1 != (0:Int))then cU (m45 a0_2) false λ(q7:Bool)=>some q7
      else some Bool.false
     else some Bool.false
   else some Bool.false
  else some Bool.false
theorem e22 (m43:Int->Option Bool)(m44:Int->Option Bool)(m45:Int->Option Bool)(L:Nat)(a0_0:Int)(a0_1:Int)(a0_2:Int):dW prog (aHs m43 m44 m45) (aZ L) f22 (a22.enc (a0_0,a0_1,a0_2))=(g22 m43 m44 m45 L a0_0 a0_1 a0_2).map n22:=by
 rw[i22];simp only[g22,aS,aQ,aR,aD,aH]
theorem s22 (m43:Int->Option Bool)(m44:Int->Option Bool)(m45:Int->Option Bool)(h43:Sat prog cxT 43 (c43 m43))(h44:Sat prog cxT 44 (c44 m44))(h45:Sat prog cxT 45 (c45 m45))(m:(Int×Int×Int)->Option Bool)(hm:∀ (x:(Int×Int×Int)) t,m x=some t->∃ L,g22 m43 m44 m45 L x.1 x.2.1 x.2.2=some t):Sat prog cxT 22 (c22 m):=
 dB cA bR (by rfl) (fn:=f22) rfl a22 n22 aLq m (aHs m43 m44 m45) (bA h43 (bA h44 (bA h45 bQ))) bH (λL x=>g22 m43 m44 m45 L x.1 x.2.1 x.2.2) (λL x=>e22 m43 m44 m45 L x.1 x.2.1 x.2.2) hm aN5
end Go.Proofs.Try
