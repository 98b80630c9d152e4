/- A part of the proof of FnWraps: L2Fg, L2Pg. -/
import Derived.Test.YtaegcoihgnobiaaL2Base
import Derived.Test.YtaegcoihgnobiaaL2Pf
set_option linter.unusedSimpArgs false
set_option linter.unusedVariables false
set_option maxHeartbeats 0
namespace Go.Proofs.Try
open Go.IntKind (wrap)
open Go Go.VM Go.RowKit
def tX (mI:Int->Option Bool):Env bH:={ Kc:=fJ [(82,c82 mI)],Kw:=fI [],lv:=λi=>if i=0 then[(6,[]),(7,[]),(31,[some 5]),(32,[]),(33,[])]else[],xv:=λi=>if i=0 then some [(6,[]),(7,[])]else none }
def S75_0 (a0:(List Int))(a1:Int)(a2:Int)(v0_6_0:Int)(v0_6_1:Int)(v0_7:Int)(v0_33:Int):St bH.ty:={ slots:=[aP,aP,aP,aP,aP,aP,(.inr (.inr { kind:=0,nm:=384,cells:=[(lv (.int .i64 v0_6_0)),(lv (.int .i64 v0_6_1))],s:={ own:=0,nm:=0,e:=0,o:=false,xs:=([]:List (PUnit)) },i:=0,off:=0 })),(.inl (.inl (lv (.int .u64 v0_7)))),aP,aP,aP,aP,aP,aP,aP,aP,aP,aP,aP,aP,aP,aP,aP,aP,aP,aP,aP,aP,aP,aP,aP,(.inl (.inl (ls { own:=0,nm:=0,e:=5,o:=false,xs:=(List.drop (Int.toNat a1) (List.take (Int.toNat (wrap Go.IntKind.i64 (a1+a2))) a0)) }))),(.inl (.inl (lv (.int .i64 (Nat.cast (List.length (List.drop (Int.toNat a1) (List.take (Int.toNat (wrap Go.IntKind.i64 (a1+a2))) a0))):Int))))),(.inl (.inl (lv (.int .i64 v0_33))))]++List.replicate 12 aP,D:=[],F:=[],ctr:=1 }
def X75_0 (a0:(List Int))(a1:Int)(a2:Int)(w0_6_0:Int)(w0_6_1:Int)(w0_7:Int):St bH.ty:={ slots:=[aP,aP,aP,aP,aP,aP,(.inr (.inr { kind:=0,nm:=384,cells:=[(lv (.int .i64 w0_6_0)),(lv (.int .i64 w0_6_1))],s:={ own:=0,nm:=0,e:=0,o:=false,xs:=([]:List (PUnit)) },i:=0,off:=0 })),(.inl (.inl (lv (.int .u64 w0_7))))]++List.replicate 38 aP,D:=[],F:=[],ctr:=1 }
theorem i75 (mI:Int->Option Bool)(L:Nat)(a0:(List Int))(a1:Int)(a2:Int):iK prog (tX mI) (bU L) f75 (a75.enc (a0,a1,a2))=
 bif (Option.isSome (mI a2))then bif (!(Option.getD (mI a2) Bool.false))then some (n75 ((3:Int),(0:Int)))
  else bif (decide (a1 < (0:Int)))then some (n75 ((3:Int),(0:Int)))
  else bif (decide (a1 > (wrap Go.IntKind.i64 ((Nat.cast (List.length a0):Int)-a2))))then some (n75 ((3:Int),(0:Int)))
  else bif (((decide ((0:Int)<=a1))&&(decide (a1<=(wrap Go.IntKind.i64 (a1+a2)))))&&(decide ((wrap Go.IntKind.i64 (a1+a2))<=(Nat.cast (List.length a0):Int))))then eL prog (tX mI) L f75 0 [1,1,1,0,1,0,0] (eK (cU prog f75) (gC prog (tX mI) L f75 [1,1,1,0,1] (cU prog f75)).n (gC prog (tX mI) L f75 [1,1,1,0,1] (cU prog f75)).x) L (S75_0 a0 a1 a2 (0:Int) (0:Int) (0:Int) (0:Int))
  else none
 else none:=by kernel_rfl
theorem aJh (mI:Int->Option Bool)(L:Nat)(a0:(List Int))(a1:Int)(a2:Int)(k:St bH.ty->Option (V bH.ty))(xk:Nat->St bH.ty->Option (V bH.ty))(g:St bH.ty->Option (V bH.ty))(v0_6_0:Int)(v0_6_1:Int)(v0_7:Int)(v0_33:Int):lA prog (tX mI) L f75 0 [1,1,1,0,1,0,0] (eK (cU prog f75) k xk) g (S75_0 a0 a1 a2 v0_6_0 v0_6_1 v0_7 v0_33)=
 bif (decide (v0_33 < (Nat.cast (List.length (List.drop (Int.toNat a1) (List.take (Int.toNat (wrap Go.IntKind.i64 (a1+a2))) a0))):Int)))then bif ((decide ((0:Int)<=v0_33))&&(decide (v0_33 < (Nat.cast (List.length (List.drop (Int.toNat a1) (List.take (Int.toNat (wrap Go.IntKind.i64 (a1+a2))) a0))):Int))))then g (S75_0 a0 a1 a2 v0_6_0 v0_6_1 (wrap Go.IntKind.u64 (Nat.cast (BitVec.toNat (HOr.hOr (BitVec.ofInt (Go.IntKind.bits Go.IntKind.u64) (wrap Go.IntKind.u64 (v0_7 * ((2:Int) ^ (min (Int.toNat (8:Int)) (Go.IntKind.bits Go.IntKind.u64)))))) (BitVec.ofInt (Go.IntKind.bits Go.IntKind.u64) (wrap Go.IntKind.u64 (List.getD (List.drop (Int.toNat a1) (List.take (Int.toNat (wrap Go.IntKind.i64 (a1+a2))) a0)) (Int.toNat v0_33) (0:Int)))))):Int)) (wrap Go.IntKind.i64 (v0_33+(1:Int))))
  else none
 else k (X75_0 a0 a1 a2 v0_6_0 v0_6_1 v0_7):=by kernel_rfl
theorem aIJ (mI:Int->Option Bool)(L:Nat)(a0:(List Int))(a1:Int)(a2:Int)(w0_6_0:Int)(w0_6_1:Int)(w0_7:Int):(gC prog (tX mI) L f75 [1,1,1,0,1] (cU prog f75)).n (X75_0 a0 a1 a2 w0_6_0 w0_6_1 w0_7)=
 some (n75 ((0:Int),(wrap Go.IntKind.i64 w0_7))):=by kernel_rfl
def vP (mI:Int->Option Bool)(L:Nat)(a0:(List Int))(a1:Int)(a2:Int):Nat->Int->Int->Int->Int->(Int->Int->Int->Option (Int×Int))->Option (Int×Int)
 | 0,_,_,_,_,_=>none
 | n+1,v0_6_0,v0_6_1,v0_7,v0_33,k=>
  bif (decide (v0_33 < (Nat.cast (List.length (List.drop (Int.toNat a1) (List.take (Int.toNat (wrap Go.IntKind.i64 (a1+a2))) a0))):Int)))then bif ((decide ((0:Int)<=v0_33))&&(decide (v0_33 < (Nat.cast (List.length (List.drop (Int.toNat a1) (List.take (Int.toNat (wrap Go.IntKind.i64 (a1+a2))) a0))):Int))))then vP mI L a0 a1 a2 n v0_6_0 v0_6_1 (wrap Go.IntKind.u64 (Nat.cast (BitVec.toNat (HOr.hOr (BitVec.ofInt (Go.IntKind.bits Go.IntKind.u64) (wrap Go.IntKind.u64 (v0_7 * ((2:Int) ^ (min (Int.toNat (8:Int)) (Go.IntKind.bits Go.IntKind.u64)))))) (BitVec.ofInt (Go.IntKind.bits Go.IntKind.u64) (wrap Go.IntKind.u64 (List.getD (List.drop (Int.toNat a1) (List.take (Int.toNat (wrap Go.IntKind.i64 (a1+a2))) a0)) (Int.toNat v0_33) (0:Int)))))):Int)) (wrap Go.IntKind.i64 (v0_33+(1:Int))) k
   else none
  else k v0_6_0 v0_6_1 v0_7
theorem aGB (mI:Int->Option Bool)(L:Nat)(a0:(List Int))(a1:Int)(a2:Int)(k:St bH.ty->Option (V bH.ty))(xk:Nat->St bH.ty->Option (V bH.ty))(k':Int->Int->Int->Option (Int×Int))(hk:∀ (w0_6_0:Int) (w0_6_1:Int) (w0_7:Int),k (X75_0 a0 a1 a2 w0_6_0 w0_6_1 w0_7)=(k' w0_6_0 w0_6_1 w0_7).map n75):∀ (n:Nat) (v0_6_0:Int) (v0_6_1:Int) (v0_7:Int) (v0_33:Int),eL prog (tX mI) L f75 0 [1,1,1,0,1,0,0] (eK (cU prog f75) k xk) n (S75_0 a0 a1 a2 v0_6_0 v0_6_1 v0_7 v0_33)=(vP mI L a0 a1 a2 n v0_6_0 v0_6_1 v0_7 v0_33 k').map n75
 | 0,_,_,_,_=>rfl
 | n+1,v0_6_0,v0_6_1,v0_7,v0_33=>by
  rw[fE,aJh];have ih:=aGB mI L a0 a1 a2 k xk k' hk n;simp only[vP,bQ,aF,aM,ih,hk]
def g75 (mI:Int->Option Bool)(L:Nat)(a0:(List Int))(a1:Int)(a2:Int):Option (Int×Int):=
 bif (Option.isSome (mI a2))then bif (!(Option.getD (mI a2) Bool.false))then some ((3:Int),(0:Int))
  else bif (decide (a1 < (0:Int)))then some ((3:Int),(0:Int))
  else bif (decide (a1 > (wrap Go.IntKind.i64 ((Nat.cast (List.length a0):Int)-a2))))then some ((3:Int),(0:Int))
  else bif (((decide ((0:Int)<=a1))&&(decide (a1<=(wrap Go.IntKind.i64 (a1+a2)))))&&(decide ((wrap Go.IntKind.i64 (a1+a2))<=(Nat.cast (List.length a0):Int))))then vP mI L a0 a1 a2 L (0:Int) (0:Int) (0:Int) (0:Int) (λ(w0_6_0:Int) (w0_6_1:Int) (w0_7:Int)=>some ((0:Int),(wrap Go.IntKind.i64 w0_7)))
  else none
 else none
theorem e75 (mI:Int->Option Bool)(L:Nat)(a0:(List Int))(a1:Int)(a2:Int):iK prog (tX mI) (bU L) f75 (a75.enc (a0,a1,a2))=(g75 mI L a0 a1 a2).map n75:=by
 let K'0:Int->Int->Int->Option (Int×Int):=(λ(w0_6_0:Int) (w0_6_1:Int) (w0_7:Int)=>some ((0:Int),(wrap Go.IntKind.i64 w0_7)))
 have hin0:∀ (v0_6_0:Int) (v0_6_1:Int) (v0_7:Int) (v0_33:Int),eL prog (tX mI) L f75 0 [1,1,1,0,1,0,0] (eK (cU prog f75) (gC prog (tX mI) L f75 [1,1,1,0,1] (cU prog f75)).n (gC prog (tX mI) L f75 [1,1,1,0,1] (cU prog f75)).x) L (S75_0 a0 a1 a2 v0_6_0 v0_6_1 v0_7 v0_33)=(vP mI L a0 a1 a2 L v0_6_0 v0_6_1 v0_7 v0_33 K'0).map n75:=λv0_6_0 v0_6_1 v0_7 v0_33=>aGB mI L a0 a1 a2 _ _ K'0 (λw0_6_0 w0_6_1 w0_7=>by rw[aIJ];simp only[K'0,bQ,aF,aM]) L v0_6_0 v0_6_1 v0_7 v0_33
 rw[i75];simp only[g75,bQ,aF,aM,hin0,K'0]
theorem s75 (mI:Int->Option Bool)(h82:Sat prog bH 82 (c82 mI))(m:((List Int)×Int×Int)->Option (Int×Int))(hm:∀ (x:((List Int)×Int×Int)) t,m x=some t->∃ L,g75 mI L x.1 x.2.1 x.2.2=some t):Sat prog bH 75 (c75 m):=
 fN dG cS (by rfl) (fn:=f75) rfl a75 n75 aJ9 m (tX mI) (bL h82 cR) cH (λL x=>g75 mI L x.1 x.2.1 x.2.2) (λL x=>e75 mI L x.1 x.2.1 x.2.2) hm aLE
def aHw:Env bH:={ Kc:=fJ [],Kw:=fI [],lv:=λi=>[],xv:=λi=>none }
theorem i82 (L:Nat)(a0:Int):iK prog aHw (bU L) f82 (a82.enc a0)=
 bif (decide (a0>=(1:Int)))then some (n82 (decide (a0<=(6:Int))))
 else some (n82 Bool.false):=by kernel_rfl
def g82 (L:Nat)(a0:Int):Option Bool:=
 bif (decide (a0>=(1:Int)))then some (decide (a0<=(6:Int)))
 else some Bool.false
theorem e82 (L:Nat)(a0:Int):iK prog aHw (bU L) f82 (a82.enc a0)=(g82 L a0).map n82:=by
 rw[i82];simp only[g82,bQ,aF,aM]
theorem s82 (m:Int->Option Bool)(hm:∀ (x:Int) t,m x=some t->∃ L,g82 L x=some t):Sat prog bH 82 (c82 m):=
 fN dG cS (by rfl) (fn:=f82) rfl a82 n82 aJ4 m aHw cR cH (λL x=>g82 L x) (λL x=>e82 L x) hm aLA
def uA:Env bH:={ Kc:=fJ [],Kw:=fI [],lv:=λi=>if i=0 then[(0,[some 5]),(1,[]),(2,[]),(7,[]),(8,[])]else[],xv:=λi=>if i=0 then some [(7,[])]else none }
def S50_0 (a0:(List Int))(a1:Int)(a2:Int)(v0_7:Int)(v0_8:Int):St bH.ty:={ slots:=[(.inl (.inl (ls { own:=0,nm:=0,e:=5,o:=false,xs:=a0 }))),(.inl (.inl (lv (.int .i64 a1)))),(.inl (.inl (lv (.int .i64 a2)))),aP,aP,aP,aP,(.inl (.inl (lv (.int .i64 v0_7)))),(.inl (.inl (lv (.int .i64 v0_8))))]++List.replicate 16 aP,D:=[],F:=[],ctr:=1 }
def X50_0 (a0:(List Int))(a1:Int)(a2:Int)(w0_7:Int):St bH.ty:={ slots:=[aP,aP,aP,aP,aP,aP,aP,(.inl (.inl (lv (.int .i64 w0_7))))]++List.replicate 17 aP,D:=[],F:=[],ctr:=1 }
theorem i50 (L:Nat)(a0:(List Int))(a1:Int)(a2:Int):iK prog uA (bU L) f50 (a50.enc (a0,a1,a2))=
 eL prog uA L f50 0 [1,1,0,1,0,0] (eK (cU prog f50) (gC prog uA L f50 [1,1,0,1] (cU prog f50)).n (gC prog uA L f50 [1,1,0,1] (cU prog f50)).x) L (S50_0 a0 a1 a2 (0:Int) (0:Int)):=by kernel_rfl
theorem aJm (L:Nat)(a0:(List Int))(a1:Int)(a2:Int)(k:St bH.ty->Option (V bH.ty))(xk:Nat->St bH.ty->Option (V bH.ty))(g:St bH.ty->Option (V bH.ty))(v0_7:Int)(v0_8:Int):lA prog uA L f50 0 [1,1,0,1,0,0] (eK (cU prog f50) k xk) g (S50_0 a0 a1 a2 v0_7 v0_8)=
 bif (decide (v0_8 < a2))then bif ((decide ((0:Int)<=(wrap Go.IntKind.i64 (a1+v0_8))))&&(decide ((wrap Go.IntKind.i64 (a1+v0_8)) < (Nat.cast (List.length a0):Int))))then g (S50_0 a0 a1 a2 (wrap Go.IntKind.i64 ((wrap Go.IntKind.i64 (v0_7 * (256:Int)))+(wrap Go.IntKind.i64 (List.getD a0 (Int.toNat (wrap Go.IntKind.i64 (a1+v0_8))) (0:Int))))) (wrap Go.IntKind.i64 (v0_8+(1:Int))))
  else none
 else k (X50_0 a0 a1 a2 v0_7):=by kernel_rfl
theorem aIO (L:Nat)(a0:(List Int))(a1:Int)(a2:Int)(w0_7:Int):(gC prog uA L f50 [1,1,0,1] (cU prog f50)).n (X50_0 a0 a1 a2 w0_7)=
 some (n50 w0_7):=by kernel_rfl
def vR (L:Nat)(a0:(List Int))(a1:Int)(a2:Int):Nat->Int->Int->(Int->Option Int)->Option Int
 | 0,_,_,_=>none
 | n+1,v0_7,v0_8,k=>
  bif (decide (v0_8 < a2))then bif ((decide ((0:Int)<=(wrap Go.IntKind.i64 (a1+v0_8))))&&(decide ((wrap Go.IntKind.i64 (a1+v0_8)) < (Nat.cast (List.length a0):Int))))then vR L a0 a1 a2 n (wrap Go.IntKind.i64 ((wrap Go.IntKind.i64 (v0_7 * (256:Int)))+(wrap Go.IntKind.i64 (List.getD a0 (Int.toNat (wrap Go.IntKind.i64 (a1+v0_8))) (0:Int))))) (wrap Go.IntKind.i64 (v0_8+(1:Int))) k
   else none
  else k v0_7
theorem aGG (L:Nat)(a0:(List Int))(a1:Int)(a2:Int)(k:St bH.ty->Option (V bH.ty))(xk:Nat->St bH.ty->Option (V bH.ty))(k':Int->Option Int)(hk:∀ (w0_7:Int),k (X50_0 a0 a1 a2 w0_7)=(k' w0_7).map n50):∀ (n:Nat) (v0_7:Int) (v0_8:Int),eL prog uA L f50 0 [1,1,0,1,0,0] (eK (cU prog f50) k xk) n (S50_0 a0 a1 a2 v0_7 v0_8)=(vR L a0 a1 a2 n v0_7 v0_8 k').map n50
 | 0,_,_=>rfl
 | n+1,v0_7,v0_8=>by
  rw[fE,aJm];have ih:=aGG L a0 a1 a2 k xk k' hk n;simp only[vR,bQ,aF,aM,ih,hk]
def g50 (L:Nat)(a0:(List Int))(a1:Int)(a2:Int):Option Int:=
 vR L a0 a1 a2 L (0:Int) (0:Int) (λ(w0_7:Int)=>some w0_7)
theorem e50 (L:Nat)(a0:(List Int))(a1:Int)(a2:Int):iK prog uA (bU L) f50 (a50.enc (a0,a1,a2))=(g50 L a0 a1 a2).map n50:=by
 let K'0:Int->Option Int:=(λ(w0_7:Int)=>some w0_7)
 have hin0:∀ (v0_7:Int) (v0_8:Int),eL prog uA L f50 0 [1,1,0,1,0,0] (eK (cU prog f50) (gC prog uA L f50 [1,1,0,1] (cU prog f50)).n (gC prog uA L f50 [1,1,0,1] (cU prog f50)).x) L (S50_0 a0 a1 a2 v0_7 v0_8)=(vR L a0 a1 a2 L v0_7 v0_8 K'0).map n50:=λv0_7 v0_8=>aGG L a0 a1 a2 _ _ K'0 (λw0_7=>by rw[aIO];simp only[K'0,bQ,aF,aM]) L v0_7 v0_8
 rw[i50];simp only[g50,bQ,aF,aM,hin0,K'0]
theorem s50 (m:((List Int)×Int×Int)->Option Int)(hm:∀ (x:((List Int)×Int×Int)) t,m x=some t->∃ L,g50 L x.1 x.2.1 x.2.2=some t):Sat prog bH 50 (c50 m):=
 fN dG cS (by rfl) (fn:=f50) rfl a50 n50 aKi m uA cR cH (λL x=>g50 L x.1 x.2.1 x.2.2) (λL x=>e50 L x.1 x.2.1 x.2.2) hm aLP
end Go.Proofs.Try
set_option maxHeartbeats 0
namespace Go.Proofs.Try
open Go.IntKind (wrap)
open Go Go.VM Go.RowKit
def mI (x:Int):Option Bool:=some (decide (1<=x/\x<=6))
theorem aIT:Sat prog bH 82 (c82 mI):=s82 mI λx t h=>by
 cases h;refine⟨0,?_⟩;unfold g82;by_cases h1:1<=x<;>simp[h1]
def num (a:List Int)(h:Int):Int:=a.foldl (λh x=>h * 256+x) h
theorem uH (h:Int):num [] h=h:=rfl
theorem jB (x:Int)(a:List Int)(h:Int):num (x::a) h=num a (h * 256+x):=rfl
theorem aEr {i:Nat}(h:i < 6):(256:Int) ^ i<=1099511627776:=by
 have:i=0\/i=1\/i=2\/i=3\/i=4\/i=5:=by omega
 rcases this with rfl | rfl | rfl | rfl | rfl | rfl<;>decide
theorem sB:∀ (a:List Int) (h:Int) (i:Nat),gE a=true->0<=h->h < 256 ^ i->0<=num a h/\num a h < 256 ^ (i+a.length)
 | [],h,i,_,h0,h1=>⟨h0,h1⟩
 | x::a,h,i,hb,h0,h1=>by
  obtain⟨hx,hb⟩:=kA.1 hb;have hp:(256:Int) ^ (i+1)=256 ^ i * 256:=tL ..
  have:=sB a (h * 256+x) (i+1) hb (by omega) (by omega);rw[jB,bT,show i+(a.length+1)=i+1+a.length by omega];exact this
def tQ (x:List Int×Int×Int):Option Int:=
 if gE x.1=true/\x.1.length<=1000000000000/\0<=x.2.1/\0<=x.2.2/\x.2.2<=6/\x.2.1+x.2.2<=x.1.length then some (num ((x.1.drop x.2.1.toNat).take x.2.2.toNat) 0)else none
theorem p50 (L:Nat)(a:List Int)(p z:Nat)(hb:gE a=true)(hl:a.length<=1000000000000)(hz:z<=6)(hp:p+z<=a.length)(k:Int->Option Int):∀ (n i:Nat) (h:Int),i<=z->z < n+i->0<=h->h < 256 ^ i->
  vR L a p z n h i k=k (num ((a.drop (p+i)).take (z-i)) h)
 | 0,i,h,h2,h3,_,_=>by omega
 | n+1,i,h,h2,h3,h4,h5=>by
  unfold vR;by_cases hi:i < z
  ·have hx:=jU hb (show p+i < a.length by omega);have hq:=aEr (show i < 6 by omega);have e1:((p:Int)+(i:Int))=((p+i:Nat):Int):=by simp
   simp(disch:=omega) only[dt,df,wi,cond_true,dY];rw[e1];simp(disch:=omega) only[dt,wi,cond_true,dY,cV];have hp2:(256:Int) ^ (i+1)=256 ^ i * 256:=tL ..
   have:=p50 L a p z hb hl hz hp k n (i+1) (h * 256+a.getD (p+i) 0) (by omega) (by omega) (by omega) (by omega);simp only[fH,eX]at this;rw[this,iW 0 (show p+i < a.length by omega),show z-i=(z-(i+1))+1 by omega,List.take_succ_cons,jB]
   rfl
  ·simp(disch:=omega) only[df,cond_false];rw[show z-i=0 by omega,List.take_zero,uH]
theorem aI3:Sat prog bH 50 (c50 tQ):=s50 tQ λx t h=>by
 obtain⟨a,p,z⟩:=x;unfold tQ at h;split at h
 ·rename_i hc;obtain⟨h1,h2,h3,h4,h5,h6⟩:=hc;simp only at h1 h2 h3 h4 h5 h6 h;cases h;refine⟨7,?_⟩;obtain⟨p,rfl⟩:=dM h3;obtain⟨z,rfl⟩:=dM h4;have:=p50 7 a p z h1 h2 (by omega) (by omega) some 7 0 0 (by omega) (by omega) (by omega) (by decide);unfold g50;simpa using this
 ·cases h
def nP (a:List Int)(p z:Int):Int×Int:=if 1<=z/\z<=6/\0<=p/\p<=a.length-z then(0,num ((a.drop p.toNat).take z.toNat) 0)else(3,0)
theorem aAO {a:List Int}{p z:Int}(h:1<=z/\z<=6/\0<=p/\p<=a.length-z):nP a p z=(0,num ((a.drop p.toNat).take z.toNat) 0):=if_pos h
theorem rT {a:List Int}{p z:Int}(h:¬ (1<=z/\z<=6/\0<=p/\p<=a.length-z)):nP a p z=(3,0):=if_neg h
def lI (x:List Int×Int×Int):Option (Int×Int):=if gE x.1=true/\x.1.length<=1000000000000/\iv x.2.2=true then some (nP x.1 x.2.1 x.2.2)else none
theorem p75 (mm:Int->Option Bool)(L:Nat)(a:List Int)(q z:Int)(b:List Int)(u v:Int)(hab:List.drop (Int.toNat q) (List.take (Int.toNat (wrap IntKind.i64 (q+z))) a)=b)(hb:gE b=true)(hl:b.length<=6)(k:Int->Int->Int->Option (Int×Int)):∀ (n i:Nat) (h:Int),i<=b.length->b.length < n+i->0<=h->h < 256 ^ i->
  vP mm L a q z n u v h i k=k u v (num (b.drop i) h)
 | 0,i,h,h2,h3,_,_=>by omega
 | n+1,i,h,h2,h3,h4,h5=>by
  unfold vP;rw[hab];by_cases hi:i < b.length
  ·have hx:=jU hb hi;have hq:=aEr (show i < 6 by omega);have hp2:(256:Int) ^ (i+1)=256 ^ i * 256:=tL ..
   simp(disch:=omega) only[dt,df,wi,cond_true,dY,cV];simp(disch:=omega) only[aG2,wu,aCL];have:=p75 mm L a q z b u v hab hb hl k n (i+1) (h * 256+b.getD i 0) (by omega) (by omega) (by omega) (by omega);simp only[fH,eX]at this;rw[this,iW 0 hi,jB]
  ·simp(disch:=omega) only[df,cond_false];rw[bW (by omega),uH]
theorem aGc:Sat prog bH 75 (c75 lI):=s75 mI aIT lI λx t h=>by
 obtain⟨a,p,z⟩:=x;unfold lI at h;split at h
 ·rename_i hc;obtain⟨h1,h2,h3⟩:=hc;simp only[iv,aD,decide_eq_true_eq]at h1 h2 h3 h;cases h;refine⟨7,?_⟩;unfold g75 mI;simp only[jF,fK,cond_true];by_cases hz:1<=z/\z<=6
  ·simp(disch:=omega) only[dt,wi,fU,cond_false];by_cases hp0:p < 0
   ·rw[rT (by omega),dt hp0]
    rfl
   ·by_cases hp1:p > (a.length:Int)-z
    ·rw[rT (by omega),df hp0,dt hp1]
     rfl
    ·simp(disch:=omega) only[dt,df,wi,cond_false,cond_true,dY];rw[aAO (by omega)];obtain⟨q,rfl⟩:=dM (show 0<=p by omega);obtain⟨y,rfl⟩:=dM (show 0<=z by omega);have hab:List.drop (Int.toNat (q:Int)) (List.take (Int.toNat (wrap IntKind.i64 ((q:Int)+(y:Int)))) a)=(a.drop q).take y:=by
      rw[wi (by omega) (by omega),<-fH,cV,cV,List.drop_take,gK]
     have hlen:((a.drop q).take y).length<=6:=by simp;omega
     have hbb:=kO h1 (b:=(a.drop q).take y) (λx hx=>fC (dA hx));have:=p75 (λx=>some (decide (1<=x/\x<=6))) 7 a q y ((a.drop q).take y) 0 0 hab hbb hlen (λ_ _ h=>some (0,wrap .i64 h)) 7 0 0 (by omega) (by omega) (by omega) (by decide);refine this.trans ?_;have hbd:=sB ((a.drop q).take y) 0 0 hbb (by omega) (by decide);have hbd2:(256:Int) ^ (0+((a.drop q).take y).length)<=281474976710656:=by
      have:((a.drop q).take y).length=0\/((a.drop q).take y).length=1\/((a.drop q).take y).length=2\/((a.drop q).take y).length=3\/((a.drop q).take y).length=4\/((a.drop q).take y).length=5\/((a.drop q).take y).length=6:=by omega
      rcases this with h | h | h | h | h | h | h<;>rw[h]<;>decide
     simp only[eS,cV];rw[wi (by omega) (by omega)]
  ·rw[rT (λh=>hz ⟨h.1,h.2.1⟩),df hz]
   rfl
 ·cases h
end Go.Proofs.Try
