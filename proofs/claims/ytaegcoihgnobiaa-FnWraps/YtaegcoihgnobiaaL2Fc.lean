/- A part of the proof of FnWraps: L2Fc, L2Pc. -/
import Derived.Test.YtaegcoihgnobiaaL2Base
import Derived.Test.YtaegcoihgnobiaaL2Fa
set_option linter.unusedSimpArgs false
set_option linter.unusedVariables false
set_option maxHeartbeats 0
namespace Go.Proofs.Try
open Go.IntKind (wrap)
open Go Go.VM Go.RowKit
def kF:Env bH:={ Kc:=fJ [],Kw:=fI [],lv:=λi=>if i=0 then[(0,[some 5]),(3,[]),(4,[])]else if i=2 then[(0,[some 5]),(3,[]),(4,[])]else[],xv:=λi=>if i=0 then some [(3,[])]else if i=2 then some [(0,[some 5]),(3,[]),(4,[])]else none }
def S73_0 (a0:(List Int))(v0_3:Int)(v0_4:Int):St bH.ty:={ slots:=[(.inl (.inl (ls { own:=0,nm:=0,e:=5,o:=false,xs:=a0 }))),aP,aP,(.inl (.inl (lv (.int .i64 v0_3)))),(.inl (.inl (lv (.int .i64 v0_4))))]++List.replicate 33 aP,D:=[],F:=[],ctr:=1 }
def X73_0 (a0:(List Int))(w0_3:Int):St bH.ty:={ slots:=[aP,aP,aP,(.inl (.inl (lv (.int .i64 w0_3))))]++List.replicate 34 aP,D:=[],F:=[],ctr:=1 }
def S73_2 (a0:(List Int))(v0_3:Int)(v0_4:Int)(v2_3:Int):St bH.ty:={ slots:=[(.inl (.inl (ls { own:=0,nm:=0,e:=5,o:=false,xs:=a0 }))),aP,aP,(.inl (.inl (lv (.int .i64 v2_3)))),(.inl (.inl (lv (.int .i64 v0_4))))]++List.replicate 33 aP,D:=[],F:=[],ctr:=1 }
def X73_2 (a0:(List Int))(v0_3:Int)(v0_4:Int)(w2_3:Int):St bH.ty:={ slots:=[(.inl (.inl (ls { own:=0,nm:=0,e:=5,o:=false,xs:=a0 }))),aP,aP,(.inl (.inl (lv (.int .i64 w2_3)))),(.inl (.inl (lv (.int .i64 v0_4))))]++List.replicate 33 aP,D:=[],F:=[],ctr:=1 }
theorem i73 (L:Nat)(a0:(List Int)):iK prog kF (bU L) f73 (a73.enc a0)=
 eL prog kF L f73 0 [1,1,0,1,0,0] (eK (cU prog f73) (gC prog kF L f73 [1,1,0,1] (cU prog f73)).n (gC prog kF L f73 [1,1,0,1] (cU prog f73)).x) L (S73_0 a0 (0:Int) (0:Int)):=by kernel_rfl
theorem aJj (L:Nat)(a0:(List Int))(k:St bH.ty->Option (V bH.ty))(xk:Nat->St bH.ty->Option (V bH.ty))(g:St bH.ty->Option (V bH.ty))(v0_3:Int)(v0_4:Int):lA prog kF L f73 0 [1,1,0,1,0,0] (eK (cU prog f73) k xk) g (S73_0 a0 v0_3 v0_4)=
 bif (decide (v0_4 < (Nat.cast (List.length a0):Int)))then bif ((decide ((0:Int)<=v0_4))&&(decide (v0_4 < (Nat.cast (List.length a0):Int))))then bif (decide ((wrap Go.IntKind.i64 (v0_4+(1:Int))) < (Nat.cast (List.length a0):Int)))then bif ((decide ((0:Int)<=(wrap Go.IntKind.i64 (v0_4+(1:Int)))))&&(decide ((wrap Go.IntKind.i64 (v0_4+(1:Int))) < (Nat.cast (List.length a0):Int))))then eL prog kF L f73 2 [1,1,0,1,0,0,1,0,0,1,1,0,0] (eK (cU prog f73) (inK prog kF L f73 0 [1,1,0,1,0,0] [1,0,0,1,1] (eK (cU prog f73) k xk) g).n (inK prog kF L f73 0 [1,1,0,1,0,0] [1,0,0,1,1] (eK (cU prog f73) k xk) g).x) L (S73_2 a0 v0_3 v0_4 (wrap Go.IntKind.i64 ((wrap Go.IntKind.i64 (v0_3+(wrap Go.IntKind.i64 ((256:Int) * (wrap Go.IntKind.i64 (List.getD a0 (Int.toNat v0_4) (0:Int)))))))+(wrap Go.IntKind.i64 (List.getD a0 (Int.toNat (wrap Go.IntKind.i64 (v0_4+(1:Int)))) (0:Int))))))
    else none
   else eL prog kF L f73 2 [1,1,0,1,0,0,1,0,0,1,1,0,0] (eK (cU prog f73) (inK prog kF L f73 0 [1,1,0,1,0,0] [1,0,0,1,1] (eK (cU prog f73) k xk) g).n (inK prog kF L f73 0 [1,1,0,1,0,0] [1,0,0,1,1] (eK (cU prog f73) k xk) g).x) L (S73_2 a0 v0_3 v0_4 (wrap Go.IntKind.i64 (v0_3+(wrap Go.IntKind.i64 ((256:Int) * (wrap Go.IntKind.i64 (List.getD a0 (Int.toNat v0_4) (0:Int))))))))
  else none
 else k (X73_0 a0 v0_3):=by kernel_rfl
theorem aIL (L:Nat)(a0:(List Int))(w0_3:Int):(gC prog kF L f73 [1,1,0,1] (cU prog f73)).n (X73_0 a0 w0_3)=
 some (n73 (wrap Go.IntKind.i64 ((65535:Int)-w0_3))):=by kernel_rfl
theorem aJi (L:Nat)(a0:(List Int))(v0_3:Int)(v0_4:Int)(k:St bH.ty->Option (V bH.ty))(xk:Nat->St bH.ty->Option (V bH.ty))(g:St bH.ty->Option (V bH.ty))(v2_3:Int):lA prog kF L f73 2 [1,1,0,1,0,0,1,0,0,1,1,0,0] (eK (cU prog f73) k xk) g (S73_2 a0 v0_3 v0_4 v2_3)=
 bif (decide (v2_3 > (65535:Int)))then g (S73_2 a0 v0_3 v0_4 (wrap Go.IntKind.i64 (v2_3-(65535:Int))))
 else k (X73_2 a0 v0_3 v0_4 v2_3):=by kernel_rfl
theorem aIK (L:Nat)(a0:(List Int))(v0_3:Int)(v0_4:Int)(k:St bH.ty->Option (V bH.ty))(xk:Nat->St bH.ty->Option (V bH.ty))(g:St bH.ty->Option (V bH.ty))(w2_3:Int):(inK prog kF L f73 0 [1,1,0,1,0,0] [1,0,0,1,1] (eK (cU prog f73) k xk) g).n (X73_2 a0 v0_3 v0_4 w2_3)=
 g (S73_0 a0 w2_3 (wrap Go.IntKind.i64 (v0_4+(2:Int)))):=by kernel_rfl
def rB (L:Nat)(a0:(List Int))(v0_3:Int)(v0_4:Int):Nat->Int->(Int->Option Int)->Option Int
 | 0,_,_=>none
 | n+1,v2_3,k=>
  bif (decide (v2_3 > (65535:Int)))then rB L a0 v0_3 v0_4 n (wrap Go.IntKind.i64 (v2_3-(65535:Int))) k
  else k v2_3
theorem aGC (L:Nat)(a0:(List Int))(v0_3:Int)(v0_4:Int)(k:St bH.ty->Option (V bH.ty))(xk:Nat->St bH.ty->Option (V bH.ty))(k':Int->Option Int)(hk:∀ (w2_3:Int),k (X73_2 a0 v0_3 v0_4 w2_3)=(k' w2_3).map n73):∀ (n:Nat) (v2_3:Int),eL prog kF L f73 2 [1,1,0,1,0,0,1,0,0,1,1,0,0] (eK (cU prog f73) k xk) n (S73_2 a0 v0_3 v0_4 v2_3)=(rB L a0 v0_3 v0_4 n v2_3 k').map n73
 | 0,_=>rfl
 | n+1,v2_3=>by
  rw[fE,aJi];have ih:=aGC L a0 v0_3 v0_4 k xk k' hk n;simp only[rB,bQ,aF,aM,ih,hk]
def rC (L:Nat)(a0:(List Int)):Nat->Int->Int->(Int->Option Int)->Option Int
 | 0,_,_,_=>none
 | n+1,v0_3,v0_4,k=>
  bif (decide (v0_4 < (Nat.cast (List.length a0):Int)))then bif ((decide ((0:Int)<=v0_4))&&(decide (v0_4 < (Nat.cast (List.length a0):Int))))then bif (decide ((wrap Go.IntKind.i64 (v0_4+(1:Int))) < (Nat.cast (List.length a0):Int)))then bif ((decide ((0:Int)<=(wrap Go.IntKind.i64 (v0_4+(1:Int)))))&&(decide ((wrap Go.IntKind.i64 (v0_4+(1:Int))) < (Nat.cast (List.length a0):Int))))then rB L a0 v0_3 v0_4 L (wrap Go.IntKind.i64 ((wrap Go.IntKind.i64 (v0_3+(wrap Go.IntKind.i64 ((256:Int) * (wrap Go.IntKind.i64 (List.getD a0 (Int.toNat v0_4) (0:Int)))))))+(wrap Go.IntKind.i64 (List.getD a0 (Int.toNat (wrap Go.IntKind.i64 (v0_4+(1:Int)))) (0:Int))))) (λ(w2_3:Int)=>rC L a0 n w2_3 (wrap Go.IntKind.i64 (v0_4+(2:Int))) k)
     else none
    else rB L a0 v0_3 v0_4 L (wrap Go.IntKind.i64 (v0_3+(wrap Go.IntKind.i64 ((256:Int) * (wrap Go.IntKind.i64 (List.getD a0 (Int.toNat v0_4) (0:Int))))))) (λ(w2_3:Int)=>rC L a0 n w2_3 (wrap Go.IntKind.i64 (v0_4+(2:Int))) k)
   else none
  else k v0_3
theorem aGD (L:Nat)(a0:(List Int))(k:St bH.ty->Option (V bH.ty))(xk:Nat->St bH.ty->Option (V bH.ty))(k':Int->Option Int)(hk:∀ (w0_3:Int),k (X73_0 a0 w0_3)=(k' w0_3).map n73):∀ (n:Nat) (v0_3:Int) (v0_4:Int),eL prog kF L f73 0 [1,1,0,1,0,0] (eK (cU prog f73) k xk) n (S73_0 a0 v0_3 v0_4)=(rC L a0 n v0_3 v0_4 k').map n73
 | 0,_,_=>rfl
 | n+1,v0_3,v0_4=>by
  rw[fE,aJj];have ih:=aGD L a0 k xk k' hk n
  let K'2:Int->Option Int:=(λ(w2_3:Int)=>rC L a0 n w2_3 (wrap Go.IntKind.i64 (v0_4+(2:Int))) k')
  have hin2:∀ (v2_3:Int),eL prog kF L f73 2 [1,1,0,1,0,0,1,0,0,1,1,0,0] (eK (cU prog f73) (inK prog kF L f73 0 [1,1,0,1,0,0] [1,0,0,1,1] (eK (cU prog f73) k xk) (eL prog kF L f73 0 [1,1,0,1,0,0] (eK (cU prog f73) k xk) n)).n (inK prog kF L f73 0 [1,1,0,1,0,0] [1,0,0,1,1] (eK (cU prog f73) k xk) (eL prog kF L f73 0 [1,1,0,1,0,0] (eK (cU prog f73) k xk) n)).x) L (S73_2 a0 v0_3 v0_4 v2_3)=(rB L a0 v0_3 v0_4 L v2_3 K'2).map n73:=λv2_3=>aGC L a0 v0_3 v0_4 _ _ (K'2) (λw2_3=>by rw[aIK];simp only[K'2,bQ,aF,aM,ih,hk]) L v2_3
  simp only[rC,bQ,aF,aM,ih,hk,hin2,K'2]
def g73 (L:Nat)(a0:(List Int)):Option Int:=
 rC L a0 L (0:Int) (0:Int) (λ(w0_3:Int)=>some (wrap Go.IntKind.i64 ((65535:Int)-w0_3)))
theorem e73 (L:Nat)(a0:(List Int)):iK prog kF (bU L) f73 (a73.enc a0)=(g73 L a0).map n73:=by
 let K'0:Int->Option Int:=(λ(w0_3:Int)=>some (wrap Go.IntKind.i64 ((65535:Int)-w0_3)))
 have hin0:∀ (v0_3:Int) (v0_4:Int),eL prog kF L f73 0 [1,1,0,1,0,0] (eK (cU prog f73) (gC prog kF L f73 [1,1,0,1] (cU prog f73)).n (gC prog kF L f73 [1,1,0,1] (cU prog f73)).x) L (S73_0 a0 v0_3 v0_4)=(rC L a0 L v0_3 v0_4 K'0).map n73:=λv0_3 v0_4=>aGD L a0 _ _ K'0 (λw0_3=>by rw[aIL];simp only[K'0,bQ,aF,aM]) L v0_3 v0_4
 rw[i73];simp only[g73,bQ,aF,aM,hin0,K'0]
theorem s73 (m:(List Int)->Option Int)(hm:∀ (x:(List Int)) t,m x=some t->∃ L,g73 L x=some t):Sat prog bH 73 (c73 m):=
 fN dG cS (by rfl) (fn:=f73) rfl a73 n73 aHZ m kF cR cH (λL x=>g73 L x) (λL x=>e73 L x) hm aLF
def aHv:Env bH:={ Kc:=fJ [],Kw:=fI [],lv:=λi=>[],xv:=λi=>none }
theorem i84 (L:Nat)(a0:(List Int))(a1:Int):iK prog aHv (bU L) f84 (a84.enc (a0,a1))=
 bif ((decide ((0:Int)<=a1))&&(decide (a1 < (Nat.cast (List.length a0):Int))))then bif (decide ((wrap Go.IntKind.i64 (a1+(1:Int))) < (Nat.cast (List.length a0):Int)))then bif ((decide ((0:Int)<=(wrap Go.IntKind.i64 (a1+(1:Int)))))&&(decide ((wrap Go.IntKind.i64 (a1+(1:Int))) < (Nat.cast (List.length a0):Int))))then some (n84 (wrap Go.IntKind.u64 (Nat.cast (BitVec.toNat (HOr.hOr (BitVec.ofInt (Go.IntKind.bits Go.IntKind.u64) (wrap Go.IntKind.u64 ((wrap Go.IntKind.u64 (List.getD a0 (Int.toNat a1) (0:Int))) * ((2:Int) ^ (min (Int.toNat (8:Int)) (Go.IntKind.bits Go.IntKind.u64)))))) (BitVec.ofInt (Go.IntKind.bits Go.IntKind.u64) (wrap Go.IntKind.u64 (List.getD a0 (Int.toNat (wrap Go.IntKind.i64 (a1+(1:Int)))) (0:Int)))))):Int)))
   else none
  else some (n84 (wrap Go.IntKind.u64 ((wrap Go.IntKind.u64 (List.getD a0 (Int.toNat a1) (0:Int))) * ((2:Int) ^ (min (Int.toNat (8:Int)) (Go.IntKind.bits Go.IntKind.u64))))))
 else none:=by kernel_rfl
def g84 (L:Nat)(a0:(List Int))(a1:Int):Option Int:=
 bif ((decide ((0:Int)<=a1))&&(decide (a1 < (Nat.cast (List.length a0):Int))))then bif (decide ((wrap Go.IntKind.i64 (a1+(1:Int))) < (Nat.cast (List.length a0):Int)))then bif ((decide ((0:Int)<=(wrap Go.IntKind.i64 (a1+(1:Int)))))&&(decide ((wrap Go.IntKind.i64 (a1+(1:Int))) < (Nat.cast (List.length a0):Int))))then some (wrap Go.IntKind.u64 (Nat.cast (BitVec.toNat (HOr.hOr (BitVec.ofInt (Go.IntKind.bits Go.IntKind.u64) (wrap Go.IntKind.u64 ((wrap Go.IntKind.u64 (List.getD a0 (Int.toNat a1) (0:Int))) * ((2:Int) ^ (min (Int.toNat (8:Int)) (Go.IntKind.bits Go.IntKind.u64)))))) (BitVec.ofInt (Go.IntKind.bits Go.IntKind.u64) (wrap Go.IntKind.u64 (List.getD a0 (Int.toNat (wrap Go.IntKind.i64 (a1+(1:Int)))) (0:Int)))))):Int))
   else none
  else some (wrap Go.IntKind.u64 ((wrap Go.IntKind.u64 (List.getD a0 (Int.toNat a1) (0:Int))) * ((2:Int) ^ (min (Int.toNat (8:Int)) (Go.IntKind.bits Go.IntKind.u64)))))
 else none
theorem e84 (L:Nat)(a0:(List Int))(a1:Int):iK prog aHv (bU L) f84 (a84.enc (a0,a1))=(g84 L a0 a1).map n84:=by
 rw[i84];simp only[g84,bQ,aF,aM]
theorem s84 (m:((List Int)×Int)->Option Int)(hm:∀ (x:((List Int)×Int)) t,m x=some t->∃ L,g84 L x.1 x.2=some t):Sat prog bH 84 (c84 m):=
 fN dG cS (by rfl) (fn:=f84) rfl a84 n84 aJ2 m aHv cR cH (λL x=>g84 L x.1 x.2) (λL x=>e84 L x.1 x.2) hm aLy
def lE (iF:((List Int)×Int)->Option Int):Env bH:={ Kc:=fJ [(84,c84 iF)],Kw:=fI [],lv:=λi=>if i=0 then[(0,[some 5]),(3,[]),(4,[])]else if i=2 then[(0,[some 5]),(3,[]),(4,[])]else[],xv:=λi=>if i=0 then some [(3,[])]else if i=2 then some [(0,[some 5]),(3,[]),(4,[])]else none }
def S83_0 (a0:(List Int))(v0_3:Int)(v0_4:Int):St bH.ty:={ slots:=[(.inl (.inl (ls { own:=0,nm:=0,e:=5,o:=false,xs:=a0 }))),aP,aP,(.inl (.inl (lv (.int .u64 v0_3)))),(.inl (.inl (lv (.int .i64 v0_4))))]++List.replicate 18 aP,D:=[],F:=[],ctr:=1 }
def X83_0 (a0:(List Int))(w0_3:Int):St bH.ty:={ slots:=[aP,aP,aP,(.inl (.inl (lv (.int .u64 w0_3))))]++List.replicate 19 aP,D:=[],F:=[],ctr:=1 }
def S83_2 (a0:(List Int))(v0_3:Int)(v0_4:Int)(v2_3:Int):St bH.ty:={ slots:=[(.inl (.inl (ls { own:=0,nm:=0,e:=5,o:=false,xs:=a0 }))),aP,aP,(.inl (.inl (lv (.int .u64 v2_3)))),(.inl (.inl (lv (.int .i64 v0_4))))]++List.replicate 18 aP,D:=[],F:=[],ctr:=1 }
def X83_2 (a0:(List Int))(v0_3:Int)(v0_4:Int)(w2_3:Int):St bH.ty:={ slots:=[(.inl (.inl (ls { own:=0,nm:=0,e:=5,o:=false,xs:=a0 }))),aP,aP,(.inl (.inl (lv (.int .u64 w2_3)))),(.inl (.inl (lv (.int .i64 v0_4))))]++List.replicate 18 aP,D:=[],F:=[],ctr:=1 }
theorem i83 (iF:((List Int)×Int)->Option Int)(L:Nat)(a0:(List Int)):iK prog (lE iF) (bU L) f83 (a83.enc a0)=
 eL prog (lE iF) L f83 0 [1,1,0,1,0,0] (eK (cU prog f83) (gC prog (lE iF) L f83 [1,1,0,1] (cU prog f83)).n (gC prog (lE iF) L f83 [1,1,0,1] (cU prog f83)).x) L (S83_0 a0 (0:Int) (0:Int)):=by kernel_rfl
theorem aJe (iF:((List Int)×Int)->Option Int)(L:Nat)(a0:(List Int))(k:St bH.ty->Option (V bH.ty))(xk:Nat->St bH.ty->Option (V bH.ty))(g:St bH.ty->Option (V bH.ty))(v0_3:Int)(v0_4:Int):lA prog (lE iF) L f83 0 [1,1,0,1,0,0] (eK (cU prog f83) k xk) g (S83_0 a0 v0_3 v0_4)=
 bif (decide (v0_4 < (Nat.cast (List.length a0):Int)))then bif (Option.isSome (iF (a0,v0_4)))then eL prog (lE iF) L f83 2 [1,1,0,1,0,0,1,0,0,1,0,0] (eK (cU prog f83) (inK prog (lE iF) L f83 0 [1,1,0,1,0,0] [1,0,0,1] (eK (cU prog f83) k xk) g).n (inK prog (lE iF) L f83 0 [1,1,0,1,0,0] [1,0,0,1] (eK (cU prog f83) k xk) g).x) L (S83_2 a0 v0_3 v0_4 (wrap Go.IntKind.u64 (v0_3+(Option.getD (iF (a0,v0_4)) (0:Int)))))
  else none
 else k (X83_0 a0 v0_3):=by kernel_rfl
theorem aIG (iF:((List Int)×Int)->Option Int)(L:Nat)(a0:(List Int))(w0_3:Int):(gC prog (lE iF) L f83 [1,1,0,1] (cU prog f83)).n (X83_0 a0 w0_3)=
 some (n83 (wrap Go.IntKind.i64 ((65535:Int)-(wrap Go.IntKind.i64 w0_3)))):=by kernel_rfl
theorem aJd (iF:((List Int)×Int)->Option Int)(L:Nat)(a0:(List Int))(v0_3:Int)(v0_4:Int)(k:St bH.ty->Option (V bH.ty))(xk:Nat->St bH.ty->Option (V bH.ty))(g:St bH.ty->Option (V bH.ty))(v2_3:Int):lA prog (lE iF) L f83 2 [1,1,0,1,0,0,1,0,0,1,0,0] (eK (cU prog f83) k xk) g (S83_2 a0 v0_3 v0_4 v2_3)=
 bif (decide (v2_3 > (65535:Int)))then g (S83_2 a0 v0_3 v0_4 (wrap Go.IntKind.u64 (v2_3-(65535:Int))))
 else k (X83_2 a0 v0_3 v0_4 v2_3):=by kernel_rfl
theorem aIF (iF:((List Int)×Int)->Option Int)(L:Nat)(a0:(List Int))(v0_3:Int)(v0_4:Int)(k:St bH.ty->Option (V bH.ty))(xk:Nat->St bH.ty->Option (V bH.ty))(g:St bH.ty->Option (V bH.ty))(w2_3:Int):(inK prog (lE iF) L f83 0 [1,1,0,1,0,0] [1,0,0,1] (eK (cU prog f83) k xk) g).n (X83_2 a0 v0_3 v0_4 w2_3)=
 g (S83_0 a0 w2_3 (wrap Go.IntKind.i64 (v0_4+(2:Int)))):=by kernel_rfl
def sX (iF:((List Int)×Int)->Option Int)(L:Nat)(a0:(List Int))(v0_3:Int)(v0_4:Int):Nat->Int->(Int->Option Int)->Option Int
 | 0,_,_=>none
 | n+1,v2_3,k=>
  bif (decide (v2_3 > (65535:Int)))then sX iF L a0 v0_3 v0_4 n (wrap Go.IntKind.u64 (v2_3-(65535:Int))) k
  else k v2_3
theorem aGx (iF:((List Int)×Int)->Option Int)(L:Nat)(a0:(List Int))(v0_3:Int)(v0_4:Int)(k:St bH.ty->Option (V bH.ty))(xk:Nat->St bH.ty->Option (V bH.ty))(k':Int->Option Int)(hk:∀ (w2_3:Int),k (X83_2 a0 v0_3 v0_4 w2_3)=(k' w2_3).map n83):∀ (n:Nat) (v2_3:Int),eL prog (lE iF) L f83 2 [1,1,0,1,0,0,1,0,0,1,0,0] (eK (cU prog f83) k xk) n (S83_2 a0 v0_3 v0_4 v2_3)=(sX iF L a0 v0_3 v0_4 n v2_3 k').map n83
 | 0,_=>rfl
 | n+1,v2_3=>by
  rw[fE,aJd];have ih:=aGx iF L a0 v0_3 v0_4 k xk k' hk n;simp only[sX,bQ,aF,aM,ih,hk]
def sY (iF:((List Int)×Int)->Option Int)(L:Nat)(a0:(List Int)):Nat->Int->Int->(Int->Option Int)->Option Int
 | 0,_,_,_=>none
 | n+1,v0_3,v0_4,k=>
  bif (decide (v0_4 < (Nat.cast (List.length a0):Int)))then bif (Option.isSome (iF (a0,v0_4)))then sX iF L a0 v0_3 v0_4 L (wrap Go.IntKind.u64 (v0_3+(Option.getD (iF (a0,v0_4)) (0:Int)))) (λ(w2_3:Int)=>sY iF L a0 n w2_3 (wrap Go.IntKind.i64 (v0_4+(2:Int))) k)
   else none
  else k v0_3
theorem aGy (iF:((List Int)×Int)->Option Int)(L:Nat)(a0:(List Int))(k:St bH.ty->Option (V bH.ty))(xk:Nat->St bH.ty->Option (V bH.ty))(k':Int->Option Int)(hk:∀ (w0_3:Int),k (X83_0 a0 w0_3)=(k' w0_3).map n83):∀ (n:Nat) (v0_3:Int) (v0_4:Int),eL prog (lE iF) L f83 0 [1,1,0,1,0,0] (eK (cU prog f83) k xk) n (S83_0 a0 v0_3 v0_4)=(sY iF L a0 n v0_3 v0_4 k').map n83
 | 0,_,_=>rfl
 | n+1,v0_3,v0_4=>by
  rw[fE,aJe];have ih:=aGy iF L a0 k xk k' hk n
  let K'2:Int->Option Int:=(λ(w2_3:Int)=>sY iF L a0 n w2_3 (wrap Go.IntKind.i64 (v0_4+(2:Int))) k')
  have hin2:∀ (v2_3:Int),eL prog (lE iF) L f83 2 [1,1,0,1,0,0,1,0,0,1,0,0] (eK (cU prog f83) (inK prog (lE iF) L f83 0 [1,1,0,1,0,0] [1,0,0,1] (eK (cU prog f83) k xk) (eL prog (lE iF) L f83 0 [1,1,0,1,0,0] (eK (cU prog f83) k xk) n)).n (inK prog (lE iF) L f83 0 [1,1,0,1,0,0] [1,0,0,1] (eK (cU prog f83) k xk) (eL prog (lE iF) L f83 0 [1,1,0,1,0,0] (eK (cU prog f83) k xk) n)).x) L (S83_2 a0 v0_3 v0_4 v2_3)=(sX iF L a0 v0_3 v0_4 L v2_3 K'2).map n83:=λv2_3=>aGx iF L a0 v0_3 v0_4 _ _ (K'2) (λw2_3=>by rw[aIF];simp only[K'2,bQ,aF,aM,ih,hk]) L v2_3
  simp only[sY,bQ,aF,aM,ih,hk,hin2,K'2]
def g83 (iF:((List Int)×Int)->Option Int)(L:Nat)(a0:(List Int)):Option Int:=
 sY iF L a0 L (0:Int) (0:Int) (λ(w0_3:Int)=>some (wrap Go.IntKind.i64 ((65535:Int)-(wrap Go.IntKind.i64 w0_3))))
theorem e83 (iF:((List Int)×Int)->Option Int)(L:Nat)(a0:(List Int)):iK prog (lE iF) (bU L) f83 (a83.enc a0)=(g83 iF L a0).map n83:=by
 let K'0:Int->Option Int:=(λ(w0_3:Int)=>some (wrap Go.IntKind.i64 ((65535:Int)-(wrap Go.IntKind.i64 w0_3))))
 have hin0:∀ (v0_3:Int) (v0_4:Int),eL prog (lE iF) L f83 0 [1,1,0,1,0,0] (eK (cU prog f83) (gC prog (lE iF) L f83 [1,1,0,1] (cU prog f83)).n (gC prog (lE iF) L f83 [1,1,0,1] (cU prog f83)).x) L (S83_0 a0 v0_3 v0_4)=(sY iF L a0 L v0_3 v0_4 K'0).map n83:=λv0_3 v0_4=>aGy iF L a0 _ _ K'0 (λw0_3=>by rw[aIG];simp only[K'0,bQ,aF,aM]) L v0_3 v0_4
 rw[i83];simp only[g83,bQ,aF,aM,hin0,K'0]
theorem s83 (iF:((List Int)×Int)->Option Int)(h84:Sat prog bH 84 (c84 iF))(m:(List Int)->Option Int)(hm:∀ (x:(List Int)) t,m x=some t->∃ L,g83 iF L x=some t):Sat prog bH 83 (c83 m):=
 fN dG cS (by rfl) (fn:=f83) rfl a83 n83 aJ3 m (lE iF) (bL h84 cR) cH (λL x=>g83 iF L x) (λL x=>e83 iF L x) hm aLz
def aJU (rQ:((List Int)×(List Int))->Option Bool):Env bH:={ Kc:=fJ [(32,c32 rQ)],Kw:=fI [],lv:=λi=>[],xv:=λi=>none }
theorem i24 (rQ:((List Int)×(List Int))->Option Bool)(L:Nat)(a0_0:Int)(a0_1:(List Int))(a1_0:Int)(a1_1:(List Int)):iK prog (aJU rQ) (bU L) f24 (a24.enc ((a0_0,a0_1),(a1_0,a1_1)))=
 bif (a0_0 != a1_0)then some (n24 Bool.false)
 else bif (Option.isSome (rQ (a0_1,a1_1)))then bif (!(Option.getD (rQ (a0_1,a1_1)) Bool.false))then some (n24 Bool.false)
  else some (n24 Bool.true)
 else none:=by kernel_rfl
def g24 (rQ:((List Int)×(List Int))->Option Bool)(L:Nat)(a0_0:Int)(a0_1:(List Int))(a1_0:Int)(a1_1:(List Int)):Option Bool:=
 bif (a0_0 != a1_0)then some Bool.false
 else bif (Option.isSome (rQ (a0_1,a1_1)))then bif (!(Option.getD (rQ (a0_1,a1_1)) Bool.false))then some Bool.false
  else some Bool.true
 else none
theorem e24 (rQ:((List Int)×(List Int))->Option Bool)(L:Nat)(a0_0:Int)(a0_1:(List Int))(a1_0:Int)(a1_1:(List Int)):iK prog (aJU rQ) (bU L) f24 (a24.enc ((a0_0,a0_1),(a1_0,a1_1)))=(g24 rQ L a0_0 a0_1 a1_0 a1_1).map n24:=by
 rw[i24];simp only[g24,bQ,aF,aM]
def tY:Env bH:={ Kc:=fJ [],Kw:=fI [],lv:=λi=>if i=0 then[(0,[]),(5,[some 5]),(11,[]),(12,[])]else[],xv:=λi=>if i=0 then some [(5,[some 5])]else none }
def S64_0 (a0:Int)(a1:Int)(v0_5:(List Int))(v0_12:Int):St bH.ty:={ slots:=[(.inl (.inl (lv (.int .u64 a0)))),aP,aP,aP,aP,(.inl (.inl (ls { own:=1,nm:=320,e:=5,o:=true,xs:=v0_5 }))),aP,aP,aP,aP,aP,(.inl (.inl (lv (.int .i64 (Nat.cast (List.length (List.replicate (Int.toNat a1) (0:Int))):Int))))),(.inl (.inl (lv (.int .i64 v0_12))))]++List.replicate 18 aP,D:=[],F:=[],ctr:=1 }
def X64_0 (a0:Int)(a1:Int)(w0_5:(List Int)):St bH.ty:={ slots:=[aP,aP,aP,aP,aP,(.inl (.inl (ls { own:=1,nm:=320,e:=5,o:=true,xs:=w0_5 })))]++List.replicate 25 aP,D:=[],F:=[],ctr:=1 }
theorem i64 (L:Nat)(a0:Int)(a1:Int):iK prog tY (bU L) f64 (a64.enc (a0,a1))=
 bif (((decide ((0:Int)<=a1))&&(decide (a1<=a1)))&&(decide (a1<=(1000000000:Int))))then eL prog tY L f64 0 [1,1,0,1,0,0] (eK (cU prog f64) (gC prog tY L f64 [1,1,0,1] (cU prog f64)).n (gC prog tY L f64 [1,1,0,1] (cU prog f64)).x) L (S64_0 a0 a1 (List.replicate (Int.toNat a1) (0:Int)) (0:Int))
 else none:=by kernel_rfl
theorem aJk (L:Nat)(a0:Int)(a1:Int)(k:St bH.ty->Option (V bH.ty))(xk:Nat->St bH.ty->Option (V bH.ty))(g:St bH.ty->Option (V bH.ty))(v0_5:(List Int))(v0_12:Int):lA prog tY L f64 0 [1,1,0,1,0,0] (eK (cU prog f64) k xk) g (S64_0 a0 a1 v0_5 v0_12)=
 bif (decide (v0_12 < (Nat.cast (List.length (List.replicate (Int.toNat a1) (0:Int))):Int)))then bif (decide ((wrap Go.IntKind.u64 ((8:Int) * (wrap Go.IntKind.u64 (wrap Go.IntKind.i64 ((wrap Go.IntKind.i64 ((Nat.cast (List.length v0_5):Int)-(1:Int)))-v0_12))))) < (0:Int)))then none
  else bif ((decide ((0:Int)<=v0_12))&&(decide (v0_12 < (Nat.cast (List.length v0_5):Int))))then g (S64_0 a0 a1 (List.set v0_5 (Int.toNat v0_12) (wrap Go.IntKind.u8 (Int.fdiv a0 ((2:Int) ^ (min (Int.toNat (wrap Go.IntKind.u64 ((8:Int) * (wrap Go.IntKind.u64 (wrap Go.IntKind.i64 ((wrap Go.IntKind.i64 ((Nat.cast (List.length v0_5):Int)-(1:Int)))-v0_12)))))) (Go.IntKind.bits Go.IntKind.u64)))))) (wrap Go.IntKind.i64 (v0_12+(1:Int))))
  else none
 else k (X64_0 a0 a1 v0_5):=by kernel_rfl
theorem aIM (L:Nat)(a0:Int)(a1:Int)(w0_5:(List Int)):(gC prog tY L f64 [1,1,0,1] (cU prog f64)).n (X64_0 a0 a1 w0_5)=
 some (n64 w0_5):=by kernel_rfl
def aBc (L:Nat)(a0:Int)(a1:Int):Nat->(List Int)->Int->((List Int)->Option (List Int))->Option (List Int)
 | 0,_,_,_=>none
 | n+1,v0_5,v0_12,k=>
  bif (decide (v0_12 < (Nat.cast (List.length (List.replicate (Int.toNat a1) (0:Int))):Int)))then bif (decide ((wrap Go.IntKind.u64 ((8:Int) * (wrap Go.IntKind.u64 (wrap Go.IntKind.i64 ((wrap Go.IntKind.i64 ((Nat.cast (List.length v0_5):Int)-(1:Int)))-v0_12))))) < (0:Int)))then none
   else bif ((decide ((0:Int)<=v0_12))&&(decide (v0_12 < (Nat.cast (List.length v0_5):Int))))then aBc L a0 a1 n (List.set v0_5 (Int.toNat v0_12) (wrap Go.IntKind.u8 (Int.fdiv a0 ((2:Int) ^ (min (Int.toNat (wrap Go.IntKind.u64 ((8:Int) * (wrap Go.IntKind.u64 (wrap Go.IntKind.i64 ((wrap Go.IntKind.i64 ((Nat.cast (List.length v0_5):Int)-(1:Int)))-v0_12)))))) (Go.IntKind.bits Go.IntKind.u64)))))) (wrap Go.IntKind.i64 (v0_12+(1:Int))) k
   else none
  else k v0_5
theorem aGE (L:Nat)(a0:Int)(a1:Int)(k:St bH.ty->Option (V bH.ty))(xk:Nat->St bH.ty->Option (V bH.ty))(k':(List Int)->Option (List Int))(hk:∀ (w0_5:(List Int)),k (X64_0 a0 a1 w0_5)=(k' w0_5).map n64):∀ (n:Nat) (v0_5:(List Int)) (v0_12:Int),eL prog tY L f64 0 [1,1,0,1,0,0] (eK (cU prog f64) k xk) n (S64_0 a0 a1 v0_5 v0_12)=(aBc L a0 a1 n v0_5 v0_12 k').map n64
 | 0,_,_=>rfl
 | n+1,v0_5,v0_12=>by
  rw[fE,aJk];have ih:=aGE L a0 a1 k xk k' hk n;simp only[aBc,bQ,aF,aM,ih,hk]
def g64 (L:Nat)(a0:Int)(a1:Int):Option (List Int):=
 bif (((decide ((0:Int)<=a1))&&(decide (a1<=a1)))&&(decide (a1<=(1000000000:Int))))then aBc L a0 a1 L (List.replicate (Int.toNat a1) (0:Int)) (0:Int) (λ(w0_5:(List Int))=>some w0_5)
 else none
theorem e64 (L:Nat)(a0:Int)(a1:Int):iK prog tY (bU L) f64 (a64.enc (a0,a1))=(g64 L a0 a1).map n64:=by
 let K'0:(List Int)->Option (List Int):=(λ(w0_5:(List Int))=>some w0_5)
 have hin0:∀ (v0_5:(List Int)) (v0_12:Int),eL prog tY L f64 0 [1,1,0,1,0,0] (eK (cU prog f64) (gC prog tY L f64 [1,1,0,1] (cU prog f64)).n (gC prog tY L f64 [1,1,0,1] (cU prog f64)).x) L (S64_0 a0 a1 v0_5 v0_12)=(aBc L a0 a1 L v0_5 v0_12 K'0).map n64:=λv0_5 v0_12=>aGE L a0 a1 _ _ K'0 (λw0_5=>by rw[aIM];simp only[K'0,bQ,aF,aM]) L v0_5 v0_12
 rw[i64];simp only[g64,bQ,aF,aM,hin0,K'0]
theorem s64 (m:(Int×Int)->Option (List Int))(hm:∀ (x:(Int×Int)) t,m x=some t->∃ L,g64 L x.1 x.2=some t):Sat prog bH 64 (c64 m):=
 fN dG cS (by rfl) (fn:=f64) rfl a64 n64 aKc m tY cR cH (λL x=>g64 L x.1 x.2) (λL x=>e64 L x.1 x.2) hm aLI
def tW:Env bH:={ Kc:=fJ [],Kw:=fI [],lv:=λi=>if i=0 then[(0,[]),(5,[some 5]),(6,[])]else[],xv:=λi=>if i=0 then some [(5,[some 5])]else none }
def S79_0 (a0:Int)(a1:Int)(v0_5:(List Int))(v0_6:Int):St bH.ty:={ slots:=[(.inl (.inl (lv (.int .i64 a0)))),aP,aP,aP,aP,(.inl (.inl (ls { own:=1,nm:=320,e:=5,o:=true,xs:=v0_5 }))),(.inl (.inl (lv (.int .i64 v0_6))))]++List.replicate 17 aP,D:=[],F:=[],ctr:=1 }
def X79_0 (a0:Int)(a1:Int)(w0_5:(List Int)):St bH.ty:={ slots:=[aP,aP,aP,aP,aP,(.inl (.inl (ls { own:=1,nm:=320,e:=5,o:=true,xs:=w0_5 })))]++List.replicate 18 aP,D:=[],F:=[],ctr:=1 }
theorem i79 (L:Nat)(a0:Int)(a1:Int):iK prog tW (bU L) f79 (a79.enc (a0,a1))=
 eL prog tW L f79 0 [1,1,0,1,0,0] (eK (cU prog f79) (gC prog tW L f79 [1,1,0,1] (cU prog f79)).n (gC prog tW L f79 [1,1,0,1] (cU prog f79)).x) L (S79_0 a0 a1 ([]:List (Int)) (wrap Go.IntKind.i64 (a1-(1:Int)))):=by kernel_rfl
theorem aJg (L:Nat)(a0:Int)(a1:Int)(k:St bH.ty->Option (V bH.ty))(xk:Nat->St bH.ty->Option (V bH.ty))(g:St bH.ty->Option (V bH.ty))(v0_5:(List Int))(v0_6:Int):lA prog tW L f79 0 [1,1,0,1,0,0] (eK (cU prog f79) k xk) g (S79_0 a0 a1 v0_5 v0_6)=
 bif (decide (v0_6>=(0:Int)))then bif (decide ((wrap Go.IntKind.u64 (wrap Go.IntKind.i64 ((8:Int) * v0_6))) < (0:Int)))then none
  else bif (decide (((List.length v0_5)+(List.length (List.cons (wrap Go.IntKind.u8 (Int.fdiv a0 ((2:Int) ^ (min (Int.toNat (wrap Go.IntKind.u64 (wrap Go.IntKind.i64 ((8:Int) * v0_6)))) (Go.IntKind.bits Go.IntKind.i64))))) ([]:List (Int)))))<=(1000000000:Nat)))then g (S79_0 a0 a1 (v0_5++(List.cons (wrap Go.IntKind.u8 (Int.fdiv a0 ((2:Int) ^ (min (Int.toNat (wrap Go.IntKind.u64 (wrap Go.IntKind.i64 ((8:Int) * v0_6)))) (Go.IntKind.bits Go.IntKind.i64))))) ([]:List (Int)))) (wrap Go.IntKind.i64 (v0_6-(1:Int))))
  else none
 else k (X79_0 a0 a1 v0_5):=by kernel_rfl
theorem aII (L:Nat)(a0:Int)(a1:Int)(w0_5:(List Int)):(gC prog tW L f79 [1,1,0,1] (cU prog f79)).n (X79_0 a0 a1 w0_5)=
 some (n79 w0_5):=by kernel_rfl
def aBb (L:Nat)(a0:Int)(a1:Int):Nat->(List Int)->Int->((List Int)->Option (List Int))->Option (List Int)
 | 0,_,_,_=>none
 | n+1,v0_5,v0_6,k=>
  bif (decide (v0_6>=(0:Int)))then bif (decide ((wrap Go.IntKind.u64 (wrap Go.IntKind.i64 ((8:Int) * v0_6))) < (0:Int)))then none
   else bif (decide (((List.length v0_5)+(List.length (List.cons (wrap Go.IntKind.u8 (Int.fdiv a0 ((2:Int) ^ (min (Int.toNat (wrap Go.IntKind.u64 (wrap Go.IntKind.i64 ((8:Int) * v0_6)))) (Go.IntKind.bits Go.IntKind.i64))))) ([]:List (Int)))))<=(1000000000:Nat)))then aBb L a0 a1 n (v0_5++(List.cons (wrap Go.IntKind.u8 (Int.fdiv a0 ((2:Int) ^ (min (Int.toNat (wrap Go.IntKind.u64 (wrap Go.IntKind.i64 ((8:Int) * v0_6)))) (Go.IntKind.bits Go.IntKind.i64))))) ([]:List (Int)))) (wrap Go.IntKind.i64 (v0_6-(1:Int))) k
   else none
  else k v0_5
theorem aGA (L:Nat)(a0:Int)(a1:Int)(k:St bH.ty->Option (V bH.ty))(xk:Nat->St bH.ty->Option (V bH.ty))(k':(List Int)->Option (List Int))(hk:∀ (w0_5:(List Int)),k (X79_0 a0 a1 w0_5)=(k' w0_5).map n79):∀ (n:Nat) (v0_5:(List Int)) (v0_6:Int),eL prog tW L f79 0 [1,1,0,1,0,0] (eK (cU prog f79) k xk) n (S79_0 a0 a1 v0_5 v0_6)=(aBb L a0 a1 n v0_5 v0_6 k').map n79
 | 0,_,_=>rfl
 | n+1,v0_5,v0_6=>by
  rw[fE,aJg];have ih:=aGA L a0 a1 k xk k' hk n;simp only[aBb,bQ,aF,aM,ih,hk]
def g79 (L:Nat)(a0:Int)(a1:Int):Option (List Int):=
 aBb L a0 a1 L ([]:List (Int)) (wrap Go.IntKind.i64 (a1-(1:Int))) (λ(w0_5:(List Int))=>some w0_5)
theorem e79 (L:Nat)(a0:Int)(a1:Int):iK prog tW (bU L) f79 (a79.enc (a0,a1))=(g79 L a0 a1).map n79:=by
 let K'0:(List Int)->Option (List Int):=(λ(w0_5:(List Int))=>some w0_5)
 have hin0:∀ (v0_5:(List Int)) (v0_6:Int),eL prog tW L f79 0 [1,1,0,1,0,0] (eK (cU prog f79) (gC prog tW L f79 [1,1,0,1] (cU prog f79)).n (gC prog tW L f79 [1,1,0,1] (cU prog f79)).x) L (S79_0 a0 a1 v0_5 v0_6)=(aBb L a0 a1 L v0_5 v0_6 K'0).map n79:=λv0_5 v0_6=>aGA L a0 a1 _ _ K'0 (λw0_5=>by rw[aII];simp only[K'0,bQ,aF,aM]) L v0_5 v0_6
 rw[i79];simp only[g79,bQ,aF,aM,hin0,K'0]
theorem s79 (m:(Int×Int)->Option (List Int))(hm:∀ (x:(Int×Int)) t,m x=some t->∃ L,g79 L x.1 x.2=some t):Sat prog bH 79 (c79 m):=
 fN dG cS (by rfl) (fn:=f79) rfl a79 n79 aJ6 m tW cR cH (λL x=>g79 L x.1 x.2) (λL x=>e79 L x.1 x.2) hm aLB
def tZ:Env bH:={ Kc:=fJ [],Kw:=fI [],lv:=λi=>if i=0 then[(3,[some 5]),(6,[some 22]),(7,[]),(8,[])]else[],xv:=λi=>if i=0 then some [(3,[some 5])]else none }
def S54_0 (a0:(List (List Int)))(v0_3:(List Int))(v0_8:Int):St bH.ty:={ slots:=[aP,aP,aP,(.inl (.inl (ls { own:=1,nm:=192,e:=5,o:=true,xs:=v0_3 }))),aP,aP,(.inl (.inl (ls { own:=0,nm:=0,e:=22,o:=false,xs:=a0 }))),(.inl (.inl (lv (.int .i64 (Nat.cast (List.length a0):Int))))),(.inl (.inl (lv (.int .i64 v0_8))))]++List.replicate 8 aP,D:=[],F:=[],ctr:=1 }
def X54_0 (a0:(List (List Int)))(w0_3:(List Int)):St bH.ty:={ slots:=[aP,aP,aP,(.inl (.inl (ls { own:=1,nm:=192,e:=5,o:=true,xs:=w0_3 })))]++List.replicate 13 aP,D:=[],F:=[],ctr:=1 }
theorem i54 (L:Nat)(a0:(List (List Int))):iK prog tZ (bU L) f54 (a54.enc a0)=
 eL prog tZ L f54 0 [1,1,0,1,0,0] (eK (cU prog f54) (gC prog tZ L f54 [1,1,0,1] (cU prog f54)).n (gC prog tZ L f54 [1,1,0,1] (cU prog f54)).x) L (S54_0 a0 ([]:List (Int)) (0:Int)):=by kernel_rfl
theorem aJl (L:Nat)(a0:(List (List Int)))(k:St bH.ty->Option (V bH.ty))(xk:Nat->St bH.ty->Option (V bH.ty))(g:St bH.ty->Option (V bH.ty))(v0_3:(List Int))(v0_8:Int):lA prog tZ L f54 0 [1,1,0,1,0,0] (eK (cU prog f54) k xk) g (S54_0 a0 v0_3 v0_8)=
 bif (decide (v0_8 < (Nat.cast (List.length a0):Int)))then bif ((decide ((0:Int)<=v0_8))&&(decide (v0_8 < (Nat.cast (List.length a0):Int))))then bif (decide (((List.length v0_3)+(List.length (List.getD a0 (Int.toNat v0_8) ([]:List (Int)))))<=(1000000000:Nat)))then g (S54_0 a0 (v0_3++(List.getD a0 (Int.toNat v0_8) ([]:List (Int)))) (wrap Go.IntKind.i64 (v0_8+(1:Int))))
   else none
  else none
 else k (X54_0 a0 v0_3):=by kernel_rfl
theorem aIN (L:Nat)(a0:(List (List Int)))(w0_3:(List Int)):(gC prog tZ L f54 [1,1,0,1] (cU prog f54)).n (X54_0 a0 w0_3)=
 some (n54 w0_3):=by kernel_rfl
def vQ (L:Nat)(a0:(List (List Int))):Nat->(List Int)->Int->((List Int)->Option (List Int))->Option (List Int)
 | 0,_,_,_=>none
 | n+1,v0_3,v0_8,k=>
  bif (decide (v0_8 < (Nat.cast (List.length a0):Int)))then bif ((decide ((0:Int)<=v0_8))&&(decide (v0_8 < (Nat.cast (List.length a0):Int))))then bif (decide (((List.length v0_3)+(List.length (List.getD a0 (Int.toNat v0_8) ([]:List (Int)))))<=(1000000000:Nat)))then vQ L a0 n (v0_3++(List.getD a0 (Int.toNat v0_8) ([]:List (Int)))) (wrap Go.IntKind.i64 (v0_8+(1:Int))) k
    else none
   else none
  else k v0_3
theorem aGF (L:Nat)(a0:(List (List Int)))(k:St bH.ty->Option (V bH.ty))(xk:Nat->St bH.ty->Option (V bH.ty))(k':(List Int)->Option (List Int))(hk:∀ (w0_3:(List Int)),k (X54_0 a0 w0_3)=(k' w0_3).map n54):∀ (n:Nat) (v0_3:(List Int)) (v0_8:Int),eL prog tZ L f54 0 [1,1,0,1,0,0] (eK (cU prog f54) k xk) n (S54_0 a0 v0_3 v0_8)=(vQ L a0 n v0_3 v0_8 k').map n54
 | 0,_,_=>rfl
 | n+1,v0_3,v0_8=>by
  rw[fE,aJl];have ih:=aGF L a0 k xk k' hk n;simp only[vQ,bQ,aF,aM,ih,hk]
def g54 (L:Nat)(a0:(List (List Int))):Option (List Int):=
 vQ L a0 L ([]:List (Int)) (0:Int) (λ(w0_3:(List Int))=>some w0_3)
theorem e54 (L:Nat)(a0:(List (List Int))):iK prog tZ (bU L) f54 (a54.enc a0)=(g54 L a0).map n54:=by
 let K'0:(List Int)->Option (List Int):=(λ(w0_3:(List Int))=>some w0_3)
 have hin0:∀ (v0_3:(List Int)) (v0_8:Int),eL prog tZ L f54 0 [1,1,0,1,0,0] (eK (cU prog f54) (gC prog tZ L f54 [1,1,0,1] (cU prog f54)).n (gC prog tZ L f54 [1,1,0,1] (cU prog f54)).x) L (S54_0 a0 v0_3 v0_8)=(vQ L a0 L v0_3 v0_8 K'0).map n54:=λv0_3 v0_8=>aGF L a0 _ _ K'0 (λw0_3=>by rw[aIN];simp only[K'0,bQ,aF,aM]) L v0_3 v0_8
 rw[i54];simp only[g54,bQ,aF,aM,hin0,K'0]
theorem s54 (m:(List (List Int))->Option (List Int))(hm:∀ (x:(List (List Int))) t,m x=some t->∃ L,g54 L x=some t):Sat prog bH 54 (c54 m):=
 fN dG cS (by rfl) (fn:=f54) rfl a54 n54 aKe m tZ cR cH (λL x=>g54 L x) (λL x=>e54 L x) hm aLL
end Go.Proofs.Try
set_option maxHeartbeats 0
namespace Go.Proofs.Try
open Go.IntKind (wrap)
open Go Go.VM Go.RowKit
def nrm (t:Int):Int:=if t > 65535 then t-65535 else t
def sw:List Int->Int->Int
 | [],h=>h
 | [x],h=>nrm (h+x * 256)
 | x::y::r,h=>sw r (nrm (h+(x * 256+y)))
theorem kT {t:Int}(h0:0<=t)(h1:t<=131070):0<=nrm t/\nrm t<=65535:=by
 unfold nrm;split<;>omega
def lJ (a:List Int):Int:=65535-sw a 0
theorem qO:∀ (a:List Int) (h:Int),gE a=true->0<=h->h<=65535->0<=sw a h/\sw a h<=65535
 | [],h,_,h0,h1=>⟨h0,h1⟩
 | [x],h,hb,h0,h1=>by
  have hx:=(kA.1 hb).1;exact kT (by omega) (by omega)
 | x::y::r,h,hb,h0,h1=>by
  have hx:=(kA.1 hb).1;have hy:=kA.1 (kA.1 hb).2;have:=kT (t:=h+(x * 256+y)) (by omega) (by omega);exact qO r _ hy.2 this.1 this.2
theorem aJn (L:Nat)(a:List Int)(u v:Int)(k:Int->Option Int)(n:Nat)(t:Int)(h0:0<=t)(h1:t<=131070):rB L a u v (n+2) t k=k (nrm t):=by
 unfold rB;by_cases ht:t > 65535
 ·simp(disch:=omega) only[dt,wi,cond_true];unfold rB;simp(disch:=omega) only[df,cond_false];unfold nrm;rw[if_pos ht]
 ·simp(disch:=omega) only[df,cond_false];unfold nrm;rw[if_neg ht]
theorem p73 (M:Nat)(a:List Int)(hb:gE a=true)(hl:a.length<=1000000000000)(k:Int->Option Int):∀ (n i:Nat) (h:Int),i<=a.length+1->a.length+1 < n+i->0<=h->h<=65535->
  rC (M+2) a n h i k=k (sw (a.drop i) h)
 | 0,i,h,h2,h3,_,_=>by
  omega
 | n+1,i,h,h2,h3,h4,h5=>by
  unfold rC;by_cases hi:i < a.length
  ·have hx:=jU hb hi;have e1:((i:Int)+1)=((i+1:Nat):Int):=by simp
   simp(disch:=omega) only[dt,df,wi,cond_true,dY,cV];rw[iW 0 hi];by_cases hj:i+1 < a.length
   ·have hy:=jU hb hj;rw[e1];simp(disch:=omega) only[dt,df,wi,cond_true,dY,cV];rw[aJn _ _ _ _ _ _ _ (by omega) (by omega),iW 0 hj];have hn:=kT (t:=h+256 * a.getD i 0+a.getD (i+1) 0) (by omega) (by omega);have:=p73 M a hb hl k n (i+2) (nrm (h+256 * a.getD i 0+a.getD (i+1) 0)) (by omega) (by omega) hn.1 hn.2;simp only[fH,eX]at this;rw[this,show h+256 * a.getD i 0+a.getD (i+1) 0=h+(a.getD i 0 * 256+a.getD (i+1) 0)by omega]
    rfl
   ·simp(disch:=omega) only[df,cond_false];rw[aJn _ _ _ _ _ _ _ (by omega) (by omega),bW (show a.length<=i+1 by omega)];have hn:=kT (t:=h+256 * a.getD i 0) (by omega) (by omega);have:=p73 M a hb hl k n (i+2) (nrm (h+256 * a.getD i 0)) (by omega) (by omega) hn.1 hn.2;simp only[fH,eX]at this;rw[this,bW (show a.length<=i+2 by omega),show h+256 * a.getD i 0=h+a.getD i 0 * 256 by omega]
    rfl
  ·simp(disch:=omega) only[df,cond_false];rw[bW (by omega)]
   rfl
def tP (a:List Int):Option Int:=if gE a=true/\a.length<=1000000000000 then some (lJ a)else none
theorem aGd:Sat prog bH 73 (c73 tP):=s73 tP λa t h=>by
 unfold tP at h;split at h
 ·rename_i hc;cases h;refine⟨a.length+2,?_⟩;unfold g73;refine(p73 a.length a hc.1 hc.2 _ _ 0 0 (by omega) (by omega) (by omega) (by omega)).trans ?_;have:=qO a 0 hc.1 (by omega) (by omega);simp(disch:=omega) only[eS,wi]
  rfl
 ·cases h
def iF (x:List Int×Int):Option Int:=
 if gE x.1=true/\x.1.length<=1000000000000/\0<=x.2/\x.2 < x.1.length then
  some (x.1.getD x.2.toNat 0 * 256+(if x.2.toNat+1 < x.1.length then x.1.getD (x.2.toNat+1) 0 else 0))else none
theorem aIR:Sat prog bH 84 (c84 iF):=s84 iF λx t h=>by
 obtain⟨a,i⟩:=x;unfold iF at h;split at h
 ·rename_i hc;obtain⟨h1,h2,h3,h4⟩:=hc;simp only at h1 h2 h3 h4 h;cases h;refine⟨0,?_⟩;obtain⟨i,rfl⟩:=dM h3;have hi:i < a.length:=by omega
  have hx:=jU h1 hi;have e1:((i:Int)+1)=((i+1:Nat):Int):=by simp
  unfold g84;simp(disch:=omega) only[dt,df,wi,cond_true,dY,cV];by_cases hj:i+1 < a.length
  ·have hy:=jU h1 hj;rw[e1];simp(disch:=omega) only[dt,df,wi,cond_true,dY,cV,aG2,wu,aCL,if_pos hj]
  ·simp(disch:=omega) only[df,cond_false,aG2,wu,if_neg hj,Int.add_zero]
 ·cases h
theorem aJo (mm:List Int×Int->Option Int)(L:Nat)(a:List Int)(u v:Int)(k:Int->Option Int)(n:Nat)(t:Int)(h0:0<=t)(h1:t<=131070):sX mm L a u v (n+2) t k=k (nrm t):=by
 unfold sX;by_cases ht:t > 65535
 ·simp(disch:=omega) only[dt,wu,cond_true];unfold sX;simp(disch:=omega) only[df,cond_false];unfold nrm;rw[if_pos ht]
 ·simp(disch:=omega) only[df,cond_false];unfold nrm;rw[if_neg ht]
theorem p83 (M:Nat)(a:List Int)(hb:gE a=true)(hl:a.length<=1000000000000)(k:Int->Option Int):∀ (n i:Nat) (h:Int),i<=a.length+1->a.length+1 < n+i->0<=h->h<=65535->
  sY iF (M+2) a n h i k=k (sw (a.drop i) h)
 | 0,i,h,h2,h3,_,_=>by
  omega
 | n+1,i,h,h2,h3,h4,h5=>by
  unfold sY;by_cases hi:i < a.length
  ·have hx:=jU hb hi;have e50:iF (a,(i:Int))=some (a.getD i 0 * 256+(if i+1 < a.length then a.getD (i+1) 0 else 0)):=by
    unfold iF;rw[if_pos ⟨hb,hl,by show(0:Int)<=(i:Int);omega,by show(i:Int) < (a.length:Int);omega⟩]
    rfl
   simp(disch:=omega) only[dt,e50,wi,cond_true,jF,fK];rw[iW 0 hi];by_cases hj:i+1 < a.length
   ·have hy:=jU hb hj;simp(disch:=omega) only[if_pos hj,wu];rw[aJo _ _ _ _ _ _ _ _ (by omega) (by omega),iW 0 hj];have hn:=kT (t:=h+(a.getD i 0 * 256+a.getD (i+1) 0)) (by omega) (by omega);have:=p83 M a hb hl k n (i+2) (nrm (h+(a.getD i 0 * 256+a.getD (i+1) 0))) (by omega) (by omega) hn.1 hn.2;simp only[fH,eX]at this;rw[this]
    rfl
   ·simp(disch:=omega) only[if_neg hj,wu,Int.add_zero];rw[aJo _ _ _ _ _ _ _ _ (by omega) (by omega),bW (show a.length<=i+1 by omega)];have hn:=kT (t:=h+a.getD i 0 * 256) (by omega) (by omega);have:=p83 M a hb hl k n (i+2) (nrm (h+a.getD i 0 * 256)) (by omega) (by omega) hn.1 hn.2;simp only[fH,eX]at this;rw[this,bW (show a.length<=i+2 by omega)]
    rfl
  ·simp(disch:=omega) only[df,cond_false];rw[bW (by omega)]
   rfl
def xF (a:List Int):Option Int:=if gE a=true/\a.length<=1000000000000 then some (lJ a)else none
theorem aIS:Sat prog bH 83 (c83 xF):=s83 iF aIR xF λa t h=>by
 unfold xF at h;split at h
 ·rename_i hc;cases h;refine⟨a.length+2,?_⟩;unfold g83;refine(p83 a.length a hc.1 hc.2 _ _ 0 0 (by omega) (by omega) (by omega) (by omega)).trans ?_;have:=qO a 0 hc.1 (by omega) (by omega);simp(disch:=omega) only[eS,wi]
  rfl
 ·cases h
def mkB (k:Int)(n:Nat):List Int:=(List.range n).map λ(i:Nat)=>wrap .u8 (k+(i:Int))
def m33 (x:List Int×Int):Option (Int×List Int):=if 0<=x.2/\x.2<=1000000000000/\x.1.length<=1000000000000 then some (x.2+x.1.length,mkB x.2 x.1.length)else none
def m65 (x:List Int×Int):Option Int:=if 0<=x.2/\x.2<=1000000000000/\x.1.length<=1000000000000/\x.1=mkB x.2 x.1.length then some (x.2+x.1.length)else none
def nZ (x:(Int×List Int)×Int):Option (Int×Int×List Int):=if 0<=x.2/\x.2<=1000000000000/\x.1.2.length<=1000000000000 then some (x.2+x.1.2.length,x.1.1,mkB x.2 x.1.2.length)else none
def nY (x:(Int×List Int)×Int):Option Int:=m65 (x.1.2,x.2)
def mR (x:(Int×List Int)×Int×List Int):Option Bool:=if x.1.2.length<=1000000000000/\x.2.2.length<=1000000000000 then some (decide (x.1=x.2))else none
def jM (n:Int)(z:Nat):List Int:=(List.range z).map λi=>wrap .u8 (Int.fdiv n ((2:Int) ^ (8 * (z-1-i))))
theorem iG (n:Int)(z:Nat):(jM n z).length=z:=by simp[jM]
theorem six {z:Int}(h:1<=z/\z<=6):z=1\/z=2\/z=3\/z=4\/z=5\/z=6:=by omega
def lS (x:Int×Int):Option (List Int):=if 1<=x.2/\x.2<=6 then some (jM x.1 x.2.toNat)else none
theorem aGf:Sat prog bH 64 (c64 lS):=s64 lS λx t h=>by
 obtain⟨n,z⟩:=x;unfold lS at h;split at h
 ·rename_i hc;cases h;refine⟨8,?_⟩;rcases six hc with h | h | h | h | h | h<;>simp only at h<;>subst h<;>kernel_rfl
 ·cases h
def lB (x:Int×Int):Option (List Int):=if 1<=x.2/\x.2<=6 then some (jM x.1 x.2.toNat)else none
theorem aGa:Sat prog bH 79 (c79 lB):=s79 lB λx t h=>by
 obtain⟨n,z⟩:=x;unfold lB at h;split at h
 ·rename_i hc;cases h;refine⟨8,?_⟩;rcases six hc with h | h | h | h | h | h<;>simp only at h<;>subst h<;>kernel_rfl
 ·cases h
def mQ (x:List (List Int)):Option (List Int):=if x.length<=1000000/\x.flatten.length<=1000000000 then some x.flatten else none
theorem p54 (L:Nat)(a:List (List Int))(ha:a.length<=1000000)(k:List Int->Option (List Int)):∀ (n i:Nat) (o:List Int),i<=a.length->a.length < n+i->(o++(a.drop i).flatten).length<=1000000000->
  vQ L a n o i k=k (o++(a.drop i).flatten)
 | 0,i,o,h2,h3,_=>by omega
 | n+1,i,o,h2,h3,h4=>by
  unfold vQ;by_cases hi:i < a.length
  ·rw[iW [] hi,bF]at h4;simp only[bP]at h4;simp(disch:=omega) only[dt,df,wi,cond_true,dY,cV];have:=p54 L a ha k n (i+1) (o++a.getD i []) (by omega) (by omega) (by simp only[bP];omega);simp only[fH,eX]at this;rw[this,iW [] hi,bF,dD]
  ·simp(disch:=omega) only[df,cond_false];rw[bW (by omega)];simp
theorem aGh:Sat prog bH 54 (c54 mQ):=s54 mQ λx t h=>by
 unfold mQ at h;split at h
 ·rename_i hc;cases h;refine⟨x.length+1,?_⟩;unfold g54;have:=p54 (x.length+1) x hc.1 some (x.length+1) 0 [] (by omega) (by omega) (by simpa using hc.2);simpa using this
 ·cases h
end Go.Proofs.Try
