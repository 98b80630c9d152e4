/- A part of the proof of FnLogs: LkFd, LkFi, LkFg, LkFh. -/
import Derived.Test.YtlnabockdjjpbaaGreatLkBase
set_option linter.unusedSimpArgs false
set_option linter.unusedVariables false
set_option maxHeartbeats 0
set_option maxRecDepth 100000
namespace Go.Proofs.Tryz
open Go.IntKind (wrap)
open Go Go.VM Go.RowKit
def wS (m19:Y19):Env bL:={ Kc:=eE [(19,c19 m19)],Kw:=eD [],lv:=λi=>if i=0 then[(0,[some 35]),(1,[]),(2,[some 35]),(7,[])]else[],xv:=λi=>if i=0 then some [(0,[some 35])]else none }
def S25_0 (a0:(List E9))(a1:Int)(a2:(List E9))(v0_7:Int):St bL.ty:={ slots:=[(.inl (.inl (ls { own:=0,nm:=0,e:=35,o:=false,xs:=a0 }))),(.inl (.inl (lv (.int .i64 a1)))),(.inl (.inl (ls { own:=0,nm:=0,e:=35,o:=false,xs:=a2 }))),aT,aT,aT,aT,(.inl (.inl (lv (.int .i64 v0_7))))]++List.replicate 37 aT,D:=[],F:=[],ctr:=1 }
def X25_0 (a0:(List E9))(a1:Int)(a2:(List E9)):St bL.ty:={ slots:=[(.inl (.inl (ls { own:=0,nm:=0,e:=35,o:=false,xs:=a0 })))]++List.replicate 44 aT,D:=[],F:=[],ctr:=1 }
def G25 {B:Type}(u:(List E9)->B)(hh0:Int->Option B)(m19:Y19)(a0:(List E9))(a1:Int)(a2:(List E9)):Option B:=
 hh0 (0:Int)
def B25_0 {B:Type}(u:(List E9)->B)(gg:Int->Option B)(kk:Option B)(m19:Y19)(a0:(List E9))(a1:Int)(a2:(List E9))(v0_7:Int):Option B:=
 bif (decide (v0_7 < (Nat.cast (List.length a2):Int)))then bif (decide ((wrap .i64 (a1+v0_7))>=(Nat.cast (List.length a0):Int)))then bif (((decide ((0:Int)<=(0:Int)))&&(decide ((0:Int)<=(wrap .i64 (a1+v0_7)))))&&(decide ((wrap .i64 (a1+v0_7))<=(Nat.cast (List.length a0):Int))))then bS (m19 (List.drop (Int.toNat (0:Int)) (List.take (Int.toNat (wrap .i64 (a1+v0_7))) a0))) [] λ(q4:(List E9))=>bif (((decide ((0:Int)<=v0_7))&&(decide (v0_7<=(Nat.cast (List.length a2):Int))))&&(decide ((Nat.cast (List.length a2):Int)<=(Nat.cast (List.length a2):Int))))then bif (decide (((List.length q4)+(List.length (List.drop v0_7.toNat (List.take (Int.toNat (Nat.cast (List.length a2):Int)) a2))))<=(1000000000:Nat)))then some (u (q4++(List.drop v0_7.toNat (List.take (Int.toNat (Nat.cast (List.length a2):Int)) a2))))
      else none
     else none
   else none
  else bif ((decide ((0:Int)<=(wrap .i64 (a1+v0_7))))&&(decide ((wrap .i64 (a1+v0_7)) < (Nat.cast (List.length a0):Int))))then bif ((decide ((0:Int)<=v0_7))&&(decide (v0_7 < (Nat.cast (List.length a2):Int))))then bif ((List.getD a0 (Int.toNat (wrap .i64 (a1+v0_7))) ((0:Int),((0:Int),((0:Int),((0:Int),((0:Int),((0:Int),((0:Int),((0:Int),(0:Int)))))))))).1 != (List.getD a2 v0_7.toNat ((0:Int),((0:Int),((0:Int),((0:Int),((0:Int),((0:Int),((0:Int),((0:Int),(0:Int)))))))))).1)then bif (((decide ((0:Int)<=(0:Int)))&&(decide ((0:Int)<=(wrap .i64 (a1+v0_7)))))&&(decide ((wrap .i64 (a1+v0_7))<=(Nat.cast (List.length a0):Int))))then bS (m19 (List.drop (Int.toNat (0:Int)) (List.take (Int.toNat (wrap .i64 (a1+v0_7))) a0))) [] λ(q6:(List E9))=>bif (((decide ((0:Int)<=v0_7))&&(decide (v0_7<=(Nat.cast (List.length a2):Int))))&&(decide ((Nat.cast (List.length a2):Int)<=(Nat.cast (List.length a2):Int))))then bif (decide (((List.length q6)+(List.length (List.drop v0_7.toNat (List.take (Int.toNat (Nat.cast (List.length a2):Int)) a2))))<=(1000000000:Nat)))then some (u (q6++(List.drop v0_7.toNat (List.take (Int.toNat (Nat.cast (List.length a2):Int)) a2))))
        else none
       else none
     else none
    else gg (wrap .i64 (v0_7+(1:Int)))
   else none
  else none
 else kk
def A25_0 {B:Type}(u:(List E9)->B)(m19:Y19)(a0:(List E9))(a1:Int)(a2:(List E9)):Option B:=
 bS (m19 a0) [] λ(q1:(List E9))=>some (u q1)
def uQ (m19:Y19)(L:Nat)(a0:(List E9))(a1:Int)(a2:(List E9)):Nat->Int->(Option (List E9))->Option (List E9)
 | 0,_,_=>none
 | n+1,v0_7,k=>B25_0 (λx=>x) (λv0_7=>uQ m19 L a0 a1 a2 n v0_7 k) k m19 a0 a1 a2 v0_7
theorem aF2 (m19:Y19)(L:Nat)(a0:(List E9))(a1:Int)(a2:(List E9))(k:St bL.ty->Option (V bL.ty))(xk:Nat->St bL.ty->Option (V bL.ty))(k':Option (List E9))(hk:k (X25_0 a0 a1 a2)=(k').map n25):∀ (n:Nat) (v0_7:Int),fG prog (wS m19) L f25 0 [1,0,1,0,0] (iV (eK prog f25) k xk) n (S25_0 a0 a1 a2 v0_7)=(uQ m19 L a0 a1 a2 n v0_7 k').map n25
 | 0,_=>rfl
 | n+1,v0_7=>by
  rw[gN];have ih:=aF2 m19 L a0 a1 a2 k xk k' hk n;refine .trans (b:=B25_0 n25 (λv0_7=>(fG prog (wS m19) L f25 0 [1,0,1,0,0] (iV (eK prog f25) k xk) n) (S25_0 a0 a1 a2 v0_7)) (k (X25_0 a0 a1 a2)) m19 a0 a1 a2 v0_7) (by kernel_rfl) ?_;unfold uQ B25_0
  repeat' first | with_reducible refine gW ?_ ?_ | with_reducible refine gU λ_=>?_ | with_reducible refine gV λ_=>?_ | with_reducible exact ih _ | with_reducible exact hk | exact rfl
def g25 (m19:Y19)(L:Nat)(a0:(List E9))(a1:Int)(a2:(List E9)):Option (List E9):=G25 (λx=>x) (λv0_7=>uQ m19 L a0 a1 a2 L v0_7 (A25_0 (λx=>x) m19 a0 a1 a2)) m19 a0 a1 a2
theorem e25 (m19:Y19)(L:Nat)(a0:(List E9))(a1:Int)(a2:(List E9)):jL prog (wS m19) (cE L) f25 (a25.enc (a0,a1,a2))=(g25 m19 L a0 a1 a2).map n25:=by
 have hin0:∀ (v0_7:Int),fG prog (wS m19) L f25 0 [1,0,1,0,0] (iV (eK prog f25) (iU prog (wS m19) L f25 [1,0,1] (eK prog f25)).n (iU prog (wS m19) L f25 [1,0,1] (eK prog f25)).x) L (S25_0 a0 a1 a2 v0_7)=((λv0_7=>uQ m19 L a0 a1 a2 L v0_7 (A25_0 (λx=>x) m19 a0 a1 a2)) v0_7).map n25:=λv0_7=>aF2 m19 L a0 a1 a2 _ _ _ (by refine .trans (b:=A25_0 n25 m19 a0 a1 a2) (by kernel_rfl) ?_;unfold A25_0;repeat' first | with_reducible refine gW ?_ ?_ | with_reducible refine gU λ_=>?_ | with_reducible refine gV λ_=>?_ | exact rfl) L v0_7
 refine .trans (b:=G25 n25 (λv0_7=>fG prog (wS m19) L f25 0 [1,0,1,0,0] (iV (eK prog f25) (iU prog (wS m19) L f25 [1,0,1] (eK prog f25)).n (iU prog (wS m19) L f25 [1,0,1] (eK prog f25)).x) L (S25_0 a0 a1 a2 v0_7)) m19 a0 a1 a2) (by kernel_rfl) ?_;unfold g25 G25
 repeat' first | with_reducible refine gW ?_ ?_ | with_reducible refine gU λ_=>?_ | with_reducible refine gV λ_=>?_ | with_reducible exact hin0 _ | exact rfl
def w25 (m19:Y19)(L:Nat)(x:((List E9)×Int×(List E9))):Option (List E9):=g25 m19 L x.1 x.2.1 x.2.2
theorem s25 (m19:Y19)(h19:Sat prog bL 19 (c19 m19))(m:Y25)(hm:∀ (x:((List E9)×Int×(List E9))) t,m x=some t->∃ L,w25 m19 L x=some t):Sat prog bL 25 (c25 m):=
 dZ cC bX (by rfl) (fn:=f25) rfl a25 n25 aKo m (wS m19) (bM h19 bW) bH (w25 m19) (λL x=>e25 m19 L x.1 x.2.1 x.2.2) hm aMv
def wR (dN:Y30)(m28:Y28):Env bL:={ Kc:=eE [(30,c30 dN),(28,c28 m28)],Kw:=eD [],lv:=λi=>if i=0 then[(0,[some 35]),(1,[some 35]),(2,[]),(7,[]),(14,[]),(15,[])]else[],xv:=λi=>if i=0 then some [(7,[])]else none }
def S27_0 (a0:(List E9))(a1:(List E9))(a2:Unit)(v0_7:Int)(v0_14:Int)(v0_15:Int):St bL.ty:={ slots:=[(.inl (.inl (ls { own:=0,nm:=0,e:=35,o:=false,xs:=a0 }))),(.inl (.inl (ls { own:=0,nm:=0,e:=35,o:=false,xs:=a1 }))),(.inl (.inl (lv (.func (.func (28:Nat)) #[] #[])))),aT,aT,aT,aT,(.inl (.inl (lv (.int .i64 v0_7)))),aT,aT,aT,aT,aT,aT,(.inl (.inl (lv (.int .i64 v0_14)))),(.inl (.inl (lv (.int .i64 v0_15))))]++List.replicate 16 aT,D:=[],F:=[],ctr:=1 }
def X27_0 (a0:(List E9))(a1:(List E9))(a2:Unit)(w0_7:Int):St bL.ty:={ slots:=[aT,aT,aT,aT,aT,aT,aT,(.inl (.inl (lv (.int .i64 w0_7))))]++List.replicate 24 aT,D:=[],F:=[],ctr:=1 }
def G27 {B:Type}(u:Int->B)(hh0:Int->Int->Int->Option B)(dN:Y30)(m28:Y28)(a0:(List E9))(a1:(List E9))(a2:Unit):Option B:=
 bS (dN a0) (0:Int) λ(q1:Int)=>bS (dN a1) (0:Int) λ(q2:Int)=>hh0 (ite (q2 < q1) q2 q1) (ite (q2 < q1) q2 q1) (0:Int)
def B27_0 {B:Type}(u:Int->B)(gg:Int->Int->Int->Option B)(kk:Int->Option B)(dN:Y30)(m28:Y28)(a0:(List E9))(a1:(List E9))(a2:Unit)(v0_7:Int)(v0_14:Int)(v0_15:Int):Option B:=
 bif (decide (v0_15 < v0_14))then oJ (List.getD a0 v0_15.toNat ((0:Int),((0:Int),((0:Int),((0:Int),((0:Int),((0:Int),((0:Int),((0:Int),(0:Int)))))))))) λs1_0=>oJ (List.getD a1 v0_15.toNat ((0:Int),((0:Int),((0:Int),((0:Int),((0:Int),((0:Int),((0:Int),((0:Int),(0:Int)))))))))) λs1_1=>bif ((decide ((0:Int)<=v0_15))&&(decide (v0_15 < (Nat.cast (List.length a0):Int))))then bif ((decide ((0:Int)<=v0_15))&&(decide (v0_15 < (Nat.cast (List.length a1):Int))))then bS (m28 ((s1_0.1,(s1_0.2.1,(s1_0.2.2.1,(s1_0.2.2.2.1,(s1_0.2.2.2.2.1,(s1_0.2.2.2.2.2.1,(s1_0.2.2.2.2.2.2.1,(s1_0.2.2.2.2.2.2.2.1,s1_0.2.2.2.2.2.2.2.2)))))))),(s1_1.1,(s1_1.2.1,(s1_1.2.2.1,(s1_1.2.2.2.1,(s1_1.2.2.2.2.1,(s1_1.2.2.2.2.2.1,(s1_1.2.2.2.2.2.2.1,(s1_1.2.2.2.2.2.2.2.1,s1_1.2.2.2.2.2.2.2.2)))))))))) false λ(q4:Bool)=>bif (!q4)then some (u v0_15)
     else gg v0_7 v0_14 (wrap .i64 (v0_15+(1:Int)))
   else none
  else none
 else kk v0_7
def A27_0 {B:Type}(u:Int->B)(dN:Y30)(m28:Y28)(a0:(List E9))(a1:(List E9))(a2:Unit)(w0_7:Int):Option B:=
 some (u w0_7)
def uP (dN:Y30)(m28:Y28)(L:Nat)(a0:(List E9))(a1:(List E9))(a2:Unit):Nat->Int->Int->Int->(Int->Option Int)->Option Int
 | 0,_,_,_,_=>none
 | n+1,v0_7,v0_14,v0_15,k=>B27_0 (λx=>x) (λv0_7 v0_14 v0_15=>uP dN m28 L a0 a1 a2 n v0_7 v0_14 v0_15 k) k dN m28 a0 a1 a2 v0_7 v0_14 v0_15
theorem aF1 (dN:Y30)(m28:Y28)(L:Nat)(a0:(List E9))(a1:(List E9))(a2:Unit)(k:St bL.ty->Option (V bL.ty))(xk:Nat->St bL.ty->Option (V bL.ty))(k':Int->Option Int)(hk:∀ (w0_7:Int),k (X27_0 a0 a1 a2 w0_7)=(k' w0_7).map n27):∀ (n:Nat) (v0_7:Int) (v0_14:Int) (v0_15:Int),fG prog (wR dN m28) L f27 0 [1,1,0,1,0,0] (iV (eK prog f27) k xk) n (S27_0 a0 a1 a2 v0_7 v0_14 v0_15)=(uP dN m28 L a0 a1 a2 n v0_7 v0_14 v0_15 k').map n27
 | 0,_,_,_=>rfl
 | n+1,v0_7,v0_14,v0_15=>by
  rw[gN];have ih:=aF1 dN m28 L a0 a1 a2 k xk k' hk n;refine .trans (b:=B27_0 n27 (λv0_7 v0_14 v0_15=>(fG prog (wR dN m28) L f27 0 [1,1,0,1,0,0] (iV (eK prog f27) k xk) n) (S27_0 a0 a1 a2 v0_7 v0_14 v0_15)) (λw0_7=>k (X27_0 a0 a1 a2 w0_7)) dN m28 a0 a1 a2 v0_7 v0_14 v0_15) (by kernel_rfl) ?_;unfold uP B27_0
  repeat' first | with_reducible refine gW ?_ ?_ | with_reducible refine gU λ_=>?_ | with_reducible refine gV λ_=>?_ | with_reducible exact ih _ _ _ | with_reducible exact hk _ | exact rfl
def g27 (dN:Y30)(m28:Y28)(L:Nat)(a0:(List E9))(a1:(List E9))(a2:Unit):Option Int:=G27 (λx=>x) (λv0_7 v0_14 v0_15=>uP dN m28 L a0 a1 a2 L v0_7 v0_14 v0_15 (λw0_7=>A27_0 (λx=>x) dN m28 a0 a1 a2 w0_7)) dN m28 a0 a1 a2
theorem e27 (dN:Y30)(m28:Y28)(L:Nat)(a0:(List E9))(a1:(List E9))(a2:Unit):jL prog (wR dN m28) (cE L) f27 (a27.enc (a0,a1,a2))=(g27 dN m28 L a0 a1 a2).map n27:=by
 have hin0:∀ (v0_7:Int) (v0_14:Int) (v0_15:Int),fG prog (wR dN m28) L f27 0 [1,1,0,1,0,0] (iV (eK prog f27) (iU prog (wR dN m28) L f27 [1,1,0,1] (eK prog f27)).n (iU prog (wR dN m28) L f27 [1,1,0,1] (eK prog f27)).x) L (S27_0 a0 a1 a2 v0_7 v0_14 v0_15)=((λv0_7 v0_14 v0_15=>uP dN m28 L a0 a1 a2 L v0_7 v0_14 v0_15 (λw0_7=>A27_0 (λx=>x) dN m28 a0 a1 a2 w0_7)) v0_7 v0_14 v0_15).map n27:=λv0_7 v0_14 v0_15=>aF1 dN m28 L a0 a1 a2 _ _ _ (λw0_7=>by refine .trans (b:=A27_0 n27 dN m28 a0 a1 a2 w0_7) (by kernel_rfl) ?_;unfold A27_0;repeat' first | with_reducible refine gW ?_ ?_ | with_reducible refine gU λ_=>?_ | with_reducible refine gV λ_=>?_ | exact rfl) L v0_7 v0_14 v0_15
 refine .trans (b:=G27 n27 (λv0_7 v0_14 v0_15=>fG prog (wR dN m28) L f27 0 [1,1,0,1,0,0] (iV (eK prog f27) (iU prog (wR dN m28) L f27 [1,1,0,1] (eK prog f27)).n (iU prog (wR dN m28) L f27 [1,1,0,1] (eK prog f27)).x) L (S27_0 a0 a1 a2 v0_7 v0_14 v0_15)) dN m28 a0 a1 a2) (by kernel_rfl) ?_;unfold g27 G27
 repeat' first | with_reducible refine gW ?_ ?_ | with_reducible refine gU λ_=>?_ | with_reducible refine gV λ_=>?_ | with_reducible exact hin0 _ _ _ | exact rfl
def w27 (dN:Y30)(m28:Y28)(L:Nat)(x:((List E9)×(List E9)×Unit)):Option Int:=g27 dN m28 L x.1 x.2.1 x.2.2
theorem s27 (dN:Y30)(m28:Y28)(h30:Sat prog bL 30 (c30 dN))(h28:Sat prog bL 28 (c28 m28))(m:Y27)(hm:∀ (x:((List E9)×(List E9)×Unit)) t,m x=some t->∃ L,w27 dN m28 L x=some t):Sat prog bL 27 (c27 m):=
 dZ cC bX (by rfl) (fn:=f27) rfl a27 n27 aKm m (wR dN m28) (bM h30 (bM h28 bW)) bH (w27 dN m28) (λL x=>e27 dN m28 L x.1 x.2.1 x.2.2) hm aMt
def ev9 (tO:Y27):Env bL:={ Kc:=eE [(27,c27 tO)],Kw:=eD [],lv:=λi=>[],xv:=λi=>none }
def G9 {B:Type}(u:Int->B)(tO:Y27)(a0:(List E9))(a1:(List E9)):Option B:=
 bS (tO (a0,(a1,PUnit.unit))) (0:Int) λ(q1:Int)=>some (u q1)
def g9 (tO:Y27)(L:Nat)(a0:(List E9))(a1:(List E9)):Option Int:=G9 (λx=>x) tO a0 a1
theorem e9 (tO:Y27)(L:Nat)(a0:(List E9))(a1:(List E9)):jL prog (ev9 tO) (cE L) f9 (a9.enc (a0,a1))=(g9 tO L a0 a1).map n9:=by
 refine .trans (b:=G9 n9 tO a0 a1) (by kernel_rfl) ?_;unfold g9 G9
 repeat' first | with_reducible refine gW ?_ ?_ | with_reducible refine gU λ_=>?_ | with_reducible refine gV λ_=>?_ | exact rfl
def w9 (tO:Y27)(L:Nat)(x:((List E9)×(List E9))):Option Int:=g9 tO L x.1 x.2
theorem s9 (tO:Y27)(h27:Sat prog bL 27 (c27 tO))(m:Y9)(hm:∀ (x:((List E9)×(List E9))) t,m x=some t->∃ L,w9 tO L x=some t):Sat prog bL 9 (c9 m):=
 dZ cC bX (by rfl) (fn:=f9) rfl a9 n9 dd9 m (ev9 tO) (bM h27 bW) bH (w9 tO) (λL x=>e9 tO L x.1 x.2) hm hs9
def aJN (m9:Y9):Env bL:={ Kc:=eE [(9,c9 m9)],Kw:=eD [],lv:=λi=>[],xv:=λi=>none }
def G11 {B:Type}(u:Bool->B)(m9:Y9)(a0:(List E9))(a1:(List E9)):Option B:=
 bif ((Nat.cast (List.length a0):Int) == (Nat.cast (List.length a1):Int))then bS (m9 (a0,a1)) (0:Int) λ(q2:Int)=>some (u (q2 == (Nat.cast (List.length a0):Int)))
 else some (u false)
def g11 (m9:Y9)(L:Nat)(a0:(List E9))(a1:(List E9)):Option Bool:=G11 (λx=>x) m9 a0 a1
theorem e11 (m9:Y9)(L:Nat)(a0:(List E9))(a1:(List E9)):jL prog (aJN m9) (cE L) f11 (a11.enc (a0,a1))=(g11 m9 L a0 a1).map n11:=by
 refine .trans (b:=G11 n11 m9 a0 a1) (by kernel_rfl) ?_;unfold g11 G11
 repeat' first | with_reducible refine gW ?_ ?_ | with_reducible refine gU λ_=>?_ | with_reducible refine gV λ_=>?_ | exact rfl
def w11 (m9:Y9)(L:Nat)(x:((List E9)×(List E9))):Option Bool:=g11 m9 L x.1 x.2
theorem s11 (m9:Y9)(h9:Sat prog bL 9 (c9 m9))(m:Y11)(hm:∀ (x:((List E9)×(List E9))) t,m x=some t->∃ L,w11 m9 L x=some t):Sat prog bL 11 (c11 m):=
 dZ cC bX (by rfl) (fn:=f11) rfl a11 n11 aKC m (aJN m9) (bM h9 bW) bH (w11 m9) (λL x=>e11 m9 L x.1 x.2) hm aMD
def aJM (m8:Y8)(m13:Y13):Env bL:={ Kc:=eE [(8,c8 m8),(13,c13 m13)],Kw:=eD [],lv:=λi=>[],xv:=λi=>none }
def G12 {B:Type}(u:Bool->B)(m8:Y8)(m13:Y13)(a0:(List E9))(a1:Int)(a2:Int):Option B:=
 bS (m8 a0) (0:Int) λ(q1:Int)=>bif (q1 != (0:Int))then some (u false)
  else bS (m13 a0) ((0:Int),(0:Int),(0:Int),(0:Int),(0:Int),(0:Int),(0:Int),(0:Int),(0:Int)) λ(q2:E9)=>bif (decide (a2 > q2.1))then some (u true)
   else bif (a2 == q2.1)then some (u (decide (a1>=(Nat.cast (List.length a0):Int))))
   else some (u false)
def g12 (m8:Y8)(m13:Y13)(L:Nat)(a0:(List E9))(a1:Int)(a2:Int):Option Bool:=G12 (λx=>x) m8 m13 a0 a1 a2
theorem e12 (m8:Y8)(m13:Y13)(L:Nat)(a0:(List E9))(a1:Int)(a2:Int):jL prog (aJM m8 m13) (cE L) f12 (a12.enc (a0,a1,a2))=(g12 m8 m13 L a0 a1 a2).map n12:=by
 refine .trans (b:=G12 n12 m8 m13 a0 a1 a2) (by kernel_rfl) ?_;unfold g12 G12
 repeat' first | with_reducible refine gW ?_ ?_ | with_reducible refine gU λ_=>?_ | with_reducible refine gV λ_=>?_ | exact rfl
def w12 (m8:Y8)(m13:Y13)(L:Nat)(x:((List E9)×Int×Int)):Option Bool:=g12 m8 m13 L x.1 x.2.1 x.2.2
theorem s12 (m8:Y8)(m13:Y13)(h8:Sat prog bL 8 (c8 m8))(h13:Sat prog bL 13 (c13 m13))(m:Y12)(hm:∀ (x:((List E9)×Int×Int)) t,m x=some t->∃ L,w12 m8 m13 L x=some t):Sat prog bL 12 (c12 m):=
 dZ cC bX (by rfl) (fn:=f12) rfl a12 n12 aKB m (aJM m8 m13) (bM h8 (bM h13 bW)) bH (w12 m8 m13) (λL x=>e12 m8 m13 L x.1 x.2.1 x.2.2) hm aMC
def ev6 (m8:Y8)(m10:Y10)(tD:Y22):Env bL:={ Kc:=eE [(8,c8 m8),(10,c10 m10),(22,c22 tD)],Kw:=eD [],lv:=λi=>[],xv:=λi=>none }
def G6 {B:Type}(u:(Int×(List E9))->B)(m8:Y8)(m10:Y10)(tD:Y22)(a0:(List E9))(a1:Int)(a2:Int)(a3:(List E9)):Option B:=
 bS (m8 a0) (0:Int) λ(q1:Int)=>bif (q1 != (0:Int))then some (u (q1,[]))
  else bS (m8 a3) (0:Int) λ(q2:Int)=>bif (q2 != (0:Int))then some (u (q2,[]))
   else bS (m10 (a0,(a1,a2))) false λ(q3:Bool)=>bif (!q3)then some (u ((9:Int),[]))
    else bif (decide ((Nat.cast (List.length a3):Int) > (0:Int)))then bif ((decide ((0:Int)<=(0:Int)))&&(decide ((0:Int) < (Nat.cast (List.length a3):Int))))then bif (decide ((List.getD a3 (0:Nat) ((0:Int),((0:Int),((0:Int),((0:Int),((0:Int),((0:Int),((0:Int),((0:Int),(0:Int)))))))))).1 < a2))then some (u ((1:Int),[]))
      else bS (tD (a0,(a1,a3))) ((0:Int),[]) λ(q6:(Int×(List E9)))=>some (u (q6.1,q6.2))
     else none
    else bS (tD (a0,(a1,a3))) ((0:Int),[]) λ(q4:(Int×(List E9)))=>some (u (q4.1,q4.2))
def g6 (m8:Y8)(m10:Y10)(tD:Y22)(L:Nat)(a0:(List E9))(a1:Int)(a2:Int)(a3:(List E9)):Option (Int×(List E9)):=G6 (λx=>x) m8 m10 tD a0 a1 a2 a3
theorem e6 (m8:Y8)(m10:Y10)(tD:Y22)(L:Nat)(a0:(List E9))(a1:Int)(a2:Int)(a3:(List E9)):jL prog (ev6 m8 m10 tD) (cE L) f6 (a6.enc (a0,a1,a2,a3))=(g6 m8 m10 tD L a0 a1 a2 a3).map n6:=by
 refine .trans (b:=G6 n6 m8 m10 tD a0 a1 a2 a3) (by kernel_rfl) ?_;unfold g6 G6
 repeat' first | with_reducible refine gW ?_ ?_ | with_reducible refine gU λ_=>?_ | with_reducible refine gV λ_=>?_ | exact rfl
def w6 (m8:Y8)(m10:Y10)(tD:Y22)(L:Nat)(x:((List E9)×Int×Int×(List E9))):Option (Int×(List E9)):=g6 m8 m10 tD L x.1 x.2.1 x.2.2.1 x.2.2.2
theorem s6 (m8:Y8)(m10:Y10)(tD:Y22)(h8:Sat prog bL 8 (c8 m8))(h10:Sat prog bL 10 (c10 m10))(h22:Sat prog bL 22 (c22 tD))(m:Y6)(hm:∀ (x:((List E9)×Int×Int×(List E9))) t,m x=some t->∃ L,w6 m8 m10 tD L x=some t):Sat prog bL 6 (c6 m):=
 dZ cC bX (by rfl) (fn:=f6) rfl a6 n6 dd6 m (ev6 m8 m10 tD) (bM h8 (bM h10 (bM h22 bW))) bH (w6 m8 m10 tD) (λL x=>e6 m8 m10 tD L x.1 x.2.1 x.2.2.1 x.2.2.2) hm hs6
def ev7 (m23:Y23)(tP:Y24)(tC:Y25):Env bL:={ Kc:=eE [(23,c23 m23),(24,c24 tP),(25,c25 tC)],Kw:=eD [],lv:=λi=>[],xv:=λi=>none }
def G7 {B:Type}(u:(Int×(List E9))->B)(m23:Y23)(tP:Y24)(tC:Y25)(a0:(List E9))(a1:Int)(a2:Int)(a3:(List E9)):Option B:=
 bS (m23 a0) (0:Int) λ(q1:Int)=>bif (q1 != (0:Int))then some (u (q1,[]))
  else bS (m23 a3) (0:Int) λ(q2:Int)=>bif (q2 != (0:Int))then some (u (q2,[]))
   else bS (tP (a0,(a1,a2))) false λ(q3:Bool)=>bif (!q3)then some (u ((9:Int),[]))
    else bif (decide ((Nat.cast (List.length a3):Int) > (0:Int)))then bif ((decide ((0:Int)<=(0:Int)))&&(decide ((0:Int) < (Nat.cast (List.length a3):Int))))then bif (decide ((List.getD a3 (0:Nat) ((0:Int),((0:Int),((0:Int),((0:Int),((0:Int),((0:Int),((0:Int),((0:Int),(0:Int)))))))))).1 < a2))then some (u ((1:Int),[]))
      else bS (tC (a0,(a1,a3))) [] λ(q6:(List E9))=>bif (decide ((Nat.cast (List.length q6):Int) > (40:Int)))then some (u ((2:Int),[]))
       else some (u ((0:Int),q6))
     else none
    else bS (tC (a0,(a1,a3))) [] λ(q4:(List E9))=>bif (decide ((Nat.cast (List.length q4):Int) > (40:Int)))then some (u ((2:Int),[]))
     else some (u ((0:Int),q4))
def g7 (m23:Y23)(tP:Y24)(tC:Y25)(L:Nat)(a0:(List E9))(a1:Int)(a2:Int)(a3:(List E9)):Option (Int×(List E9)):=G7 (λx=>x) m23 tP tC a0 a1 a2 a3
theorem e7 (m23:Y23)(tP:Y24)(tC:Y25)(L:Nat)(a0:(List E9))(a1:Int)(a2:Int)(a3:(List E9)):jL prog (ev7 m23 tP tC) (cE L) f7 (a7.enc (a0,a1,a2,a3))=(g7 m23 tP tC L a0 a1 a2 a3).map n7:=by
 refine .trans (b:=G7 n7 m23 tP tC a0 a1 a2 a3) (by kernel_rfl) ?_;unfold g7 G7
 repeat' first | with_reducible refine gW ?_ ?_ | with_reducible refine gU λ_=>?_ | with_reducible refine gV λ_=>?_ | exact rfl
def w7 (m23:Y23)(tP:Y24)(tC:Y25)(L:Nat)(x:((List E9)×Int×Int×(List E9))):Option (Int×(List E9)):=g7 m23 tP tC L x.1 x.2.1 x.2.2.1 x.2.2.2
theorem s7 (m23:Y23)(tP:Y24)(tC:Y25)(h23:Sat prog bL 23 (c23 m23))(h24:Sat prog bL 24 (c24 tP))(h25:Sat prog bL 25 (c25 tC))(m:Y7)(hm:∀ (x:((List E9)×Int×Int×(List E9))) t,m x=some t->∃ L,w7 m23 tP tC L x=some t):Sat prog bL 7 (c7 m):=
 dZ cC bX (by rfl) (fn:=f7) rfl a7 n7 dd7 m (ev7 m23 tP tC) (bM h23 (bM h24 (bM h25 bW))) bH (w7 m23 tP tC) (λL x=>e7 m23 tP tC L x.1 x.2.1 x.2.2.1 x.2.2.2) hm hs7
def ev4:Env bL:={ Kc:=eE [],Kw:=eD [],lv:=λi=>[],xv:=λi=>none }
def G4 {B:Type}(u:Bool->B)(a0:(List Int)):Option B:=
 some (u (decide ((Nat.cast (List.length a0):Int) > (1048576:Int))))
def g4 (L:Nat)(a0:(List Int)):Option Bool:=G4 (λx=>x) a0
theorem e4 (L:Nat)(a0:(List Int)):jL prog ev4 (cE L) f4 (a4.enc a0)=(g4 L a0).map n4:=by
 refine .trans (b:=G4 n4 a0) (by kernel_rfl) ?_;unfold g4 G4
 repeat' first | with_reducible refine gW ?_ ?_ | with_reducible refine gU λ_=>?_ | with_reducible refine gV λ_=>?_ | exact rfl
def w4 (L:Nat)(x:(List Int)):Option Bool:=g4 L x
theorem s4 (m:Y4)(hm:∀ (x:(List Int)) t,m x=some t->∃ L,w4 L x=some t):Sat prog bL 4 (c4 m):=
 dZ cC bX (by rfl) (fn:=f4) rfl a4 n4 dd4 m ev4 bW bH (w4) (λL x=>e4 L x) hm hs4
end Go.Proofs.Tryz
set_option maxHeartbeats 0
set_option maxRecDepth 100000
namespace Go.Proofs.Tryz
open Go.IntKind (wrap)
open Go Go.VM Go.RowKit
abbrev Y27b:=((List E9)×(List E9)×Unit)->Option Int
def aKK:Args bL.ty ((List E9)×(List E9)×Unit):=(Args.cons (Arg.leaf (LArg.row 35)) (Args.cons (Arg.leaf (LArg.row 35)) (Args.one (Arg.leaf (LArg.fn 36)))))
def uL:Int->V bL.ty:=λt=>(.inl (.inl (lv (.int .i64 t))))
def aF7:Int:=(0:Int)
abbrev aFA (m:Y27b):=jB (cx:=bL) aKK uL aF7 m
theorem aIN:∀ t,dE (uL t)=true\/cP (uL t)=true:=λ_=>.inl rfl
def pH (dN:Y30)(m36:Y36):Env bL:={ Kc:=eE [(30,c30 dN),(36,c36 m36)],Kw:=eD [],lv:=λi=>if i=0 then[(0,[some 35]),(1,[some 35]),(2,[]),(7,[]),(14,[]),(15,[])]else[],xv:=λi=>if i=0 then some [(7,[])]else none }
def S27b_0 (a0:(List E9))(a1:(List E9))(a2:Unit)(v0_7:Int)(v0_14:Int)(v0_15:Int):St bL.ty:={ slots:=[(.inl (.inl (ls { own:=0,nm:=0,e:=35,o:=false,xs:=a0 }))),(.inl (.inl (ls { own:=0,nm:=0,e:=35,o:=false,xs:=a1 }))),(.inl (.inl (lv (.func (.func (36:Nat)) #[] #[])))),aT,aT,aT,aT,(.inl (.inl (lv (.int .i64 v0_7)))),aT,aT,aT,aT,aT,aT,(.inl (.inl (lv (.int .i64 v0_14)))),(.inl (.inl (lv (.int .i64 v0_15))))]++List.replicate 16 aT,D:=[],F:=[],ctr:=1 }
def X27b_0 (a0:(List E9))(a1:(List E9))(a2:Unit)(w0_7:Int):St bL.ty:={ slots:=[aT,aT,aT,aT,aT,aT,aT,(.inl (.inl (lv (.int .i64 w0_7))))]++List.replicate 24 aT,D:=[],F:=[],ctr:=1 }
def G27b {B:Type}(u:Int->B)(hh0:Int->Int->Int->Option B)(dN:Y30)(m36:Y36)(a0:(List E9))(a1:(List E9))(a2:Unit):Option B:=
 bS (dN a0) (0:Int) λ(q1:Int)=>bS (dN a1) (0:Int) λ(q2:Int)=>hh0 (ite (q2 < q1) q2 q1) (ite (q2 < q1) q2 q1) (0:Int)
def B27b_0 {B:Type}(u:Int->B)(gg:Int->Int->Int->Option B)(kk:Int->Option B)(dN:Y30)(m36:Y36)(a0:(List E9))(a1:(List E9))(a2:Unit)(v0_7:Int)(v0_14:Int)(v0_15:Int):Option B:=
 bif (decide (v0_15 < v0_14))then oJ (List.getD a0 v0_15.toNat ((0:Int),((0:Int),((0:Int),((0:Int),((0:Int),((0:Int),((0:Int),((0:Int),(0:Int)))))))))) λs1_0=>oJ (List.getD a1 v0_15.toNat ((0:Int),((0:Int),((0:Int),((0:Int),((0:Int),((0:Int),((0:Int),((0:Int),(0:Int)))))))))) λs1_1=>bif ((decide ((0:Int)<=v0_15))&&(decide (v0_15 < (Nat.cast (List.length a0):Int))))then bif ((decide ((0:Int)<=v0_15))&&(decide (v0_15 < (Nat.cast (List.length a1):Int))))then bS (m36 ((s1_0.1,(s1_0.2.1,(s1_0.2.2.1,(s1_0.2.2.2.1,(s1_0.2.2.2.2.1,(s1_0.2.2.2.2.2.1,(s1_0.2.2.2.2.2.2.1,(s1_0.2.2.2.2.2.2.2.1,s1_0.2.2.2.2.2.2.2.2)))))))),(s1_1.1,(s1_1.2.1,(s1_1.2.2.1,(s1_1.2.2.2.1,(s1_1.2.2.2.2.1,(s1_1.2.2.2.2.2.1,(s1_1.2.2.2.2.2.2.1,(s1_1.2.2.2.2.2.2.2.1,s1_1.2.2.2.2.2.2.2.2)))))))))) false λ(q4:Bool)=>bif (!q4)then some (u v0_15)
     else gg v0_7 v0_14 (wrap .i64 (v0_15+(1:Int)))
   else none
  else none
 else kk v0_7
def A27b_0 {B:Type}(u:Int->B)(dN:Y30)(m36:Y36)(a0:(List E9))(a1:(List E9))(a2:Unit)(w0_7:Int):Option B:=
 some (u w0_7)
def pV (dN:Y30)(m36:Y36)(L:Nat)(a0:(List E9))(a1:(List E9))(a2:Unit):Nat->Int->Int->Int->(Int->Option Int)->Option Int
 | 0,_,_,_,_=>none
 | n+1,v0_7,v0_14,v0_15,k=>B27b_0 (λx=>x) (λv0_7 v0_14 v0_15=>pV dN m36 L a0 a1 a2 n v0_7 v0_14 v0_15 k) k dN m36 a0 a1 a2 v0_7 v0_14 v0_15
theorem aEa (dN:Y30)(m36:Y36)(L:Nat)(a0:(List E9))(a1:(List E9))(a2:Unit)(k:St bL.ty->Option (V bL.ty))(xk:Nat->St bL.ty->Option (V bL.ty))(k':Int->Option Int)(hk:∀ (w0_7:Int),k (X27b_0 a0 a1 a2 w0_7)=(k' w0_7).map uL):∀ (n:Nat) (v0_7:Int) (v0_14:Int) (v0_15:Int),fG prog (pH dN m36) L f27 0 [1,1,0,1,0,0] (iV (eK prog f27) k xk) n (S27b_0 a0 a1 a2 v0_7 v0_14 v0_15)=(pV dN m36 L a0 a1 a2 n v0_7 v0_14 v0_15 k').map uL
 | 0,_,_,_=>rfl
 | n+1,v0_7,v0_14,v0_15=>by
  rw[gN];have ih:=aEa dN m36 L a0 a1 a2 k xk k' hk n;refine .trans (b:=B27b_0 uL (λv0_7 v0_14 v0_15=>(fG prog (pH dN m36) L f27 0 [1,1,0,1,0,0] (iV (eK prog f27) k xk) n) (S27b_0 a0 a1 a2 v0_7 v0_14 v0_15)) (λw0_7=>k (X27b_0 a0 a1 a2 w0_7)) dN m36 a0 a1 a2 v0_7 v0_14 v0_15) (by kernel_rfl) ?_;unfold pV B27b_0
  repeat' first | with_reducible refine gW ?_ ?_ | with_reducible refine gU λ_=>?_ | with_reducible refine gV λ_=>?_ | with_reducible exact ih _ _ _ | with_reducible exact hk _ | exact rfl
def aEd (dN:Y30)(m36:Y36)(L:Nat)(a0:(List E9))(a1:(List E9))(a2:Unit):Option Int:=G27b (λx=>x) (λv0_7 v0_14 v0_15=>pV dN m36 L a0 a1 a2 L v0_7 v0_14 v0_15 (λw0_7=>A27b_0 (λx=>x) dN m36 a0 a1 a2 w0_7)) dN m36 a0 a1 a2
theorem aM0 (dN:Y30)(m36:Y36)(L:Nat)(a0:(List E9))(a1:(List E9))(a2:Unit):jL prog (pH dN m36) (cE L) f27 (aKK.enc (a0,a1,a2))=(aEd dN m36 L a0 a1 a2).map uL:=by
 have hin0:∀ (v0_7:Int) (v0_14:Int) (v0_15:Int),fG prog (pH dN m36) L f27 0 [1,1,0,1,0,0] (iV (eK prog f27) (iU prog (pH dN m36) L f27 [1,1,0,1] (eK prog f27)).n (iU prog (pH dN m36) L f27 [1,1,0,1] (eK prog f27)).x) L (S27b_0 a0 a1 a2 v0_7 v0_14 v0_15)=((λv0_7 v0_14 v0_15=>pV dN m36 L a0 a1 a2 L v0_7 v0_14 v0_15 (λw0_7=>A27b_0 (λx=>x) dN m36 a0 a1 a2 w0_7)) v0_7 v0_14 v0_15).map uL:=λv0_7 v0_14 v0_15=>aEa dN m36 L a0 a1 a2 _ _ _ (λw0_7=>by refine .trans (b:=A27b_0 uL dN m36 a0 a1 a2 w0_7) (by kernel_rfl) ?_;unfold A27b_0;repeat' first | with_reducible refine gW ?_ ?_ | with_reducible refine gU λ_=>?_ | with_reducible refine gV λ_=>?_ | exact rfl) L v0_7 v0_14 v0_15
 refine .trans (b:=G27b uL (λv0_7 v0_14 v0_15=>fG prog (pH dN m36) L f27 0 [1,1,0,1,0,0] (iV (eK prog f27) (iU prog (pH dN m36) L f27 [1,1,0,1] (eK prog f27)).n (iU prog (pH dN m36) L f27 [1,1,0,1] (eK prog f27)).x) L (S27b_0 a0 a1 a2 v0_7 v0_14 v0_15)) dN m36 a0 a1 a2) (by kernel_rfl) ?_;unfold aEd G27b
 repeat' first | with_reducible refine gW ?_ ?_ | with_reducible refine gU λ_=>?_ | with_reducible refine gV λ_=>?_ | with_reducible exact hin0 _ _ _ | exact rfl
def aGc (dN:Y30)(m36:Y36)(L:Nat)(x:((List E9)×(List E9)×Unit)):Option Int:=aEd dN m36 L x.1 x.2.1 x.2.2
theorem aLN (dN:Y30)(m36:Y36)(h30:Sat prog bL 30 (c30 dN))(h36:Sat prog bL 36 (c36 m36))(m:Y27b)(hm:∀ (x:((List E9)×(List E9)×Unit)) t,m x=some t->∃ L,aGc dN m36 L x=some t):Sat prog bL 27 (aFA m):=
 dZ cC bX (by rfl) (fn:=f27) rfl aKK uL aF7 m (pH dN m36) (bM h30 (bM h36 bW)) bH (aGc dN m36) (λL x=>aM0 dN m36 L x.1 x.2.1 x.2.2) hm aIN
def aJC (sH:Y35)(kC:Y27b)(dN:Y30)(sG:Y37):Env bL:={ Kc:=eE [(35,c35 sH),(27,aFA kC),(30,c30 dN),(37,c37 sG)],Kw:=eD [],lv:=λi=>[],xv:=λi=>none }
def G22 {B:Type}(u:(Int×(List E9))->B)(sH:Y35)(kC:Y27b)(dN:Y30)(sG:Y37)(a0:(List E9))(a1:Int)(a2:(List E9)):Option B:=
 bS (sH (a0,a1)) [] λ(q1:(List E9))=>bS (kC (q1,(a2,PUnit.unit))) (0:Int) λ(q2:Int)=>bS (dN a2) (0:Int) λ(q3:Int)=>bif (q2 == q3)then bS (dN a0) (0:Int) λ(q5:Int)=>bS (sG (a0,(q5,[]))) [] λ(q6:(List E9))=>some (u ((0:Int),q6))
    else bS (dN a2) (0:Int) λ(q4:Int)=>bif (decide ((wrap .i64 (a1+q3)) > (40:Int)))then some (u ((2:Int),[]))
     else bS (sH (a2,q2)) [] λ(q5:(List E9))=>bS (sG (a0,((wrap .i64 (a1+q2)),q5))) [] λ(q6:(List E9))=>some (u ((0:Int),q6))
def g22 (sH:Y35)(kC:Y27b)(dN:Y30)(sG:Y37)(L:Nat)(a0:(List E9))(a1:Int)(a2:(List E9)):Option (Int×(List E9)):=G22 (λx=>x) sH kC dN sG a0 a1 a2
theorem e22 (sH:Y35)(kC:Y27b)(dN:Y30)(sG:Y37)(L:Nat)(a0:(List E9))(a1:Int)(a2:(List E9)):jL prog (aJC sH kC dN sG) (cE L) f22 (a22.enc (a0,a1,a2))=(g22 sH kC dN sG L a0 a1 a2).map n22:=by
 refine .trans (b:=G22 n22 sH kC dN sG a0 a1 a2) (by kernel_rfl) ?_;unfold g22 G22
 repeat' first | with_reducible refine gW ?_ ?_ | with_reducible refine gU λ_=>?_ | with_reducible refine gV λ_=>?_ | exact rfl
def w22 (sH:Y35)(kC:Y27b)(dN:Y30)(sG:Y37)(L:Nat)(x:((List E9)×Int×(List E9))):Option (Int×(List E9)):=g22 sH kC dN sG L x.1 x.2.1 x.2.2
theorem s22 (sH:Y35)(kC:Y27b)(dN:Y30)(sG:Y37)(h35:Sat prog bL 35 (c35 sH))(h27b:Sat prog bL 27 (aFA kC))(h30:Sat prog bL 30 (c30 dN))(h37:Sat prog bL 37 (c37 sG))(m:Y22)(hm:∀ (x:((List E9)×Int×(List E9))) t,m x=some t->∃ L,w22 sH kC dN sG L x=some t):Sat prog bL 22 (c22 m):=
 dZ cC bX (by rfl) (fn:=f22) rfl a22 n22 aKr m (aJC sH kC dN sG) (bM h35 (bM h27b (bM h30 (bM h37 bW)))) bH (w22 sH kC dN sG) (λL x=>e22 sH kC dN sG L x.1 x.2.1 x.2.2) hm aMy
end Go.Proofs.Tryz
set_option maxHeartbeats 0
set_option maxRecDepth 100000
namespace Go.Proofs.Tryz
open Go.IntKind (wrap)
open Go Go.VM Go.RowKit
def ev5 (tQ:Y14)(qV:Y15)(rH:Y16)(cK:Y17)(dF:Y18)(m19:Y19)(bN:Y20)(fQ:Y21):Env bL:={ Kc:=eE [(18,yC dF),(19,c19 m19)],Kw:=eD [(14,c14 tQ),(15,c15 qV),(16,c16 rH),(17,c17 cK),(20,qD bN),(21,c21 fQ)],lv:=λi=>[],xv:=λi=>none }
def G5 {B:Type}(u:((List E9)×Int×Int×(List E9))->B)(tQ:Y14)(qV:Y15)(rH:Y16)(cK:Y17)(dF:Y18)(m19:Y19)(bN:Y20)(fQ:Y21)(a0:(List Int)):Option B:=
 bS (tQ a0) ([],(0:Int)) λ(q1:((List Int)×Int))=>bS (qV (q1.1,q1.2)) ([],[],(0:Int)) λ(q2:((List E9)×(List Int)×Int))=>bS (rH ((q2.2.1,q2.2.2),q2.1)) ((0:Int),(0:Int),[],(0:Int)) λ(q3:(Int×Int×(List Int)×Int))=>bS (qV (q3.2.2.1,q3.2.2.2)) ([],[],(0:Int)) λ(q4:((List E9)×(List Int)×Int))=>bS (cK ((q4.2.1,q4.2.2),(2:Int))) (false,[],(0:Int)) λ(q5:(Bool×(List Int)×Int))=>bif q5.1 then bS (dF (q3.1,((0:Int),(Nat.cast (List.length q2.1):Int)))) false λ(q7:Bool)=>bif q7 then bif (((decide ((0:Int)<=q3.1))&&(decide (q3.1<=(Nat.cast (List.length q2.1):Int))))&&(decide ((Nat.cast (List.length q2.1):Int)<=(Nat.cast (List.length q2.1):Int))))then bS (m19 (List.drop (Int.toNat q3.1) (List.take (Int.toNat (Nat.cast (List.length q2.1):Int)) q2.1))) [] λ(q10:(List E9))=>bif (decide ((Nat.cast (List.length q10):Int) > (0:Int)))then bS (bN ((q5.2.1,q5.2.2),(Nat.cast (List.length q10):Int))) ((0:Int),[],(0:Int)) λ(q12:(Int×(List Int)×Int))=>bif ((decide ((0:Int)<=(wrap .i64 (q12.1+(1:Int)))))&&(decide ((wrap .i64 (q12.1+(1:Int)))<=(Nat.cast (List.length q10):Int))))then oJ (List.getD (List.take (Int.toNat (wrap .i64 (q12.1+(1:Int)))) q10) (Int.toNat (wrap .i64 ((Nat.cast (List.length (List.take (Int.toNat (wrap .i64 (q12.1+(1:Int)))) q10)):Int)-(1:Int)))) ((0:Int),((0:Int),((0:Int),((0:Int),((0:Int),((0:Int),((0:Int),((0:Int),(0:Int)))))))))) λs13_0=>bS (cK ((q12.2.1,q12.2.2),(2:Int))) (false,[],(0:Int)) λ(q14:(Bool×(List Int)×Int))=>bif q14.1 then bif ((decide ((0:Int)<=(wrap .i64 ((Nat.cast (List.length (List.take (Int.toNat (wrap .i64 (q12.1+(1:Int)))) q10)):Int)-(1:Int)))))&&(decide ((wrap .i64 ((Nat.cast (List.length (List.take (Int.toNat (wrap .i64 (q12.1+(1:Int)))) q10)):Int)-(1:Int))) < (Nat.cast (List.length (List.take (Int.toNat (wrap .i64 (q12.1+(1:Int)))) q10)):Int))))then bS (fQ ((q14.2.1,q14.2.2),(wrap .i64 (s13_0.1+(1:Int))))) ((0:Int),(0:Int),(0:Int),(0:Int),(0:Int),(0:Int),(0:Int),(0:Int),(0:Int),[],(0:Int)) λ(q17:(Int×Int×Int×Int×Int×Int×Int×Int×Int×(List Int)×Int))=>bif ((decide ((0:Int)<=(wrap .i64 ((Nat.cast (List.length (List.take (Int.toNat (wrap .i64 (q12.1+(1:Int)))) q10)):Int)-(1:Int)))))&&(decide ((wrap .i64 ((Nat.cast (List.length (List.take (Int.toNat (wrap .i64 (q12.1+(1:Int)))) q10)):Int)-(1:Int))) < (Nat.cast (List.length (List.take (Int.toNat (wrap .i64 (q12.1+(1:Int)))) q10)):Int))))then some (u (q2.1,q3.1,q3.2.1,(List.set (List.take (Int.toNat (wrap .i64 (q12.1+(1:Int)))) q10) (Int.toNat (wrap .i64 ((Nat.cast (List.length (List.take (Int.toNat (wrap .i64 (q12.1+(1:Int)))) q10)):Int)-(1:Int)))) (q17.1,(q17.2.1,(q17.2.2.1,(q17.2.2.2.1,(q17.2.2.2.2.1,(q17.2.2.2.2.2.1,(q17.2.2.2.2.2.2.1,(q17.2.2.2.2.2.2.2.1,q17.2.2.2.2.2.2.2.2.1)))))))))))
                  else none
                else none
               else some (u (q2.1,q3.1,q3.2.1,(List.take (Int.toNat (wrap .i64 (q12.1+(1:Int)))) q10)))
             else none
           else some (u (q2.1,q3.1,q3.2.1,q10))
         else none
        else some (u (q2.1,q3.1,q3.2.1,q4.1))
      else some (u (q2.1,q3.1,q3.2.1,q4.1))
def g5 (tQ:Y14)(qV:Y15)(rH:Y16)(cK:Y17)(dF:Y18)(m19:Y19)(bN:Y20)(fQ:Y21)(L:Nat)(a0:(List Int)):Option ((List E9)×Int×Int×(List E9)):=G5 (λx=>x) tQ qV rH cK dF m19 bN fQ a0
theorem e5 (tQ:Y14)(qV:Y15)(rH:Y16)(cK:Y17)(dF:Y18)(m19:Y19)(bN:Y20)(fQ:Y21)(L:Nat)(a0:(List Int)):aEm prog (ev5 tQ qV rH cK dF m19 bN fQ) (cE L) f5 (a5.enc a0)=(g5 tQ qV rH cK dF m19 bN fQ L a0).map n5:=by
 refine .trans (b:=G5 n5 tQ qV rH cK dF m19 bN fQ a0) (by kernel_rfl) ?_;unfold g5 G5
 repeat' first | with_reducible refine gW ?_ ?_ | with_reducible refine gU λ_=>?_ | with_reducible refine gV λ_=>?_ | exact rfl
def w5 (tQ:Y14)(qV:Y15)(rH:Y16)(cK:Y17)(dF:Y18)(m19:Y19)(bN:Y20)(fQ:Y21)(L:Nat)(x:(List Int)):Option ((List E9)×Int×Int×(List E9)):=g5 tQ qV rH cK dF m19 bN fQ L x
theorem s5 (tQ:Y14)(qV:Y15)(rH:Y16)(cK:Y17)(dF:Y18)(m19:Y19)(bN:Y20)(fQ:Y21)(h14:SatN prog bL 14 (c14 tQ).F)(h15:SatP prog bL 15 (c15 qV).nres (c15 qV).F)(h16:SatP prog bL 16 (c16 rH).nres (c16 rH).F)(h17:SatP prog bL 17 (c17 cK).nres (c17 cK).F)(h18:Sat prog bL 18 (yC dF))(h19:Sat prog bL 19 (c19 m19))(h20:SatP prog bL 20 (qD bN).nres (qD bN).F)(h21:SatP prog bL 21 (c21 fQ).nres (c21 fQ).F)(m:Y5)(hm:∀ (x:(List Int)) t,m x=some t->∃ L,w5 tQ qV rH cK dF m19 bN fQ L x=some t):Sat prog bL 5 (c5 m):=
 aFL cC bX (by rfl) (fn:=f5) rfl a5 n5 dd5 m (ev5 tQ qV rH cK dF m19 bN fQ) (bM h18 (bM h19 bW)) (cW h14 (cW h15 (cW h16 (cW h17 (cW h20 (cW h21 bH)))))) (w5 tQ qV rH cK dF m19 bN fQ) (λL x=>e5 tQ qV rH cK dF m19 bN fQ L x) hm hs5
end Go.Proofs.Tryz
set_option maxHeartbeats 0
set_option maxRecDepth 100000
namespace Go.Proofs.Tryz
open Go.IntKind (wrap)
open Go Go.VM Go.RowKit
def aJI (cK:Y17)(bN:Y20)(dM:Y32):Env bL:={ Kc:=eE [],Kw:=eD [(17,c17 cK),(20,qD bN),(32,c32 dM)],lv:=λi=>[],xv:=λi=>none }
def G16 {B:Type}(u:(Int×Int×(List Int)×Int)->B)(cK:Y17)(bN:Y20)(dM:Y32)(a0_0:(List Int))(a0_1:Int)(a1:(List E9)):Option B:=
 bif (decide ((Nat.cast (List.length a1):Int) > (0:Int)))then bS (cK ((a0_0,a0_1),(4:Int))) (false,[],(0:Int)) λ(q2:(Bool×(List Int)×Int))=>bif (!q2.1)then bS (bN ((q2.2.1,q2.2.2),(Nat.cast (List.length a1):Int))) ((0:Int),[],(0:Int)) λ(q4:(Int×(List Int)×Int))=>bif ((decide ((0:Int)<=q4.1))&&(decide (q4.1 < (Nat.cast (List.length a1):Int))))then some (u ((wrap .i64 (q4.1+(1:Int))),(List.getD a1 (Int.toNat q4.1) ((0:Int),((0:Int),((0:Int),((0:Int),((0:Int),((0:Int),((0:Int),((0:Int),(0:Int)))))))))).1,q4.2.1,q4.2.2))
     else none
   else bS (dM ((q2.2.1,q2.2.2),(List.cons (0:Int) (List.cons (0:Int) (List.cons (1:Int) (List.cons (41:Int) (List.cons (-(1:Int)) ([]:List (Int))))))))) ((0:Int),[],(0:Int)) λ(q3:(Int×(List Int)×Int))=>bS (dM ((q3.2.1,q3.2.2),(List.cons (0:Int) (List.cons (0:Int) (List.cons (1:Int) (List.cons (5:Int) ([]:List (Int)))))))) ((0:Int),[],(0:Int)) λ(q4:(Int×(List Int)×Int))=>some (u (q3.1,q4.1,q4.2.1,q4.2.2))
 else bS (dM ((a0_0,a0_1),(List.cons (0:Int) (List.cons (0:Int) (List.cons (1:Int) (List.cons (41:Int) (List.cons (-(1:Int)) ([]:List (Int))))))))) ((0:Int),[],(0:Int)) λ(q1:(Int×(List Int)×Int))=>bS (dM ((q1.2.1,q1.2.2),(List.cons (0:Int) (List.cons (0:Int) (List.cons (1:Int) (List.cons (5:Int) ([]:List (Int)))))))) ((0:Int),[],(0:Int)) λ(q2:(Int×(List Int)×Int))=>some (u (q1.1,q2.1,q2.2.1,q2.2.2))
def g16 (cK:Y17)(bN:Y20)(dM:Y32)(L:Nat)(a0_0:(List Int))(a0_1:Int)(a1:(List E9)):Option (Int×Int×(List Int)×Int):=G16 (λx=>x) cK bN dM a0_0 a0_1 a1
theorem e16 (cK:Y17)(bN:Y20)(dM:Y32)(L:Nat)(a0_0:(List Int))(a0_1:Int)(a1:(List E9)):tG prog (aJI cK bN dM) (cE L) f16 (a16.enc ((a0_0,a0_1),a1))=(g16 cK bN dM L a0_0 a0_1 a1).map n16:=by
 refine .trans (b:=G16 n16 cK bN dM a0_0 a0_1 a1) (by kernel_rfl) ?_;unfold g16 G16
 repeat' first | with_reducible refine gW ?_ ?_ | with_reducible refine gU λ_=>?_ | with_reducible refine gV λ_=>?_ | exact rfl
def w16 (cK:Y17)(bN:Y20)(dM:Y32)(L:Nat)(x:(((List Int)×Int)×(List E9))):Option (Int×Int×(List Int)×Int):=g16 cK bN dM L x.1.1 x.1.2 x.2
theorem s16 (cK:Y17)(bN:Y20)(dM:Y32)(h17:SatP prog bL 17 (c17 cK).nres (c17 cK).F)(h20:SatP prog bL 20 (qD bN).nres (qD bN).F)(h32:SatP prog bL 32 (c32 dM).nres (c32 dM).F)(m:Y16)(hm:∀ (x:(((List Int)×Int)×(List E9))) t,m x=some t->∃ L,w16 cK bN dM L x=some t):SatP prog bL 16 (c16 m).nres (c16 m).F:=
 qL cC bX (by rfl) (fn:=f16) rfl rfl a16 n16 aKx m (aJI cK bN dM) bW (cW h17 (cW h20 (cW h32 bH))) (w16 cK bN dM) (λL x=>e16 cK bN dM L x.1.1 x.1.2 x.2) hm
def ev3 (m4:Y4)(m5:Y5)(m6:Y6)(m7:Y7)(m8:Y8)(m9:Y9)(m10:Y10)(m11:Y11)(m13:Y13)(m12:Y12):Env bL:={ Kc:=eE [(4,c4 m4),(5,c5 m5),(6,c6 m6),(7,c7 m7),(8,c8 m8),(9,c9 m9),(10,c10 m10),(11,c11 m11),(13,c13 m13),(12,c12 m12)],Kw:=eD [],lv:=λi=>if i=0 then[(4,[]),(5,[]),(6,[some 35]),(7,[none,some 35]),(8,[])]else[],xv:=λi=>if i=0 then some [(4,[]),(5,[]),(6,[some 35]),(7,[none,some 35])]else none }
def S3_0 (a0:(List Int))(v0_4:Int)(v0_5:Int)(v0_6:(List E9))(v0_7_0:Int)(v0_7_1:(List E9))(v0_8:Int):St bL.ty:={ slots:=[aT,aT,aT,aT,(.inl (.inl (lv (.int .i64 v0_4)))),(.inl (.inl (lv (.int .i64 v0_5)))),(.inl (.inl (ls { own:=0,nm:=0,e:=35,o:=false,xs:=v0_6 }))),(.inr (.inr { kind:=0,nm:=448,cells:=[(lv (.int .i64 v0_7_0)),(ls { own:=1,nm:=450,e:=35,o:=true,xs:=v0_7_1 })],s:={ own:=0,nm:=0,e:=0,o:=false,xs:=([]:List (PUnit)) },i:=0,off:=0 })),(.inl (.inl (lv (.int .i64 v0_8))))]++List.replicate 104 aT,D:=[],F:=[],ctr:=1,lo:=1 }
def X3_0 (a0:(List Int))(w0_4:Int)(w0_5:Int)(w0_6:(List E9))(w0_7_0:Int)(w0_7_1:(List E9)):St bL.ty:={ slots:=[aT,aT,aT,aT,(.inl (.inl (lv (.int .i64 w0_4)))),(.inl (.inl (lv (.int .i64 w0_5)))),(.inl (.inl (ls { own:=0,nm:=0,e:=35,o:=false,xs:=w0_6 }))),(.inr (.inr { kind:=0,nm:=448,cells:=[(lv (.int .i64 w0_7_0)),(ls { own:=1,nm:=450,e:=35,o:=true,xs:=w0_7_1 })],s:={ own:=0,nm:=0,e:=0,o:=false,xs:=([]:List (PUnit)) },i:=0,off:=0 }))]++List.replicate 105 aT,D:=[],F:=[],ctr:=1,lo:=1 }
def G3 {B:Type}(u:Bool->B)(hh0:Int->Int->(List E9)->Int->(List E9)->Int->Option B)(m4:Y4)(m5:Y5)(m6:Y6)(m7:Y7)(m8:Y8)(m9:Y9)(m10:Y10)(m11:Y11)(m13:Y13)(m12:Y12)(a0:(List Int)):Option B:=
 bS (m4 a0) false λ(q1:Bool)=>bif q1 then some (u true)
  else bS (m5 a0) ([],(0:Int),(0:Int),[]) λ(q2:((List E9)×Int×Int×(List E9)))=>bS (m6 (q2.1,(q2.2.1,(q2.2.2.1,q2.2.2.2)))) ((0:Int),[]) λ(q3:(Int×(List E9)))=>bif (q3.1 != (0:Int))then bS (m7 (q2.1,(q2.2.1,(q2.2.2.1,q2.2.2.2)))) ((0:Int),[]) λ(q5:(Int×(List E9)))=>some (u (q5.1 == q3.1))
    else bS (m8 q3.2) (0:Int) λ(q4:Int)=>bif (q4 != (0:Int))then some (u false)
     else bif (decide ((Nat.cast (List.length q3.2):Int) < (wrap .i64 (q2.2.1+(Nat.cast (List.length q2.2.2.2):Int)))))then some (u false)
     else bS (m9 (q2.1,q3.2)) (0:Int) λ(q5:Int)=>bif (decide (q5 < q2.2.1))then some (u false)
      else hh0 q2.2.1 q2.2.2.1 q2.2.2.2 q3.1 q3.2 (0:Int)
def B3_0 {B:Type}(u:Bool->B)(gg:Int->Int->(List E9)->Int->(List E9)->Int->Option B)(kk:Int->Int->(List E9)->Int->(List E9)->Option B)(m4:Y4)(m5:Y5)(m6:Y6)(m7:Y7)(m8:Y8)(m9:Y9)(m10:Y10)(m11:Y11)(m13:Y13)(m12:Y12)(a0:(List Int))(v0_4:Int)(v0_5:Int)(v0_6:(List E9))(v0_7_0:Int)(v0_7_1:(List E9))(v0_8:Int):Option B:=
 bif (decide (v0_8 < (Nat.cast (List.length v0_6):Int)))then bif ((decide ((0:Int)<=(wrap .i64 (v0_4+v0_8))))&&(decide ((wrap .i64 (v0_4+v0_8)) < (Nat.cast (List.length v0_7_1):Int))))then bif ((decide ((0:Int)<=v0_8))&&(decide (v0_8 < (Nat.cast (List.length v0_6):Int))))then bif ((List.getD v0_7_1 (Int.toNat (wrap .i64 (v0_4+v0_8))) ((0:Int),((0:Int),((0:Int),((0:Int),((0:Int),((0:Int),((0:Int),((0:Int),(0:Int)))))))))).1 != (List.getD v0_6 v0_8.toNat ((0:Int),((0:Int),((0:Int),((0:Int),((0:Int),((0:Int),((0:Int),((0:Int),(0:Int)))))))))).1)then some (u false)
    else gg v0_4 v0_5 v0_6 v0_7_0 v0_7_1 (wrap .i64 (v0_8+(1:Int)))
   else none
  else none
 else kk v0_4 v0_5 v0_6 v0_7_0 v0_7_1
def A3_0 {B:Type}(u:Bool->B)(m4:Y4)(m5:Y5)(m6:Y6)(m7:Y7)(m8:Y8)(m9:Y9)(m10:Y10)(m11:Y11)(m13:Y13)(m12:Y12)(a0:(List Int))(w0_4:Int)(w0_5:Int)(w0_6:(List E9))(w0_7_0:Int)(w0_7_1:(List E9)):Option B:=
 bS (m6 (w0_7_1,(w0_4,(w0_5,w0_6)))) ((0:Int),[]) λ(q1:(Int×(List E9)))=>bS (m10 (w0_7_1,(w0_4,w0_5))) false λ(q2:Bool)=>bif q2 then bif (q1.1 == (0:Int))then bS (m11 (q1.2,w0_7_1)) false λ(q5:Bool)=>bif q5 then bS (m13 w0_7_1) ((0:Int),(0:Int),(0:Int),(0:Int),(0:Int),(0:Int),(0:Int),(0:Int),(0:Int)) λ(q7:E9)=>bS (m12 (w0_7_1,((Nat.cast (List.length w0_7_1):Int),q7.1))) false λ(q8:Bool)=>some (u q8)
      else some (u false)
    else some (u false)
   else some (u false)
def aBy (m4:Y4)(m5:Y5)(m6:Y6)(m7:Y7)(m8:Y8)(m9:Y9)(m10:Y10)(m11:Y11)(m13:Y13)(m12:Y12)(L:Nat)(a0:(List Int)):Nat->Int->Int->(List E9)->Int->(List E9)->Int->(Int->Int->(List E9)->Int->(List E9)->Option Bool)->Option Bool
 | 0,_,_,_,_,_,_,_=>none
 | n+1,v0_4,v0_5,v0_6,v0_7_0,v0_7_1,v0_8,k=>B3_0 (λx=>x) (λv0_4 v0_5 v0_6 v0_7_0 v0_7_1 v0_8=>aBy m4 m5 m6 m7 m8 m9 m10 m11 m13 m12 L a0 n v0_4 v0_5 v0_6 v0_7_0 v0_7_1 v0_8 k) k m4 m5 m6 m7 m8 m9 m10 m11 m13 m12 a0 v0_4 v0_5 v0_6 v0_7_0 v0_7_1 v0_8
theorem aIP (m4:Y4)(m5:Y5)(m6:Y6)(m7:Y7)(m8:Y8)(m9:Y9)(m10:Y10)(m11:Y11)(m13:Y13)(m12:Y12)(L:Nat)(a0:(List Int))(k:St bL.ty->Option (V bL.ty))(xk:Nat->St bL.ty->Option (V bL.ty))(k':Int->Int->(List E9)->Int->(List E9)->Option Bool)(hk:∀ (w0_4:Int) (w0_5:Int) (w0_6:(List E9)) (w0_7_0:Int) (w0_7_1:(List E9)),k (X3_0 a0 w0_4 w0_5 w0_6 w0_7_0 w0_7_1)=(k' w0_4 w0_5 w0_6 w0_7_0 w0_7_1).map n3):∀ (n:Nat) (v0_4:Int) (v0_5:Int) (v0_6:(List E9)) (v0_7_0:Int) (v0_7_1:(List E9)) (v0_8:Int),fG prog (ev3 m4 m5 m6 m7 m8 m9 m10 m11 m13 m12) L f3 0 [1,1,1,1,1,1,0,1,0,0] (iV (eK prog f3) k xk) n (S3_0 a0 v0_4 v0_5 v0_6 v0_7_0 v0_7_1 v0_8)=(aBy m4 m5 m6 m7 m8 m9 m10 m11 m13 m12 L a0 n v0_4 v0_5 v0_6 v0_7_0 v0_7_1 v0_8 k').map n3
 | 0,_,_,_,_,_,_=>rfl
 | n+1,v0_4,v0_5,v0_6,v0_7_0,v0_7_1,v0_8=>by
  rw[gN];have ih:=aIP m4 m5 m6 m7 m8 m9 m10 m11 m13 m12 L a0 k xk k' hk n;refine .trans (b:=B3_0 n3 (λv0_4 v0_5 v0_6 v0_7_0 v0_7_1 v0_8=>(fG prog (ev3 m4 m5 m6 m7 m8 m9 m10 m11 m13 m12) L f3 0 [1,1,1,1,1,1,0,1,0,0] (iV (eK prog f3) k xk) n) (S3_0 a0 v0_4 v0_5 v0_6 v0_7_0 v0_7_1 v0_8)) (λw0_4 w0_5 w0_6 w0_7_0 w0_7_1=>k (X3_0 a0 w0_4 w0_5 w0_6 w0_7_0 w0_7_1)) m4 m5 m6 m7 m8 m9 m10 m11 m13 m12 a0 v0_4 v0_5 v0_6 v0_7_0 v0_7_1 v0_8) (by kernel_rfl) ?_;unfold aBy B3_0
  repeat' first | with_reducible refine gW ?_ ?_ | with_reducible refine gU λ_=>?_ | with_reducible refine gV λ_=>?_ | with_reducible exact ih _ _ _ _ _ _ | with_reducible exact hk _ _ _ _ _ | exact rfl
def g3 (m4:Y4)(m5:Y5)(m6:Y6)(m7:Y7)(m8:Y8)(m9:Y9)(m10:Y10)(m11:Y11)(m13:Y13)(m12:Y12)(L:Nat)(a0:(List Int)):Option Bool:=G3 (λx=>x) (λv0_4 v0_5 v0_6 v0_7_0 v0_7_1 v0_8=>aBy m4 m5 m6 m7 m8 m9 m10 m11 m13 m12 L a0 L v0_4 v0_5 v0_6 v0_7_0 v0_7_1 v0_8 (λw0_4 w0_5 w0_6 w0_7_0 w0_7_1=>A3_0 (λx=>x) m4 m5 m6 m7 m8 m9 m10 m11 m13 m12 a0 w0_4 w0_5 w0_6 w0_7_0 w0_7_1)) m4 m5 m6 m7 m8 m9 m10 m11 m13 m12 a0
theorem e3 (m4:Y4)(m5:Y5)(m6:Y6)(m7:Y7)(m8:Y8)(m9:Y9)(m10:Y10)(m11:Y11)(m13:Y13)(m12:Y12)(L:Nat)(a0:(List Int)):aFv prog (ev3 m4 m5 m6 m7 m8 m9 m10 m11 m13 m12) (cE L) f3 (a3.enc a0)=(g3 m4 m5 m6 m7 m8 m9 m10 m11 m13 m12 L a0).map n3:=by
 have hin0:∀ (v0_4:Int) (v0_5:Int) (v0_6:(List E9)) (v0_7_0:Int) (v0_7_1:(List E9)) (v0_8:Int),fG prog (ev3 m4 m5 m6 m7 m8 m9 m10 m11 m13 m12) L f3 0 [1,1,1,1,1,1,0,1,0,0] (iV (eK prog f3) (iU prog (ev3 m4 m5 m6 m7 m8 m9 m10 m11 m13 m12) L f3 [1,1,1,1,1,1,0,1] (eK prog f3)).n (iU prog (ev3 m4 m5 m6 m7 m8 m9 m10 m11 m13 m12) L f3 [1,1,1,1,1,1,0,1] (eK prog f3)).x) L (S3_0 a0 v0_4 v0_5 v0_6 v0_7_0 v0_7_1 v0_8)=((λv0_4 v0_5 v0_6 v0_7_0 v0_7_1 v0_8=>aBy m4 m5 m6 m7 m8 m9 m10 m11 m13 m12 L a0 L v0_4 v0_5 v0_6 v0_7_0 v0_7_1 v0_8 (λw0_4 w0_5 w0_6 w0_7_0 w0_7_1=>A3_0 (λx=>x) m4 m5 m6 m7 m8 m9 m10 m11 m13 m12 a0 w0_4 w0_5 w0_6 w0_7_0 w0_7_1)) v0_4 v0_5 v0_6 v0_7_0 v0_7_1 v0_8).map n3:=λv0_4 v0_5 v0_6 v0_7_0 v0_7_1 v0_8=>aIP m4 m5 m6 m7 m8 m9 m10 m11 m13 m12 L a0 _ _ _ (λw0_4 w0_5 w0_6 w0_7_0 w0_7_1=>by refine .trans (b:=A3_0 n3 m4 m5 m6 m7 m8 m9 m10 m11 m13 m12 a0 w0_4 w0_5 w0_6 w0_7_0 w0_7_1) (by kernel_rfl) ?_;unfold A3_0;repeat' first | with_reducible refine gW ?_ ?_ | with_reducible refine gU λ_=>?_ | with_reducible refine gV λ_=>?_ | exact rfl) L v0_4 v0_5 v0_6 v0_7_0 v0_7_1 v0_8
 refine .trans (b:=G3 n3 (λv0_4 v0_5 v0_6 v0_7_0 v0_7_1 v0_8=>fG prog (ev3 m4 m5 m6 m7 m8 m9 m10 m11 m13 m12) L f3 0 [1,1,1,1,1,1,0,1,0,0] (iV (eK prog f3) (iU prog (ev3 m4 m5 m6 m7 m8 m9 m10 m11 m13 m12) L f3 [1,1,1,1,1,1,0,1] (eK prog f3)).n (iU prog (ev3 m4 m5 m6 m7 m8 m9 m10 m11 m13 m12) L f3 [1,1,1,1,1,1,0,1] (eK prog f3)).x) L (S3_0 a0 v0_4 v0_5 v0_6 v0_7_0 v0_7_1 v0_8)) m4 m5 m6 m7 m8 m9 m10 m11 m13 m12 a0) (by kernel_rfl) ?_;unfold g3 G3
 repeat' first | with_reducible refine gW ?_ ?_ | with_reducible refine gU λ_=>?_ | with_reducible refine gV λ_=>?_ | with_reducible exact hin0 _ _ _ _ _ _ | exact rfl
def w3 (m4:Y4)(m5:Y5)(m6:Y6)(m7:Y7)(m8:Y8)(m9:Y9)(m10:Y10)(m11:Y11)(m13:Y13)(m12:Y12)(L:Nat)(x:(List Int)):Option Bool:=g3 m4 m5 m6 m7 m8 m9 m10 m11 m13 m12 L x
theorem s3 (m4:Y4)(m5:Y5)(m6:Y6)(m7:Y7)(m8:Y8)(m9:Y9)(m10:Y10)(m11:Y11)(m13:Y13)(m12:Y12)(h4:Sat prog bL 4 (c4 m4))(h5:Sat prog bL 5 (c5 m5))(h6:Sat prog bL 6 (c6 m6))(h7:Sat prog bL 7 (c7 m7))(h8:Sat prog bL 8 (c8 m8))(h9:Sat prog bL 9 (c9 m9))(h10:Sat prog bL 10 (c10 m10))(h11:Sat prog bL 11 (c11 m11))(h13:Sat prog bL 13 (c13 m13))(h12:Sat prog bL 12 (c12 m12))(m:Y3)(hm:∀ (x:(List Int)) t,m x=some t->∃ L,w3 m4 m5 m6 m7 m8 m9 m10 m11 m13 m12 L x=some t):Sat prog bL 3 (c3 m):=
 aHL cC bX (by rfl) (fn:=f3) rfl a3 n3 dd3 m (ev3 m4 m5 m6 m7 m8 m9 m10 m11 m13 m12) (bM h4 (bM h5 (bM h6 (bM h7 (bM h8 (bM h9 (bM h10 (bM h11 (bM h13 (bM h12 bW)))))))))) bH (w3 m4 m5 m6 m7 m8 m9 m10 m11 m13 m12) (λL x=>e3 m4 m5 m6 m7 m8 m9 m10 m11 m13 m12 L x) hm hs3
end Go.Proofs.Tryz
