/- A part of the proof of FnLogs: LkFe. -/
import Derived.Test.YtlnabockdjjpbaaGreatLkBase
set_option linter.unusedSimpArgs false
set_option linter.unusedVariables false
set_option maxHeartbeats 0
set_option maxRecDepth 100000
namespace Go.Proofs.Tryz
open Go.IntKind (wrap)
open Go Go.VM Go.RowKit
def aJK:Env bL:={ Kc:=eE [],Kw:=eD [],lv:=λi=>[],xv:=λi=>none }
def G14 {B:Type}(u:((List Int)×Int)->B)(a0:(List Int)):Option B:=
 some (u (a0,(0:Int)))
def g14 (L:Nat)(a0:(List Int)):Option ((List Int)×Int):=G14 (λx=>x) a0
theorem e14 (L:Nat)(a0:(List Int)):aFu prog aJK (cE L) f14 (a14.enc a0)=(g14 L a0).map n14:=by
 refine .trans (b:=G14 n14 a0) (by kernel_rfl) ?_;unfold g14 G14
 repeat' first | with_reducible refine gW ?_ ?_ | with_reducible refine gU λ_=>?_ | with_reducible refine gV λ_=>?_ | exact rfl
def w14 (L:Nat)(x:(List Int)):Option ((List Int)×Int):=g14 L x
theorem s14 (m:Y14)(hm:∀ (x:(List Int)) t,m x=some t->∃ L,w14 L x=some t):SatN prog bL 14 (c14 m).F:=
 aHK cC bX (by rfl) (fn:=f14) rfl a14 n14 aKz m aJK bW bH (w14) (λL x=>e14 L x) hm
def aJE:Env bL:={ Kc:=eE [],Kw:=eD [],lv:=λi=>[],xv:=λi=>none }
def G20 {B:Type}(u:(Int×(List Int)×Int)->B)(a0_0:(List Int))(a0_1:Int)(a1:Int):Option B:=
 bif (decide (a1 < (1:Int)))then some (u ((0:Int),a0_0,(wrap .i64 (a0_1+(1:Int)))))
 else bif ((Nat.cast (List.length a0_0):Int) == (0:Int))then bif (a1 == (0:Int))then none
  else some (u ((Int.tmod (wrap .i64 ((wrap .i64 ((wrap .i64 (a0_1+(1:Int)))-(1:Int))) * (7:Int))) a1),a0_0,(wrap .i64 (a0_1+(1:Int)))))
 else bif ((Nat.cast (List.length a0_0):Int) == (0:Int))then none
 else bif ((decide ((0:Int)<=(Int.tmod (wrap .i64 ((wrap .i64 (a0_1+(1:Int)))-(1:Int))) (Nat.cast (List.length a0_0):Int))))&&(decide ((Int.tmod (wrap .i64 ((wrap .i64 (a0_1+(1:Int)))-(1:Int))) (Nat.cast (List.length a0_0):Int)) < (Nat.cast (List.length a0_0):Int))))then bif ((Nat.cast (List.length a0_0):Int) == (0:Int))then none
  else bif (decide (a1 > (200:Int)))then bif ((Nat.cast (List.length a0_0):Int) == (0:Int))then none
   else bif ((decide ((0:Int)<=(Int.tmod (wrap .i64 ((wrap .i64 ((wrap .i64 (a0_1+(1:Int)))-(1:Int)))+(1:Int))) (Nat.cast (List.length a0_0):Int))))&&(decide ((Int.tmod (wrap .i64 ((wrap .i64 ((wrap .i64 (a0_1+(1:Int)))-(1:Int)))+(1:Int))) (Nat.cast (List.length a0_0):Int)) < (Nat.cast (List.length a0_0):Int))))then bif (a1 == (0:Int))then none
    else some (u ((Int.tmod (wrap .i64 ((wrap .i64 ((wrap .i64 ((wrap .i64 ((wrap .i64 (List.getD a0_0 (Int.toNat (Int.tmod (wrap .i64 ((wrap .i64 (a0_1+(1:Int)))-(1:Int))) (Nat.cast (List.length a0_0):Int))) (0:Int)))+(wrap .i64 ((wrap .i64 (Int.tdiv (wrap .i64 ((wrap .i64 (a0_1+(1:Int)))-(1:Int))) (Nat.cast (List.length a0_0):Int))) * (37:Int))))) * (251:Int)))+(wrap .i64 ((wrap .i64 (List.getD a0_0 (Int.toNat (Int.tmod (wrap .i64 ((wrap .i64 ((wrap .i64 (a0_1+(1:Int)))-(1:Int)))+(1:Int))) (Nat.cast (List.length a0_0):Int))) (0:Int))) * (13:Int)))))+(wrap .i64 ((wrap .i64 (a0_1+(1:Int)))-(1:Int))))) a1),a0_0,(wrap .i64 (a0_1+(1:Int)))))
   else none
  else bif (a1 == (0:Int))then none
  else some (u ((Int.tmod (wrap .i64 ((wrap .i64 (List.getD a0_0 (Int.toNat (Int.tmod (wrap .i64 ((wrap .i64 (a0_1+(1:Int)))-(1:Int))) (Nat.cast (List.length a0_0):Int))) (0:Int)))+(wrap .i64 ((wrap .i64 (Int.tdiv (wrap .i64 ((wrap .i64 (a0_1+(1:Int)))-(1:Int))) (Nat.cast (List.length a0_0):Int))) * (37:Int))))) a1),a0_0,(wrap .i64 (a0_1+(1:Int)))))
 else none
def g20 (L:Nat)(a0_0:(List Int))(a0_1:Int)(a1:Int):Option (Int×(List Int)×Int):=G20 (λx=>x) a0_0 a0_1 a1
theorem e20 (L:Nat)(a0_0:(List Int))(a0_1:Int)(a1:Int):tG prog aJE (cE L) f20 (a20.enc ((a0_0,a0_1),a1))=(g20 L a0_0 a0_1 a1).map n20:=by
 refine .trans (b:=G20 n20 a0_0 a0_1 a1) (by kernel_rfl) ?_;unfold g20 G20
 repeat' first | with_reducible refine gW ?_ ?_ | with_reducible refine gU λ_=>?_ | with_reducible refine gV λ_=>?_ | exact rfl
def w20 (L:Nat)(x:(((List Int)×Int)×Int)):Option (Int×(List Int)×Int):=g20 L x.1.1 x.1.2 x.2
theorem s20 (m:Y20)(hm:∀ (x:(((List Int)×Int)×Int)) t,m x=some t->∃ L,w20 L x=some t):SatP prog bL 20 (qD m).nres (qD m).F:=
 qL cC bX (by rfl) (fn:=f20) rfl rfl a20 n20 aKt m aJE bW bH (w20) (λL x=>e20 L x.1.1 x.1.2 x.2) hm
def aJH (bN:Y20):Env bL:={ Kc:=eE [],Kw:=eD [(20,qD bN)],lv:=λi=>[],xv:=λi=>none }
def G17 {B:Type}(u:(Bool×(List Int)×Int)->B)(bN:Y20)(a0_0:(List Int))(a0_1:Int)(a1:Int):Option B:=
 bS (bN ((a0_0,a0_1),a1)) ((0:Int),[],(0:Int)) λ(q1:(Int×(List Int)×Int))=>some (u ((q1.1 == (0:Int)),q1.2.1,q1.2.2))
def g17 (bN:Y20)(L:Nat)(a0_0:(List Int))(a0_1:Int)(a1:Int):Option (Bool×(List Int)×Int):=G17 (λx=>x) bN a0_0 a0_1 a1
theorem e17 (bN:Y20)(L:Nat)(a0_0:(List Int))(a0_1:Int)(a1:Int):tG prog (aJH bN) (cE L) f17 (a17.enc ((a0_0,a0_1),a1))=(g17 bN L a0_0 a0_1 a1).map n17:=by
 refine .trans (b:=G17 n17 bN a0_0 a0_1 a1) (by kernel_rfl) ?_;unfold g17 G17
 repeat' first | with_reducible refine gW ?_ ?_ | with_reducible refine gU λ_=>?_ | with_reducible refine gV λ_=>?_ | exact rfl
def w17 (bN:Y20)(L:Nat)(x:(((List Int)×Int)×Int)):Option (Bool×(List Int)×Int):=g17 bN L x.1.1 x.1.2 x.2
theorem s17 (bN:Y20)(h20:SatP prog bL 20 (qD bN).nres (qD bN).F)(m:Y17)(hm:∀ (x:(((List Int)×Int)×Int)) t,m x=some t->∃ L,w17 bN L x=some t):SatP prog bL 17 (c17 m).nres (c17 m).F:=
 qL cC bX (by rfl) (fn:=f17) rfl rfl a17 n17 aKw m (aJH bN) bW (cW h20 bH) (w17 bN) (λL x=>e17 bN L x.1.1 x.1.2 x.2) hm
def aJw (bN:Y20):Env bL:={ Kc:=eE [],Kw:=eD [(20,qD bN)],lv:=λi=>[],xv:=λi=>none }
def G32 {B:Type}(u:(Int×(List Int)×Int)->B)(bN:Y20)(a0_0:(List Int))(a0_1:Int)(a1:(List Int)):Option B:=
 bS (bN ((a0_0,a0_1),(Nat.cast (List.length a1):Int))) ((0:Int),[],(0:Int)) λ(q1:(Int×(List Int)×Int))=>bif ((decide ((0:Int)<=q1.1))&&(decide (q1.1 < (Nat.cast (List.length a1):Int))))then some (u ((List.getD a1 (Int.toNat q1.1) (0:Int)),q1.2.1,q1.2.2))
  else none
def g32 (bN:Y20)(L:Nat)(a0_0:(List Int))(a0_1:Int)(a1:(List Int)):Option (Int×(List Int)×Int):=G32 (λx=>x) bN a0_0 a0_1 a1
theorem e32 (bN:Y20)(L:Nat)(a0_0:(List Int))(a0_1:Int)(a1:(List Int)):tG prog (aJw bN) (cE L) f32 (a32.enc ((a0_0,a0_1),a1))=(g32 bN L a0_0 a0_1 a1).map n32:=by
 refine .trans (b:=G32 n32 bN a0_0 a0_1 a1) (by kernel_rfl) ?_;unfold g32 G32
 repeat' first | with_reducible refine gW ?_ ?_ | with_reducible refine gU λ_=>?_ | with_reducible refine gV λ_=>?_ | exact rfl
def w32 (bN:Y20)(L:Nat)(x:(((List Int)×Int)×(List Int))):Option (Int×(List Int)×Int):=g32 bN L x.1.1 x.1.2 x.2
theorem s32 (bN:Y20)(h20:SatP prog bL 20 (qD bN).nres (qD bN).F)(m:Y32)(hm:∀ (x:(((List Int)×Int)×(List Int))) t,m x=some t->∃ L,w32 bN L x=some t):SatP prog bL 32 (c32 m).nres (c32 m).F:=
 qL cC bX (by rfl) (fn:=f32) rfl rfl a32 n32 aKh m (aJw bN) bW (cW h20 bH) (w32 bN) (λL x=>e32 bN L x.1.1 x.1.2 x.2) hm
def aJD (cK:Y17)(bN:Y20)(jX:Y34):Env bL:={ Kc:=eE [],Kw:=eD [(17,c17 cK),(20,qD bN),(34,c34 jX)],lv:=λi=>[],xv:=λi=>none }
def G21 {B:Type}(u:(Int×Int×Int×Int×Int×Int×Int×Int×Int×(List Int)×Int)->B)(cK:Y17)(bN:Y20)(jX:Y34)(a0_0:(List Int))(a0_1:Int)(a1:Int):Option B:=
 bS (cK ((a0_0,a0_1),(5:Int))) (false,[],(0:Int)) λ(q1:(Bool×(List Int)×Int))=>bif q1.1 then some (u (a1,(0:Int),(0:Int),(0:Int),(0:Int),(0:Int),(0:Int),(0:Int),(0:Int),q1.2.1,q1.2.2))
  else bS (bN ((q1.2.1,q1.2.2),(3:Int))) ((0:Int),[],(0:Int)) λ(q2:(Int×(List Int)×Int))=>bS (bN ((q2.2.1,q2.2.2),(6:Int))) ((0:Int),[],(0:Int)) λ(q3:(Int×(List Int)×Int))=>bS (jX (q3.2.1,q3.2.2)) ((0:Int),(0:Int),(0:Int),(0:Int),(0:Int),(0:Int),[],(0:Int)) λ(q4:(Int×Int×Int×Int×Int×Int×(List Int)×Int))=>some (u (a1,(wrap .i64 ((1:Int)+q2.1)),(wrap .i64 ((1:Int)+q3.1)),q4.1,q4.2.1,q4.2.2.1,q4.2.2.2.1,q4.2.2.2.2.1,q4.2.2.2.2.2.1,q4.2.2.2.2.2.2.1,q4.2.2.2.2.2.2.2))
def g21 (cK:Y17)(bN:Y20)(jX:Y34)(L:Nat)(a0_0:(List Int))(a0_1:Int)(a1:Int):Option (Int×Int×Int×Int×Int×Int×Int×Int×Int×(List Int)×Int):=G21 (λx=>x) cK bN jX a0_0 a0_1 a1
theorem e21 (cK:Y17)(bN:Y20)(jX:Y34)(L:Nat)(a0_0:(List Int))(a0_1:Int)(a1:Int):tG prog (aJD cK bN jX) (cE L) f21 (a21.enc ((a0_0,a0_1),a1))=(g21 cK bN jX L a0_0 a0_1 a1).map n21:=by
 refine .trans (b:=G21 n21 cK bN jX a0_0 a0_1 a1) (by kernel_rfl) ?_;unfold g21 G21
 repeat' first | with_reducible refine gW ?_ ?_ | with_reducible refine gU λ_=>?_ | with_reducible refine gV λ_=>?_ | exact rfl
def w21 (cK:Y17)(bN:Y20)(jX:Y34)(L:Nat)(x:(((List Int)×Int)×Int)):Option (Int×Int×Int×Int×Int×Int×Int×Int×Int×(List Int)×Int):=g21 cK bN jX L x.1.1 x.1.2 x.2
theorem s21 (cK:Y17)(bN:Y20)(jX:Y34)(h17:SatP prog bL 17 (c17 cK).nres (c17 cK).F)(h20:SatP prog bL 20 (qD bN).nres (qD bN).F)(h34:SatP prog bL 34 (c34 jX).nres (c34 jX).F)(m:Y21)(hm:∀ (x:(((List Int)×Int)×Int)) t,m x=some t->∃ L,w21 cK bN jX L x=some t):SatP prog bL 21 (c21 m).nres (c21 m).F:=
 qL cC bX (by rfl) (fn:=f21) rfl rfl a21 n21 aKs m (aJD cK bN jX) bW (cW h17 (cW h20 (cW h34 bH))) (w21 cK bN jX) (λL x=>e21 cK bN jX L x.1.1 x.1.2 x.2) hm
def wQ (bN:Y20)(dM:Y32)(cK:Y17)(fQ:Y21):Env bL:={ Kc:=eE [],Kw:=eD [(20,qD bN),(32,c32 dM),(17,c17 cK),(21,c21 fQ)],lv:=λi=>if i=0 then[(0,[some 5,none]),(3,[some 35]),(4,[]),(5,[])]else[],xv:=λi=>if i=0 then some [(0,[some 5,none]),(3,[some 35])]else none }
def S31_0 (a0_0:(List Int))(a0_1:Int)(v0_0_0:(List Int))(v0_0_1:Int)(v0_3:(List E9))(v0_4:Int)(v0_5:Int):St bL.ty:={ slots:=[(.inr (.inr { kind:=0,nm:=0,cells:=[(ls { own:=0,nm:=0,e:=5,o:=false,xs:=v0_0_0 }),(lv (.int .i64 v0_0_1))],s:={ own:=0,nm:=0,e:=0,o:=false,xs:=([]:List (PUnit)) },i:=0,off:=0 })),aT,aT,(.inl (.inl (ls { own:=1,nm:=192,e:=35,o:=true,xs:=v0_3 }))),(.inl (.inl (lv (.int .i64 v0_4)))),(.inl (.inl (lv (.int .i64 v0_5))))]++List.replicate 26 aT,D:=[],F:=[],ctr:=1,lo:=1 }
def X31_0 (a0_0:(List Int))(a0_1:Int)(w0_0_0:(List Int))(w0_0_1:Int)(w0_3:(List E9)):St bL.ty:={ slots:=[(.inr (.inr { kind:=0,nm:=0,cells:=[(ls { own:=0,nm:=0,e:=5,o:=false,xs:=w0_0_0 }),(lv (.int .i64 w0_0_1))],s:={ own:=0,nm:=0,e:=0,o:=false,xs:=([]:List (PUnit)) },i:=0,off:=0 })),aT,aT,(.inl (.inl (ls { own:=1,nm:=192,e:=35,o:=true,xs:=w0_3 })))]++List.replicate 28 aT,D:=[],F:=[],ctr:=1,lo:=1 }
def G31 {B:Type}(u:((List E9)×(List Int)×Int)->B)(hh0:(List Int)->Int->(List E9)->Int->Int->Option B)(bN:Y20)(dM:Y32)(cK:Y17)(fQ:Y21)(a0_0:(List Int))(a0_1:Int):Option B:=
 bS (bN ((a0_0,a0_1),(7:Int))) ((0:Int),[],(0:Int)) λ(q1:(Int×(List Int)×Int))=>bS (bN ((q1.2.1,q1.2.2),(7:Int))) ((0:Int),[],(0:Int)) λ(q2:(Int×(List Int)×Int))=>bS (dM ((q2.2.1,q2.2.2),(List.cons q1.1 (List.cons q2.1 (List.cons (40:Int) ([]:List (Int))))))) ((0:Int),[],(0:Int)) λ(q3:(Int×(List Int)×Int))=>hh0 q3.2.1 q3.2.2 [] (1:Int) q3.1
def B31_0 {B:Type}(u:((List E9)×(List Int)×Int)->B)(gg:(List Int)->Int->(List E9)->Int->Int->Option B)(kk:(List Int)->Int->(List E9)->Option B)(bN:Y20)(dM:Y32)(cK:Y17)(fQ:Y21)(a0_0:(List Int))(a0_1:Int)(v0_0_0:(List Int))(v0_0_1:Int)(v0_3:(List E9))(v0_4:Int)(v0_5:Int):Option B:=
 bif (decide (v0_5 > (0:Int)))then bS (cK ((v0_0_0,v0_0_1),(3:Int))) (false,[],(0:Int)) λ(q2:(Bool×(List Int)×Int))=>bif q2.1 then bS (bN ((q2.2.1,q2.2.2),(2:Int))) ((0:Int),[],(0:Int)) λ(q4:(Int×(List Int)×Int))=>bS (fQ ((q4.2.1,q4.2.2),(wrap .i64 ((wrap .i64 (v0_4+(1:Int)))+q4.1)))) ((0:Int),(0:Int),(0:Int),(0:Int),(0:Int),(0:Int),(0:Int),(0:Int),(0:Int),[],(0:Int)) λ(q5:(Int×Int×Int×Int×Int×Int×Int×Int×Int×(List Int)×Int))=>bif (decide (((List.length v0_3)+(List.length (List.cons (q5.1,(q5.2.1,(q5.2.2.1,(q5.2.2.2.1,(q5.2.2.2.2.1,(q5.2.2.2.2.2.1,(q5.2.2.2.2.2.2.1,(q5.2.2.2.2.2.2.2.1,q5.2.2.2.2.2.2.2.2.1)))))))) [])))<=(1000000000:Nat)))then gg q5.2.2.2.2.2.2.2.2.2.1 q5.2.2.2.2.2.2.2.2.2.2 (v0_3++(List.cons (q5.1,(q5.2.1,(q5.2.2.1,(q5.2.2.2.1,(q5.2.2.2.2.1,(q5.2.2.2.2.2.1,(q5.2.2.2.2.2.2.1,(q5.2.2.2.2.2.2.2.1,q5.2.2.2.2.2.2.2.2.1)))))))) [])) (wrap .i64 ((wrap .i64 (v0_4+(1:Int)))+q4.1)) (wrap .i64 (v0_5-(1:Int)))
      else none
   else bS (fQ ((q2.2.1,q2.2.2),v0_4)) ((0:Int),(0:Int),(0:Int),(0:Int),(0:Int),(0:Int),(0:Int),(0:Int),(0:Int),[],(0:Int)) λ(q3:(Int×Int×Int×Int×Int×Int×Int×Int×Int×(List Int)×Int))=>bif (decide (((List.length v0_3)+(List.length (List.cons (q3.1,(q3.2.1,(q3.2.2.1,(q3.2.2.2.1,(q3.2.2.2.2.1,(q3.2.2.2.2.2.1,(q3.2.2.2.2.2.2.1,(q3.2.2.2.2.2.2.2.1,q3.2.2.2.2.2.2.2.2.1)))))))) [])))<=(1000000000:Nat)))then gg q3.2.2.2.2.2.2.2.2.2.1 q3.2.2.2.2.2.2.2.2.2.2 (v0_3++(List.cons (q3.1,(q3.2.1,(q3.2.2.1,(q3.2.2.2.1,(q3.2.2.2.2.1,(q3.2.2.2.2.2.1,(q3.2.2.2.2.2.2.1,(q3.2.2.2.2.2.2.2.1,q3.2.2.2.2.2.2.2.2.1)))))))) [])) v0_4 (wrap .i64 (v0_5-(1:Int)))
    else none
 else kk v0_0_0 v0_0_1 v0_3
def A31_0 {B:Type}(u:((List E9)×(List Int)×Int)->B)(bN:Y20)(dM:Y32)(cK:Y17)(fQ:Y21)(a0_0:(List Int))(a0_1:Int)(w0_0_0:(List Int))(w0_0_1:Int)(w0_3:(List E9)):Option B:=
 some (u (w0_3,w0_0_0,w0_0_1))
def sJ (bN:Y20)(dM:Y32)(cK:Y17)(fQ:Y21)(L:Nat)(a0_0:(List Int))(a0_1:Int):Nat->(List Int)->Int->(List E9)->Int->Int->((List Int)->Int->(List E9)->Option ((List E9)×(List Int)×Int))->Option ((List E9)×(List Int)×Int)
 | 0,_,_,_,_,_,_=>none
 | n+1,v0_0_0,v0_0_1,v0_3,v0_4,v0_5,k=>B31_0 (λx=>x) (λv0_0_0 v0_0_1 v0_3 v0_4 v0_5=>sJ bN dM cK fQ L a0_0 a0_1 n v0_0_0 v0_0_1 v0_3 v0_4 v0_5 k) k bN dM cK fQ a0_0 a0_1 v0_0_0 v0_0_1 v0_3 v0_4 v0_5
theorem aF0 (bN:Y20)(dM:Y32)(cK:Y17)(fQ:Y21)(L:Nat)(a0_0:(List Int))(a0_1:Int)(k:St bL.ty->Option (List (A bL.ty)))(xk:Nat->St bL.ty->Option (List (A bL.ty)))(k':(List Int)->Int->(List E9)->Option ((List E9)×(List Int)×Int))(hk:∀ (w0_0_0:(List Int)) (w0_0_1:Int) (w0_3:(List E9)),k (X31_0 a0_0 a0_1 w0_0_0 w0_0_1 w0_3)=(k' w0_0_0 w0_0_1 w0_3).map n31):∀ (n:Nat) (v0_0_0:(List Int)) (v0_0_1:Int) (v0_3:(List E9)) (v0_4:Int) (v0_5:Int),fG prog (wQ bN dM cK fQ) L f31 0 [1,1,1,0,1,0,0] (iV (tA prog f31) k xk) n (S31_0 a0_0 a0_1 v0_0_0 v0_0_1 v0_3 v0_4 v0_5)=(sJ bN dM cK fQ L a0_0 a0_1 n v0_0_0 v0_0_1 v0_3 v0_4 v0_5 k').map n31
 | 0,_,_,_,_,_=>rfl
 | n+1,v0_0_0,v0_0_1,v0_3,v0_4,v0_5=>by
  rw[gN];have ih:=aF0 bN dM cK fQ L a0_0 a0_1 k xk k' hk n;refine .trans (b:=B31_0 n31 (λv0_0_0 v0_0_1 v0_3 v0_4 v0_5=>(fG prog (wQ bN dM cK fQ) L f31 0 [1,1,1,0,1,0,0] (iV (tA prog f31) k xk) n) (S31_0 a0_0 a0_1 v0_0_0 v0_0_1 v0_3 v0_4 v0_5)) (λw0_0_0 w0_0_1 w0_3=>k (X31_0 a0_0 a0_1 w0_0_0 w0_0_1 w0_3)) bN dM cK fQ a0_0 a0_1 v0_0_0 v0_0_1 v0_3 v0_4 v0_5) (by kernel_rfl) ?_;unfold sJ B31_0
  repeat' first | with_reducible refine gW ?_ ?_ | with_reducible refine gU λ_=>?_ | with_reducible refine gV λ_=>?_ | with_reducible exact ih _ _ _ _ _ | with_reducible exact hk _ _ _ | exact rfl
def g31 (bN:Y20)(dM:Y32)(cK:Y17)(fQ:Y21)(L:Nat)(a0_0:(List Int))(a0_1:Int):Option ((List E9)×(List Int)×Int):=G31 (λx=>x) (λv0_0_0 v0_0_1 v0_3 v0_4 v0_5=>sJ bN dM cK fQ L a0_0 a0_1 L v0_0_0 v0_0_1 v0_3 v0_4 v0_5 (λw0_0_0 w0_0_1 w0_3=>A31_0 (λx=>x) bN dM cK fQ a0_0 a0_1 w0_0_0 w0_0_1 w0_3)) bN dM cK fQ a0_0 a0_1
theorem e31 (bN:Y20)(dM:Y32)(cK:Y17)(fQ:Y21)(L:Nat)(a0_0:(List Int))(a0_1:Int):tG prog (wQ bN dM cK fQ) (cE L) f31 (a31.enc (a0_0,a0_1))=(g31 bN dM cK fQ L a0_0 a0_1).map n31:=by
 have hin0:∀ (v0_0_0:(List Int)) (v0_0_1:Int) (v0_3:(List E9)) (v0_4:Int) (v0_5:Int),fG prog (wQ bN dM cK fQ) L f31 0 [1,1,1,0,1,0,0] (iV (tA prog f31) (iU prog (wQ bN dM cK fQ) L f31 [1,1,1,0,1] (tA prog f31)).n (iU prog (wQ bN dM cK fQ) L f31 [1,1,1,0,1] (tA prog f31)).x) L (S31_0 a0_0 a0_1 v0_0_0 v0_0_1 v0_3 v0_4 v0_5)=((λv0_0_0 v0_0_1 v0_3 v0_4 v0_5=>sJ bN dM cK fQ L a0_0 a0_1 L v0_0_0 v0_0_1 v0_3 v0_4 v0_5 (λw0_0_0 w0_0_1 w0_3=>A31_0 (λx=>x) bN dM cK fQ a0_0 a0_1 w0_0_0 w0_0_1 w0_3)) v0_0_0 v0_0_1 v0_3 v0_4 v0_5).map n31:=λv0_0_0 v0_0_1 v0_3 v0_4 v0_5=>aF0 bN dM cK fQ L a0_0 a0_1 _ _ _ (λw0_0_0 w0_0_1 w0_3=>by refine .trans (b:=A31_0 n31 bN dM cK fQ a0_0 a0_1 w0_0_0 w0_0_1 w0_3) (by kernel_rfl) ?_;unfold A31_0;repeat' first | with_reducible refine gW ?_ ?_ | with_reducible refine gU λ_=>?_ | with_reducible refine gV λ_=>?_ | exact rfl) L v0_0_0 v0_0_1 v0_3 v0_4 v0_5
 refine .trans (b:=G31 n31 (λv0_0_0 v0_0_1 v0_3 v0_4 v0_5=>fG prog (wQ bN dM cK fQ) L f31 0 [1,1,1,0,1,0,0] (iV (tA prog f31) (iU prog (wQ bN dM cK fQ) L f31 [1,1,1,0,1] (tA prog f31)).n (iU prog (wQ bN dM cK fQ) L f31 [1,1,1,0,1] (tA prog f31)).x) L (S31_0 a0_0 a0_1 v0_0_0 v0_0_1 v0_3 v0_4 v0_5)) bN dM cK fQ a0_0 a0_1) (by kernel_rfl) ?_;unfold g31 G31
 repeat' first | with_reducible refine gW ?_ ?_ | with_reducible refine gU λ_=>?_ | with_reducible refine gV λ_=>?_ | with_reducible exact hin0 _ _ _ _ _ | exact rfl
def w31 (bN:Y20)(dM:Y32)(cK:Y17)(fQ:Y21)(L:Nat)(x:((List Int)×Int)):Option ((List E9)×(List Int)×Int):=g31 bN dM cK fQ L x.1 x.2
theorem s31 (bN:Y20)(dM:Y32)(cK:Y17)(fQ:Y21)(h20:SatP prog bL 20 (qD bN).nres (qD bN).F)(h32:SatP prog bL 32 (c32 dM).nres (c32 dM).F)(h17:SatP prog bL 17 (c17 cK).nres (c17 cK).F)(h21:SatP prog bL 21 (c21 fQ).nres (c21 fQ).F)(m:Y31)(hm:∀ (x:((List Int)×Int)) t,m x=some t->∃ L,w31 bN dM cK fQ L x=some t):SatP prog bL 31 (c31 m).nres (c31 m).F:=
 qL cC bX (by rfl) (fn:=f31) rfl rfl a31 n31 aKi m (wQ bN dM cK fQ) bW (cW h20 (cW h32 (cW h17 (cW h21 bH)))) (w31 bN dM cK fQ) (λL x=>e31 bN dM cK fQ L x.1 x.2) hm
def aJu (dM:Y32)(bN:Y20)(qU:Y43)(cK:Y17):Env bL:={ Kc:=eE [(43,c43 qU)],Kw:=eD [(32,c32 dM),(20,qD bN),(17,c17 cK)],lv:=λi=>[],xv:=λi=>none }
def G34 {B:Type}(u:(Int×Int×Int×Int×Int×Int×(List Int)×Int)->B)(dM:Y32)(bN:Y20)(qU:Y43)(cK:Y17)(a0_0:(List Int))(a0_1:Int):Option B:=
 bS (dM ((a0_0,a0_1),(List.cons (1:Int) (List.cons (1:Int) (List.cons (2:Int) (List.cons (3:Int) (List.cons (4:Int) (List.cons (5:Int) (List.cons (6:Int) (List.cons (7:Int) (List.cons (7:Int) (List.cons (7:Int) (List.cons (8:Int) (List.cons (9:Int) ([]:List (Int)))))))))))))))) ((0:Int),[],(0:Int)) λ(q1:(Int×(List Int)×Int))=>bS (bN ((q1.2.1,q1.2.2),(5:Int))) ((0:Int),[],(0:Int)) λ(q2:(Int×(List Int)×Int))=>bS (bN ((q2.2.1,q2.2.2),(3:Int))) ((0:Int),[],(0:Int)) λ(q3:(Int×(List Int)×Int))=>bS (dM ((q3.2.1,q3.2.2),(List.cons (80:Int) (List.cons (80:Int) (List.cons (443:Int) ([]:List (Int))))))) ((0:Int),[],(0:Int)) λ(q4:(Int×(List Int)×Int))=>bif (q1.1 == (1:Int))then bS (bN ((q4.2.1,q4.2.2),(4:Int))) ((0:Int),[],(0:Int)) λ(q6:(Int×(List Int)×Int))=>bS (qU q1.1) (false,false,false,false) λ(q7:(Bool×Bool×Bool×Bool))=>bif (!q7.1)then bif (!q7.2.1)then bif (!q7.2.2.1)then bif (!q7.2.2.2)then bS (cK ((q6.2.1,q6.2.2),(12:Int))) (false,[],(0:Int)) λ(q12:(Bool×(List Int)×Int))=>bif q12.1 then bS (bN ((q12.2.1,q12.2.2),(9:Int))) ((0:Int),[],(0:Int)) λ(q14:(Int×(List Int)×Int))=>some (u (q1.1,q14.1,(0:Int),(0:Int),(0:Int),(0:Int),q14.2.1,q14.2.2))
             else some (u (q1.1,(-(1:Int)),(0:Int),(0:Int),(0:Int),(0:Int),q12.2.1,q12.2.2))
           else bS (cK ((q6.2.1,q6.2.2),(12:Int))) (false,[],(0:Int)) λ(q11:(Bool×(List Int)×Int))=>bif q11.1 then bS (bN ((q11.2.1,q11.2.2),(9:Int))) ((0:Int),[],(0:Int)) λ(q13:(Int×(List Int)×Int))=>some (u (q1.1,q13.1,(0:Int),(0:Int),(0:Int),(6:Int),q13.2.1,q13.2.2))
            else some (u (q1.1,(-(1:Int)),(0:Int),(0:Int),(0:Int),(6:Int),q11.2.1,q11.2.2))
          else bif (!q7.2.2.2)then bS (cK ((q6.2.1,q6.2.2),(12:Int))) (false,[],(0:Int)) λ(q11:(Bool×(List Int)×Int))=>bif q11.1 then bS (bN ((q11.2.1,q11.2.2),(9:Int))) ((0:Int),[],(0:Int)) λ(q13:(Int×(List Int)×Int))=>some (u (q1.1,q13.1,(0:Int),(0:Int),q6.1,(0:Int),q13.2.1,q13.2.2))
            else some (u (q1.1,(-(1:Int)),(0:Int),(0:Int),q6.1,(0:Int),q11.2.1,q11.2.2))
          else bS (cK ((q6.2.1,q6.2.2),(12:Int))) (false,[],(0:Int)) λ(q10:(Bool×(List Int)×Int))=>bif q10.1 then bS (bN ((q10.2.1,q10.2.2),(9:Int))) ((0:Int),[],(0:Int)) λ(q12:(Int×(List Int)×Int))=>some (u (q1.1,q12.1,(0:Int),(0:Int),q6.1,(6:Int),q12.2.1,q12.2.2))
           else some (u (q1.1,(-(1:Int)),(0:Int),(0:Int),q6.1,(6:Int),q10.2.1,q10.2.2))
         else bif (!q7.2.2.1)then bif (!q7.2.2.2)then bS (cK ((q6.2.1,q6.2.2),(12:Int))) (false,[],(0:Int)) λ(q11:(Bool×(List Int)×Int))=>bif q11.1 then bS (bN ((q11.2.1,q11.2.2),(9:Int))) ((0:Int),[],(0:Int)) λ(q13:(Int×(List Int)×Int))=>some (u (q1.1,q13.1,(0:Int),(wrap .i64 ((500:Int)+(wrap .i64 ((1:Int)+q2.1)))),(0:Int),(0:Int),q13.2.1,q13.2.2))
            else some (u (q1.1,(-(1:Int)),(0:Int),(wrap .i64 ((500:Int)+(wrap .i64 ((1:Int)+q2.1)))),(0:Int),(0:Int),q11.2.1,q11.2.2))
          else bS (cK ((q6.2.1,q6.2.2),(12:Int))) (false,[],(0:Int)) λ(q10:(Bool×(List Int)×Int))=>bif q10.1 then bS (bN ((q10.2.1,q10.2.2),(9:Int))) ((0:Int),[],(0:Int)) λ(q12:(Int×(List Int)×Int))=>some (u (q1.1,q12.1,(0:Int),(wrap .i64 ((500:Int)+(wrap .i64 ((1:Int)+q2.1)))),(0:Int),(6:Int),q12.2.1,q12.2.2))
           else some (u (q1.1,(-(1:Int)),(0:Int),(wrap .i64 ((500:Int)+(wrap .i64 ((1:Int)+q2.1)))),(0:Int),(6:Int),q10.2.1,q10.2.2))
         else bif (!q7.2.2.2)then bS (cK ((q6.2.1,q6.2.2),(12:Int))) (false,[],(0:Int)) λ(q10:(Bool×(List Int)×Int))=>bif q10.1 then bS (bN ((q10.2.1,q10.2.2),(9:Int))) ((0:Int),[],(0:Int)) λ(q12:(Int×(List Int)×Int))=>some (u (q1.1,q12.1,(0:Int),(wrap .i64 ((500:Int)+(wrap .i64 ((1:Int)+q2.1)))),q6.1,(0:Int),q12.2.1,q12.2.2))
           else some (u (q1.1,(-(1:Int)),(0:Int),(wrap .i64 ((500:Int)+(wrap .i64 ((1:Int)+q2.1)))),q6.1,(0:Int),q10.2.1,q10.2.2))
         else bS (cK ((q6.2.1,q6.2.2),(12:Int))) (false,[],(0:Int)) λ(q9:(Bool×(List Int)×Int))=>bif q9.1 then bS (bN ((q9.2.1,q9.2.2),(9:Int))) ((0:Int),[],(0:Int)) λ(q11:(Int×(List Int)×Int))=>some (u (q1.1,q11.1,(0:Int),(wrap .i64 ((500:Int)+(wrap .i64 ((1:Int)+q2.1)))),q6.1,(6:Int),q11.2.1,q11.2.2))
          else some (u (q1.1,(-(1:Int)),(0:Int),(wrap .i64 ((500:Int)+(wrap .i64 ((1:Int)+q2.1)))),q6.1,(6:Int),q9.2.1,q9.2.2))
        else bif (!q7.2.1)then bif (!q7.2.2.1)then bif (!q7.2.2.2)then bS (cK ((q6.2.1,q6.2.2),(12:Int))) (false,[],(0:Int)) λ(q11:(Bool×(List Int)×Int))=>bif q11.1 then bS (bN ((q11.2.1,q11.2.2),(9:Int))) ((0:Int),[],(0:Int)) λ(q13:(Int×(List Int)×Int))=>some (u (q1.1,q13.1,(wrap .i64 ((1:Int)+q2.1)),(0:Int),(0:Int),(0:Int),q13.2.1,q13.2.2))
            else some (u (q1.1,(-(1:Int)),(wrap .i64 ((1:Int)+q2.1)),(0:Int),(0:Int),(0:Int),q11.2.1,q11.2.2))
          else bS (cK ((q6.2.1,q6.2.2),(12:Int))) (false,[],(0:Int)) λ(q10:(Bool×(List Int)×Int))=>bif q10.1 then bS (bN ((q10.2.1,q10.2.2),(9:Int))) ((0:Int),[],(0:Int)) λ(q12:(Int×(List Int)×Int))=>some (u (q1.1,q12.1,(wrap .i64 ((1:Int)+q2.1)),(0:Int),(0:Int),(6:Int),q12.2.1,q12.2.2))
           else some (u (q1.1,(-(1:Int)),(wrap .i64 ((1:Int)+q2.1)),(0:Int),(0:Int),(6:Int),q10.2.1,q10.2.2))
         else bif (!q7.2.2.2)then bS (cK ((q6.2.1,q6.2.2),(12:Int))) (false,[],(0:Int)) λ(q10:(Bool×(List Int)×Int))=>bif q10.1 then bS (bN ((q10.2.1,q10.2.2),(9:Int))) ((0:Int),[],(0:Int)) λ(q12:(Int×(List Int)×Int))=>some (u (q1.1,q12.1,(wrap .i64 ((1:Int)+q2.1)),(0:Int),q6.1,(0:Int),q12.2.1,q12.2.2))
           else some (u (q1.1,(-(1:Int)),(wrap .i64 ((1:Int)+q2.1)),(0:Int),q6.1,(0:Int),q10.2.1,q10.2.2))
         else bS (cK ((q6.2.1,q6.2.2),(12:Int))) (false,[],(0:Int)) λ(q9:(Bool×(List Int)×Int))=>bif q9.1 then bS (bN ((q9.2.1,q9.2.2),(9:Int))) ((0:Int),[],(0:Int)) λ(q11:(Int×(List Int)×Int))=>some (u (q1.1,q11.1,(wrap .i64 ((1:Int)+q2.1)),(0:Int),q6.1,(6:Int),q11.2.1,q11.2.2))
          else some (u (q1.1,(-(1:Int)),(wrap .i64 ((1:Int)+q2.1)),(0:Int),q6.1,(6:Int),q9.2.1,q9.2.2))
        else bif (!q7.2.2.1)then bif (!q7.2.2.2)then bS (cK ((q6.2.1,q6.2.2),(12:Int))) (false,[],(0:Int)) λ(q10:(Bool×(List Int)×Int))=>bif q10.1 then bS (bN ((q10.2.1,q10.2.2),(9:Int))) ((0:Int),[],(0:Int)) λ(q12:(Int×(List Int)×Int))=>some (u (q1.1,q12.1,(wrap .i64 ((1:Int)+q2.1)),(wrap .i64 ((500:Int)+(wrap .i64 ((1:Int)+q2.1)))),(0:Int),(0:Int),q12.2.1,q12.2.2))
           else some (u (q1.1,(-(1:Int)),(wrap .i64 ((1:Int)+q2.1)),(wrap .i64 ((500:Int)+(wrap .i64 ((1:Int)+q2.1)))),(0:Int),(0:Int),q10.2.1,q10.2.2))
         else bS (cK ((q6.2.1,q6.2.2),(12:Int))) (false,[],(0:Int)) λ(q9:(Bool×(List Int)×Int))=>bif q9.1 then bS (bN ((q9.2.1,q9.2.2),(9:Int))) ((0:Int),[],(0:Int)) λ(q11:(Int×(List Int)×Int))=>some (u (q1.1,q11.1,(wrap .i64 ((1:Int)+q2.1)),(wrap .i64 ((500:Int)+(wrap .i64 ((1:Int)+q2.1)))),(0:Int),(6:Int),q11.2.1,q11.2.2))
          else some (u (q1.1,(-(1:Int)),(wrap .i64 ((1:Int)+q2.1)),(wrap .i64 ((500:Int)+(wrap .i64 ((1:Int)+q2.1)))),(0:Int),(6:Int),q9.2.1,q9.2.2))
        else bif (!q7.2.2.2)then bS (cK ((q6.2.1,q6.2.2),(12:Int))) (false,[],(0:Int)) λ(q9:(Bool×(List Int)×Int))=>bif q9.1 then bS (bN ((q9.2.1,q9.2.2),(9:Int))) ((0:Int),[],(0:Int)) λ(q11:(Int×(List Int)×Int))=>some (u (q1.1,q11.1,(wrap .i64 ((1:Int)+q2.1)),(wrap .i64 ((500:Int)+(wrap .i64 ((1:Int)+q2.1)))),q6.1,(0:Int),q11.2.1,q11.2.2))
          else some (u (q1.1,(-(1:Int)),(wrap .i64 ((1:Int)+q2.1)),(wrap .i64 ((500:Int)+(wrap .i64 ((1:Int)+q2.1)))),q6.1,(0:Int),q9.2.1,q9.2.2))
        else bS (cK ((q6.2.1,q6.2.2),(12:Int))) (false,[],(0:Int)) λ(q8:(Bool×(List Int)×Int))=>bif q8.1 then bS (bN ((q8.2.1,q8.2.2),(9:Int))) ((0:Int),[],(0:Int)) λ(q10:(Int×(List Int)×Int))=>some (u (q1.1,q10.1,(wrap .i64 ((1:Int)+q2.1)),(wrap .i64 ((500:Int)+(wrap .i64 ((1:Int)+q2.1)))),q6.1,(6:Int),q10.2.1,q10.2.2))
         else some (u (q1.1,(-(1:Int)),(wrap .i64 ((1:Int)+q2.1)),(wrap .i64 ((500:Int)+(wrap .i64 ((1:Int)+q2.1)))),q6.1,(6:Int),q8.2.1,q8.2.2))
     else bif (q1.1 == (2:Int))then bS (bN ((q4.2.1,q4.2.2),(10:Int))) ((0:Int),[],(0:Int)) λ(q6:(Int×(List Int)×Int))=>bS (qU q1.1) (false,false,false,false) λ(q7:(Bool×Bool×Bool×Bool))=>bif (!q7.1)then bif (!q7.2.1)then bif (!q7.2.2.1)then bif (!q7.2.2.2)then bS (cK ((q6.2.1,q6.2.2),(12:Int))) (false,[],(0:Int)) λ(q12:(Bool×(List Int)×Int))=>bif q12.1 then bS (bN ((q12.2.1,q12.2.2),(9:Int))) ((0:Int),[],(0:Int)) λ(q14:(Int×(List Int)×Int))=>some (u (q1.1,q14.1,(0:Int),(0:Int),(0:Int),(0:Int),q14.2.1,q14.2.2))
             else some (u (q1.1,(-(1:Int)),(0:Int),(0:Int),(0:Int),(0:Int),q12.2.1,q12.2.2))
           else bS (cK ((q6.2.1,q6.2.2),(12:Int))) (false,[],(0:Int)) λ(q11:(Bool×(List Int)×Int))=>bif q11.1 then bS (bN ((q11.2.1,q11.2.2),(9:Int))) ((0:Int),[],(0:Int)) λ(q13:(Int×(List Int)×Int))=>some (u (q1.1,q13.1,(0:Int),(0:Int),(0:Int),(6:Int),q13.2.1,q13.2.2))
            else some (u (q1.1,(-(1:Int)),(0:Int),(0:Int),(0:Int),(6:Int),q11.2.1,q11.2.2))
          else bif (!q7.2.2.2)then bS (cK ((q6.2.1,q6.2.2),(12:Int))) (false,[],(0:Int)) λ(q11:(Bool×(List Int)×Int))=>bif q11.1 then bS (bN ((q11.2.1,q11.2.2),(9:Int))) ((0:Int),[],(0:Int)) λ(q13:(Int×(List Int)×Int))=>some (u (q1.1,q13.1,(0:Int),(0:Int),q6.1,(0:Int),q13.2.1,q13.2.2))
            else some (u (q1.1,(-(1:Int)),(0:Int),(0:Int),q6.1,(0:Int),q11.2.1,q11.2.2))
          else bS (cK ((q6.2.1,q6.2.2),(12:Int))) (false,[],(0:Int)) λ(q10:(Bool×(List Int)×Int))=>bif q10.1 then bS (bN ((q10.2.1,q10.2.2),(9:Int))) ((0:Int),[],(0:Int)) λ(q12:(Int×(List Int)×Int))=>some (u (q1.1,q12.1,(0:Int),(0:Int),q6.1,(6:Int),q12.2.1,q12.2.2))
           else some (u (q1.1,(-(1:Int)),(0:Int),(0:Int),q6.1,(6:Int),q10.2.1,q10.2.2))
         else bif (!q7.2.2.1)then bif (!q7.2.2.2)then bS (cK ((q6.2.1,q6.2.2),(12:Int))) (false,[],(0:Int)) λ(q11:(Bool×(List Int)×Int))=>bif q11.1 then bS (bN ((q11.2.1,q11.2.2),(9:Int))) ((0:Int),[],(0:Int)) λ(q13:(Int×(List Int)×Int))=>some (u (q1.1,q13.1,(0:Int),(wrap .i64 ((167772160:Int)+q3.1)),(0:Int),(0:Int),q13.2.1,q13.2.2))
            else some (u (q1.1,(-(1:Int)),(0:Int),(wrap .i64 ((167772160:Int)+q3.1)),(0:Int),(0:Int),q11.2.1,q11.2.2))
          else bS (cK ((q6.2.1,q6.2.2),(12:Int))) (false,[],(0:Int)) λ(q10:(Bool×(List Int)×Int))=>bif q10.1 then bS (bN ((q10.2.1,q10.2.2),(9:Int))) ((0:Int),[],(0:Int)) λ(q12:(Int×(List Int)×Int))=>some (u (q1.1,q12.1,(0:Int),(wrap .i64 ((167772160:Int)+q3.1)),(0:Int),(6:Int),q12.2.1,q12.2.2))
           else some (u (q1.1,(-(1:Int)),(0:Int),(wrap .i64 ((167772160:Int)+q3.1)),(0:Int),(6:Int),q10.2.1,q10.2.2))
         else bif (!q7.2.2.2)then bS (cK ((q6.2.1,q6.2.2),(12:Int))) (false,[],(0:Int)) λ(q10:(Bool×(List Int)×Int))=>bif q10.1 then bS (bN ((q10.2.1,q10.2.2),(9:Int))) ((0:Int),[],(0:Int)) λ(q12:(Int×(List Int)×Int))=>some (u (q1.1,q12.1,(0:Int),(wrap .i64 ((167772160:Int)+q3.1)),q6.1,(0:Int),q12.2.1,q12.2.2))
           else some (u (q1.1,(-(1:Int)),(0:Int),(wrap .i64 ((167772160:Int)+q3.1)),q6.1,(0:Int),q10.2.1,q10.2.2))
         else bS (cK ((q6.2.1,q6.2.2),(12:Int))) (false,[],(0:Int)) λ(q9:(Bool×(List Int)×Int))=>bif q9.1 then bS (bN ((q9.2.1,q9.2.2),(9:Int))) ((0:Int),[],(0:Int)) λ(q11:(Int×(List Int)×Int))=>some (u (q1.1,q11.1,(0:Int),(wrap .i64 ((167772160:Int)+q3.1)),q6.1,(6:Int),q11.2.1,q11.2.2))
          else some (u (q1.1,(-(1:Int)),(0:Int),(wrap .i64 ((167772160:Int)+q3.1)),q6.1,(6:Int),q9.2.1,q9.2.2))
        else bif (!q7.2.1)then bif (!q7.2.2.1)then bif (!q7.2.2.2)then bS (cK ((q6.2.1,q6.2.2),(12:Int))) (false,[],(0:Int)) λ(q11:(Bool×(List Int)×Int))=>bif q11.1 then bS (bN ((q11.2.1,q11.2.2),(9:Int))) ((0:Int),[],(0:Int)) λ(q13:(Int×(List Int)×Int))=>some (u (q1.1,q13.1,(wrap .i64 ((1:Int)+q2.1)),(0:Int),(0:Int),(0:Int),q13.2.1,q13.2.2))
            else some (u (q1.1,(-(1:Int)),(wrap .i64 ((1:Int)+q2.1)),(0:Int),(0:Int),(0:Int),q11.2.1,q11.2.2))
          else bS (cK ((q6.2.1,q6.2.2),(12:Int))) (false,[],(0:Int)) λ(q10:(Bool×(List Int)×Int))=>bif q10.1 then bS (bN ((q10.2.1,q10.2.2),(9:Int))) ((0:Int),[],(0:Int)) λ(q12:(Int×(List Int)×Int))=>some (u (q1.1,q12.1,(wrap .i64 ((1:Int)+q2.1)),(0:Int),(0:Int),(6:Int),q12.2.1,q12.2.2))
           else some (u (q1.1,(-(1:Int)),(wrap .i64 ((1:Int)+q2.1)),(0:Int),(0:Int),(6:Int),q10.2.1,q10.2.2))
         else bif (!q7.2.2.2)then bS (cK ((q6.2.1,q6.2.2),(12:Int))) (false,[],(0:Int)) λ(q10:(Bool×(List Int)×Int))=>bif q10.1 then bS (bN ((q10.2.1,q10.2.2),(9:Int))) ((0:Int),[],(0:Int)) λ(q12:(Int×(List Int)×Int))=>some (u (q1.1,q12.1,(wrap .i64 ((1:Int)+q2.1)),(0:Int),q6.1,(0:Int),q12.2.1,q12.2.2))
           else some (u (q1.1,(-(1:Int)),(wrap .i64 ((1:Int)+q2.1)),(0:Int),q6.1,(0:Int),q10.2.1,q10.2.2))
         else bS (cK ((q6.2.1,q6.2.2),(12:Int))) (false,[],(0:Int)) λ(q9:(Bool×(List Int)×Int))=>bif q9.1 then bS (bN ((q9.2.1,q9.2.2),(9:Int))) ((0:Int),[],(0:Int)) λ(q11:(Int×(List Int)×Int))=>some (u (q1.1,q11.1,(wrap .i64 ((1:Int)+q2.1)),(0:Int),q6.1,(6:Int),q11.2.1,q11.2.2))
          else some (u (q1.1,(-(1:Int)),(wrap .i64 ((1:Int)+q2.1)),(0:Int),q6.1,(6:Int),q9.2.1,q9.2.2))
        else bif (!q7.2.2.1)then bif (!q7.2.2.2)then bS (cK ((q6.2.1,q6.2.2),(12:Int))) (false,[],(0:Int)) λ(q10:(Bool×(List Int)×Int))=>bif q10.1 then bS (bN ((q10.2.1,q10.2.2),(9:Int))) ((0:Int),[],(0:Int)) λ(q12:(Int×(List Int)×Int))=>some (u (q1.1,q12.1,(wrap .i64 ((1:Int)+q2.1)),(wrap .i64 ((167772160:Int)+q3.1)),(0:Int),(0:Int),q12.2.1,q12.2.2))
           else some (u (q1.1,(-(1:Int)),(wrap .i64 ((1:Int)+q2.1)),(wrap .i64 ((167772160:Int)+q3.1)),(0:Int),(0:Int),q10.2.1,q10.2.2))
         else bS (cK ((q6.2.1,q6.2.2),(12:Int))) (false,[],(0:Int)) λ(q9:(Bool×(List Int)×Int))=>bif q9.1 then bS (bN ((q9.2.1,q9.2.2),(9:Int))) ((0:Int),[],(0:Int)) λ(q11:(Int×(List Int)×Int))=>some (u (q1.1,q11.1,(wrap .i64 ((1:Int)+q2.1)),(wrap .i64 ((167772160:Int)+q3.1)),(0:Int),(6:Int),q11.2.1,q11.2.2))
          else some (u (q1.1,(-(1:Int)),(wrap .i64 ((1:Int)+q2.1)),(wrap .i64 ((167772160:Int)+q3.1)),(0:Int),(6:Int),q9.2.1,q9.2.2))
        else bif (!q7.2.2.2)then bS (cK ((q6.2.1,q6.2.2),(12:Int))) (false,[],(0:Int)) λ(q9:(Bool×(List Int)×Int))=>bif q9.1 then bS (bN ((q9.2.1,q9.2.2),(9:Int))) ((0:Int),[],(0:Int)) λ(q11:(Int×(List Int)×Int))=>some (u (q1.1,q11.1,(wrap .i64 ((1:Int)+q2.1)),(wrap .i64 ((167772160:Int)+q3.1)),q6.1,(0:Int),q11.2.1,q11.2.2))
          else some (u (q1.1,(-(1:Int)),(wrap .i64 ((1:Int)+q2.1)),(wrap .i64 ((167772160:Int)+q3.1)),q6.1,(0:Int),q9.2.1,q9.2.2))
        else bS (cK ((q6.2.1,q6.2.2),(12:Int))) (false,[],(0:Int)) λ(q8:(Bool×(List Int)×Int))=>bif q8.1 then bS (bN ((q8.2.1,q8.2.2),(9:Int))) ((0:Int),[],(0:Int)) λ(q10:(Int×(List Int)×Int))=>some (u (q1.1,q10.1,(wrap .i64 ((1:Int)+q2.1)),(wrap .i64 ((167772160:Int)+q3.1)),q6.1,(6:Int),q10.2.1,q10.2.2))
         else some (u (q1.1,(-(1:Int)),(wrap .i64 ((1:Int)+q2.1)),(wrap .i64 ((167772160:Int)+q3.1)),q6.1,(6:Int),q8.2.1,q8.2.2))
     else bif (q1.1 == (3:Int))then bS (bN ((q4.2.1,q4.2.2),(3:Int))) ((0:Int),[],(0:Int)) λ(q6:(Int×(List Int)×Int))=>bS (qU q1.1) (false,false,false,false) λ(q7:(Bool×Bool×Bool×Bool))=>bif (!q7.1)then bif (!q7.2.1)then bif (!q7.2.2.1)then bif (!q7.2.2.2)then bS (cK ((q6.2.1,q6.2.2),(12:Int))) (false,[],(0:Int)) λ(q12:(Bool×(List Int)×Int))=>bif q12.1 then bS (bN ((q12.2.1,q12.2.2),(9:Int))) ((0:Int),[],(0:Int)) λ(q14:(Int×(List Int)×Int))=>some (u (q1.1,q14.1,(0:Int),(0:Int),(0:Int),(0:Int),q14.2.1,q14.2.2))
             else some (u (q1.1,(-(1:Int)),(0:Int),(0:Int),(0:Int),(0:Int),q12.2.1,q12.2.2))
           else bS (cK ((q6.2.1,q6.2.2),(12:Int))) (false,[],(0:Int)) λ(q11:(Bool×(List Int)×Int))=>bif q11.1 then bS (bN ((q11.2.1,q11.2.2),(9:Int))) ((0:Int),[],(0:Int)) λ(q13:(Int×(List Int)×Int))=>some (u (q1.1,q13.1,(0:Int),(0:Int),(0:Int),(6:Int),q13.2.1,q13.2.2))
            else some (u (q1.1,(-(1:Int)),(0:Int),(0:Int),(0:Int),(6:Int),q11.2.1,q11.2.2))
          else bif (!q7.2.2.2)then bS (cK ((q6.2.1,q6.2.2),(12:Int))) (false,[],(0:Int)) λ(q11:(Bool×(List Int)×Int))=>bif q11.1 then bS (bN ((q11.2.1,q11.2.2),(9:Int))) ((0:Int),[],(0:Int)) λ(q13:(Int×(List Int)×Int))=>some (u (q1.1,q13.1,(0:Int),(0:Int),(wrap .i64 ((1:Int)+q6.1)),(0:Int),q13.2.1,q13.2.2))
            else some (u (q1.1,(-(1:Int)),(0:Int),(0:Int),(wrap .i64 ((1:Int)+q6.1)),(0:Int),q11.2.1,q11.2.2))
          else bS (cK ((q6.2.1,q6.2.2),(12:Int))) (false,[],(0:Int)) λ(q10:(Bool×(List Int)×Int))=>bif q10.1 then bS (bN ((q10.2.1,q10.2.2),(9:Int))) ((0:Int),[],(0:Int)) λ(q12:(Int×(List Int)×Int))=>some (u (q1.1,q12.1,(0:Int),(0:Int),(wrap .i64 ((1:Int)+q6.1)),(6:Int),q12.2.1,q12.2.2))
           else some (u (q1.1,(-(1:Int)),(0:Int),(0:Int),(wrap .i64 ((1:Int)+q6.1)),(6:Int),q10.2.1,q10.2.2))
         else bif (!q7.2.2.1)then bif (!q7.2.2.2)then bS (cK ((q6.2.1,q6.2.2),(12:Int))) (false,[],(0:Int)) λ(q11:(Bool×(List Int)×Int))=>bif q11.1 then bS (bN ((q11.2.1,q11.2.2),(9:Int))) ((0:Int),[],(0:Int)) λ(q13:(Int×(List Int)×Int))=>some (u (q1.1,q13.1,(0:Int),(wrap .i64 ((167772160:Int)+q3.1)),(0:Int),(0:Int),q13.2.1,q13.2.2))
            else some (u (q1.1,(-(1:Int)),(0:Int),(wrap .i64 ((167772160:Int)+q3.1)),(0:Int),(0:Int),q11.2.1,q11.2.2))
          else bS (cK ((q6.2.1,q6.2.2),(12:Int))) (false,[],(0:Int)) λ(q10:(Bool×(List Int)×Int))=>bif q10.1 then bS (bN ((q10.2.1,q10.2.2),(9:Int))) ((0:Int),[],(0:Int)) λ(q12:(Int×(List Int)×Int))=>some (u (q1.1,q12.1,(0:Int),(wrap .i64 ((167772160:Int)+q3.1)),(0:Int),(6:Int),q12.2.1,q12.2.2))
           else some (u (q1.1,(-(1:Int)),(0:Int),(wrap .i64 ((167772160:Int)+q3.1)),(0:Int),(6:Int),q10.2.1,q10.2.2))
         else bif (!q7.2.2.2)then bS (cK ((q6.2.1,q6.2.2),(12:Int))) (false,[],(0:Int)) λ(q10:(Bool×(List Int)×Int))=>bif q10.1 then bS (bN ((q10.2.1,q10.2.2),(9:Int))) ((0:Int),[],(0:Int)) λ(q12:(Int×(List Int)×Int))=>some (u (q1.1,q12.1,(0:Int),(wrap .i64 ((167772160:Int)+q3.1)),(wrap .i64 ((1:Int)+q6.1)),(0:Int),q12.2.1,q12.2.2))
           else some (u (q1.1,(-(1:Int)),(0:Int),(wrap .i64 ((167772160:Int)+q3.1)),(wrap .i64 ((1:Int)+q6.1)),(0:Int),q10.2.1,q10.2.2))
         else bS (cK ((q6.2.1,q6.2.2),(12:Int))) (false,[],(0:Int)) λ(q9:(Bool×(List Int)×Int))=>bif q9.1 then bS (bN ((q9.2.1,q9.2.2),(9:Int))) ((0:Int),[],(0:Int)) λ(q11:(Int×(List Int)×Int))=>some (u (q1.1,q11.1,(0:Int),(wrap .i64 ((167772160:Int)+q3.1)),(wrap .i64 ((1:Int)+q6.1)),(6:Int),q11.2.1,q11.2.2))
          else some (u (q1.1,(-(1:Int)),(0:Int),(wrap .i64 ((167772160:Int)+q3.1)),(wrap .i64 ((1:Int)+q6.1)),(6:Int),q9.2.1,q9.2.2))
        else bif (!q7.2.1)then bif (!q7.2.2.1)then bif (!q7.2.2.2)then bS (cK ((q6.2.1,q6.2.2),(12:Int))) (false,[],(0:Int)) λ(q11:(Bool×(List Int)×Int))=>bif q11.1 then bS (bN ((q11.2.1,q11.2.2),(9:Int))) ((0:Int),[],(0:Int)) λ(q13:(Int×(List Int)×Int))=>some (u (q1.1,q13.1,(wrap .i64 ((1:Int)+q2.1)),(0:Int),(0:Int),(0:Int),q13.2.1,q13.2.2))
            else some (u (q1.1,(-(1:Int)),(wrap .i64 ((1:Int)+q2.1)),(0:Int),(0:Int),(0:Int),q11.2.1,q11.2.2))
          else bS (cK ((q6.2.1,q6.2.2),(12:Int))) (false,[],(0:Int)) λ(q10:(Bool×(List Int)×Int))=>bif q10.1 then bS (bN ((q10.2.1,q10.2.2),(9:Int))) ((0:Int),[],(0:Int)) λ(q12:(Int×(List Int)×Int))=>some (u (q1.1,q12.1,(wrap .i64 ((1:Int)+q2.1)),(0:Int),(0:Int),(6:Int),q12.2.1,q12.2.2))
           else some (u (q1.1,(-(1:Int)),(wrap .i64 ((1:Int)+q2.1)),(0:Int),(0:Int),(6:Int),q10.2.1,q10.2.2))
         else bif (!q7.2.2.2)then bS (cK ((q6.2.1,q6.2.2),(12:Int))) (false,[],(0:Int)) λ(q10:(Bool×(List Int)×Int))=>bif q10.1 then bS (bN ((q10.2.1,q10.2.2),(9:Int))) ((0:Int),[],(0:Int)) λ(q12:(Int×(List Int)×Int))=>some (u (q1.1,q12.1,(wrap .i64 ((1:Int)+q2.1)),(0:Int),(wrap .i64 ((1:Int)+q6.1)),(0:Int),q12.2.1,q12.2.2))
           else some (u (q1.1,(-(1:Int)),(wrap .i64 ((1:Int)+q2.1)),(0:Int),(wrap .i64 ((1:Int)+q6.1)),(0:Int),q10.2.1,q10.2.2))
         else bS (cK ((q6.2.1,q6.2.2),(12:Int))) (false,[],(0:Int)) λ(q9:(Bool×(List Int)×Int))=>bif q9.1 then bS (bN ((q9.2.1,q9.2.2),(9:Int))) ((0:Int),[],(0:Int)) λ(q11:(Int×(List Int)×Int))=>some (u (q1.1,q11.1,(wrap .i64 ((1:Int)+q2.1)),(0:Int),(wrap .i64 ((1:Int)+q6.1)),(6:Int),q11.2.1,q11.2.2))
          else some (u (q1.1,(-(1:Int)),(wrap .i64 ((1:Int)+q2.1)),(0:Int),(wrap .i64 ((1:Int)+q6.1)),(6:Int),q9.2.1,q9.2.2))
        else bif (!q7.2.2.1)then bif (!q7.2.2.2)then bS (cK ((q6.2.1,q6.2.2),(12:Int))) (false,[],(0:Int)) λ(q10:(Bool×(List Int)×Int))=>bif q10.1 then bS (bN ((q10.2.1,q10.2.2),(9:Int))) ((0:Int),[],(0:Int)) λ(q12:(Int×(List Int)×Int))=>some (u (q1.1,q12.1,(wrap .i64 ((1:Int)+q2.1)),(wrap .i64 ((167772160:Int)+q3.1)),(0:Int),(0:Int),q12.2.1,q12.2.2))
           else some (u (q1.1,(-(1:Int)),(wrap .i64 ((1:Int)+q2.1)),(wrap .i64 ((167772160:Int)+q3.1)),(0:Int),(0:Int),q10.2.1,q10.2.2))
         else bS (cK ((q6.2.1,q6.2.2),(12:Int))) (false,[],(0:Int)) λ(q9:(Bool×(List Int)×Int))=>bif q9.1 then bS (bN ((q9.2.1,q9.2.2),(9:Int))) ((0:Int),[],(0:Int)) λ(q11:(Int×(List Int)×Int))=>some (u (q1.1,q11.1,(wrap .i64 ((1:Int)+q2.1)),(wrap .i64 ((167772160:Int)+q3.1)),(0:Int),(6:Int),q11.2.1,q11.2.2))
          else some (u (q1.1,(-(1:Int)),(wrap .i64 ((1:Int)+q2.1)),(wrap .i64 ((167772160:Int)+q3.1)),(0:Int),(6:Int),q9.2.1,q9.2.2))
        else bif (!q7.2.2.2)then bS (cK ((q6.2.1,q6.2.2),(12:Int))) (false,[],(0:Int)) λ(q9:(Bool×(List Int)×Int))=>bif q9.1 then bS (bN ((q9.2.1,q9.2.2),(9:Int))) ((0:Int),[],(0:Int)) λ(q11:(Int×(List Int)×Int))=>some (u (q1.1,q11.1,(wrap .i64 ((1:Int)+q2.1)),(wrap .i64 ((167772160:Int)+q3.1)),(wrap .i64 ((1:Int)+q6.1)),(0:Int),q11.2.1,q11.2.2))
          else some (u (q1.1,(-(1:Int)),(wrap .i64 ((1:Int)+q2.1)),(wrap .i64 ((167772160:Int)+q3.1)),(wrap .i64 ((1:Int)+q6.1)),(0:Int),q9.2.1,q9.2.2))
        else bS (cK ((q6.2.1,q6.2.2),(12:Int))) (false,[],(0:Int)) λ(q8:(Bool×(List Int)×Int))=>bif q8.1 then bS (bN ((q8.2.1,q8.2.2),(9:Int))) ((0:Int),[],(0:Int)) λ(q10:(Int×(List Int)×Int))=>some (u (q1.1,q10.1,(wrap .i64 ((1:Int)+q2.1)),(wrap .i64 ((167772160:Int)+q3.1)),(wrap .i64 ((1:Int)+q6.1)),(6:Int),q10.2.1,q10.2.2))
         else some (u (q1.1,(-(1:Int)),(wrap .i64 ((1:Int)+q2.1)),(wrap .i64 ((167772160:Int)+q3.1)),(wrap .i64 ((1:Int)+q6.1)),(6:Int),q8.2.1,q8.2.2))
     else bif (q1.1 == (9:Int))then bS (bN ((q4.2.1,q4.2.2),(2:Int))) ((0:Int),[],(0:Int)) λ(q6:(Int×(List Int)×Int))=>bS (qU q1.1) (false,false,false,false) λ(q7:(Bool×Bool×Bool×Bool))=>bif (!q7.1)then bif (!q7.2.1)then bif (!q7.2.2.1)then bif (!q7.2.2.2)then bS (cK ((q6.2.1,q6.2.2),(12:Int))) (false,[],(0:Int)) λ(q12:(Bool×(List Int)×Int))=>bif q12.1 then bS (bN ((q12.2.1,q12.2.2),(9:Int))) ((0:Int),[],(0:Int)) λ(q14:(Int×(List Int)×Int))=>some (u (q1.1,q14.1,(0:Int),(0:Int),(0:Int),(0:Int),q14.2.1,q14.2.2))
             else some (u (q1.1,(-(1:Int)),(0:Int),(0:Int),(0:Int),(0:Int),q12.2.1,q12.2.2))
           else bS (cK ((q6.2.1,q6.2.2),(12:Int))) (false,[],(0:Int)) λ(q11:(Bool×(List Int)×Int))=>bif q11.1 then bS (bN ((q11.2.1,q11.2.2),(9:Int))) ((0:Int),[],(0:Int)) λ(q13:(Int×(List Int)×Int))=>some (u (q1.1,q13.1,(0:Int),(0:Int),(0:Int),(6:Int),q13.2.1,q13.2.2))
            else some (u (q1.1,(-(1:Int)),(0:Int),(0:Int),(0:Int),(6:Int),q11.2.1,q11.2.2))
          else bif (!q7.2.2.2)then bS (cK ((q6.2.1,q6.2.2),(12:Int))) (false,[],(0:Int)) λ(q11:(Bool×(List Int)×Int))=>bif q11.1 then bS (bN ((q11.2.1,q11.2.2),(9:Int))) ((0:Int),[],(0:Int)) λ(q13:(Int×(List Int)×Int))=>some (u (q1.1,q13.1,(0:Int),(0:Int),q6.1,(0:Int),q13.2.1,q13.2.2))
            else some (u (q1.1,(-(1:Int)),(0:Int),(0:Int),q6.1,(0:Int),q11.2.1,q11.2.2))
          else bS (cK ((q6.2.1,q6.2.2),(12:Int))) (false,[],(0:Int)) λ(q10:(Bool×(List Int)×Int))=>bif q10.1 then bS (bN ((q10.2.1,q10.2.2),(9:Int))) ((0:Int),[],(0:Int)) λ(q12:(Int×(List Int)×Int))=>some (u (q1.1,q12.1,(0:Int),(0:Int),q6.1,(6:Int),q12.2.1,q12.2.2))
           else some (u (q1.1,(-(1:Int)),(0:Int),(0:Int),q6.1,(6:Int),q10.2.1,q10.2.2))
         else bif (!q7.2.2.1)then bif (!q7.2.2.2)then bS (cK ((q6.2.1,q6.2.2),(12:Int))) (false,[],(0:Int)) λ(q11:(Bool×(List Int)×Int))=>bif q11.1 then bS (bN ((q11.2.1,q11.2.2),(9:Int))) ((0:Int),[],(0:Int)) λ(q13:(Int×(List Int)×Int))=>some (u (q1.1,q13.1,(0:Int),(wrap .i64 ((167772160:Int)+q3.1)),(0:Int),(0:Int),q13.2.1,q13.2.2))
            else some (u (q1.1,(-(1:Int)),(0:Int),(wrap .i64 ((167772160:Int)+q3.1)),(0:Int),(0:Int),q11.2.1,q11.2.2))
          else bS (cK ((q6.2.1,q6.2.2),(12:Int))) (false,[],(0:Int)) λ(q10:(Bool×(List Int)×Int))=>bif q10.1 then bS (bN ((q10.2.1,q10.2.2),(9:Int))) ((0:Int),[],(0:Int)) λ(q12:(Int×(List Int)×Int))=>some (u (q1.1,q12.1,(0:Int),(wrap .i64 ((167772160:Int)+q3.1)),(0:Int),(6:Int),q12.2.1,q12.2.2))
           else some (u (q1.1,(-(1:Int)),(0:Int),(wrap .i64 ((167772160:Int)+q3.1)),(0:Int),(6:Int),q10.2.1,q10.2.2))
         else bif (!q7.2.2.2)then bS (cK ((q6.2.1,q6.2.2),(12:Int))) (false,[],(0:Int)) λ(q10:(Bool×(List Int)×Int))=>bif q10.1 then bS (bN ((q10.2.1,q10.2.2),(9:Int))) ((0:Int),[],(0:Int)) λ(q12:(Int×(List Int)×Int))=>some (u (q1.1,q12.1,(0:Int),(wrap .i64 ((167772160:Int)+q3.1)),q6.1,(0:Int),q12.2.1,q12.2.2))
           else some (u (q1.1,(-(1:Int)),(0:Int),(wrap .i64 ((167772160:Int)+q3.1)),q6.1,(0:Int),q10.2.1,q10.2.2))
         else bS (cK ((q6.2.1,q6.2.2),(12:Int))) (false,[],(0:Int)) λ(q9:(Bool×(List Int)×Int))=>bif q9.1 then bS (bN ((q9.2.1,q9.2.2),(9:Int))) ((0:Int),[],(0:Int)) λ(q11:(Int×(List Int)×Int))=>some (u (q1.1,q11.1,(0:Int),(wrap .i64 ((167772160:Int)+q3.1)),q6.1,(6:Int),q11.2.1,q11.2.2))
          else some (u (q1.1,(-(1:Int)),(0:Int),(wrap .i64 ((167772160:Int)+q3.1)),q6.1,(6:Int),q9.2.1,q9.2.2))
        else bif (!q7.2.1)then bif (!q7.2.2.1)then bif (!q7.2.2.2)then bS (cK ((q6.2.1,q6.2.2),(12:Int))) (false,[],(0:Int)) λ(q11:(Bool×(List Int)×Int))=>bif q11.1 then bS (bN ((q11.2.1,q11.2.2),(9:Int))) ((0:Int),[],(0:Int)) λ(q13:(Int×(List Int)×Int))=>some (u (q1.1,q13.1,(wrap .i64 ((1:Int)+q2.1)),(0:Int),(0:Int),(0:Int),q13.2.1,q13.2.2))
            else some (u (q1.1,(-(1:Int)),(wrap .i64 ((1:Int)+q2.1)),(0:Int),(0:Int),(0:Int),q11.2.1,q11.2.2))
          else bS (cK ((q6.2.1,q6.2.2),(12:Int))) (false,[],(0:Int)) λ(q10:(Bool×(List Int)×Int))=>bif q10.1 then bS (bN ((q10.2.1,q10.2.2),(9:Int))) ((0:Int),[],(0:Int)) λ(q12:(Int×(List Int)×Int))=>some (u (q1.1,q12.1,(wrap .i64 ((1:Int)+q2.1)),(0:Int),(0:Int),(6:Int),q12.2.1,q12.2.2))
           else some (u (q1.1,(-(1:Int)),(wrap .i64 ((1:Int)+q2.1)),(0:Int),(0:Int),(6:Int),q10.2.1,q10.2.2))
         else bif (!q7.2.2.2)then bS (cK ((q6.2.1,q6.2.2),(12:Int))) (false,[],(0:Int)) λ(q10:(Bool×(List Int)×Int))=>bif q10.1 then bS (bN ((q10.2.1,q10.2.2),(9:Int))) ((0:Int),[],(0:Int)) λ(q12:(Int×(List Int)×Int))=>some (u (q1.1,q12.1,(wrap .i64 ((1:Int)+q2.1)),(0:Int),q6.1,(0:Int),q12.2.1,q12.2.2))
           else some (u (q1.1,(-(1:Int)),(wrap .i64 ((1:Int)+q2.1)),(0:Int),q6.1,(0:Int),q10.2.1,q10.2.2))
         else bS (cK ((q6.2.1,q6.2.2),(12:Int))) (false,[],(0:Int)) λ(q9:(Bool×(List Int)×Int))=>bif q9.1 then bS (bN ((q9.2.1,q9.2.2),(9:Int))) ((0:Int),[],(0:Int)) λ(q11:(Int×(List Int)×Int))=>some (u (q1.1,q11.1,(wrap .i64 ((1:Int)+q2.1)),(0:Int),q6.1,(6:Int),q11.2.1,q11.2.2))
          else some (u (q1.1,(-(1:Int)),(wrap .i64 ((1:Int)+q2.1)),(0:Int),q6.1,(6:Int),q9.2.1,q9.2.2))
        else bif (!q7.2.2.1)then bif (!q7.2.2.2)then bS (cK ((q6.2.1,q6.2.2),(12:Int))) (false,[],(0:Int)) λ(q10:(Bool×(List Int)×Int))=>bif q10.1 then bS (bN ((q10.2.1,q10.2.2),(9:Int))) ((0:Int),[],(0:Int)) λ(q12:(Int×(List Int)×Int))=>some (u (q1.1,q12.1,(wrap .i64 ((1:Int)+q2.1)),(wrap .i64 ((167772160:Int)+q3.1)),(0:Int),(0:Int),q12.2.1,q12.2.2))
           else some (u (q1.1,(-(1:Int)),(wrap .i64 ((1:Int)+q2.1)),(wrap .i64 ((167772160:Int)+q3.1)),(0:Int),(0:Int),q10.2.1,q10.2.2))
         else bS (cK ((q6.2.1,q6.2.2),(12:Int))) (false,[],(0:Int)) λ(q9:(Bool×(List Int)×Int))=>bif q9.1 then bS (bN ((q9.2.1,q9.2.2),(9:Int))) ((0:Int),[],(0:Int)) λ(q11:(Int×(List Int)×Int))=>some (u (q1.1,q11.1,(wrap .i64 ((1:Int)+q2.1)),(wrap .i64 ((167772160:Int)+q3.1)),(0:Int),(6:Int),q11.2.1,q11.2.2))
          else some (u (q1.1,(-(1:Int)),(wrap .i64 ((1:Int)+q2.1)),(wrap .i64 ((167772160:Int)+q3.1)),(0:Int),(6:Int),q9.2.1,q9.2.2))
        else bif (!q7.2.2.2)then bS (cK ((q6.2.1,q6.2.2),(12:Int))) (false,[],(0:Int)) λ(q9:(Bool×(List Int)×Int))=>bif q9.1 then bS (bN ((q9.2.1,q9.2.2),(9:Int))) ((0:Int),[],(0:Int)) λ(q11:(Int×(List Int)×Int))=>some (u (q1.1,q11.1,(wrap .i64 ((1:Int)+q2.1)),(wrap .i64 ((167772160:Int)+q3.1)),q6.1,(0:Int),q11.2.1,q11.2.2))
          else some (u (q1.1,(-(1:Int)),(wrap .i64 ((1:Int)+q2.1)),(wrap .i64 ((167772160:Int)+q3.1)),q6.1,(0:Int),q9.2.1,q9.2.2))
        else bS (cK ((q6.2.1,q6.2.2),(12:Int))) (false,[],(0:Int)) λ(q8:(Bool×(List Int)×Int))=>bif q8.1 then bS (bN ((q8.2.1,q8.2.2),(9:Int))) ((0:Int),[],(0:Int)) λ(q10:(Int×(List Int)×Int))=>some (u (q1.1,q10.1,(wrap .i64 ((1:Int)+q2.1)),(wrap .i64 ((167772160:Int)+q3.1)),q6.1,(6:Int),q10.2.1,q10.2.2))
         else some (u (q1.1,(-(1:Int)),(wrap .i64 ((1:Int)+q2.1)),(wrap .i64 ((167772160:Int)+q3.1)),q6.1,(6:Int),q8.2.1,q8.2.2))
     else bS (qU q1.1) (false,false,false,false) λ(q5:(Bool×Bool×Bool×Bool))=>bif (!q5.1)then bif (!q5.2.1)then bif (!q5.2.2.1)then bif (!q5.2.2.2)then bS (cK ((q4.2.1,q4.2.2),(12:Int))) (false,[],(0:Int)) λ(q10:(Bool×(List Int)×Int))=>bif q10.1 then bS (bN ((q10.2.1,q10.2.2),(9:Int))) ((0:Int),[],(0:Int)) λ(q12:(Int×(List Int)×Int))=>some (u (q1.1,q12.1,(0:Int),(0:Int),(0:Int),(0:Int),q12.2.1,q12.2.2))
           else some (u (q1.1,(-(1:Int)),(0:Int),(0:Int),(0:Int),(0:Int),q10.2.1,q10.2.2))
         else bS (cK ((q4.2.1,q4.2.2),(12:Int))) (false,[],(0:Int)) λ(q9:(Bool×(List Int)×Int))=>bif q9.1 then bS (bN ((q9.2.1,q9.2.2),(9:Int))) ((0:Int),[],(0:Int)) λ(q11:(Int×(List Int)×Int))=>some (u (q1.1,q11.1,(0:Int),(0:Int),(0:Int),(6:Int),q11.2.1,q11.2.2))
          else some (u (q1.1,(-(1:Int)),(0:Int),(0:Int),(0:Int),(6:Int),q9.2.1,q9.2.2))
        else bif (!q5.2.2.2)then bS (cK ((q4.2.1,q4.2.2),(12:Int))) (false,[],(0:Int)) λ(q9:(Bool×(List Int)×Int))=>bif q9.1 then bS (bN ((q9.2.1,q9.2.2),(9:Int))) ((0:Int),[],(0:Int)) λ(q11:(Int×(List Int)×Int))=>some (u (q1.1,q11.1,(0:Int),(0:Int),q4.1,(0:Int),q11.2.1,q11.2.2))
          else some (u (q1.1,(-(1:Int)),(0:Int),(0:Int),q4.1,(0:Int),q9.2.1,q9.2.2))
        else bS (cK ((q4.2.1,q4.2.2),(12:Int))) (false,[],(0:Int)) λ(q8:(Bool×(List Int)×Int))=>bif q8.1 then bS (bN ((q8.2.1,q8.2.2),(9:Int))) ((0:Int),[],(0:Int)) λ(q10:(Int×(List Int)×Int))=>some (u (q1.1,q10.1,(0:Int),(0:Int),q4.1,(6:Int),q10.2.1,q10.2.2))
         else some (u (q1.1,(-(1:Int)),(0:Int),(0:Int),q4.1,(6:Int),q8.2.1,q8.2.2))
       else bif (!q5.2.2.1)then bif (!q5.2.2.2)then bS (cK ((q4.2.1,q4.2.2),(12:Int))) (false,[],(0:Int)) λ(q9:(Bool×(List Int)×Int))=>bif q9.1 then bS (bN ((q9.2.1,q9.2.2),(9:Int))) ((0:Int),[],(0:Int)) λ(q11:(Int×(List Int)×Int))=>some (u (q1.1,q11.1,(0:Int),(wrap .i64 ((167772160:Int)+q3.1)),(0:Int),(0:Int),q11.2.1,q11.2.2))
          else some (u (q1.1,(-(1:Int)),(0:Int),(wrap .i64 ((167772160:Int)+q3.1)),(0:Int),(0:Int),q9.2.1,q9.2.2))
        else bS (cK ((q4.2.1,q4.2.2),(12:Int))) (false,[],(0:Int)) λ(q8:(Bool×(List Int)×Int))=>bif q8.1 then bS (bN ((q8.2.1,q8.2.2),(9:Int))) ((0:Int),[],(0:Int)) λ(q10:(Int×(List Int)×Int))=>some (u (q1.1,q10.1,(0:Int),(wrap .i64 ((167772160:Int)+q3.1)),(0:Int),(6:Int),q10.2.1,q10.2.2))
         else some (u (q1.1,(-(1:Int)),(0:Int),(wrap .i64 ((167772160:Int)+q3.1)),(0:Int),(6:Int),q8.2.1,q8.2.2))
       else bif (!q5.2.2.2)then bS (cK ((q4.2.1,q4.2.2),(12:Int))) (false,[],(0:Int)) λ(q8:(Bool×(List Int)×Int))=>bif q8.1 then bS (bN ((q8.2.1,q8.2.2),(9:Int))) ((0:Int),[],(0:Int)) λ(q10:(Int×(List Int)×Int))=>some (u (q1.1,q10.1,(0:Int),(wrap .i64 ((167772160:Int)+q3.1)),q4.1,(0:Int),q10.2.1,q10.2.2))
         else some (u (q1.1,(-(1:Int)),(0:Int),(wrap .i64 ((167772160:Int)+q3.1)),q4.1,(0:Int),q8.2.1,q8.2.2))
       else bS (cK ((q4.2.1,q4.2.2),(12:Int))) (false,[],(0:Int)) λ(q7:(Bool×(List Int)×Int))=>bif q7.1 then bS (bN ((q7.2.1,q7.2.2),(9:Int))) ((0:Int),[],(0:Int)) λ(q9:(Int×(List Int)×Int))=>some (u (q1.1,q9.1,(0:Int),(wrap .i64 ((167772160:Int)+q3.1)),q4.1,(6:Int),q9.2.1,q9.2.2))
        else some (u (q1.1,(-(1:Int)),(0:Int),(wrap .i64 ((167772160:Int)+q3.1)),q4.1,(6:Int),q7.2.1,q7.2.2))
      else bif (!q5.2.1)then bif (!q5.2.2.1)then bif (!q5.2.2.2)then bS (cK ((q4.2.1,q4.2.2),(12:Int))) (false,[],(0:Int)) λ(q9:(Bool×(List Int)×Int))=>bif q9.1 then bS (bN ((q9.2.1,q9.2.2),(9:Int))) ((0:Int),[],(0:Int)) λ(q11:(Int×(List Int)×Int))=>some (u (q1.1,q11.1,(wrap .i64 ((1:Int)+q2.1)),(0:Int),(0:Int),(0:Int),q11.2.1,q11.2.2))
          else some (u (q1.1,(-(1:Int)),(wrap .i64 ((1:Int)+q2.1)),(0:Int),(0:Int),(0:Int),q9.2.1,q9.2.2))
        else bS (cK ((q4.2.1,q4.2.2),(12:Int))) (false,[],(0:Int)) λ(q8:(Bool×(List Int)×Int))=>bif q8.1 then bS (bN ((q8.2.1,q8.2.2),(9:Int))) ((0:Int),[],(0:Int)) λ(q10:(Int×(List Int)×Int))=>some (u (q1.1,q10.1,(wrap .i64 ((1:Int)+q2.1)),(0:Int),(0:Int),(6:Int),q10.2.1,q10.2.2))
         else some (u (q1.1,(-(1:Int)),(wrap .i64 ((1:Int)+q2.1)),(0:Int),(0:Int),(6:Int),q8.2.1,q8.2.2))
       else bif (!q5.2.2.2)then bS (cK ((q4.2.1,q4.2.2),(12:Int))) (false,[],(0:Int)) λ(q8:(Bool×(List Int)×Int))=>bif q8.1 then bS (bN ((q8.2.1,q8.2.2),(9:Int))) ((0:Int),[],(0:Int)) λ(q10:(Int×(List Int)×Int))=>some (u (q1.1,q10.1,(wrap .i64 ((1:Int)+q2.1)),(0:Int),q4.1,(0:Int),q10.2.1,q10.2.2))
         else some (u (q1.1,(-(1:Int)),(wrap .i64 ((1:Int)+q2.1)),(0:Int),q4.1,(0:Int),q8.2.1,q8.2.2))
       else bS (cK ((q4.2.1,q4.2.2),(12:Int))) (false,[],(0:Int)) λ(q7:(Bool×(List Int)×Int))=>bif q7.1 then bS (bN ((q7.2.1,q7.2.2),(9:Int))) ((0:Int),[],(0:Int)) λ(q9:(Int×(List Int)×Int))=>some (u (q1.1,q9.1,(wrap .i64 ((1:Int)+q2.1)),(0:Int),q4.1,(6:Int),q9.2.1,q9.2.2))
        else some (u (q1.1,(-(1:Int)),(wrap .i64 ((1:Int)+q2.1)),(0:Int),q4.1,(6:Int),q7.2.1,q7.2.2))
      else bif (!q5.2.2.1)then bif (!q5.2.2.2)then bS (cK ((q4.2.1,q4.2.2),(12:Int))) (false,[],(0:Int)) λ(q8:(Bool×(List Int)×Int))=>bif q8.1 then bS (bN ((q8.2.1,q8.2.2),(9:Int))) ((0:Int),[],(0:Int)) λ(q10:(Int×(List Int)×Int))=>some (u (q1.1,q10.1,(wrap .i64 ((1:Int)+q2.1)),(wrap .i64 ((167772160:Int)+q3.1)),(0:Int),(0:Int),q10.2.1,q10.2.2))
         else some (u (q1.1,(-(1:Int)),(wrap .i64 ((1:Int)+q2.1)),(wrap .i64 ((167772160:Int)+q3.1)),(0:Int),(0:Int),q8.2.1,q8.2.2))
       else bS (cK ((q4.2.1,q4.2.2),(12:Int))) (false,[],(0:Int)) λ(q7:(Bool×(List Int)×Int))=>bif q7.1 then bS (bN ((q7.2.1,q7.2.2),(9:Int))) ((0:Int),[],(0:Int)) λ(q9:(Int×(List Int)×Int))=>some (u (q1.1,q9.1,(wrap .i64 ((1:Int)+q2.1)),(wrap .i64 ((167772160:Int)+q3.1)),(0:Int),(6:Int),q9.2.1,q9.2.2))
        else some (u (q1.1,(-(1:Int)),(wrap .i64 ((1:Int)+q2.1)),(wrap .i64 ((167772160:Int)+q3.1)),(0:Int),(6:Int),q7.2.1,q7.2.2))
      else bif (!q5.2.2.2)then bS (cK ((q4.2.1,q4.2.2),(12:Int))) (false,[],(0:Int)) λ(q7:(Bool×(List Int)×Int))=>bif q7.1 then bS (bN ((q7.2.1,q7.2.2),(9:Int))) ((0:Int),[],(0:Int)) λ(q9:(Int×(List Int)×Int))=>some (u (q1.1,q9.1,(wrap .i64 ((1:Int)+q2.1)),(wrap .i64 ((167772160:Int)+q3.1)),q4.1,(0:Int),q9.2.1,q9.2.2))
        else some (u (q1.1,(-(1:Int)),(wrap .i64 ((1:Int)+q2.1)),(wrap .i64 ((167772160:Int)+q3.1)),q4.1,(0:Int),q7.2.1,q7.2.2))
      else bS (cK ((q4.2.1,q4.2.2),(12:Int))) (false,[],(0:Int)) λ(q6:(Bool×(List Int)×Int))=>bif q6.1 then bS (bN ((q6.2.1,q6.2.2),(9:Int))) ((0:Int),[],(0:Int)) λ(q8:(Int×(List Int)×Int))=>some (u (q1.1,q8.1,(wrap .i64 ((1:Int)+q2.1)),(wrap .i64 ((167772160:Int)+q3.1)),q4.1,(6:Int),q8.2.1,q8.2.2))
       else some (u (q1.1,(-(1:Int)),(wrap .i64 ((1:Int)+q2.1)),(wrap .i64 ((167772160:Int)+q3.1)),q4.1,(6:Int),q6.2.1,q6.2.2))
def g34 (dM:Y32)(bN:Y20)(qU:Y43)(cK:Y17)(L:Nat)(a0_0:(List Int))(a0_1:Int):Option (Int×Int×Int×Int×Int×Int×(List Int)×Int):=G34 (λx=>x) dM bN qU cK a0_0 a0_1
theorem e34 (dM:Y32)(bN:Y20)(qU:Y43)(cK:Y17)(L:Nat)(a0_0:(List Int))(a0_1:Int):tG prog (aJu dM bN qU cK) (cE L) f34 (a34.enc (a0_0,a0_1))=(g34 dM bN qU cK L a0_0 a0_1).map n34:=by
 refine .trans (b:=G34 n34 dM bN qU cK a0_0 a0_1) (by kernel_rfl) ?_;unfold g34 G34
 repeat' first | with_reducible refine gW ?_ ?_ | with_reducible refine gU λ_=>?_ | with_reducible refine gV λ_=>?_ | exact rfl
def w34 (dM:Y32)(bN:Y20)(qU:Y43)(cK:Y17)(L:Nat)(x:((List Int)×Int)):Option (Int×Int×Int×Int×Int×Int×(List Int)×Int):=g34 dM bN qU cK L x.1 x.2
theorem s34 (dM:Y32)(bN:Y20)(qU:Y43)(cK:Y17)(h32:SatP prog bL 32 (c32 dM).nres (c32 dM).F)(h20:SatP prog bL 20 (qD bN).nres (qD bN).F)(h43:Sat prog bL 43 (c43 qU))(h17:SatP prog bL 17 (c17 cK).nres (c17 cK).F)(m:Y34)(hm:∀ (x:((List Int)×Int)) t,m x=some t->∃ L,w34 dM bN qU cK L x=some t):SatP prog bL 34 (c34 m).nres (c34 m).F:=
 qL cC bX (by rfl) (fn:=f34) rfl rfl a34 n34 aKf m (aJu dM bN qU cK) (bM h43 bW) (cW h32 (cW h20 (cW h17 bH))) (w34 dM bN qU cK) (λL x=>e34 dM bN qU cK L x.1 x.2) hm
def aJv (jX:Y34)(bN:Y20)(dM:Y32):Env bL:={ Kc:=eE [],Kw:=eD [(34,c34 jX),(20,qD bN),(32,c32 dM)],lv:=λi=>[],xv:=λi=>none }
def G33 {B:Type}(u:(Int×Int×Int×Int×Int×Int×(List Int)×Int)->B)(jX:Y34)(bN:Y20)(dM:Y32)(a0_0:(List Int))(a0_1:Int):Option B:=
 bS (jX (a0_0,a0_1)) ((0:Int),(0:Int),(0:Int),(0:Int),(0:Int),(0:Int),[],(0:Int)) λ(q1:(Int×Int×Int×Int×Int×Int×(List Int)×Int))=>bS (bN ((q1.2.2.2.2.2.2.1,q1.2.2.2.2.2.2.2),(18:Int))) ((0:Int),[],(0:Int)) λ(q2:(Int×(List Int)×Int))=>bif (q2.1 == (0:Int))then bS (bN ((q2.2.1,q2.2.2),(9:Int))) ((0:Int),[],(0:Int)) λ(q4:(Int×(List Int)×Int))=>bS (dM ((q4.2.1,q4.2.2),(List.cons (0:Int) (List.cons (10:Int) (List.cons (wrap .i64 ((1:Int)+q4.1)) ([]:List (Int))))))) ((0:Int),[],(0:Int)) λ(q5:(Int×(List Int)×Int))=>some (u (q5.1,q1.2.1,q1.2.2.1,q1.2.2.2.1,q1.2.2.2.2.1,q1.2.2.2.2.2.1,q5.2.1,q5.2.2))
   else bif (q2.1 == (1:Int))then bS (dM ((q2.2.1,q2.2.2),(List.cons (-(2:Int)) (List.cons (1000000:Int) (List.cons (1000001:Int) (List.cons (3:Int) ([]:List (Int)))))))) ((0:Int),[],(0:Int)) λ(q4:(Int×(List Int)×Int))=>some (u (q1.1,q4.1,q1.2.2.1,q1.2.2.2.1,q1.2.2.2.2.1,q1.2.2.2.2.2.1,q4.2.1,q4.2.2))
   else bif (q2.1 == (2:Int))then bS (dM ((q2.2.1,q2.2.2),(List.cons (0:Int) (List.cons (1000:Int) (List.cons (7:Int) ([]:List (Int))))))) ((0:Int),[],(0:Int)) λ(q4:(Int×(List Int)×Int))=>some (u (q1.1,q1.2.1,q4.1,q1.2.2.2.1,q1.2.2.2.2.1,q1.2.2.2.2.2.1,q4.2.1,q4.2.2))
   else bif (q2.1 == (3:Int))then bS (dM ((q2.2.1,q2.2.2),(List.cons (-(1:Int)) (List.cons (4294967296:Int) (List.cons (7:Int) ([]:List (Int))))))) ((0:Int),[],(0:Int)) λ(q4:(Int×(List Int)×Int))=>some (u (q1.1,q1.2.1,q1.2.2.1,q4.1,q1.2.2.2.2.1,q1.2.2.2.2.2.1,q4.2.1,q4.2.2))
   else bif (q2.1 == (4:Int))then bS (dM ((q2.2.1,q2.2.2),(List.cons (-(1:Int)) (List.cons (65536:Int) (List.cons (10:Int) (List.cons (0:Int) ([]:List (Int)))))))) ((0:Int),[],(0:Int)) λ(q4:(Int×(List Int)×Int))=>some (u (q1.1,q1.2.1,q1.2.2.1,q1.2.2.2.1,q4.1,q1.2.2.2.2.2.1,q4.2.1,q4.2.2))
   else bif (q2.1 == (5:Int))then bS (dM ((q2.2.1,q2.2.2),(List.cons (1:Int) (List.cons (0:Int) (List.cons (17:Int) ([]:List (Int))))))) ((0:Int),[],(0:Int)) λ(q4:(Int×(List Int)×Int))=>some (u (q1.1,q1.2.1,q1.2.2.1,q1.2.2.2.1,q1.2.2.2.2.1,q4.1,q4.2.1,q4.2.2))
   else some (u (q1.1,q1.2.1,q1.2.2.1,q1.2.2.2.1,q1.2.2.2.2.1,q1.2.2.2.2.2.1,q2.2.1,q2.2.2))
def g33 (jX:Y34)(bN:Y20)(dM:Y32)(L:Nat)(a0_0:(List Int))(a0_1:Int):Option (Int×Int×Int×Int×Int×Int×(List Int)×Int):=G33 (λx=>x) jX bN dM a0_0 a0_1
theorem e33 (jX:Y34)(bN:Y20)(dM:Y32)(L:Nat)(a0_0:(List Int))(a0_1:Int):tG prog (aJv jX bN dM) (cE L) f33 (a33.enc (a0_0,a0_1))=(g33 jX bN dM L a0_0 a0_1).map n33:=by
 refine .trans (b:=G33 n33 jX bN dM a0_0 a0_1) (by kernel_rfl) ?_;unfold g33 G33
 repeat' first | with_reducible refine gW ?_ ?_ | with_reducible refine gU λ_=>?_ | with_reducible refine gV λ_=>?_ | exact rfl
def w33 (jX:Y34)(bN:Y20)(dM:Y32)(L:Nat)(x:((List Int)×Int)):Option (Int×Int×Int×Int×Int×Int×(List Int)×Int):=g33 jX bN dM L x.1 x.2
theorem s33 (jX:Y34)(bN:Y20)(dM:Y32)(h34:SatP prog bL 34 (c34 jX).nres (c34 jX).F)(h20:SatP prog bL 20 (qD bN).nres (qD bN).F)(h32:SatP prog bL 32 (c32 dM).nres (c32 dM).F)(m:Y33)(hm:∀ (x:((List Int)×Int)) t,m x=some t->∃ L,w33 jX bN dM L x=some t):SatP prog bL 33 (c33 m).nres (c33 m).F:=
 qL cC bX (by rfl) (fn:=f33) rfl rfl a33 n33 aKg m (aJv jX bN dM) bW (cW h34 (cW h20 (cW h32 bH))) (w33 jX bN dM) (λL x=>e33 jX bN dM L x.1 x.2) hm
def aJJ (rG:Y31)(bN:Y20)(dM:Y32)(rF:Y33):Env bL:={ Kc:=eE [],Kw:=eD [(31,c31 rG),(20,qD bN),(32,c32 dM),(33,c33 rF)],lv:=λi=>[],xv:=λi=>none }
def G15 {B:Type}(u:((List E9)×(List Int)×Int)->B)(rG:Y31)(bN:Y20)(dM:Y32)(rF:Y33)(a0_0:(List Int))(a0_1:Int):Option B:=
 bS (rG (a0_0,a0_1)) ([],[],(0:Int)) λ(q1:((List E9)×(List Int)×Int))=>bif ((Nat.cast (List.length q1.1):Int) == (0:Int))then some (u (q1.1,q1.2.1,q1.2.2))
  else bS (bN ((q1.2.1,q1.2.2),(Nat.cast (List.length q1.1):Int))) ((0:Int),[],(0:Int)) λ(q2:(Int×(List Int)×Int))=>bS (bN ((q2.2.1,q2.2.2),(16:Int))) ((0:Int),[],(0:Int)) λ(q3:(Int×(List Int)×Int))=>bif (q3.1 == (0:Int))then bS (dM ((q3.2.1,q3.2.2),(List.cons (0:Int) (List.cons (1:Int) (List.cons (100000:Int) (List.cons (100001:Int) ([]:List (Int)))))))) ((0:Int),[],(0:Int)) λ(q5:(Int×(List Int)×Int))=>bif ((decide ((0:Int)<=q2.1))&&(decide (q2.1 < (Nat.cast (List.length q1.1):Int))))then some (u ((List.modify q1.1 (Int.toNat q2.1) (λy=>(q5.1,(y.2.1,(y.2.2.1,(y.2.2.2.1,(y.2.2.2.2.1,(y.2.2.2.2.2.1,(y.2.2.2.2.2.2.1,(y.2.2.2.2.2.2.2.1,y.2.2.2.2.2.2.2.2)))))))))),q5.2.1,q5.2.2))
      else none
    else bif (q3.1 == (1:Int))then bS (rF (q3.2.1,q3.2.2)) ((0:Int),(0:Int),(0:Int),(0:Int),(0:Int),(0:Int),[],(0:Int)) λ(q5:(Int×Int×Int×Int×Int×Int×(List Int)×Int))=>bif ((decide ((0:Int)<=q2.1))&&(decide (q2.1 < (Nat.cast (List.length q1.1):Int))))then some (u ((List.modify q1.1 (Int.toNat q2.1) (λy=>(y.1,(y.2.1,(y.2.2.1,(q5.1,(q5.2.1,(q5.2.2.1,(q5.2.2.2.1,(q5.2.2.2.2.1,q5.2.2.2.2.2.1)))))))))),q5.2.2.2.2.2.2.1,q5.2.2.2.2.2.2.2))
      else none
    else bif (q3.1 == (2:Int))then bS (dM ((q3.2.1,q3.2.2),(List.cons (0:Int) (List.cons (1:Int) (List.cons (1000:Int) ([]:List (Int))))))) ((0:Int),[],(0:Int)) λ(q5:(Int×(List Int)×Int))=>bif ((decide ((0:Int)<=q2.1))&&(decide (q2.1 < (Nat.cast (List.length q1.1):Int))))then some (u ((List.modify q1.1 (Int.toNat q2.1) (λy=>(y.1,(q5.1,(y.2.2.1,(y.2.2.2.1,(y.2.2.2.2.1,(y.2.2.2.2.2.1,(y.2.2.2.2.2.2.1,(y.2.2.2.2.2.2.2.1,y.2.2.2.2.2.2.2.2)))))))))),q5.2.1,q5.2.2))
      else none
    else bif (q3.1 == (3:Int))then some (u ((List.replicate (Int.toNat (41:Int)) ((0:Int),((0:Int),((0:Int),((0:Int),((0:Int),((0:Int),((0:Int),((0:Int),(0:Int)))))))))),q3.2.1,q3.2.2))
    else some (u (q1.1,q3.2.1,q3.2.2))
def g15 (rG:Y31)(bN:Y20)(dM:Y32)(rF:Y33)(L:Nat)(a0_0:(List Int))(a0_1:Int):Option ((List E9)×(List Int)×Int):=G15 (λx=>x) rG bN dM rF a0_0 a0_1
theorem e15 (rG:Y31)(bN:Y20)(dM:Y32)(rF:Y33)(L:Nat)(a0_0:(List Int))(a0_1:Int):tG prog (aJJ rG bN dM rF) (cE L) f15 (a15.enc (a0_0,a0_1))=(g15 rG bN dM rF L a0_0 a0_1).map n15:=by
 refine .trans (b:=G15 n15 rG bN dM rF a0_0 a0_1) (by kernel_rfl) ?_;unfold g15 G15
 repeat' first | with_reducible refine gW ?_ ?_ | with_reducible refine gU λ_=>?_ | with_reducible refine gV λ_=>?_ | exact rfl
def w15 (rG:Y31)(bN:Y20)(dM:Y32)(rF:Y33)(L:Nat)(x:((List Int)×Int)):Option ((List E9)×(List Int)×Int):=g15 rG bN dM rF L x.1 x.2
theorem s15 (rG:Y31)(bN:Y20)(dM:Y32)(rF:Y33)(h31:SatP prog bL 31 (c31 rG).nres (c31 rG).F)(h20:SatP prog bL 20 (qD bN).nres (qD bN).F)(h32:SatP prog bL 32 (c32 dM).nres (c32 dM).F)(h33:SatP prog bL 33 (c33 rF).nres (c33 rF).F)(m:Y15)(hm:∀ (x:((List Int)×Int)) t,m x=some t->∃ L,w15 rG bN dM rF L x=some t):SatP prog bL 15 (c15 m).nres (c15 m).F:=
 qL cC bX (by rfl) (fn:=f15) rfl rfl a15 n15 aKy m (aJJ rG bN dM rF) bW (cW h31 (cW h20 (cW h32 (cW h33 bH)))) (w15 rG bN dM rF) (λL x=>e15 rG bN dM rF L x.1 x.2) hm
end Go.Proofs.Tryz
