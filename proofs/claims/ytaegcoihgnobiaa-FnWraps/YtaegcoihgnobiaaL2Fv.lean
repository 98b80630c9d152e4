/- A part of the proof of FnWraps: L2Fv, L2Fw. -/
import Derived.Test.YtaegcoihgnobiaaL2Base
set_option linter.unusedSimpArgs false
set_option linter.unusedVariables false
set_option maxHeartbeats 0
namespace Go.Proofs.Try
open Go.IntKind (wrap)
open Go Go.VM Go.RowKit
def aHP:Env bH:={ Kc:=fJ [],Kw:=fI [],lv:=λi=>[],xv:=λi=>none }
theorem i41 (L:Nat)(a0:(List Int)):aEV prog aHP (bU L) f41 (a41.enc a0)=
 some (n41 (a0,(0:Int))):=by kernel_rfl
def g41 (L:Nat)(a0:(List Int)):Option ((List Int)×Int):=
 some (a0,(0:Int))
theorem e41 (L:Nat)(a0:(List Int)):aEV prog aHP (bU L) f41 (a41.enc a0)=(g41 L a0).map n41:=by
 rw[i41];simp only[g41,bQ,dP,iM,aF,aM]
theorem s41 (m:(List Int)->Option ((List Int)×Int))(hm:∀ (x:(List Int)) t,m x=some t->∃ L,g41 L x=some t):SatN prog bH 41 (c41 m).F:=
 aIQ dG cS (by rfl) (fn:=f41) rfl a41 n41 aKl m aHP cR cH (λL x=>g41 L x) (λL x=>e41 L x) hm
def aHN (dF:(((List Int)×Int)×Int)->Option (Int×(List Int)×Int))(eE:(((List Int)×Int)×(List Int))->Option (Int×(List Int)×Int)):Env bH:={ Kc:=fJ [],Kw:=fI [(56,xK dF),(57,c57 eE)],lv:=λi=>[],xv:=λi=>none }
theorem i44 (dF:(((List Int)×Int)×Int)->Option (Int×(List Int)×Int))(eE:(((List Int)×Int)×(List Int))->Option (Int×(List Int)×Int))(L:Nat)(a0_0:(List Int))(a0_1:Int):qF prog (aHN dF eE) (bU L) f44 (a44.enc (a0_0,a0_1))=
 cB (dF ((a0_0,a0_1),(6:Int))) ((0:Int),[],(0:Int)) λ(q1:(Int×(List Int)×Int))=>cB (dF ((q1.2.1,q1.2.2),(6:Int))) ((0:Int),[],(0:Int)) λ(q2:(Int×(List Int)×Int))=>cB (eE ((q2.2.1,q2.2.2),(List.cons (wrap Go.IntKind.i64 ((167772160:Int)+q1.1)) (List.cons (wrap Go.IntKind.i64 ((167772160:Int)+q2.1)) (List.cons (5:Int) (List.cons (0:Int) (List.cons (4294967295:Int) ([]:List (Int))))))))) ((0:Int),[],(0:Int)) λ(q3:(Int×(List Int)×Int))=>some (n44 (q3.1,q3.2.1,q3.2.2)):=by kernel_rfl
def g44 (dF:(((List Int)×Int)×Int)->Option (Int×(List Int)×Int))(eE:(((List Int)×Int)×(List Int))->Option (Int×(List Int)×Int))(L:Nat)(a0_0:(List Int))(a0_1:Int):Option (Int×(List Int)×Int):=
 cB (dF ((a0_0,a0_1),(6:Int))) ((0:Int),[],(0:Int)) λ(q1:(Int×(List Int)×Int))=>cB (dF ((q1.2.1,q1.2.2),(6:Int))) ((0:Int),[],(0:Int)) λ(q2:(Int×(List Int)×Int))=>cB (eE ((q2.2.1,q2.2.2),(List.cons (wrap Go.IntKind.i64 ((167772160:Int)+q1.1)) (List.cons (wrap Go.IntKind.i64 ((167772160:Int)+q2.1)) (List.cons (5:Int) (List.cons (0:Int) (List.cons (4294967295:Int) ([]:List (Int))))))))) ((0:Int),[],(0:Int)) λ(q3:(Int×(List Int)×Int))=>some (q3.1,q3.2.1,q3.2.2)
theorem e44 (dF:(((List Int)×Int)×Int)->Option (Int×(List Int)×Int))(eE:(((List Int)×Int)×(List Int))->Option (Int×(List Int)×Int))(L:Nat)(a0_0:(List Int))(a0_1:Int):qF prog (aHN dF eE) (bU L) f44 (a44.enc (a0_0,a0_1))=(g44 dF eE L a0_0 a0_1).map n44:=by
 rw[i44];simp only[g44,bQ,dP,iM,aF,aM]
theorem s44 (dF:(((List Int)×Int)×Int)->Option (Int×(List Int)×Int))(eE:(((List Int)×Int)×(List Int))->Option (Int×(List Int)×Int))(h56:SatP prog bH 56 (xK dF).nres (xK dF).F)(h57:SatP prog bH 57 (c57 eE).nres (c57 eE).F)(m:((List Int)×Int)->Option (Int×(List Int)×Int))(hm:∀ (x:((List Int)×Int)) t,m x=some t->∃ L,g44 dF eE L x.1 x.2=some t):SatP prog bH 44 (c44 m).nres (c44 m).F:=
 xZ dG cS (by rfl) (fn:=f44) rfl rfl a44 n44 aF1 m (aHN dF eE) cR (dC h56 (dC h57 cH)) (λL x=>g44 dF eE L x.1 x.2) (λL x=>e44 dF eE L x.1 x.2) hm
def aHH (dF:(((List Int)×Int)×Int)->Option (Int×(List Int)×Int)):Env bH:={ Kc:=fJ [],Kw:=fI [(56,xK dF)],lv:=λi=>[],xv:=λi=>none }
theorem i55 (dF:(((List Int)×Int)×Int)->Option (Int×(List Int)×Int))(L:Nat)(a0_0:(List Int))(a0_1:Int)(a1:Int):qF prog (aHH dF) (bU L) f55 (a55.enc ((a0_0,a0_1),a1))=
 cB (dF ((a0_0,a0_1),a1)) ((0:Int),[],(0:Int)) λ(q1:(Int×(List Int)×Int))=>some (n55 ((q1.1 == (0:Int)),q1.2.1,q1.2.2)):=by kernel_rfl
def g55 (dF:(((List Int)×Int)×Int)->Option (Int×(List Int)×Int))(L:Nat)(a0_0:(List Int))(a0_1:Int)(a1:Int):Option (Bool×(List Int)×Int):=
 cB (dF ((a0_0,a0_1),a1)) ((0:Int),[],(0:Int)) λ(q1:(Int×(List Int)×Int))=>some ((q1.1 == (0:Int)),q1.2.1,q1.2.2)
theorem e55 (dF:(((List Int)×Int)×Int)->Option (Int×(List Int)×Int))(L:Nat)(a0_0:(List Int))(a0_1:Int)(a1:Int):qF prog (aHH dF) (bU L) f55 (a55.enc ((a0_0,a0_1),a1))=(g55 dF L a0_0 a0_1 a1).map n55:=by
 rw[i55];simp only[g55,bQ,dP,iM,aF,aM]
theorem s55 (dF:(((List Int)×Int)×Int)->Option (Int×(List Int)×Int))(h56:SatP prog bH 56 (xK dF).nres (xK dF).F)(m:(((List Int)×Int)×Int)->Option (Bool×(List Int)×Int))(hm:∀ (x:(((List Int)×Int)×Int)) t,m x=some t->∃ L,g55 dF L x.1.1 x.1.2 x.2=some t):SatP prog bH 55 (c55 m).nres (c55 m).F:=
 xZ dG cS (by rfl) (fn:=f55) rfl rfl a55 n55 aH4 m (aHH dF) cR (dC h56 cH) (λL x=>g55 dF L x.1.1 x.1.2 x.2) (λL x=>e55 dF L x.1.1 x.1.2 x.2) hm
def aHG:Env bH:={ Kc:=fJ [],Kw:=fI [],lv:=λi=>[],xv:=λi=>none }
theorem i56 (L:Nat)(a0_0:(List Int))(a0_1:Int)(a1:Int):qF prog aHG (bU L) f56 (a56.enc ((a0_0,a0_1),a1))=
 bif (decide (a1 < (1:Int)))then some (n56 ((0:Int),a0_0,(wrap Go.IntKind.i64 (a0_1+(1:Int)))))
 else bif ((Nat.cast (List.length a0_0):Int) == (0:Int))then bif (a1 == (0:Int))then none
  else some (n56 ((Int.tmod (wrap Go.IntKind.i64 ((wrap Go.IntKind.i64 ((wrap Go.IntKind.i64 (a0_1+(1:Int)))-(1:Int))) * (7:Int))) a1),a0_0,(wrap Go.IntKind.i64 (a0_1+(1:Int)))))
 else bif ((Nat.cast (List.length a0_0):Int) == (0:Int))then none
 else bif ((decide ((0:Int)<=(Int.tmod (wrap Go.IntKind.i64 ((wrap Go.IntKind.i64 (a0_1+(1:Int)))-(1:Int))) (Nat.cast (List.length a0_0):Int))))&&(decide ((Int.tmod (wrap Go.IntKind.i64 ((wrap Go.IntKind.i64 (a0_1+(1:Int)))-(1:Int))) (Nat.cast (List.length a0_0):Int)) < (Nat.cast (List.length a0_0):Int))))then bif ((Nat.cast (List.length a0_0):Int) == (0:Int))then none
  else bif (decide (a1 > (200:Int)))then bif ((Nat.cast (List.length a0_0):Int) == (0:Int))then none
   else bif ((decide ((0:Int)<=(Int.tmod (wrap Go.IntKind.i64 ((wrap Go.IntKind.i64 ((wrap Go.IntKind.i64 (a0_1+(1:Int)))-(1:Int)))+(1:Int))) (Nat.cast (List.length a0_0):Int))))&&(decide ((Int.tmod (wrap Go.IntKind.i64 ((wrap Go.IntKind.i64 ((wrap Go.IntKind.i64 (a0_1+(1:Int)))-(1:Int)))+(1:Int))) (Nat.cast (List.length a0_0):Int)) < (Nat.cast (List.length a0_0):Int))))then bif (a1 == (0:Int))then none
    else some (n56 ((Int.tmod (wrap Go.IntKind.i64 ((wrap Go.IntKind.i64 ((wrap Go.IntKind.i64 ((wrap Go.IntKind.i64 ((wrap Go.IntKind.i64 (List.getD a0_0 (Int.toNat (Int.tmod (wrap Go.IntKind.i64 ((wrap Go.IntKind.i64 (a0_1+(1:Int)))-(1:Int))) (Nat.cast (List.length a0_0):Int))) (0:Int)))+(wrap Go.IntKind.i64 ((wrap Go.IntKind.i64 (Int.tdiv (wrap Go.IntKind.i64 ((wrap Go.IntKind.i64 (a0_1+(1:Int)))-(1:Int))) (Nat.cast (List.length a0_0):Int))) * (37:Int))))) * (251:Int)))+(wrap Go.IntKind.i64 ((wrap Go.IntKind.i64 (List.getD a0_0 (Int.toNat (Int.tmod (wrap Go.IntKind.i64 ((wrap Go.IntKind.i64 ((wrap Go.IntKind.i64 (a0_1+(1:Int)))-(1:Int)))+(1:Int))) (Nat.cast (List.length a0_0):Int))) (0:Int))) * (13:Int)))))+(wrap Go.IntKind.i64 ((wrap Go.IntKind.i64 (a0_1+(1:Int)))-(1:Int))))) a1),a0_0,(wrap Go.IntKind.i64 (a0_1+(1:Int)))))
   else none
  else bif (a1 == (0:Int))then none
  else some (n56 ((Int.tmod (wrap Go.IntKind.i64 ((wrap Go.IntKind.i64 (List.getD a0_0 (Int.toNat (Int.tmod (wrap Go.IntKind.i64 ((wrap Go.IntKind.i64 (a0_1+(1:Int)))-(1:Int))) (Nat.cast (List.length a0_0):Int))) (0:Int)))+(wrap Go.IntKind.i64 ((wrap Go.IntKind.i64 (Int.tdiv (wrap Go.IntKind.i64 ((wrap Go.IntKind.i64 (a0_1+(1:Int)))-(1:Int))) (Nat.cast (List.length a0_0):Int))) * (37:Int))))) a1),a0_0,(wrap Go.IntKind.i64 (a0_1+(1:Int)))))
 else none:=by kernel_rfl
def g56 (L:Nat)(a0_0:(List Int))(a0_1:Int)(a1:Int):Option (Int×(List Int)×Int):=
 bif (decide (a1 < (1:Int)))then some ((0:Int),a0_0,(wrap Go.IntKind.i64 (a0_1+(1:Int))))
 else bif ((Nat.cast (List.length a0_0):Int) == (0:Int))then bif (a1 == (0:Int))then none
  else some ((Int.tmod (wrap Go.IntKind.i64 ((wrap Go.IntKind.i64 ((wrap Go.IntKind.i64 (a0_1+(1:Int)))-(1:Int))) * (7:Int))) a1),a0_0,(wrap Go.IntKind.i64 (a0_1+(1:Int))))
 else bif ((Nat.cast (List.length a0_0):Int) == (0:Int))then none
 else bif ((decide ((0:Int)<=(Int.tmod (wrap Go.IntKind.i64 ((wrap Go.IntKind.i64 (a0_1+(1:Int)))-(1:Int))) (Nat.cast (List.length a0_0):Int))))&&(decide ((Int.tmod (wrap Go.IntKind.i64 ((wrap Go.IntKind.i64 (a0_1+(1:Int)))-(1:Int))) (Nat.cast (List.length a0_0):Int)) < (Nat.cast (List.length a0_0):Int))))then bif ((Nat.cast (List.length a0_0):Int) == (0:Int))then none
  else bif (decide (a1 > (200:Int)))then bif ((Nat.cast (List.length a0_0):Int) == (0:Int))then none
   else bif ((decide ((0:Int)<=(Int.tmod (wrap Go.IntKind.i64 ((wrap Go.IntKind.i64 ((wrap Go.IntKind.i64 (a0_1+(1:Int)))-(1:Int)))+(1:Int))) (Nat.cast (List.length a0_0):Int))))&&(decide ((Int.tmod (wrap Go.IntKind.i64 ((wrap Go.IntKind.i64 ((wrap Go.IntKind.i64 (a0_1+(1:Int)))-(1:Int)))+(1:Int))) (Nat.cast (List.length a0_0):Int)) < (Nat.cast (List.length a0_0):Int))))then bif (a1 == (0:Int))then none
    else some ((Int.tmod (wrap Go.IntKind.i64 ((wrap Go.IntKind.i64 ((wrap Go.IntKind.i64 ((wrap Go.IntKind.i64 ((wrap Go.IntKind.i64 (List.getD a0_0 (Int.toNat (Int.tmod (wrap Go.IntKind.i64 ((wrap Go.IntKind.i64 (a0_1+(1:Int)))-(1:Int))) (Nat.cast (List.length a0_0):Int))) (0:Int)))+(wrap Go.IntKind.i64 ((wrap Go.IntKind.i64 (Int.tdiv (wrap Go.IntKind.i64 ((wrap Go.IntKind.i64 (a0_1+(1:Int)))-(1:Int))) (Nat.cast (List.length a0_0):Int))) * (37:Int))))) * (251:Int)))+(wrap Go.IntKind.i64 ((wrap Go.IntKind.i64 (List.getD a0_0 (Int.toNat (Int.tmod (wrap Go.IntKind.i64 ((wrap Go.IntKind.i64 ((wrap Go.IntKind.i64 (a0_1+(1:Int)))-(1:Int)))+(1:Int))) (Nat.cast (List.length a0_0):Int))) (0:Int))) * (13:Int)))))+(wrap Go.IntKind.i64 ((wrap Go.IntKind.i64 (a0_1+(1:Int)))-(1:Int))))) a1),a0_0,(wrap Go.IntKind.i64 (a0_1+(1:Int))))
   else none
  else bif (a1 == (0:Int))then none
  else some ((Int.tmod (wrap Go.IntKind.i64 ((wrap Go.IntKind.i64 (List.getD a0_0 (Int.toNat (Int.tmod (wrap Go.IntKind.i64 ((wrap Go.IntKind.i64 (a0_1+(1:Int)))-(1:Int))) (Nat.cast (List.length a0_0):Int))) (0:Int)))+(wrap Go.IntKind.i64 ((wrap Go.IntKind.i64 (Int.tdiv (wrap Go.IntKind.i64 ((wrap Go.IntKind.i64 (a0_1+(1:Int)))-(1:Int))) (Nat.cast (List.length a0_0):Int))) * (37:Int))))) a1),a0_0,(wrap Go.IntKind.i64 (a0_1+(1:Int))))
 else none
theorem e56 (L:Nat)(a0_0:(List Int))(a0_1:Int)(a1:Int):qF prog aHG (bU L) f56 (a56.enc ((a0_0,a0_1),a1))=(g56 L a0_0 a0_1 a1).map n56:=by
 rw[i56];simp only[g56,bQ,dP,iM,aF,aM]
theorem s56 (m:(((List Int)×Int)×Int)->Option (Int×(List Int)×Int))(hm:∀ (x:(((List Int)×Int)×Int)) t,m x=some t->∃ L,g56 L x.1.1 x.1.2 x.2=some t):SatP prog bH 56 (xK m).nres (xK m).F:=
 xZ dG cS (by rfl) (fn:=f56) rfl rfl a56 n56 aH3 m aHG cR cH (λL x=>g56 L x.1.1 x.1.2 x.2) (λL x=>e56 L x.1.1 x.1.2 x.2) hm
def aHF (dF:(((List Int)×Int)×Int)->Option (Int×(List Int)×Int)):Env bH:={ Kc:=fJ [],Kw:=fI [(56,xK dF)],lv:=λi=>[],xv:=λi=>none }
theorem i57 (dF:(((List Int)×Int)×Int)->Option (Int×(List Int)×Int))(L:Nat)(a0_0:(List Int))(a0_1:Int)(a1:(List Int)):qF prog (aHF dF) (bU L) f57 (a57.enc ((a0_0,a0_1),a1))=
 cB (dF ((a0_0,a0_1),(Nat.cast (List.length a1):Int))) ((0:Int),[],(0:Int)) λ(q1:(Int×(List Int)×Int))=>bif ((decide ((0:Int)<=q1.1))&&(decide (q1.1 < (Nat.cast (List.length a1):Int))))then some (n57 ((List.getD a1 (Int.toNat q1.1) (0:Int)),q1.2.1,q1.2.2))
  else none:=by kernel_rfl
def g57 (dF:(((List Int)×Int)×Int)->Option (Int×(List Int)×Int))(L:Nat)(a0_0:(List Int))(a0_1:Int)(a1:(List Int)):Option (Int×(List Int)×Int):=
 cB (dF ((a0_0,a0_1),(Nat.cast (List.length a1):Int))) ((0:Int),[],(0:Int)) λ(q1:(Int×(List Int)×Int))=>bif ((decide ((0:Int)<=q1.1))&&(decide (q1.1 < (Nat.cast (List.length a1):Int))))then some ((List.getD a1 (Int.toNat q1.1) (0:Int)),q1.2.1,q1.2.2)
  else none
theorem e57 (dF:(((List Int)×Int)×Int)->Option (Int×(List Int)×Int))(L:Nat)(a0_0:(List Int))(a0_1:Int)(a1:(List Int)):qF prog (aHF dF) (bU L) f57 (a57.enc ((a0_0,a0_1),a1))=(g57 dF L a0_0 a0_1 a1).map n57:=by
 rw[i57];simp only[g57,bQ,dP,iM,aF,aM]
theorem s57 (dF:(((List Int)×Int)×Int)->Option (Int×(List Int)×Int))(h56:SatP prog bH 56 (xK dF).nres (xK dF).F)(m:(((List Int)×Int)×(List Int))->Option (Int×(List Int)×Int))(hm:∀ (x:(((List Int)×Int)×(List Int))) t,m x=some t->∃ L,g57 dF L x.1.1 x.1.2 x.2=some t):SatP prog bH 57 (c57 m).nres (c57 m).F:=
 xZ dG cS (by rfl) (fn:=f57) rfl rfl a57 n57 aH2 m (aHF dF) cR (dC h56 cH) (λL x=>g57 dF L x.1.1 x.1.2 x.2) (λL x=>e57 dF L x.1.1 x.1.2 x.2) hm
def aHA (iT:((List Int)×Int)->Option (Int×(List Int)×Int))(eE:(((List Int)×Int)×(List Int))->Option (Int×(List Int)×Int))(dF:(((List Int)×Int)×Int)->Option (Int×(List Int)×Int))(sV:(((List Int)×Int)×Int)->Option ((List Int)×(List Int)×Int)):Env bH:={ Kc:=fJ [],Kw:=fI [(44,c44 iT),(57,c57 eE),(56,xK dF),(81,c81 sV)],lv:=λi=>[],xv:=λi=>none }
theorem i72 (iT:((List Int)×Int)->Option (Int×(List Int)×Int))(eE:(((List Int)×Int)×(List Int))->Option (Int×(List Int)×Int))(dF:(((List Int)×Int)×Int)->Option (Int×(List Int)×Int))(sV:(((List Int)×Int)×Int)->Option ((List Int)×(List Int)×Int))(L:Nat)(a0_0:(List Int))(a0_1:Int):qF prog (aHA iT eE dF sV) (bU L) f72 (a72.enc (a0_0,a0_1))=
 cB (iT (a0_0,a0_1)) ((0:Int),[],(0:Int)) λ(q1:(Int×(List Int)×Int))=>cB (iT (q1.2.1,q1.2.2)) ((0:Int),[],(0:Int)) λ(q2:(Int×(List Int)×Int))=>cB (eE ((q2.2.1,q2.2.2),(List.cons (6:Int) (List.cons (17:Int) ([]:List (Int)))))) ((0:Int),[],(0:Int)) λ(q3:(Int×(List Int)×Int))=>cB (dF ((q3.2.1,q3.2.2),(30:Int))) ((0:Int),[],(0:Int)) λ(q4:(Int×(List Int)×Int))=>cB (dF ((q4.2.1,q4.2.2),(65536:Int))) ((0:Int),[],(0:Int)) λ(q5:(Int×(List Int)×Int))=>cB (eE ((q5.2.1,q5.2.2),(List.cons (80:Int) (List.cons (443:Int) (List.cons q5.1 ([]:List (Int))))))) ((0:Int),[],(0:Int)) λ(q6:(Int×(List Int)×Int))=>cB (dF ((q6.2.1,q6.2.2),(9:Int))) ((0:Int),[],(0:Int)) λ(q7:(Int×(List Int)×Int))=>cB (sV ((q7.2.1,q7.2.2),q7.1)) ([],[],(0:Int)) λ(q8:((List Int)×(List Int)×Int))=>some (n72 (q1.1,q2.1,q3.1,(wrap Go.IntKind.i64 ((1000:Int)+q4.1)),q6.1,q8.1,q8.2.1,q8.2.2)):=by kernel_rfl
def g72 (iT:((List Int)×Int)->Option (Int×(List Int)×Int))(eE:(((List Int)×Int)×(List Int))->Option (Int×(List Int)×Int))(dF:(((List Int)×Int)×Int)->Option (Int×(List Int)×Int))(sV:(((List Int)×Int)×Int)->Option ((List Int)×(List Int)×Int))(L:Nat)(a0_0:(List Int))(a0_1:Int):Option (Int×Int×Int×Int×Int×(List Int)×(List Int)×Int):=
 cB (iT (a0_0,a0_1)) ((0:Int),[],(0:Int)) λ(q1:(Int×(List Int)×Int))=>cB (iT (q1.2.1,q1.2.2)) ((0:Int),[],(0:Int)) λ(q2:(Int×(List Int)×Int))=>cB (eE ((q2.2.1,q2.2.2),(List.cons (6:Int) (List.cons (17:Int) ([]:List (Int)))))) ((0:Int),[],(0:Int)) λ(q3:(Int×(List Int)×Int))=>cB (dF ((q3.2.1,q3.2.2),(30:Int))) ((0:Int),[],(0:Int)) λ(q4:(Int×(List Int)×Int))=>cB (dF ((q4.2.1,q4.2.2),(65536:Int))) ((0:Int),[],(0:Int)) λ(q5:(Int×(List Int)×Int))=>cB (eE ((q5.2.1,q5.2.2),(List.cons (80:Int) (List.cons (443:Int) (List.cons q5.1 ([]:List (Int))))))) ((0:Int),[],(0:Int)) λ(q6:(Int×(List Int)×Int))=>cB (dF ((q6.2.1,q6.2.2),(9:Int))) ((0:Int),[],(0:Int)) λ(q7:(Int×(List Int)×Int))=>cB (sV ((q7.2.1,q7.2.2),q7.1)) ([],[],(0:Int)) λ(q8:((List Int)×(List Int)×Int))=>some (q1.1,q2.1,q3.1,(wrap Go.IntKind.i64 ((1000:Int)+q4.1)),q6.1,q8.1,q8.2.1,q8.2.2)
theorem e72 (iT:((List Int)×Int)->Option (Int×(List Int)×Int))(eE:(((List Int)×Int)×(List Int))->Option (Int×(List Int)×Int))(dF:(((List Int)×Int)×Int)->Option (Int×(List Int)×Int))(sV:(((List Int)×Int)×Int)->Option ((List Int)×(List Int)×Int))(L:Nat)(a0_0:(List Int))(a0_1:Int):qF prog (aHA iT eE dF sV) (bU L) f72 (a72.enc (a0_0,a0_1))=(g72 iT eE dF sV L a0_0 a0_1).map n72:=by
 rw[i72];simp only[g72,bQ,dP,iM,aF,aM]
theorem s72 (iT:((List Int)×Int)->Option (Int×(List Int)×Int))(eE:(((List Int)×Int)×(List Int))->Option (Int×(List Int)×Int))(dF:(((List Int)×Int)×Int)->Option (Int×(List Int)×Int))(sV:(((List Int)×Int)×Int)->Option ((List Int)×(List Int)×Int))(h44:SatP prog bH 44 (c44 iT).nres (c44 iT).F)(h57:SatP prog bH 57 (c57 eE).nres (c57 eE).F)(h56:SatP prog bH 56 (xK dF).nres (xK dF).F)(h81:SatP prog bH 81 (c81 sV).nres (c81 sV).F)(m:((List Int)×Int)->Option (Int×Int×Int×Int×Int×(List Int)×(List Int)×Int))(hm:∀ (x:((List Int)×Int)) t,m x=some t->∃ L,g72 iT eE dF sV L x.1 x.2=some t):SatP prog bH 72 (c72 m).nres (c72 m).F:=
 xZ dG cS (by rfl) (fn:=f72) rfl rfl a72 n72 aH0 m (aHA iT eE dF sV) cR (dC h44 (dC h57 (dC h56 (dC h81 cH)))) (λL x=>g72 iT eE dF sV L x.1 x.2) (λL x=>e72 iT eE dF sV L x.1 x.2) hm
def tV (dF:(((List Int)×Int)×Int)->Option (Int×(List Int)×Int))(eE:(((List Int)×Int)×(List Int))->Option (Int×(List Int)×Int)):Env bH:={ Kc:=fJ [],Kw:=fI [(56,xK dF),(57,c57 eE)],lv:=λi=>if i=0 then[(0,[some 5,none]),(1,[]),(5,[some 5])]else[],xv:=λi=>if i=0 then some [(0,[some 5,none]),(5,[some 5])]else none }
def S81_0 (a0_0:(List Int))(a0_1:Int)(a1:Int)(v0_0_0:(List Int))(v0_0_1:Int)(v0_1:Int)(v0_5:(List Int)):St bH.ty:={ slots:=[(.inr (.inr { kind:=0,nm:=0,cells:=[(ls { own:=0,nm:=0,e:=5,o:=false,xs:=v0_0_0 }),(lv (.int .i64 v0_0_1))],s:={ own:=0,nm:=0,e:=0,o:=false,xs:=([]:List (PUnit)) },i:=0,off:=0 })),(.inl (.inl (lv (.int .i64 v0_1)))),aP,aP,aP,(.inl (.inl (ls { own:=1,nm:=320,e:=5,o:=true,xs:=v0_5 })))]++List.replicate 17 aP,D:=[],F:=[],ctr:=1,lo:=1 }
def X81_0 (a0_0:(List Int))(a0_1:Int)(a1:Int)(w0_0_0:(List Int))(w0_0_1:Int)(w0_5:(List Int)):St bH.ty:={ slots:=[(.inr (.inr { kind:=0,nm:=0,cells:=[(ls { own:=0,nm:=0,e:=5,o:=false,xs:=w0_0_0 }),(lv (.int .i64 w0_0_1))],s:={ own:=0,nm:=0,e:=0,o:=false,xs:=([]:List (PUnit)) },i:=0,off:=0 })),aP,aP,aP,aP,(.inl (.inl (ls { own:=1,nm:=320,e:=5,o:=true,xs:=w0_5 })))]++List.replicate 17 aP,D:=[],F:=[],ctr:=1,lo:=1 }
theorem i81 (dF:(((List Int)×Int)×Int)->Option (Int×(List Int)×Int))(eE:(((List Int)×Int)×(List Int))->Option (Int×(List Int)×Int))(L:Nat)(a0_0:(List Int))(a0_1:Int)(a1:Int):qF prog (tV dF eE) (bU L) f81 (a81.enc ((a0_0,a0_1),a1))=
 eL prog (tV dF eE) L f81 0 [1,1,0,0,0] (eK (sA prog f81) (gC prog (tV dF eE) L f81 [1,1,0] (sA prog f81)).n (gC prog (tV dF eE) L f81 [1,1,0] (sA prog f81)).x) L (S81_0 a0_0 a0_1 a1 a0_0 a0_1 a1 ([]:List (Int))):=by kernel_rfl
theorem aJf (dF:(((List Int)×Int)×Int)->Option (Int×(List Int)×Int))(eE:(((List Int)×Int)×(List Int))->Option (Int×(List Int)×Int))(L:Nat)(a0_0:(List Int))(a0_1:Int)(a1:Int)(k:St bH.ty->Option (List (A bH.ty)))(xk:Nat->St bH.ty->Option (List (A bH.ty)))(g:St bH.ty->Option (List (A bH.ty)))(v0_0_0:(List Int))(v0_0_1:Int)(v0_1:Int)(v0_5:(List Int)):lA prog (tV dF eE) L f81 0 [1,1,0,0,0] (eK (sA prog f81) k xk) g (S81_0 a0_0 a0_1 a1 v0_0_0 v0_0_1 v0_1 v0_5)=
 bif (decide (v0_1 > (0:Int)))then cB (dF ((v0_0_0,v0_0_1),(256:Int))) ((0:Int),[],(0:Int)) λ(q2:(Int×(List Int)×Int))=>cB (dF ((q2.2.1,q2.2.2),(256:Int))) ((0:Int),[],(0:Int)) λ(q3:(Int×(List Int)×Int))=>cB (eE ((q3.2.1,q3.2.2),(List.cons q2.1 (List.cons q3.1 (List.cons (0:Int) (List.cons (255:Int) ([]:List (Int)))))))) ((0:Int),[],(0:Int)) λ(q4:(Int×(List Int)×Int))=>bif (decide (((List.length v0_5)+(List.length (List.cons (wrap Go.IntKind.u8 q4.1) ([]:List (Int)))))<=(1000000000:Nat)))then g (S81_0 a0_0 a0_1 a1 q4.2.1 q4.2.2 (wrap Go.IntKind.i64 (v0_1-(1:Int))) (v0_5++(List.cons (wrap Go.IntKind.u8 q4.1) ([]:List (Int)))))
     else none
 else k (X81_0 a0_0 a0_1 a1 v0_0_0 v0_0_1 v0_5):=by kernel_rfl
theorem aIH (dF:(((List Int)×Int)×Int)->Option (Int×(List Int)×Int))(eE:(((List Int)×Int)×(List Int))->Option (Int×(List Int)×Int))(L:Nat)(a0_0:(List Int))(a0_1:Int)(a1:Int)(w0_0_0:(List Int))(w0_0_1:Int)(w0_5:(List Int)):(gC prog (tV dF eE) L f81 [1,1,0] (sA prog f81)).n (X81_0 a0_0 a0_1 a1 w0_0_0 w0_0_1 w0_5)=
 some (n81 (w0_5,w0_0_0,w0_0_1)):=by kernel_rfl
def sZ (dF:(((List Int)×Int)×Int)->Option (Int×(List Int)×Int))(eE:(((List Int)×Int)×(List Int))->Option (Int×(List Int)×Int))(L:Nat)(a0_0:(List Int))(a0_1:Int)(a1:Int):Nat->(List Int)->Int->Int->(List Int)->((List Int)->Int->(List Int)->Option ((List Int)×(List Int)×Int))->Option ((List Int)×(List Int)×Int)
 | 0,_,_,_,_,_=>none
 | n+1,v0_0_0,v0_0_1,v0_1,v0_5,k=>
  bif (decide (v0_1 > (0:Int)))then cB (dF ((v0_0_0,v0_0_1),(256:Int))) ((0:Int),[],(0:Int)) λ(q3:(Int×(List Int)×Int))=>cB (dF ((q3.2.1,q3.2.2),(256:Int))) ((0:Int),[],(0:Int)) λ(q4:(Int×(List Int)×Int))=>cB (eE ((q4.2.1,q4.2.2),(List.cons q3.1 (List.cons q4.1 (List.cons (0:Int) (List.cons (255:Int) ([]:List (Int)))))))) ((0:Int),[],(0:Int)) λ(q5:(Int×(List Int)×Int))=>bif (decide (((List.length v0_5)+(List.length (List.cons (wrap Go.IntKind.u8 q5.1) ([]:List (Int)))))<=(1000000000:Nat)))then sZ dF eE L a0_0 a0_1 a1 n q5.2.1 q5.2.2 (wrap Go.IntKind.i64 (v0_1-(1:Int))) (v0_5++(List.cons (wrap Go.IntKind.u8 q5.1) ([]:List (Int)))) k
      else none
  else k v0_0_0 v0_0_1 v0_5
theorem aGz (dF:(((List Int)×Int)×Int)->Option (Int×(List Int)×Int))(eE:(((List Int)×Int)×(List Int))->Option (Int×(List Int)×Int))(L:Nat)(a0_0:(List Int))(a0_1:Int)(a1:Int)(k:St bH.ty->Option (List (A bH.ty)))(xk:Nat->St bH.ty->Option (List (A bH.ty)))(k':(List Int)->Int->(List Int)->Option ((List Int)×(List Int)×Int))(hk:∀ (w0_0_0:(List Int)) (w0_0_1:Int) (w0_5:(List Int)),k (X81_0 a0_0 a0_1 a1 w0_0_0 w0_0_1 w0_5)=(k' w0_0_0 w0_0_1 w0_5).map n81):∀ (n:Nat) (v0_0_0:(List Int)) (v0_0_1:Int) (v0_1:Int) (v0_5:(List Int)),eL prog (tV dF eE) L f81 0 [1,1,0,0,0] (eK (sA prog f81) k xk) n (S81_0 a0_0 a0_1 a1 v0_0_0 v0_0_1 v0_1 v0_5)=(sZ dF eE L a0_0 a0_1 a1 n v0_0_0 v0_0_1 v0_1 v0_5 k').map n81
 | 0,_,_,_,_=>rfl
 | n+1,v0_0_0,v0_0_1,v0_1,v0_5=>by
  rw[fE,aJf];have ih:=aGz dF eE L a0_0 a0_1 a1 k xk k' hk n;simp only[sZ,bQ,dP,iM,aF,aM,ih,hk]
def g81 (dF:(((List Int)×Int)×Int)->Option (Int×(List Int)×Int))(eE:(((List Int)×Int)×(List Int))->Option (Int×(List Int)×Int))(L:Nat)(a0_0:(List Int))(a0_1:Int)(a1:Int):Option ((List Int)×(List Int)×Int):=
 sZ dF eE L a0_0 a0_1 a1 L a0_0 a0_1 a1 ([]:List (Int)) (λ(w0_0_0:(List Int)) (w0_0_1:Int) (w0_5:(List Int))=>some (w0_5,w0_0_0,w0_0_1))
theorem e81 (dF:(((List Int)×Int)×Int)->Option (Int×(List Int)×Int))(eE:(((List Int)×Int)×(List Int))->Option (Int×(List Int)×Int))(L:Nat)(a0_0:(List Int))(a0_1:Int)(a1:Int):qF prog (tV dF eE) (bU L) f81 (a81.enc ((a0_0,a0_1),a1))=(g81 dF eE L a0_0 a0_1 a1).map n81:=by
 let K'0:(List Int)->Int->(List Int)->Option ((List Int)×(List Int)×Int):=(λ(w0_0_0:(List Int)) (w0_0_1:Int) (w0_5:(List Int))=>some (w0_5,w0_0_0,w0_0_1))
 have hin0:∀ (v0_0_0:(List Int)) (v0_0_1:Int) (v0_1:Int) (v0_5:(List Int)),eL prog (tV dF eE) L f81 0 [1,1,0,0,0] (eK (sA prog f81) (gC prog (tV dF eE) L f81 [1,1,0] (sA prog f81)).n (gC prog (tV dF eE) L f81 [1,1,0] (sA prog f81)).x) L (S81_0 a0_0 a0_1 a1 v0_0_0 v0_0_1 v0_1 v0_5)=(sZ dF eE L a0_0 a0_1 a1 L v0_0_0 v0_0_1 v0_1 v0_5 K'0).map n81:=λv0_0_0 v0_0_1 v0_1 v0_5=>aGz dF eE L a0_0 a0_1 a1 _ _ K'0 (λw0_0_0 w0_0_1 w0_5=>by rw[aIH];simp only[K'0,bQ,dP,iM,aF,aM]) L v0_0_0 v0_0_1 v0_1 v0_5
 rw[i81];simp only[g81,bQ,dP,iM,aF,aM,hin0,K'0]
theorem s81 (dF:(((List Int)×Int)×Int)->Option (Int×(List Int)×Int))(eE:(((List Int)×Int)×(List Int))->Option (Int×(List Int)×Int))(h56:SatP prog bH 56 (xK dF).nres (xK dF).F)(h57:SatP prog bH 57 (c57 eE).nres (c57 eE).F)(m:(((List Int)×Int)×Int)->Option ((List Int)×(List Int)×Int))(hm:∀ (x:(((List Int)×Int)×Int)) t,m x=some t->∃ L,g81 dF eE L x.1.1 x.1.2 x.2=some t):SatP prog bH 81 (c81 m).nres (c81 m).F:=
 xZ dG cS (by rfl) (fn:=f81) rfl rfl a81 n81 aJ5 m (tV dF eE) cR (dC h56 (dC h57 cH)) (λL x=>g81 dF eE L x.1.1 x.1.2 x.2) (λL x=>e81 dF eE L x.1.1 x.1.2 x.2) hm
def aHR (xH:(List Int)->Option ((List Int)×Int))(oF:((List Int)×Int)->Option ((List Int)×(List Int)×Int))(pI:(((List Int)×Int)×Int)->Option (Bool×(List Int)×Int))(dF:(((List Int)×Int)×Int)->Option (Int×(List Int)×Int))(iT:((List Int)×Int)->Option (Int×(List Int)×Int))(eE:(((List Int)×Int)×(List Int))->Option (Int×(List Int)×Int)):Env bH:={ Kc:=fJ [],Kw:=fI [(41,c41 xH),(45,c45 oF),(55,c55 pI),(56,xK dF),(44,c44 iT),(57,c57 eE)],lv:=λi=>[],xv:=λi=>none }
theorem i15 (xH:(List Int)->Option ((List Int)×Int))(oF:((List Int)×Int)->Option ((List Int)×(List Int)×Int))(pI:(((List Int)×Int)×Int)->Option (Bool×(List Int)×Int))(dF:(((List Int)×Int)×Int)->Option (Int×(List Int)×Int))(iT:((List Int)×Int)->Option (Int×(List Int)×Int))(eE:(((List Int)×Int)×(List Int))->Option (Int×(List Int)×Int))(L:Nat)(a0:(List Int)):iK prog (aHR xH oF pI dF iT eE) (bU L) f15 (a15.enc a0)=
 cB (xH a0) ([],(0:Int)) λ(q1:((List Int)×Int))=>cB (oF (q1.1,q1.2)) ([],[],(0:Int)) λ(q2:((List Int)×(List Int)×Int))=>cB (pI ((q2.2.1,q2.2.2),(20:Int))) (false,[],(0:Int)) λ(q3:(Bool×(List Int)×Int))=>bif q3.1 then cB (dF ((q3.2.1,q3.2.2),(2:Int))) ((0:Int),[],(0:Int)) λ(q5:(Int×(List Int)×Int))=>bif (((decide ((0:Int)<=(wrap Go.IntKind.i64 ((230:Int)+q5.1))))&&(decide ((wrap Go.IntKind.i64 ((230:Int)+q5.1))<=(wrap Go.IntKind.i64 ((230:Int)+q5.1)))))&&(decide ((wrap Go.IntKind.i64 ((230:Int)+q5.1))<=(1000000000:Int))))then cB (iT (q5.2.1,q5.2.2)) ((0:Int),[],(0:Int)) λ(q7:(Int×(List Int)×Int))=>cB (eE ((q7.2.1,q7.2.2),(List.cons q7.1 (List.cons (9:Int) (List.cons (-(1:Int)) ([]:List (Int))))))) ((0:Int),[],(0:Int)) λ(q8:(Int×(List Int)×Int))=>cB (iT (q8.2.1,q8.2.2)) ((0:Int),[],(0:Int)) λ(q9:(Int×(List Int)×Int))=>cB (eE ((q9.2.1,q9.2.2),(List.cons q9.1 (List.cons (9:Int) (List.cons (4294967296:Int) ([]:List (Int))))))) ((0:Int),[],(0:Int)) λ(q10:(Int×(List Int)×Int))=>some (n15 (q8.1,q10.1,(List.replicate (Int.toNat (wrap Go.IntKind.i64 ((230:Int)+q5.1))) (0:Int))))
      else none
    else cB (iT (q3.2.1,q3.2.2)) ((0:Int),[],(0:Int)) λ(q4:(Int×(List Int)×Int))=>cB (eE ((q4.2.1,q4.2.2),(List.cons q4.1 (List.cons (9:Int) (List.cons (-(1:Int)) ([]:List (Int))))))) ((0:Int),[],(0:Int)) λ(q5:(Int×(List Int)×Int))=>cB (iT (q5.2.1,q5.2.2)) ((0:Int),[],(0:Int)) λ(q6:(Int×(List Int)×Int))=>cB (eE ((q6.2.1,q6.2.2),(List.cons q6.1 (List.cons (9:Int) (List.cons (4294967296:Int) ([]:List (Int))))))) ((0:Int),[],(0:Int)) λ(q7:(Int×(List Int)×Int))=>some (n15 (q5.1,q7.1,q2.1)):=by kernel_rfl
def g15 (xH:(List Int)->Option ((List Int)×Int))(oF:((List Int)×Int)->Option ((List Int)×(List Int)×Int))(pI:(((List Int)×Int)×Int)->Option (Bool×(List Int)×Int))(dF:(((List Int)×Int)×Int)->Option (Int×(List Int)×Int))(iT:((List Int)×Int)->Option (Int×(List Int)×Int))(eE:(((List Int)×Int)×(List Int))->Option (Int×(List Int)×Int))(L:Nat)(a0:(List Int)):Option (Int×Int×(List Int)):=
 cB (xH a0) ([],(0:Int)) λ(q1:((List Int)×Int))=>cB (oF (q1.1,q1.2)) ([],[],(0:Int)) λ(q2:((List Int)×(List Int)×Int))=>cB (pI ((q2.2.1,q2.2.2),(20:Int))) (false,[],(0:Int)) λ(q3:(Bool×(List Int)×Int))=>bif q3.1 then cB (dF ((q3.2.1,q3.2.2),(2:Int))) ((0:Int),[],(0:Int)) λ(q5:(Int×(List Int)×Int))=>bif (((decide ((0:Int)<=(wrap Go.IntKind.i64 ((230:Int)+q5.1))))&&(decide ((wrap Go.IntKind.i64 ((230:Int)+q5.1))<=(wrap Go.IntKind.i64 ((230:Int)+q5.1)))))&&(decide ((wrap Go.IntKind.i64 ((230:Int)+q5.1))<=(1000000000:Int))))then cB (iT (q5.2.1,q5.2.2)) ((0:Int),[],(0:Int)) λ(q7:(Int×(List Int)×Int))=>cB (eE ((q7.2.1,q7.2.2),(List.cons q7.1 (List.cons (9:Int) (List.cons (-(1:Int)) ([]:List (Int))))))) ((0:Int),[],(0:Int)) λ(q8:(Int×(List Int)×Int))=>cB (iT (q8.2.1,q8.2.2)) ((0:Int),[],(0:Int)) λ(q9:(Int×(List Int)×Int))=>cB (eE ((q9.2.1,q9.2.2),(List.cons q9.1 (List.cons (9:Int) (List.cons (4294967296:Int) ([]:List (Int))))))) ((0:Int),[],(0:Int)) λ(q10:(Int×(List Int)×Int))=>some (q8.1,q10.1,(List.replicate (Int.toNat (wrap Go.IntKind.i64 ((230:Int)+q5.1))) (0:Int)))
      else none
    else cB (iT (q3.2.1,q3.2.2)) ((0:Int),[],(0:Int)) λ(q4:(Int×(List Int)×Int))=>cB (eE ((q4.2.1,q4.2.2),(List.cons q4.1 (List.cons (9:Int) (List.cons (-(1:Int)) ([]:List (Int))))))) ((0:Int),[],(0:Int)) λ(q5:(Int×(List Int)×Int))=>cB (iT (q5.2.1,q5.2.2)) ((0:Int),[],(0:Int)) λ(q6:(Int×(List Int)×Int))=>cB (eE ((q6.2.1,q6.2.2),(List.cons q6.1 (List.cons (9:Int) (List.cons (4294967296:Int) ([]:List (Int))))))) ((0:Int),[],(0:Int)) λ(q7:(Int×(List Int)×Int))=>some (q5.1,q7.1,q2.1)
theorem e15 (xH:(List Int)->Option ((List Int)×Int))(oF:((List Int)×Int)->Option ((List Int)×(List Int)×Int))(pI:(((List Int)×Int)×Int)->Option (Bool×(List Int)×Int))(dF:(((List Int)×Int)×Int)->Option (Int×(List Int)×Int))(iT:((List Int)×Int)->Option (Int×(List Int)×Int))(eE:(((List Int)×Int)×(List Int))->Option (Int×(List Int)×Int))(L:Nat)(a0:(List Int)):iK prog (aHR xH oF pI dF iT eE) (bU L) f15 (a15.enc a0)=(g15 xH oF pI dF iT eE L a0).map n15:=by
 rw[i15];simp only[g15,bQ,dP,iM,aF,aM]
theorem s15 (xH:(List Int)->Option ((List Int)×Int))(oF:((List Int)×Int)->Option ((List Int)×(List Int)×Int))(pI:(((List Int)×Int)×Int)->Option (Bool×(List Int)×Int))(dF:(((List Int)×Int)×Int)->Option (Int×(List Int)×Int))(iT:((List Int)×Int)->Option (Int×(List Int)×Int))(eE:(((List Int)×Int)×(List Int))->Option (Int×(List Int)×Int))(h41:SatN prog bH 41 (c41 xH).F)(h45:SatP prog bH 45 (c45 oF).nres (c45 oF).F)(h55:SatP prog bH 55 (c55 pI).nres (c55 pI).F)(h56:SatP prog bH 56 (xK dF).nres (xK dF).F)(h44:SatP prog bH 44 (c44 iT).nres (c44 iT).F)(h57:SatP prog bH 57 (c57 eE).nres (c57 eE).F)(m:(List Int)->Option (Int×Int×(List Int)))(hm:∀ (x:(List Int)) t,m x=some t->∃ L,g15 xH oF pI dF iT eE L x=some t):Sat prog bH 15 (c15 m):=
 fN dG cS (by rfl) (fn:=f15) rfl a15 n15 aKn m (aHR xH oF pI dF iT eE) cR (dC h41 (dC h45 (dC h55 (dC h56 (dC h44 (dC h57 cH)))))) (λL x=>g15 xH oF pI dF iT eE L x) (λL x=>e15 xH oF pI dF iT eE L x) hm aLT
def ev3 (yT:(List Int)->Option Bool)(xJ:(List Int)->Option (List Int))(m12:(List Int)->Option (Int×Int×Int×(List Int)))(m13:(List Int)->Option (Int×Int×Int×(List Int)))(m14:(Int×Int×(List Int))->Option (Int×(List Int)))(rR:(List Int)->Option (Int×Int×(List Int)))(m16:(Int×Int×(List Int))->Option (Int×(List Int))):Env bH:={ Kc:=fJ [(10,c10 yT),(11,c11 xJ),(12,c12 m12),(13,c13 m13),(14,c14 m14),(15,c15 rR),(16,c16 m16)],Kw:=fI [],lv:=λi=>[],xv:=λi=>none }
theorem i3 (yT:(List Int)->Option Bool)(xJ:(List Int)->Option (List Int))(m12:(List Int)->Option (Int×Int×Int×(List Int)))(m13:(List Int)->Option (Int×Int×Int×(List Int)))(m14:(Int×Int×(List Int))->Option (Int×(List Int)))(rR:(List Int)->Option (Int×Int×(List Int)))(m16:(Int×Int×(List Int))->Option (Int×(List Int)))(L:Nat)(a0:(List Int)):iK prog (ev3 yT xJ m12 m13 m14 rR m16) (bU L) f3 (a3.enc a0)=
 cB (yT a0) false λ(q1:Bool)=>bif q1 then some (n3 Bool.true)
  else cB (xJ a0) [] λ(q2:(List Int))=>cB (m12 q2) ((0:Int),(0:Int),(0:Int),[]) λ(q3:(Int×Int×Int×(List Int)))=>bif (q3.1 != (0:Int))then cB (m13 q2) ((0:Int),(0:Int),(0:Int),[]) λ(q5:(Int×Int×Int×(List Int)))=>bif (q5.1 != q3.1)then some (n3 Bool.false)
      else bif (q3.1 == (0:Int))then cB (m14 (q3.2.1,(q3.2.2.1,q3.2.2.2))) ((0:Int),[]) λ(q7:(Int×(List Int)))=>bif (!((ByteArray.toList (fY (aR bH (5:Nat) q7.2))) == (ByteArray.toList (fY (aR bH (5:Nat) q2)))))then some (n3 Bool.false)
        else cB (rR a0) ((0:Int),(0:Int),[]) λ(q8:(Int×Int×(List Int)))=>cB (m14 (q8.1,(q8.2.1,q8.2.2))) ((0:Int),[]) λ(q9:(Int×(List Int)))=>bif (q9.1 != (0:Int))then cB (m16 (q8.1,(q8.2.1,q8.2.2))) ((0:Int),[]) λ(q11:(Int×(List Int)))=>some (n3 (q11.1 == q9.1))
          else cB (m12 q9.2) ((0:Int),(0:Int),(0:Int),[]) λ(q10:(Int×Int×Int×(List Int)))=>bif (q10.1 == (0:Int))then bif (q10.2.1 == q8.1)then bif (q10.2.2.1 == q8.2.1)then bif ((ByteArray.toList (fY (aR bH (5:Nat) q10.2.2.2))) == (ByteArray.toList (fY (aR bH (5:Nat) q8.2.2))))then some (n3 ((Nat.cast (List.length q9.2):Int) == (wrap Go.IntKind.i64 ((24:Int)+(Nat.cast (List.length q8.2.2):Int)))))
              else some (n3 Bool.false)
             else some (n3 Bool.false)
            else some (n3 Bool.false)
           else some (n3 Bool.false)
      else cB (rR a0) ((0:Int),(0:Int),[]) λ(q6:(Int×Int×(List Int)))=>cB (m14 (q6.1,(q6.2.1,q6.2.2))) ((0:Int),[]) λ(q7:(Int×(List Int)))=>bif (q7.1 != (0:Int))then cB (m16 (q6.1,(q6.2.1,q6.2.2))) ((0:Int),[]) λ(q9:(Int×(List Int)))=>some (n3 (q9.1 == q7.1))
        else cB (m12 q7.2) ((0:Int),(0:Int),(0:Int),[]) λ(q8:(Int×Int×Int×(List Int)))=>bif (q8.1 == (0:Int))then bif (q8.2.1 == q6.1)then bif (q8.2.2.1 == q6.2.1)then bif ((ByteArray.toList (fY (aR bH (5:Nat) q8.2.2.2))) == (ByteArray.toList (fY (aR bH (5:Nat) q6.2.2))))then some (n3 ((Nat.cast (List.length q7.2):Int) == (wrap Go.IntKind.i64 ((24:Int)+(Nat.cast (List.length q6.2.2):Int)))))
            else some (n3 Bool.false)
           else some (n3 Bool.false)
          else some (n3 Bool.false)
         else some (n3 Bool.false)
    else bif (q3.1 == (0:Int))then cB (m14 (q3.2.1,(q3.2.2.1,q3.2.2.2))) ((0:Int),[]) λ(q5:(Int×(List Int)))=>bif (!((ByteArray.toList (fY (aR bH (5:Nat) q5.2))) == (ByteArray.toList (fY (aR bH (5:Nat) q2)))))then some (n3 Bool.false)
      else cB (rR a0) ((0:Int),(0:Int),[]) λ(q6:(Int×Int×(List Int)))=>cB (m14 (q6.1,(q6.2.1,q6.2.2))) ((0:Int),[]) λ(q7:(Int×(List Int)))=>bif (q7.1 != (0:Int))then cB (m16 (q6.1,(q6.2.1,q6.2.2))) ((0:Int),[]) λ(q9:(Int×(List Int)))=>some (n3 (q9.1 == q7.1))
        else cB (m12 q7.2) ((0:Int),(0:Int),(0:Int),[]) λ(q8:(Int×Int×Int×(List Int)))=>bif (q8.1 == (0:Int))then bif (q8.2.1 == q6.1)then bif (q8.2.2.1 == q6.2.1)then bif ((ByteArray.toList (fY (aR bH (5:Nat) q8.2.2.2))) == (ByteArray.toList (fY (aR bH (5:Nat) q6.2.2))))then some (n3 ((Nat.cast (List.length q7.2):Int) == (wrap Go.IntKind.i64 ((24:Int)+(Nat.cast (List.length q6.2.2):Int)))))
            else some (n3 Bool.false)
           else some (n3 Bool.false)
          else some (n3 Bool.false)
         else some (n3 Bool.false)
    else cB (rR a0) ((0:Int),(0:Int),[]) λ(q4:(Int×Int×(List Int)))=>cB (m14 (q4.1,(q4.2.1,q4.2.2))) ((0:Int),[]) λ(q5:(Int×(List Int)))=>bif (q5.1 != (0:Int))then cB (m16 (q4.1,(q4.2.1,q4.2.2))) ((0:Int),[]) λ(q7:(Int×(List Int)))=>some (n3 (q7.1 == q5.1))
      else cB (m12 q5.2) ((0:Int),(0:Int),(0:Int),[]) λ(q6:(Int×Int×Int×(List Int)))=>bif (q6.1 == (0:Int))then bif (q6.2.1 == q4.1)then bif (q6.2.2.1 == q4.2.1)then bif ((ByteArray.toList (fY (aR bH (5:Nat) q6.2.2.2))) == (ByteArray.toList (fY (aR bH (5:Nat) q4.2.2))))then some (n3 ((Nat.cast (List.length q5.2):Int) == (wrap Go.IntKind.i64 ((24:Int)+(Nat.cast (List.length q4.2.2):Int)))))
          else some (n3 Bool.false)
         else some (n3 Bool.false)
        else some (n3 Bool.false)
       else some (n3 Bool.false):=by kernel_rfl
def g3 (yT:(List Int)->Option Bool)(xJ:(List Int)->Option (List Int))(m12:(List Int)->Option (Int×Int×Int×(List Int)))(m13:(List Int)->Option (Int×Int×Int×(List Int)))(m14:(Int×Int×(List Int))->Option (Int×(List Int)))(rR:(List Int)->Option (Int×Int×(List Int)))(m16:(Int×Int×(List Int))->Option (Int×(List Int)))(L:Nat)(a0:(List Int)):Option Bool:=
 cB (yT a0) false λ(q1:Bool)=>bif q1 then some Bool.true
  else cB (xJ a0) [] λ(q2:(List Int))=>cB (m12 q2) ((0:Int),(0:Int),(0:Int),[]) λ(q3:(Int×Int×Int×(List Int)))=>bif (q3.1 != (0:Int))then cB (m13 q2) ((0:Int),(0:Int),(0:Int),[]) λ(q5:(Int×Int×Int×(List Int)))=>bif (q5.1 != q3.1)then some Bool.false
      else bif (q3.1 == (0:Int))then cB (m14 (q3.2.1,(q3.2.2.1,q3.2.2.2))) ((0:Int),[]) λ(q7:(Int×(List Int)))=>bif (!((ByteArray.toList (fY (aR bH (5:Nat) q7.2))) == (ByteArray.toList (fY (aR bH (5:Nat) q2)))))then some Bool.false
        else cB (rR a0) ((0:Int),(0:Int),[]) λ(q8:(Int×Int×(List Int)))=>cB (m14 (q8.1,(q8.2.1,q8.2.2))) ((0:Int),[]) λ(q9:(Int×(List Int)))=>bif (q9.1 != (0:Int))then cB (m16 (q8.1,(q8.2.1,q8.2.2))) ((0:Int),[]) λ(q11:(Int×(List Int)))=>some (q11.1 == q9.1)
          else cB (m12 q9.2) ((0:Int),(0:Int),(0:Int),[]) λ(q10:(Int×Int×Int×(List Int)))=>bif (q10.1 == (0:Int))then bif (q10.2.1 == q8.1)then bif (q10.2.2.1 == q8.2.1)then bif ((ByteArray.toList (fY (aR bH (5:Nat) q10.2.2.2))) == (ByteArray.toList (fY (aR bH (5:Nat) q8.2.2))))then some ((Nat.cast (List.length q9.2):Int) == (wrap Go.IntKind.i64 ((24:Int)+(Nat.cast (List.length q8.2.2):Int))))
              else some Bool.false
             else some Bool.false
            else some Bool.false
           else some Bool.false
      else cB (rR a0) ((0:Int),(0:Int),[]) λ(q6:(Int×Int×(List Int)))=>cB (m14 (q6.1,(q6.2.1,q6.2.2))) ((0:Int),[]) λ(q7:(Int×(List Int)))=>bif (q7.1 != (0:Int))then cB (m16 (q6.1,(q6.2.1,q6.2.2))) ((0:Int),[]) λ(q9:(Int×(List Int)))=>some (q9.1 == q7.1)
        else cB (m12 q7.2) ((0:Int),(0:Int),(0:Int),[]) λ(q8:(Int×Int×Int×(List Int)))=>bif (q8.1 == (0:Int))then bif (q8.2.1 == q6.1)then bif (q8.2.2.1 == q6.2.1)then bif ((ByteArray.toList (fY (aR bH (5:Nat) q8.2.2.2))) == (ByteArray.toList (fY (aR bH (5:Nat) q6.2.2))))then some ((Nat.cast (List.length q7.2):Int) == (wrap Go.IntKind.i64 ((24:Int)+(Nat.cast (List.length q6.2.2):Int))))
            else some Bool.false
           else some Bool.false
          else some Bool.false
         else some Bool.false
    else bif (q3.1 == (0:Int))then cB (m14 (q3.2.1,(q3.2.2.1,q3.2.2.2))) ((0:Int),[]) λ(q5:(Int×(List Int)))=>bif (!((ByteArray.toList (fY (aR bH (5:Nat) q5.2))) == (ByteArray.toList (fY (aR bH (5:Nat) q2)))))then some Bool.false
      else cB (rR a0) ((0:Int),(0:Int),[]) λ(q6:(Int×Int×(List Int)))=>cB (m14 (q6.1,(q6.2.1,q6.2.2))) ((0:Int),[]) λ(q7:(Int×(List Int)))=>bif (q7.1 != (0:Int))then cB (m16 (q6.1,(q6.2.1,q6.2.2))) ((0:Int),[]) λ(q9:(Int×(List Int)))=>some (q9.1 == q7.1)
        else cB (m12 q7.2) ((0:Int),(0:Int),(0:Int),[]) λ(q8:(Int×Int×Int×(List Int)))=>bif (q8.1 == (0:Int))then bif (q8.2.1 == q6.1)then bif (q8.2.2.1 == q6.2.1)then bif ((ByteArray.toList (fY (aR bH (5:Nat) q8.2.2.2))) == (ByteArray.toList (fY (aR bH (5:Nat) q6.2.2))))then some ((Nat.cast (List.length q7.2):Int) == (wrap Go.IntKind.i64 ((24:Int)+(Nat.cast (List.length q6.2.2):Int))))
            else some Bool.false
           else some Bool.false
          else some Bool.false
         else some Bool.false
    else cB (rR a0) ((0:Int),(0:Int),[]) λ(q4:(Int×Int×(List Int)))=>cB (m14 (q4.1,(q4.2.1,q4.2.2))) ((0:Int),[]) λ(q5:(Int×(List Int)))=>bif (q5.1 != (0:Int))then cB (m16 (q4.1,(q4.2.1,q4.2.2))) ((0:Int),[]) λ(q7:(Int×(List Int)))=>some (q7.1 == q5.1)
      else cB (m12 q5.2) ((0:Int),(0:Int),(0:Int),[]) λ(q6:(Int×Int×Int×(List Int)))=>bif (q6.1 == (0:Int))then bif (q6.2.1 == q4.1)then bif (q6.2.2.1 == q4.2.1)then bif ((ByteArray.toList (fY (aR bH (5:Nat) q6.2.2.2))) == (ByteArray.toList (fY (aR bH (5:Nat) q4.2.2))))then some ((Nat.cast (List.length q5.2):Int) == (wrap Go.IntKind.i64 ((24:Int)+(Nat.cast (List.length q4.2.2):Int))))
          else some Bool.false
         else some Bool.false
        else some Bool.false
       else some Bool.false
theorem e3 (yT:(List Int)->Option Bool)(xJ:(List Int)->Option (List Int))(m12:(List Int)->Option (Int×Int×Int×(List Int)))(m13:(List Int)->Option (Int×Int×Int×(List Int)))(m14:(Int×Int×(List Int))->Option (Int×(List Int)))(rR:(List Int)->Option (Int×Int×(List Int)))(m16:(Int×Int×(List Int))->Option (Int×(List Int)))(L:Nat)(a0:(List Int)):iK prog (ev3 yT xJ m12 m13 m14 rR m16) (bU L) f3 (a3.enc a0)=(g3 yT xJ m12 m13 m14 rR m16 L a0).map n3:=by
 rw[i3];simp only[g3,bQ,dP,iM,aF,aM]
theorem s3 (yT:(List Int)->Option Bool)(xJ:(List Int)->Option (List Int))(m12:(List Int)->Option (Int×Int×Int×(List Int)))(m13:(List Int)->Option (Int×Int×Int×(List Int)))(m14:(Int×Int×(List Int))->Option (Int×(List Int)))(rR:(List Int)->Option (Int×Int×(List Int)))(m16:(Int×Int×(List Int))->Option (Int×(List Int)))(h10:Sat prog bH 10 (c10 yT))(h11:Sat prog bH 11 (c11 xJ))(h12:Sat prog bH 12 (c12 m12))(h13:Sat prog bH 13 (c13 m13))(h14:Sat prog bH 14 (c14 m14))(h15:Sat prog bH 15 (c15 rR))(h16:Sat prog bH 16 (c16 m16))(m:(List Int)->Option Bool)(hm:∀ (x:(List Int)) t,m x=some t->∃ L,g3 yT xJ m12 m13 m14 rR m16 L x=some t):Sat prog bH 3 (c3 m):=
 fN dG cS (by rfl) (fn:=f3) rfl a3 n3 dd3 m (ev3 yT xJ m12 m13 m14 rR m16) (bL h10 (bL h11 (bL h12 (bL h13 (bL h14 (bL h15 (bL h16 cR))))))) cH (λL x=>g3 yT xJ m12 m13 m14 rR m16 L x) (λL x=>e3 yT xJ m12 m13 m14 rR m16 L x) hm hs3
end Go.Proofs.Try
set_option maxHeartbeats 0
namespace Go.Proofs.Try
open Go.IntKind (wrap)
open Go Go.VM Go.RowKit
def aHU:Env bH:={ Kc:=fJ [],Kw:=fI [],lv:=λi=>[],xv:=λi=>none }
theorem i10 (L:Nat)(a0:(List Int)):iK prog aHU (bU L) f10 (a10.enc a0)=
 some (n10 (decide ((Nat.cast (List.length a0):Int) > (1048576:Int)))):=by kernel_rfl
def g10 (L:Nat)(a0:(List Int)):Option Bool:=
 some (decide ((Nat.cast (List.length a0):Int) > (1048576:Int)))
theorem e10 (L:Nat)(a0:(List Int)):iK prog aHU (bU L) f10 (a10.enc a0)=(g10 L a0).map n10:=by
 rw[i10];simp only[g10,bQ,dP,iM,aF,aM]
theorem s10 (m:(List Int)->Option Bool)(hm:∀ (x:(List Int)) t,m x=some t->∃ L,g10 L x=some t):Sat prog bH 10 (c10 m):=
 fN dG cS (by rfl) (fn:=f10) rfl a10 n10 aKq m aHU cR cH (λL x=>g10 L x) (λL x=>e10 L x) hm aLW
end Go.Proofs.Try
