/- A part of the proof of FnWraps: L2Rc. -/
import Derived.Test.YtaegcoihgnobiaaL2Ra
import Derived.Test.YtaegcoihgnobiaaL2Qf
set_option linter.unusedSimpArgs false
set_option linter.unusedVariables false
set_option maxHeartbeats 0
namespace Go.Proofs.Try
open Go.IntKind (wrap)
open Go Go.VM Go.RowKit
def rR (c:List Int):Option (Int×Int×List Int):=if okC c then g15 xH oF pI dF iT eE 0 c else none
theorem aI5:Sat prog bH 15 (c15 rR):=s15 xH oF pI dF iT eE aGn aGm aGg uX aCy aAR rR λx t h=>by
 unfold rR at h;split at h
 ·exact⟨0,h⟩
 ·cases h
theorem aFE (n:Nat):gE (List.replicate n (0:Int))=true:=aY.2 λx hx=>by
 rw[fS]at hx;rw[hx.2]
 rfl
theorem aHX {c:List Int}(h:okC c):∃ f t o,rR c=some (f,t,o)/\gE o=true/\o.length<=1000:=by
 have e0:rR c=g15 xH oF pI dF iT eE 0 c:=if_pos h;obtain⟨R,a2,e2,hR,hl,h1,h2⟩:=aE1 h.src (by omega);simp only at e2 h1 h2;have s2:okZ (c,a2) 1000:=okZ.at h.src (by simpa using h1) (by omega);obtain⟨q,e3⟩:=chance s2 (by omega) 20;have s3:=s2.add (k:=1) (by omega);simp only at e3 s3;rw[e0];unfold g15;rw[show xH c=some (c,0) from rfl,bA];simp only;rw[e2,bA];simp only;rw[e3,bA];simp only;cases q with
 | true=>
  obtain⟨n,e5,_,r5⟩:=nx s3 (by omega) 2;have r5:=r5 (by omega);have s4:=s3.add (k:=1) (by omega);simp only at e5 s4;obtain⟨v1,e6⟩:=oS s4 (by omega);have s5:=s4.add (k:=3) (by omega);obtain⟨w1,_,e7⟩:=pick s5 (by omega) [v1,9,-1] (by simp) (by simp);have s6:=s5.add (k:=1) (by omega);obtain⟨v2,e8⟩:=oS s6 (by omega);have s7:=s6.add (k:=3) (by omega);obtain⟨w2,_,e9⟩:=pick s7 (by omega) [v2,9,4294967296] (by simp) (by simp);simp only at e6 e7 e8 e9;rw[cond_true,e5,bA];simp only;rw[wi (show(-9223372036854775808:Int)<=230+n by omega) (by omega),dt (by omega),dt (by omega),dt (by omega)];simp only[dY,cond_true];rw[e6,bA];simp only;rw[e7,bA];simp only;rw[e8,bA];simp only;rw[e9,bA];exact⟨_,_,_,rfl,aFE _,by rw[fT];omega⟩
 | false=>
  obtain⟨v1,e6⟩:=oS s3 (by omega);have s5:=s3.add (k:=3) (by omega);obtain⟨w1,_,e7⟩:=pick s5 (by omega) [v1,9,-1] (by simp) (by simp);have s6:=s5.add (k:=1) (by omega);obtain⟨v2,e8⟩:=oS s6 (by omega);have s7:=s6.add (k:=3) (by omega);obtain⟨w2,_,e9⟩:=pick s7 (by omega) [v2,9,4294967296] (by simp) (by simp);simp only at e6 e7 e8 e9;rw[cond_false,e6,bA];simp only;rw[e7,bA];simp only;rw[e8,bA];simp only;rw[e9,bA];exact⟨_,_,_,rfl,hR,by omega⟩
theorem aA5 {v:Int}(h0:0<=v)(h1:v<=4294967295):num (jM v 4) 0=v:=by
 have e:jM v 4=[wrap .u8 (Int.fdiv v 16777216),wrap .u8 (Int.fdiv v 65536),wrap .u8 (Int.fdiv v 256),wrap .u8 (Int.fdiv v 1)]:=rfl;rw[e,jB,jB,jB,jB,uH,wbm,wbm,wbm,wbm,dN _ (by decide),dN _ (by decide),dN _ (by decide),dN _ (by decide)];omega
theorem aFS (pr f t n:Int):((gA pr f t n).drop 12).take 4=jM f 4:=rfl
theorem aFR (pr f t n:Int):((gA pr f t n).drop 16).take 4=jM t 4:=rfl
theorem aFh {f t:Int}{o:List Int}(hf:0<=f/\f<=4294967295)(ht:0<=t/\t<=4294967295)(hl:o.length<=230):uw (eP f t o)=(0,f,t,o):=by
 have hlen:=mA f t o;have e12:nb (eP f t o) 12 4=f:=by
  unfold nb;rw[<-uE (n:=20) (by omega),zG,aFS,aA5 hf.1 hf.2]
 have e16:nb (eP f t o) 16 4=t:=by
  unfold nb;rw[<-uE (n:=20) (by omega),zG,aFR,aA5 ht.1 ht.2]
 have e24:(eP f t o).drop 24=o:=by
  have h:=hM 47 f t (4+o.length);unfold eP;rw[kK (by simp only[bP,h,bT,cW];omega),List.drop_of_length_le (by simp only[bP,h,bT,cW];omega),gB]
 have hu:aAM (eP f t o):=⟨by omega,by omega,by rw[e12,e16,e24]⟩
 unfold uw;rw[if_pos hu,e12,e16,e24]
theorem aFa {a:Int}(h:¬ nX a=false):0<=a/\a<=4294967295:=by
 unfold nX at h;simpa using h
theorem aD8 (f t:Int)(o:List Int)(ho:gE o=true)(hl:o.length<=1000) :
  (cB (mWr (f,t,o)) ((0:Int),[]) λ(q5:(Int×(List Int)))=>bif (q5.1 != (0:Int))then cB (mWr (f,t,o)) ((0:Int),[]) λ(q7:(Int×(List Int)))=>some (q7.1 == q5.1)
      else cB (mUw q5.2) ((0:Int),(0:Int),(0:Int),[]) λ(q6:(Int×Int×Int×(List Int)))=>bif (q6.1 == (0:Int))then bif (q6.2.1 == f)then bif (q6.2.2.1 == t)then bif ((ByteArray.toList (fY (aR bH (5:Nat) q6.2.2.2))) == (ByteArray.toList (fY (aR bH (5:Nat) o))))then some ((Nat.cast (List.length q5.2):Int) == (wrap Go.IntKind.i64 ((24:Int)+(Nat.cast (List.length o):Int))))
          else some Bool.false
         else some Bool.false
        else some Bool.false
       else some Bool.false)=some true:=by
 have e:mWr (f,t,o)=some (qM (f,t,o)):=if_pos (by show o.length<=1000000000;omega);rw[e,bA,bA];by_cases h0:(qM (f,t,o)).1=0
 ·have hw:¬ nX f=false/\¬ nX t=false/\¬ o.length > 230/\qM (f,t,o)=(0,eP f t o):=by
   unfold qM at h0 ⊢;split at h0
   ·cases h0
   ·rename_i k1;split at h0
    ·cases h0
    ·rename_i k2;split at h0
     ·cases h0
     ·rename_i k3;exact⟨k1,k2,k3,by rw[if_neg k1,if_neg k2,if_neg k3]⟩
  obtain⟨k1,k2,k3,k4⟩:=hw;have hlen:=mA f t o;have eu:mUw (eP f t o)=some (0,f,t,o):=(if_pos ⟨uN ho,by omega⟩).trans (congrArg some (aFh (aFa k1) (aFa k2) (by omega)));rw[k4];simp only;rw[aKx rfl,cond_false,eu,bA];simp only;rw[zL _ _ ho ho];simp only[beq_self_eq_true,decide_true,cond_true,hlen];rw[wi (by omega) (by omega)];simp
 ·rw[aMA h0,cond_true];simp
def mL3 (c:List Int):Option Bool:=if gE c=true then some true else none
theorem sat3:Sat prog bH 3 (c3 mL3):=s3 yT xJ mUw mUw mWr rR mWr aJa aI9 aI8 aI7 aI6 aI5 aI4 mL3 λc x h=>by
 unfold mL3 at h;split at h
 ·rename_i hc;cases h;refine⟨0,?_⟩;unfold g3;rw[show yT c=some (decide ((c.length:Int) > 1048576)) from rfl,bA];by_cases hl:(c.length:Int) > 1048576
  ·rw[dt hl];rfl
  rw[df hl,cond_false];have hC:okC c:=⟨hc,by omega⟩
  obtain⟨R,e11,hR,hRl⟩:=aHY hC;obtain⟨f,t,o,e15,ho,hol⟩:=aHX hC;have eu:mUw R=some (uw R):=if_pos ⟨hR,by omega⟩;rw[e11,bA,eu,bA];by_cases hu:aAM R
  ·have e:uw R=(0,nb R 12 4,nb R 16 4,R.drop 24):=if_pos hu;have hdl:(R.drop 24).length<=230:=by rw[iQ];have:=hu.2.1;omega
   have hn1:=aCO (p:=12) hR;have hn2:=aCO (p:=16) hR;have ew:mWr (nb R 12 4,nb R 16 4,R.drop 24)=some (0,R):=by
    have:mWr (nb R 12 4,nb R 16 4,R.drop 24)=some (qM (nb R 12 4,nb R 16 4,R.drop 24)):=if_pos (by show(R.drop 24).length<=1000000000;omega);rw[this];unfold qM;simp only;rw[if_neg (by unfold nX;simp;omega),if_neg (by unfold nX;simp;omega),if_neg (by omega),<-hu.2.2]
   rw[e];simp only;rw[aKx rfl,cond_false,show((0:Int) == 0)=true from rfl,cond_true,ew,bA];simp only;rw[zL _ _ hR hR,dt (show R=R from rfl),fU,cond_false,e15,bA];exact aD8 f t o ho hol
  ·have e:uw R=(5,0,0,[]):=if_neg hu;rw[e];simp only;rw[show((5:Int) != 0)=true from rfl,cond_true,bA];simp only;rw[show((5:Int) != 5)=false from rfl,cond_false,show((5:Int) == 0)=false from rfl,cond_false,e15,bA];exact aD8 f t o ho hol
 ·cases h
end Go.Proofs.Try
