/- A part of the proof of FnWraps: L2Pe. -/
import Derived.Test.YtaegcoihgnobiaaL2Fd
set_option linter.unusedSimpArgs false
set_option linter.unusedVariables false
set_option maxHeartbeats 0
namespace Go.Proofs.Try
open Go.IntKind (wrap)
open Go Go.VM Go.RowKit
def nX (a:Int):Bool:=decide (0<=a/\a<=4294967295)
def eP (f t:Int)(a:List Int):List Int:=gA 47 f t (4+a.length)++[0,0,8,0]++a
theorem mA (f t:Int)(a:List Int):(eP f t a).length=24+a.length:=by simp only[eP,bP,hM,bT,cW]
def qM (x:Int×Int×List Int):Int×List Int:=if nX x.1=false then(3,[])else if nX x.2.1=false then(3,[])else if x.2.2.length > 230 then(2,[])else(0,eP x.1 x.2.1 x.2.2)
def mWr (x:Int×Int×List Int):Option (Int×List Int):=if x.2.2.length<=1000000000 then some (qM x)else none
def lL (x:Int×Int×List Int):Option (List Int):=if x.2.2.length<=100000 then some (eP x.1 x.2.1 x.2.2)else none
theorem aEf:Sat prog bH 43 (c43 lL):=s43 nA aGe lL λx t h=>by
 obtain⟨f,tt,a⟩:=x;unfold lL at h;split at h
 ·rename_i hc;simp only at hc;cases h;refine⟨0,?_⟩;unfold g43;simp only;have e1:wrap .i64 (4+(a.length:Int))=4+(a.length:Int):=by simp(disch:=omega) only[wi]
  have e71:nA (47,f,tt,4+(a.length:Int))=some (gA 47 f tt (4+a.length)):=if_pos ⟨by show(0:Int)<=4+a.length;omega,by show 4+(a.length:Int)<=1000000;omega⟩;have l1:=hM 47 f tt (4+a.length);rw[e1,e71,bA];rw[dt (by simp only[bT,cW];omega),dt (by simp only[bP,bT,cW];omega)]
  rfl
 ·cases h
theorem aI4:Sat prog bH 16 (c16 mWr):=s16 rP lL aI1 aEf mWr λx t h=>by
 obtain⟨f,tt,a⟩:=x;unfold mWr at h;split at h
 ·rename_i hc;simp only at hc;cases h;refine⟨0,?_⟩;unfold g16 qM;simp only;have e1:rP f=some (nX f):=rfl;have e2:rP tt=some (nX tt):=rfl;rw[e1,bA,e2,bA];cases nX f
  ·rfl
  ·cases nX tt
   ·rfl
   ·by_cases hl:a.length > 230
    ·rw[dt (show(a.length:Int) > 230 by omega),if_pos hl]
     rfl
    ·have e43:lL (f,tt,a)=some (eP f tt a):=if_pos (by show a.length<=100000;omega);rw[df (show ¬ (a.length:Int) > 230 by omega),if_neg hl,e43,bA]
     rfl
 ·cases h
def nR (_:Unit):Option (Int×Int×Int×Int):=some (0,0,8,0)
theorem aGi:Sat prog bH 53 (c53 nR):=s53 nR λx t h=>⟨0,h⟩
theorem aI6:Sat prog bH 14 (c14 mWr):=s14 rP nB nR mQ aI2 aGj aGi aGh mWr λx t h=>by
 obtain⟨f,tt,a⟩:=x;unfold mWr at h;split at h
 ·rename_i hc;simp only at hc;cases h;refine⟨0,?_⟩;unfold g14 qM;simp only;have e1:rP f=some (nX f):=rfl;have e2:rP tt=some (nX tt):=rfl;rw[e1,bA,e2,bA];cases hf:nX f
  ·rfl
  ·cases ht:nX tt
   ·rfl
   ·by_cases hl:a.length > 230
    ·rw[dt (show(a.length:Int) > 230 by omega),if_pos hl]
     rfl
    ·have hf':0<=f/\f<=4294967295:=by simpa[nX]using hf
     have ht':0<=tt/\tt<=4294967295:=by simpa[nX]using ht
     have e3:wrap .i64 (4+(a.length:Int))=4+(a.length:Int):=by simp(disch:=omega) only[wi]
     have e52:nB (47,f,tt,4+(a.length:Int))=some (kX (gA 47 f tt (4+a.length))):=if_pos ⟨hf',ht',by show(0:Int)<=4+a.length;omega,by show 4+(a.length:Int)<=1000000;omega⟩;have e53:nR PUnit.unit=some (0,0,8,0):=rfl;have ej:([gA 47 f tt (4+a.length),[0,0,8,0],a]:List (List Int)).flatten=eP f tt a:=by simp[eP]
     have e54:mQ [l20 (kX (gA 47 f tt (4+a.length))),[0,0,8,0],a]=some (eP f tt a):=by
      rw[zX (hM _ _ _ _),<-ej];refine if_pos ⟨by simp,?_⟩;rw[ej,mA];omega
     rw[df (show ¬ (a.length:Int) > 230 by omega),if_neg hl,e3,e52,bA,e53,bA];simp only[fU,cond_false];show cB (mQ [l20 (kX (gA 47 f tt (4+a.length))),[0,0,8,0],a]) _ _=_;rw[e54,bA]
     rfl
 ·cases h
end Go.Proofs.Try
