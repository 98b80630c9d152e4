/- A part of the proof of FnLogs: LkPf, LkPk. -/
import Derived.Test.YtlnabockdjjpbaaGreatLkPc
import Derived.Test.YtlnabockdjjpbaaGreatLkSa
set_option linter.unusedSimpArgs false
set_option linter.unusedVariables false
set_option maxHeartbeats 0
namespace Go.Proofs.Tryz
open Go Go.VM Go.RowKit
def mId (a:List En):Option (List En):=if a.length<=1000000000 then some a else none
theorem aGx {a:List En}(h:a.length<=1048576):mId a=some a:=if_pos (by show a.length<=1000000000;omega)
def sH (x:List En×Int):Option (List En):=if 0<=x.2/\x.2<=(x.1.length:Int)then some (x.1.drop x.2.toNat)else none
theorem aIb:Sat prog bL 35 (c35 sH):=s35 sH λx t h=>by
 obtain⟨a,i⟩:=x;unfold sH at h;split at h
 ·rename_i hc;cases h;refine⟨0,?_⟩;show g35 0 a i=_
  (try unfold w35);unfold g35 G35;dsimp only[oJ]
  rw[dt hc.1,dt hc.2,dt (kS _)];simp
 ·cases h
def sG (x:List En×Int×List En):Option (List En):=if 0<=x.2.1/\x.2.1<=(x.1.length:Int)/\x.1.length<=1000000/\x.2.2.length<=1000000 then some (x.1.take x.2.1.toNat++x.2.2)else none
theorem aH9:Sat prog bL 37 (c37 sG):=s37 uM aH3 sG λx t h=>by
 obtain⟨a,i,b⟩:=x;unfold sG at h;split at h
 ·rename_i hc;cases h;simp only at hc;refine⟨0,?_⟩;show g37 uM 0 a i b=_
  (try unfold w37);unfold g37 G37;dsimp only[oJ]
  rw[dt (kS _),dt hc.1,dt hc.2.1];simp only[cY,cond_true];have e:List.drop (Int.toNat 0) (List.take i.toNat a)=List.take i.toNat a:=rfl;rw[e,show uM [List.take i.toNat a,b]=some (List.take i.toNat a++b) from(if_pos ⟨by simp,by simp,by simp[aBi];omega⟩).trans (by simp),aX]
 ·cases h
theorem aFQ:Sat prog bL 19 (c19 mId):=s19 mId λx t h=>by
 unfold mId at h;split at h
 ·rename_i hc;cases h;refine⟨0,?_⟩
  (try unfold w19);unfold g19 G19;dsimp only[oJ]
  have hc':x.length<=1000000000:=hc;rw[dt (by simp;omega),cond_true]
  rfl
 ·cases h
def iT (a:List En)(i:Nat)(b:List En):List En:=if iD cZ (a.drop i) b=b.length then a else a.take (i+iD cZ (a.drop i) b)++b.drop (iD cZ (a.drop i) b)
theorem aDw {a b:List En}{i k:Nat}(hk:k<=iD cZ (a.drop i) b):iD cZ (a.drop i) b=k+iD cZ (a.drop (i+k)) (b.drop k):=by
 induction k generalizing i b with
 | zero=>simp
 | succ k ih=>
  have hl:=jE cZ (a.drop i) b;rw[cR]at hl;cases b with
  | nil=>simp at hl;omega
  | cons y b=>
   have hi:i < a.length:=by omega
   have hd:=rS eU hi;rw[hd]at hk ⊢;simp only[iD]at hk ⊢;split at hk
   ·rename_i hs;rw[if_pos hs,ih (i:=i+1) (b:=b) (by omega)];simp only[kR];rw[show i+1+k=i+(k+1)by omega];omega
   ·omega
theorem aLI (L:Nat)(a b:List En)(i:Nat)(ha:a.length<=1000000)(hb:b.length<=1000000)(hi:i<=a.length)(n k:Nat)(hk:k<=iD cZ (a.drop i) b)(hn:b.length < n+k) :
  uQ mId L a i b n k (some a)=some (iT a i b):=by
 induction n generalizing k with
 | zero=>have:=(jE cZ (a.drop i) b).2;omega
 | succ n ih=>
  unfold uQ B25_0;dsimp only[oJ];have hle:=jE cZ (a.drop i) b;rw[cR]at hle;have hs:=aDw hk;have e5:mId (List.drop (Int.toNat 0) (List.take (Int.toNat ((i:Int)+(k:Int))) a))=some (List.take (i+k) a):=by
   rw[show((i:Int)+(k:Int)).toNat=i+k by omega];exact if_pos (by show(List.take (i+k) a).length<=1000000000;rw[cJ];omega)
  have e6:List.drop (Int.toNat (k:Int)) (List.take (Int.toNat (b.length:Int)) b)=b.drop k:=by simp
  by_cases hkb:k < b.length
  ·rw[dt (by omega),cond_true,wi (x:=(i:Int)+k) (by omega) (by omega)];have hout:(List.take (i+k) a).length+(b.drop k).length<=1000000000:=by rw[cJ,cR];omega
   by_cases hka:i+k < a.length
   ·rw[df (show ¬ (i:Int)+k>=(a.length:Int)by omega),cond_false];simp(disch:=omega) only[dt,cY,cond_true];rw[show((i:Int)+(k:Int)).toNat=i+k by omega,eG];have hc:=vY eU cZ (a:=a.drop i) (b:=b) (i:=k) (by rw[cR];omega) hkb;rw[fB,fB]at hc;have hg:(a.drop i).getD k eU=a.getD (i+k) eU:=by simp[List.getD,dD]
    rw[hg]at hc
    change (bif (a.getD (i+k) eU).1 != (b.getD k eU).1 then _ else _)=_
    by_cases hsm:(a.getD (i+k) eU).1=(b.getD k eU).1
    ·rw[tI hsm,cond_false,wi (x:=(k:Int)+1) (by omega) (by omega),show(k:Int)+1=((k+1:Nat):Int)by omega];have hst:cZ (a.getD (i+k) eU) (b.getD k eU)=true:=by unfold cZ;rw[hsm];simp
     rw[if_pos hst]at hc;exact ih (k+1) (by omega) (by omega)
    ·rw[oI hsm,cond_true];have hst:¬ cZ (a.getD (i+k) eU) (b.getD k eU)=true:=by unfold cZ;simpa using hsm
     rw[if_neg hst]at hc;have hcm:iD cZ (a.drop i) b=k:=by omega
     have e5':=e5;rw[show((i:Int)+(k:Int)).toNat=i+k by omega]at e5';have e6':List.drop k (List.take (Int.toNat (b.length:Int)) b)=b.drop k:=e6;rw[e5',aX,e6',dt hout,cond_true];unfold iT;rw[hcm,if_neg (by omega)]
   ·have hik:i+k=a.length:=by omega
    have hcm:iD cZ (a.drop i) b=k:=by
     rw[hs,aAa cZ (.inl (cQ (by omega))),fL]
    rw[dt (show(i:Int)+k>=(a.length:Int)by omega),cond_true];simp(disch:=omega) only[dt,cY,cond_true];rw[e5,aX,e6,dt hout,cond_true];unfold iT;rw[hcm,if_neg (by omega)]
  ·have hcm:iD cZ (a.drop i) b=b.length:=by omega
   rw[df (by omega),cond_false];unfold iT;rw[if_pos hcm]
def tC (x:List En×Int×List En):Option (List En):=if x.1.length<=1000000/\x.2.2.length<=1000000/\0<=x.2.1/\x.2.1<=(x.1.length:Int)then some (iT x.1 x.2.1.toNat x.2.2)else none
theorem aIh:Sat prog bL 25 (c25 tC):=s25 mId aFQ tC λx t h=>by
 obtain⟨a,i,b⟩:=x;unfold tC at h;split at h
 ·rename_i hc;cases h;obtain⟨h1,h2,h3,h4⟩:=hc;simp only at h1 h2 h3 h4;obtain⟨i,rfl⟩:=mY h3;refine⟨b.length+1,?_⟩;show g25 mId (b.length+1) a i b=_
  (try unfold w25);unfold g25 A25_0 G25;dsimp only[oJ]
  rw[aGx (by omega),aX];exact aLI _ a b i h1 h2 (by omega) _ 0 (by omega) (by omega)
 ·cases h
def pbE (a:List En)(i:Nat)(b:List En):Int×List En:=if(iT a i b).length<=40 then(0,iT a i b)else(2,[])
theorem qH {a b:List En}{i:Nat}(hi:i<=a.length):(iT a i b).length=if iD cZ (a.drop i) b=b.length then a.length else i+b.length:=by
 unfold iT;have:=jE cZ (a.drop i) b;rw[cR]at this;split
 ·rfl
 ·rw[dL,cJ,cR];omega
def tD (x:List En×Int×List En):Option (Int×List En):=if x.1.length<=40/\x.2.2.length<=40/\0<=x.2.1/\x.2.1<=(x.1.length:Int)then some (pbE x.1 x.2.1.toNat x.2.2)else none
theorem aIk:Sat prog bL 22 (c22 tD):=s22 sH kC dN sG aIb aGn aAs aH9 tD λx t h=>by
 obtain⟨a,i,b⟩:=x;unfold tD at h;split at h
 ·rename_i hc;cases h;obtain⟨h1,h2,h3,h4⟩:=hc;simp only at h1 h2 h3 h4;obtain⟨i,rfl⟩:=mY h3;refine⟨0,?_⟩;show g22 sH kC dN sG 0 a i b=_
  (try unfold w22);unfold g22 G22;dsimp only[oJ]
  have hle:=jE cZ (a.drop i) b;rw[cR]at hle;have e1:sH (a,(i:Int))=some (a.drop i):=if_pos ⟨by(try simp only);omega,h4⟩;have e2:kC (a.drop i,(b,PUnit.unit))=some ((iD cZ (a.drop i) b:Nat):Int):=if_pos ⟨by show(a.drop i).length<=1000000000;rw[cR];omega,by show b.length<=1000000000;omega⟩;have e3:dN b=some (b.length:Int):=rfl;have e3a:dN a=some (a.length:Int):=rfl;rw[e1,aX,e2,aX,e3,aX,aGz];simp only[eG];unfold pbE;rw[qH (by omega)];by_cases he:iD cZ (a.drop i) b=b.length
  ·rw[dt he,cond_true,e3a,aX,if_pos he,if_pos h1];have e4:sG (a,((a.length:Int),[]))=some a:=(if_pos ⟨by(try simp only);omega,by(try simp only);omega,by(try simp only);omega,by simp⟩).trans (by simp);rw[e4,aX];unfold iT;rw[if_pos he]
  ·rw[df he,cond_false,aX,wi (x:=(i:Int)+(b.length:Int)) (by omega) (by omega),if_neg he];by_cases hm:i+b.length<=40
   ·rw[df (show ¬ (i:Int)+(b.length:Int) > 40 by omega),cond_false,if_pos hm];have e4:sH (b,((iD cZ (a.drop i) b:Nat):Int))=some (b.drop (iD cZ (a.drop i) b)):=if_pos ⟨by(try simp only);omega,by(try simp only);omega⟩;rw[e4,aX,wi (x:=(i:Int)+((iD cZ (a.drop i) b:Nat):Int)) (by omega) (by omega)];have e5:sG (a,((i:Int)+((iD cZ (a.drop i) b:Nat):Int),b.drop (iD cZ (a.drop i) b)))=some (a.take (i+iD cZ (a.drop i) b)++b.drop (iD cZ (a.drop i) b)):=
     (if_pos ⟨by(try simp only);omega,by(try simp only);omega,by(try simp only);omega,by show(b.drop _).length<=1000000;rw[cR];omega⟩).trans (by simp only;rw[show((i:Int)+((iD cZ (a.drop i) b:Nat):Int)).toNat=i+iD cZ (a.drop i) b by omega])
    rw[e5,aX];unfold iT;rw[if_neg he]
   ·rw[dt (show(i:Int)+(b.length:Int) > 40 by omega),cond_true,if_neg hm]
 ·cases h
def yK (a:List En)(i t:Int)(b:List En):Int×List En:=if gL a=0 then if gL b=0 then if lB a i t then if 0 < b.length/\(b.getD 0 eU).1 < t then(1,[])else pbE a i.toNat b else(9,[])else(gL b,[])else(gL a,[])
def m7 (x:List En×Int×Int×List En):Option (Int×List En):=if x.1.length<=sD/\x.2.2.2.length<=sD then some (yK x.1 x.2.1 x.2.2.1 x.2.2.2)else none
theorem tR {a:List En}(h:gL a=0):a.length<=40:=by
 unfold gL at h;split at h
 ·exact absurd h (by decide)
 ·omega
theorem oW {a:List En}{i t:Int}(h:lB a i t=true):0<=i/\i<=(a.length:Int):=by
 unfold lB at h;by_cases h0:i=0
 ·subst h0;omega
 ·rw[aAg h0,cond_false]at h;simp at h;omega
end Go.Proofs.Tryz
set_option maxHeartbeats 0
namespace Go.Proofs.Tryz
open Go Go.VM Go.RowKit
theorem aAE {a b:List En}{i:Nat}:(bif decide (((iT a i b).length:Int) > 40)then some ((2:Int),[])else some ((0:Int),iT a i b))=some (pbE a i b):=by
 unfold pbE;by_cases h:(iT a i b).length<=40
 ·rw[df (by omega),cond_false,if_pos h]
 ·rw[dt (by omega),cond_true,if_neg h]
theorem aLJ:Sat prog bL 7 (c7 m7):=s7 kB tP tC aIj aIi aIh m7 λx t h=>by
 obtain⟨a,i,t',b⟩:=x;unfold m7 at h;split at h
 ·rename_i hm;cases h;refine⟨0,?_⟩;show g7 kB tP tC 0 a i t' b=_
  (try unfold w7);unfold g7 G7 yK;dsimp only[oJ]
  rw[show kB a=some (gL a) from rfl,aX,show kB b=some (gL b) from rfl,show tP (a,i,t')=some (lB a i t') from if_pos hm.1];by_cases h0:gL a=0
  ·rw[tI h0,cond_false,aX,if_pos h0];by_cases h1:gL b=0
   ·rw[tI h1,cond_false,aX,if_pos h1];by_cases h2:lB a i t'=true
    ·obtain⟨hi0,hi1⟩:=oW h2;have la:=tR h0;have lb:=tR h1;rw[h2,if_pos rfl,iS,cond_false];have e:tC (a,i,b)=some (iT a i.toNat b):=if_pos ⟨by(try simp only);omega,by(try simp only);omega,hi0,hi1⟩;rw[e,aX]
     (try simp only)
     by_cases h3:0 < b.length
     ·rw[dt (show(b.length:Int) > 0 by omega),cond_true];simp(disch:=omega) only[dt,cY,cond_true]
      change (bif decide ((b.getD 0 eU).1 < t')then _ else _)=_
      by_cases h4:(b.getD 0 eU).1 < t'
      ·rw[dt h4,cond_true,if_pos ⟨h3,h4⟩]
      ·rw[df h4,cond_false,if_neg (λh=>h4 h.2)];exact aAE
     ·rw[df (show ¬ (b.length:Int) > 0 by omega),cond_false,if_neg (λh=>h3 h.1)];exact aAE
    ·rw[if_neg h2];rw[show lB a i t'=false by simpa using h2]
     rfl
   ·rw[oI h1,cond_true,if_neg h1]
  ·rw[oI h0,cond_true,if_neg h0]
 ·cases h
theorem aLK:Sat prog bL 6 (c6 m7):=s6 kB tB tD aEX aFS aIk m7 λx t h=>by
 obtain⟨a,i,t',b⟩:=x;unfold m7 at h;split at h
 ·rename_i hm;cases h;refine⟨0,?_⟩;show g6 kB tB tD 0 a i t' b=_
  (try unfold w6);unfold g6 G6 yK;dsimp only[oJ]
  rw[show kB a=some (gL a) from rfl,aX,show kB b=some (gL b) from rfl,show tB (a,i,t')=some (decide (gL a=0)&&lB a i t') from if_pos hm.1];by_cases h0:gL a=0
  ·rw[tI h0,cond_false,aX,if_pos h0];by_cases h1:gL b=0
   ·rw[tI h1,cond_false,aX,if_pos h1,dt h0,iR];by_cases h2:lB a i t'=true
    ·obtain⟨hi0,hi1⟩:=oW h2;have la:=tR h0;have lb:=tR h1;rw[h2,if_pos rfl,iS,cond_false];have e:tD (a,i,b)=some (pbE a i.toNat b):=if_pos ⟨la,lb,hi0,hi1⟩;rw[e,aX]
     (try simp only)
     by_cases h3:0 < b.length
     ·rw[dt (show(b.length:Int) > 0 by omega),cond_true];simp(disch:=omega) only[dt,cY,cond_true]
      change (bif decide ((b.getD 0 eU).1 < t')then _ else _)=_
      by_cases h4:(b.getD 0 eU).1 < t'
      ·rw[dt h4,cond_true,if_pos ⟨h3,h4⟩]
      ·rw[df h4,cond_false,if_neg (λh=>h4 h.2)]
     ·rw[df (show ¬ (b.length:Int) > 0 by omega),cond_false,if_neg (λh=>h3 h.1)]
    ·rw[if_neg h2];rw[show lB a i t'=false by simpa using h2]
     rfl
   ·rw[oI h1,cond_true,if_neg h1]
  ·rw[oI h0,cond_true,if_neg h0]
 ·cases h
end Go.Proofs.Tryz
