/- A part of the proof of FnLogs: LkPc, LkPd, LkPe. -/
import Derived.Test.YtlnabockdjjpbaaGreatLkPa
import Derived.Test.YtlnabockdjjpbaaGreatLkQc
import Derived.Test.YtlnabockdjjpbaaGreatLkFd
set_option linter.unusedSimpArgs false
set_option linter.unusedVariables false
set_option maxHeartbeats 0
namespace Go.Proofs.Tryz
open Go Go.VM Go.RowKit
def aGe (x:Int):Bool:=decide (1<=x/\x<=100000)
def aKE (x:Int):Bool:=decide (0<=x/\x<=999)
def aHJ (x:Int):Bool:=decide (0<=x/\x<=1000000)
theorem aH7:Sat prog bL 39 (c39 λx=>some (aGe x)):=s39 _ λx t h=>by cases h;exact⟨0,jM⟩
theorem aH6:Sat prog bL 40 (c40 λx=>some (aKE x)):=s40 _ λx t h=>by cases h;exact⟨0,jM⟩
theorem aH5:Sat prog bL 41 (c41 λx=>some (aHJ x)):=s41 _ λx t h=>by cases h;exact⟨0,jM⟩
def z6 (q:Cm):Bool:=(((((q.1 == 0)&&(q.2.1 == 0))&&(q.2.2.1 == 0))&&(q.2.2.2.1 == 0))&&(q.2.2.2.2.1 == 0))&&(q.2.2.2.2.2 == 0)
def enF (x:En):Int:=bif !aGe x.1 then 3 else bif !aKE x.2.1 then 3 else bif !aHJ x.2.2.1 then 3 else bif !((x.2.1 == 0) == (x.2.2.1 == 0))then 1 else bif x.2.1 != 0 then cmF x.2.2.2 else bif !z6 x.2.2.2 then 1 else 0
def mEn (x:En):Option Int:=some (enF x)
theorem qJ {α:Type}(b:Bool)(x y:α):(bif b then some x else some y)=some (bif b then x else y):=by cases b<;>rfl
theorem aIg:Sat prog bL 26 (c26 mEn):=s26 _ _ _ sF aH7 aH6 aH5 aH4 mEn λx t h=>by
 obtain⟨t,c,s,q⟩:=x;cases h;refine⟨0,?_⟩;show g26 _ _ _ sF 0 t c s q.1 q.2.1 q.2.2.1 q.2.2.2.1 q.2.2.2.2.1 q.2.2.2.2.2=_
 (try unfold w26);unfold g26 G26;dsimp only[oJ]
 simp only[aX];rw[show sF (q.1,(q.2.1,(q.2.2.1,(q.2.2.2.1,(q.2.2.2.2.1,q.2.2.2.2.2)))))=some (cmF q) from rfl,aX];simp only[qJ]
 rfl
theorem aH8:Sat prog bL 38 (c38 mEn):=s38 _ sF nO aH2 mEn λx t h=>by
 obtain⟨t,c,s,q⟩:=x;cases h;refine⟨0,?_⟩;show g38 _ sF 0 t c s q.1 q.2.1 q.2.2.1 q.2.2.2.1 q.2.2.2.2.1 q.2.2.2.2.2=_
 (try unfold w38);unfold g38 G38;dsimp only[oJ]
 simp only[aX];rw[show sF (q.1,(q.2.1,(q.2.2.1,(q.2.2.2.1,(q.2.2.2.2.1,q.2.2.2.2.2)))))=some (cmF q) from rfl,aX];simp only[qJ]
 rfl
def lgE (a:List En)(i:Nat):Int:=if enF (a.getD i eU)=0 then(if 0 < i/\(a.getD i eU).1 < (a.getD (i-1) eU).1 then 1 else 0)else enF (a.getD i eU)
def gL (a:List En):Int:=if 40 < a.length then 2 else fst (lgE a) a.length 0
def kB (a:List En):Option Int:=some (gL a)
theorem aJQ (L:Nat)(a:List En)(ha:a.length<=40):∀ (n i:Nat),i<=a.length->a.length < n+i->uR mEn L a n i (some 0)=some (fst (lgE a) (a.length-i) i)
 | 0,i,h1,h2=>by omega
 | n+1,i,h1,h2=>by
  unfold uR B23_0;dsimp only[oJ];by_cases hi:i < a.length
  ·simp(disch:=omega) only[dt,cond_true,cY,eG];have e0:mEn ((a.getD i eU).1,(a.getD i eU).2.1,(a.getD i eU).2.2.1,(a.getD i eU).2.2.2.1,(a.getD i eU).2.2.2.2.1,(a.getD i eU).2.2.2.2.2.1,(a.getD i eU).2.2.2.2.2.2.1,(a.getD i eU).2.2.2.2.2.2.2.1,(a.getD i eU).2.2.2.2.2.2.2.2)=some (enF (a.getD i eU)):=rfl;have e0':=e0;unfold eU at e0';rw[e0',aX];have ih:=aJQ L a ha n (i+1) (by omega) (by omega);have es:a.length-i=(a.length-(i+1))+1:=by omega
   rw[wi (x:=(i:Int)+1) (by omega) (by omega),show(i:Int)+1=((i+1:Nat):Int)by omega,ih,es,vA]
   change (bif enF (a.getD i eU) != 0 then some (enF (a.getD i eU))else _)=_
   by_cases h0:enF (a.getD i eU)=0
   ·rw[tI h0,cond_false];have hE:lgE a i=if 0 < i/\(a.getD i eU).1 < (a.getD (i-1) eU).1 then 1 else 0:=if_pos h0
    by_cases hp:0 < i
    ·rw[dt (show(i:Int) > 0 by omega),cond_true,wi (by omega) (by omega)];simp(disch:=omega) only[dt,cond_true,cY];rw[show((i:Int)-1).toNat=i-1 by omega]
     change (bif decide ((a.getD i eU).1 < (a.getD (i-1) eU).1)then _ else _)=_
     by_cases hl:(a.getD i eU).1 < (a.getD (i-1) eU).1
     ·rw[dt hl,cond_true,hE.trans (if_pos ⟨hp,hl⟩)];rfl
     ·rw[df hl,cond_false,hE.trans (if_neg λh=>hl h.2)];rfl
    ·rw[df (show ¬ (i:Int) > 0 by omega),cond_false,hE.trans (if_neg λh=>hp h.1)];rfl
   ·rw[oI h0,cond_true];have:lgE a i=enF (a.getD i eU):=if_neg h0;rw[this,if_neg h0]
  ·rw[df (by omega),cond_false];rw[show a.length-i=0 by omega]
   rfl
theorem aIj:Sat prog bL 23 (c23 kB):=s23 mEn aH8 kB λx t h=>by
 cases h;refine⟨x.length+1,?_⟩;show g23 mEn (x.length+1) x=some (gL x)
 (try unfold w23);unfold g23 A23_0 G23 gL;dsimp only[oJ]
 by_cases hc:40 < x.length
 ·rw[dt (show(x.length:Int) > 40 by omega),cond_true,if_pos hc]
 ·rw[df (show ¬ (x.length:Int) > 40 by omega),cond_false,if_neg hc];exact aJQ _ x (by omega) _ 0 (by omega) (by omega)
theorem aFw {x:En}(h:enF x=0):1<=x.1:=by
 unfold enF at h;cases ht:aGe x.1 with
 | true=>have:=of_decide_eq_true ht;omega
 | false=>rw[ht]at h;simp at h
theorem el8 (L:Nat)(a:List En)(ha:a.length<=40):∀ (n i:Nat) (p:Int),i<=a.length->a.length < n+i->(if i=0 then p=0 else p=(a.getD (i-1) eU).1)->aAL mEn L a n p i (some 0)=some (fst (lgE a) (a.length-i) i)
 | 0,i,p,h1,h2,_=>by omega
 | n+1,i,p,h1,h2,h3=>by
  unfold aAL B8_0;dsimp only[oJ];by_cases hi:i < a.length
  ·simp(disch:=omega) only[dt,cond_true,cY,eG];have e0:mEn ((a.getD i eU).1,(a.getD i eU).2.1,(a.getD i eU).2.2.1,(a.getD i eU).2.2.2.1,(a.getD i eU).2.2.2.2.1,(a.getD i eU).2.2.2.2.2.1,(a.getD i eU).2.2.2.2.2.2.1,(a.getD i eU).2.2.2.2.2.2.2.1,(a.getD i eU).2.2.2.2.2.2.2.2)=some (enF (a.getD i eU)):=rfl;have e0':=e0;unfold eU at e0';rw[e0',aX];have ih:=el8 L a ha n (i+1) (a.getD i eU).1 (by omega) (by omega) (by rw[if_neg (by omega)];rfl);have es:a.length-i=(a.length-(i+1))+1:=by omega
   rw[wi (x:=(i:Int)+1) (by omega) (by omega),show(i:Int)+1=((i+1:Nat):Int)by omega,es,vA]
   change (bif enF (a.getD i eU) != 0 then some (enF (a.getD i eU))else bif decide ((a.getD i eU).1 < p)then _ else aAL mEn L a n (a.getD i eU).1 ((i+1:Nat):Int) (some 0))=_
   rw[ih];by_cases h0:enF (a.getD i eU)=0
   ·rw[tI h0,cond_false];have h1t:=aFw h0;have hE:lgE a i=if 0 < i/\(a.getD i eU).1 < (a.getD (i-1) eU).1 then 1 else 0:=if_pos h0
    by_cases hp:0 < i
    ·rw[if_neg (by omega)]at h3;rw[h3];by_cases hl:(a.getD i eU).1 < (a.getD (i-1) eU).1
     ·rw[dt hl,cond_true,hE.trans (if_pos ⟨hp,hl⟩)];rfl
     ·rw[df hl,cond_false,hE.trans (if_neg λh=>hl h.2)];rfl
    ·rw[if_pos (by omega)]at h3;rw[df (by omega),cond_false,hE.trans (if_neg λh=>hp h.1)];rfl
   ·rw[oI h0,cond_true];have:lgE a i=enF (a.getD i eU):=if_neg h0;rw[this,if_neg h0]
  ·rw[df (by omega),cond_false];rw[show a.length-i=0 by omega]
   rfl
theorem aEX:Sat prog bL 8 (c8 kB):=s8 mEn aIg kB λx t h=>by
 cases h;refine⟨x.length+1,?_⟩;show g8 mEn (x.length+1) x=some (gL x)
 (try unfold w8);unfold g8 A8_0 G8 gL;dsimp only[oJ]
 by_cases hc:40 < x.length
 ·rw[dt (show(x.length:Int) > 40 by omega),cond_true,if_pos hc]
 ·rw[df (show ¬ (x.length:Int) > 40 by omega),cond_false,if_neg hc];exact el8 _ x (by omega) _ 0 0 (by omega) (by omega) rfl
end Go.Proofs.Tryz
set_option maxHeartbeats 0
namespace Go.Proofs.Tryz
open Go Go.VM Go.RowKit
def nU (a:List En):En:=a.getD (a.length-1) eU
def dN (a:List En):Option Int:=some (a.length:Int)
theorem aAs:Sat prog bL 30 (c30 dN):=s30 dN λx t h=>by cases h;exact⟨0,rfl⟩
abbrev EnB:=Int×Int×Int×Int×Int×Int×Int×Int×Int×Bool
def wX (x:En)(b:Bool):EnB:=(x.1,x.2.1,x.2.2.1,x.2.2.2.1,x.2.2.2.2.1,x.2.2.2.2.2.1,x.2.2.2.2.2.2.1,x.2.2.2.2.2.2.2.1,x.2.2.2.2.2.2.2.2,b)
def kT (x:List En×Int):Option EnB:=if x.1.length<=sD then some (if 1<=x.2/\x.2<=(x.1.length:Int)then wX (x.1.getD (x.2-1).toNat eU) true else wX eU false)else none
theorem aFO:Sat prog bL 29 (c29 kT):=s29 dN aAs kT λx t h=>by
 obtain⟨a,i⟩:=x;unfold kT at h;split at h
 ·rename_i hm;have hm':a.length<=1000000000:=hm;cases h;refine⟨0,?_⟩;show g29 dN 0 a i=_
  (try unfold w29);unfold g29 G29;dsimp only[oJ]
  rw[show dN a=some (a.length:Int) from rfl,aX];by_cases h1:i < 1
  ·rw[dt h1,cond_true,if_neg (by(try simp only);omega)];rfl
  ·rw[df h1,cond_false];by_cases h2:i > (a.length:Int)
   ·rw[dt h2,cond_true,if_neg (by(try simp only);omega)];rfl
   ·rw[df h2,cond_false,if_pos (by(try simp only);omega)];simp(disch:=omega) only[wi,dt,cY,cond_true]
    rfl
 ·cases h
def nA (a:List En):Option En:=if a.length<=sD then some (nU a)else none
theorem aFR:Sat prog bL 13 (c13 nA):=s13 dN kT aAs aFO nA λa t h=>by
 unfold nA at h;split at h
 ·rename_i hm;have hm':a.length<=1000000000:=hm;cases h;refine⟨0,?_⟩
  (try unfold w13);unfold g13 G13;dsimp only[oJ]
  rw[show dN a=some (a.length:Int) from rfl,aX];by_cases h0:a.length=0
  ·rw[show kT (a,(a.length:Int))=some (wX eU false) from(if_pos hm).trans (by rw[if_neg (by(try simp only);omega)]),aX];have:a=[]:=mX.1 h0;subst this
   rfl
  ·rw[show kT (a,(a.length:Int))=some (wX (nU a) true) from(if_pos hm).trans (by rw[if_pos (by(try simp only);omega)];unfold nU;simp only;rw[show((a.length:Int)-1).toNat=a.length-1 by omega]),aX]
   rfl
 ·cases h
def lB (a:List En)(i t:Int):Bool:=bif i == 0 then t == 0 else decide (1<=i/\i<=(a.length:Int))&&(a.getD (i-1).toNat eU).1 == t
def tP (x:List En×Int×Int):Option Bool:=if x.1.length<=sD then some (lB x.1 x.2.1 x.2.2)else none
theorem aIi:Sat prog bL 24 (c24 tP):=s24 _ nO tP λx t h=>by
 obtain⟨a,i,t'⟩:=x;unfold tP at h;split at h
 ·rename_i hm;have hm':a.length<=1000000000:=hm;cases h;refine⟨0,?_⟩;show g24 _ 0 a i t'=some (lB a i t')
  (try unfold w24);unfold g24 G24 lB;dsimp only[oJ]
  cases h0:(i == 0)with
  | true=>rfl
  | false=>
   rw[cond_false,cond_false,aX]
   (try simp only)
   by_cases h1:1<=i/\i<=(a.length:Int)
   ·rw[dt h1,cond_true];simp(disch:=omega) only[wi,dt,cY,cond_true,iR]
    rfl
   ·rw[df h1,cond_false,Bool.false_and]
 ·cases h
def upd (a:List En)(i t:Int):Bool:=bif decide (t > (nU a).1)then true else bif t == (nU a).1 then decide (i>=(a.length:Int))else false
def jW (x y:En):Bool:=decide (x=y)
def cZ (x y:En):Bool:=x.1 == y.1
theorem aIx {a b c d e f g i j a' b' c' d' e' f' g' i' j':Int}:(((((((((a == a')&&(b == b'))&&(c == c'))&&(d == d'))&&(e == e'))&&(f == f'))&&(g == g'))&&(i == i'))&&(j == j'))=decide (((a,b,c,d,e,f,g,i,j):En)=(a',b',c',d',e',f',g',i',j')):=by
 simp only[aJ,Bool.decide_and,lI]
 rfl
theorem aIe:Sat prog bL 28 (c28 λx=>some (jW x.1 x.2)):=s28 _ λx t h=>by
 obtain⟨⟨a,b,c,d,e,f,g,i,j⟩,a',b',c',d',e',f',g',i',j'⟩:=x;cases h;exact⟨0,congrArg some aIx⟩
theorem aIa:Sat prog bL 36 (c36 λx=>some (cZ x.1 x.2)):=s36 _ λx t h=>by cases h;exact⟨0,rfl⟩
def tO (x:List En×List En×Unit):Option Int:=if x.1.length<=sD/\x.2.1.length<=sD then some (iD jW x.1 x.2.1:Nat)else none
def kC (x:List En×List En×Unit):Option Int:=if x.1.length<=sD/\x.2.1.length<=sD then some (iD cZ x.1 x.2.1:Nat)else none
theorem aAH {a b:Nat}:(if(b:Int) < (a:Int)then(b:Int)else(a:Int))=((min a b:Nat):Int):=by
 by_cases h:b < a
 ·rw[if_pos (by omega)];omega
 ·rw[if_neg (by omega)];omega
theorem aJP (L:Nat)(a b:List En)(u:Unit)(ha:a.length<=1000000000)(hb:b.length<=1000000000):∀ (n i:Nat),i<=min a.length b.length->min a.length b.length < n+i->
  uP dN (λx=>some (jW x.1 x.2)) L a b u n (min a.length b.length:Nat) (min a.length b.length:Nat) i some=some ((i+iD jW (a.drop i) (b.drop i):Nat):Int)
 | 0,i,h1,h2=>by omega
 | n+1,i,h1,h2=>by
  unfold uP B27_0;dsimp only[oJ];by_cases hi:i < min a.length b.length
  ·simp(disch:=omega) only[dt,cond_true,cY,eG,aX];have ih:=aJP L a b u ha hb n (i+1) (by omega) (by omega);rw[wi (by omega) (by omega),show(i:Int)+1=((i+1:Nat):Int)by omega,ih,vY eU jW (i:=i) (by omega) (by omega)]
   change (bif !jW (a.getD i eU) (b.getD i eU)then _ else _)=_
   cases jW (a.getD i eU) (b.getD i eU)
   ·rfl
   ·simp only[iS,cond_false,if_true];congr 2;omega
  ·rw[df (by omega),cond_false];have:i=min a.length b.length:=by omega
   rw[aAa jW (by
    rcases fW a.length b.length with h | h
    ·exact .inl (cQ (by omega))
    ·exact .inr (cQ (by omega))),this]
   rfl
theorem aF5 (L:Nat)(a b:List En)(u:Unit)(ha:a.length<=1000000000)(hb:b.length<=1000000000):∀ (n i:Nat),i<=min a.length b.length->min a.length b.length < n+i->
  pV dN (λx=>some (cZ x.1 x.2)) L a b u n (min a.length b.length:Nat) (min a.length b.length:Nat) i some=some ((i+iD cZ (a.drop i) (b.drop i):Nat):Int)
 | 0,i,h1,h2=>by omega
 | n+1,i,h1,h2=>by
  unfold pV B27b_0;dsimp only[oJ];by_cases hi:i < min a.length b.length
  ·simp(disch:=omega) only[dt,cond_true,cY,eG,aX];have ih:=aF5 L a b u ha hb n (i+1) (by omega) (by omega);rw[wi (by omega) (by omega),show(i:Int)+1=((i+1:Nat):Int)by omega,ih,vY eU cZ (i:=i) (by omega) (by omega)]
   change (bif !cZ (a.getD i eU) (b.getD i eU)then _ else _)=_
   cases cZ (a.getD i eU) (b.getD i eU)
   ·rfl
   ·simp only[iS,cond_false,if_true];congr 2;omega
  ·rw[df (by omega),cond_false];have:i=min a.length b.length:=by omega
   rw[aAa cZ (by
    rcases fW a.length b.length with h | h
    ·exact .inl (cQ (by omega))
    ·exact .inr (cQ (by omega))),this]
   rfl
theorem aIf:Sat prog bL 27 (c27 tO):=s27 dN _ aAs aIe tO λx t h=>by
 obtain⟨a,b,u⟩:=x;unfold tO at h;split at h
 ·rename_i hm;have h1:a.length<=1000000000:=hm.1;have h2:b.length<=1000000000:=hm.2;cases h;refine⟨a.length+1,?_⟩;show g27 dN _ (a.length+1) a b u=_
  (try unfold w27);unfold g27 A27_0 G27;dsimp only[oJ]
  rw[show dN a=some (a.length:Int) from rfl,aX,show dN b=some (b.length:Int) from rfl,aX,aAH];refine(aJP _ a b u h1 h2 (a.length+1) 0 (by omega) (by omega)).trans ?_;simp
 ·cases h
theorem aGn:Sat prog bL 27 (aFA kC):=aLN dN _ aAs aIa kC λx t h=>by
 obtain⟨a,b,u⟩:=x;unfold kC at h;split at h
 ·rename_i hm;have h1:a.length<=1000000000:=hm.1;have h2:b.length<=1000000000:=hm.2;cases h;refine⟨a.length+1,?_⟩;show aEd dN _ (a.length+1) a b u=_
  (try unfold aGc);unfold aEd G27b;dsimp only[oJ]
  rw[show dN a=some (a.length:Int) from rfl,aX,show dN b=some (b.length:Int) from rfl,aX,aAH];refine(aF5 _ a b u h1 h2 (a.length+1) 0 (by omega) (by omega)).trans ?_;simp
 ·cases h
def m9 (x:List En×List En):Option Int:=if x.1.length<=sD/\x.2.length<=sD then some (iD jW x.1 x.2:Nat)else none
theorem aHM:Sat prog bL 9 (c9 m9):=s9 tO aIf m9 λx t h=>by
 obtain⟨a,b⟩:=x;unfold m9 at h;split at h
 ·rename_i hm;cases h;refine⟨0,?_⟩;show g9 tO 0 a b=_
  (try unfold w9);unfold g9 G9;dsimp only[oJ]
  rw[show tO (a,(b,PUnit.unit))=some ((iD jW a b:Nat):Int) from if_pos hm,aX]
 ·cases h
theorem aGz {a b:Nat}:((a:Int) == (b:Int))=decide (a=b):=by
 by_cases h:a=b
 ·simp[h]
 ·rw[aAg (by omega),df h]
end Go.Proofs.Tryz
set_option maxHeartbeats 0
namespace Go.Proofs.Tryz
open Go Go.VM Go.RowKit
def tB (x:List En×Int×Int):Option Bool:=if x.1.length<=sD then some (decide (gL x.1=0)&&lB x.1 x.2.1 x.2.2)else none
theorem aFS:Sat prog bL 10 (c10 tB):=s10 kB kT aEX aFO tB λx t h=>by
 obtain⟨a,i,t'⟩:=x;unfold tB at h;split at h
 ·rename_i hm;cases h;refine⟨0,?_⟩;show g10 kB kT 0 a i t'=_;unfold g10 G10 lB;rw[show kB a=some (gL a) from rfl,aX];by_cases h0:gL a=0
  ·rw[tI h0,cond_false,dt h0,iR];cases h1:(i == 0)with
   | true=>rfl
   | false=>
    rw[cond_false,cond_false];by_cases h2:1<=i/\i<=(a.length:Int)
    ·rw[show kT (a,i)=some (wX (a.getD (i-1).toNat eU) true) from(if_pos hm).trans (by rw[if_pos h2]),aX,dt h2]
     rfl
    ·rw[show kT (a,i)=some (wX eU false) from(if_pos hm).trans (by rw[if_neg h2]),aX,df h2]
     rfl
  ·rw[oI h0,cond_true,df h0];rfl
 ·cases h
def mUp (x:List En×Int×Int):Option Bool:=if x.1.length<=sD then some (decide (gL x.1=0)&&upd x.1 x.2.1 x.2.2)else none
theorem aIo:Sat prog bL 12 (c12 mUp):=s12 kB nA aEX aFR mUp λx t h=>by
 obtain⟨a,i,t'⟩:=x;unfold mUp at h;split at h
 ·rename_i hm;cases h;refine⟨0,?_⟩;show g12 kB nA 0 a i t'=_;unfold g12 G12 upd;rw[show kB a=some (gL a) from rfl,aX,show nA a=some (nU a) from if_pos hm,aX];by_cases h0:gL a=0
  ·rw[tI h0,cond_false,dt h0,iR];simp only[qJ]
  ·rw[oI h0,cond_true,df h0];rfl
 ·cases h
def mSm (x:List En×List En):Option Bool:=if x.1.length<=sD/\x.2.length<=sD then some (decide (x.1.length=x.2.length)&&decide (iD jW x.1 x.2=x.1.length))else none
theorem aIp:Sat prog bL 11 (c11 mSm):=s11 m9 aHM mSm λx t h=>by
 obtain⟨a,b⟩:=x;unfold mSm at h;split at h
 ·rename_i hm;cases h;refine⟨0,?_⟩;show g11 m9 0 a b=_;unfold g11 G11;rw[show m9 (a,b)=some ((iD jW a b:Nat):Int) from if_pos hm,aX,aGz,aGz];simp only[qJ];cases decide (a.length=b.length)<;>rfl
 ·cases h
end Go.Proofs.Tryz
