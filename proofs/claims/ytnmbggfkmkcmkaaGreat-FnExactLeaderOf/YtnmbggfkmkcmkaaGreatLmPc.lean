/- A part of the proof of FnExactLeaderOf: LmPc, LmPl, LmPn, LmPo. -/
import Derived.Test.YtnmbggfkmkcmkaaGreatLmPa
import Derived.Test.YtnmbggfkmkcmkaaGreatLmQc
import Derived.Test.YtnmbggfkmkcmkaaGreatLmFi
set_option linter.unusedSimpArgs false
set_option linter.unusedVariables false
set_option maxHeartbeats 0
namespace Go.Proofs.Tryz
open Go Go.VM Go.RowKit
def sC (x:Int):Bool:=decide (1<=x/\x<=100000)
def aVg (x:Int):Bool:=decide (0<=x/\x<=999)
def aQM (x:Int):Bool:=decide (0<=x/\x<=1000000)
theorem aDs:Sat prog cxT 79 (c79 λx=>some (sC x)):=s79 _ λx t h=>by cases h;exact⟨0,kX⟩
theorem aOa:Sat prog cxT 134 (aKE λx=>some (aVg x)):=aYb _ λx t h=>by cases h;exact⟨0,kX⟩
theorem aN9:Sat prog cxT 135 (aKD λx=>some (aQM x)):=aYa _ λx t h=>by cases h;exact⟨0,kX⟩
def z6 (q:Cm):Bool:=(((((q.1 == 0)&&(q.2.1 == 0))&&(q.2.2.1 == 0))&&(q.2.2.2.1 == 0))&&(q.2.2.2.2.1 == 0))&&(q.2.2.2.2.2 == 0)
def enF (x:En):Int:=bif !sC x.1 then 3 else bif !aVg x.2.1 then 3 else bif !aQM x.2.2.1 then 3 else bif !((x.2.1 == 0) == (x.2.2.1 == 0))then 1 else bif x.2.1 != 0 then cmF x.2.2.2 else bif !z6 x.2.2.2 then 1 else 0
def sF (x:En):Option Int:=some (enF x)
theorem aDq {α:Type}(b:Bool)(x y:α):(bif b then some x else some y)=some (bif b then x else y):=by cases b<;>rfl
theorem aHE:Sat prog cxT 108 (aHc sF):=aYz _ _ _ lA aDs aOa aN9 aN8 sF λx t h=>by
 obtain⟨t,c,s,q⟩:=x;cases h;refine⟨0,?_⟩;show aIU _ _ _ lA 0 t c s q.1 q.2.1 q.2.2.1 q.2.2.2.1 q.2.2.2.2.1 q.2.2.2.2.2=_
 (try unfold aNF);unfold aIU G108;dsimp only[dX]
 simp only[aP];rw[show lA (q.1,(q.2.1,(q.2.2.1,(q.2.2.2.1,(q.2.2.2.2.1,q.2.2.2.2.2)))))=some (cmF q) from rfl,aP];simp only[aDq]
 rfl
theorem aLd:Sat prog cxT 71 (c71 sF):=s71 _ lA nA aOw sF λx t h=>by
 obtain⟨t,c,s,q⟩:=x;cases h;refine⟨0,?_⟩;show g71 _ lA 0 t c s q.1 q.2.1 q.2.2.1 q.2.2.2.1 q.2.2.2.2.1 q.2.2.2.2.2=_
 (try unfold w71);unfold g71 G71;dsimp only[dX]
 simp only[aP];rw[show lA (q.1,(q.2.1,(q.2.2.1,(q.2.2.2.1,(q.2.2.2.2.1,q.2.2.2.2.2)))))=some (cmF q) from rfl,aP];simp only[aDq]
 rfl
def lgE (a:List En)(i:Nat):Int:=if enF (a.getD i jG)=0 then(if 0 < i/\(a.getD i jG).1 < (a.getD (i-1) jG).1 then 1 else 0)else enF (a.getD i jG)
def tL (a:List En):Int:=if 40 < a.length then 2 else fst (lgE a) a.length 0
def qH (a:List En):Option Int:=some (tL a)
theorem aTT (L:Nat)(a:List En)(ha:a.length<=40):∀ (n i:Nat),i<=a.length->a.length < n+i->aAd sF L a n i (some 0)=some (fst (lgE a) (a.length-i) i)
 | 0,i,h1,h2=>by omega
 | n+1,i,h1,h2=>by
  unfold aAd B97_0;dsimp only[dX];by_cases hi:i < a.length
  ·simp(disch:=omega) only[dt,cond_true,bM,bB];have e0:sF ((a.getD i jG).1,(a.getD i jG).2.1,(a.getD i jG).2.2.1,(a.getD i jG).2.2.2.1,(a.getD i jG).2.2.2.2.1,(a.getD i jG).2.2.2.2.2.1,(a.getD i jG).2.2.2.2.2.2.1,(a.getD i jG).2.2.2.2.2.2.2.1,(a.getD i jG).2.2.2.2.2.2.2.2)=some (enF (a.getD i jG)):=rfl;have e0':=e0;unfold jG at e0';rw[e0',aP];have ih:=aTT L a ha n (i+1) (by omega) (by omega);have es:a.length-i=(a.length-(i+1))+1:=by omega
   rw[wi (x:=(i:Int)+1) (by omega) (by omega),show(i:Int)+1=((i+1:Nat):Int)by omega,ih,es,aDO]
   change (bif enF (a.getD i jG) != 0 then some (enF (a.getD i jG))else _)=_
   by_cases h0:enF (a.getD i jG)=0
   ·rw[wO h0,cond_false];have hE:lgE a i=if 0 < i/\(a.getD i jG).1 < (a.getD (i-1) jG).1 then 1 else 0:=if_pos h0
    by_cases hp:0 < i
    ·rw[dt (show(i:Int) > 0 by omega),cond_true,wi (by omega) (by omega)];simp(disch:=omega) only[dt,cond_true,bM];rw[show((i:Int)-1).toNat=i-1 by omega]
     change (bif decide ((a.getD i jG).1 < (a.getD (i-1) jG).1)then _ else _)=_
     by_cases hl:(a.getD i jG).1 < (a.getD (i-1) jG).1
     ·rw[dt hl,cond_true,hE.trans (if_pos ⟨hp,hl⟩)];rfl
     ·rw[df hl,cond_false,hE.trans (if_neg λh=>hl h.2)];rfl
    ·rw[df (show ¬ (i:Int) > 0 by omega),cond_false,hE.trans (if_neg λh=>hp h.1)];rfl
   ·rw[rI h0,cond_true];have:lgE a i=enF (a.getD i jG):=if_neg h0;rw[this,if_neg h0]
  ·rw[df (by omega),cond_false];rw[show a.length-i=0 by omega]
   rfl
theorem aK8:Sat prog cxT 97 (c97 qH):=s97 sF aLd qH λx t h=>by
 cases h;refine⟨x.length+1,?_⟩;show g97 sF (x.length+1) x=some (tL x)
 (try unfold w97);unfold g97 A97_0 G97 tL;dsimp only[dX]
 by_cases hc:40 < x.length
 ·rw[dt (show(x.length:Int) > 40 by omega),cond_true,if_pos hc]
 ·rw[df (show ¬ (x.length:Int) > 40 by omega),cond_false,if_neg hc];exact aTT _ x (by omega) _ 0 (by omega) (by omega)
theorem aKu {x:En}(h:enF x=0):1<=x.1:=by
 unfold enF at h;cases ht:sC x.1 with
 | true=>have:=of_decide_eq_true ht;omega
 | false=>rw[ht]at h;simp at h
theorem aMz (L:Nat)(a:List En)(ha:a.length<=40):∀ (n i:Nat) (p:Int),i<=a.length->a.length < n+i->(if i=0 then p=0 else p=(a.getD (i-1) jG).1)->qT sF L a n p i (some 0)=some (fst (lgE a) (a.length-i) i)
 | 0,i,p,h1,h2,_=>by omega
 | n+1,i,p,h1,h2,h3=>by
  unfold qT B126_0;dsimp only[dX];by_cases hi:i < a.length
  ·simp(disch:=omega) only[dt,cond_true,bM,bB];have e0:sF ((a.getD i jG).1,(a.getD i jG).2.1,(a.getD i jG).2.2.1,(a.getD i jG).2.2.2.1,(a.getD i jG).2.2.2.2.1,(a.getD i jG).2.2.2.2.2.1,(a.getD i jG).2.2.2.2.2.2.1,(a.getD i jG).2.2.2.2.2.2.2.1,(a.getD i jG).2.2.2.2.2.2.2.2)=some (enF (a.getD i jG)):=rfl;have e0':=e0;unfold jG at e0';rw[e0',aP];have ih:=aMz L a ha n (i+1) (a.getD i jG).1 (by omega) (by omega) (by rw[if_neg (by omega)];rfl);have es:a.length-i=(a.length-(i+1))+1:=by omega
   rw[wi (x:=(i:Int)+1) (by omega) (by omega),show(i:Int)+1=((i+1:Nat):Int)by omega,es,aDO]
   change (bif enF (a.getD i jG) != 0 then some (enF (a.getD i jG))else bif decide ((a.getD i jG).1 < p)then _ else qT sF L a n (a.getD i jG).1 ((i+1:Nat):Int) (some 0))=_
   rw[ih];by_cases h0:enF (a.getD i jG)=0
   ·rw[wO h0,cond_false];have h1t:=aKu h0;have hE:lgE a i=if 0 < i/\(a.getD i jG).1 < (a.getD (i-1) jG).1 then 1 else 0:=if_pos h0
    by_cases hp:0 < i
    ·rw[if_neg (by omega)]at h3;rw[h3];by_cases hl:(a.getD i jG).1 < (a.getD (i-1) jG).1
     ·rw[dt hl,cond_true,hE.trans (if_pos ⟨hp,hl⟩)];rfl
     ·rw[df hl,cond_false,hE.trans (if_neg λh=>hl h.2)];rfl
    ·rw[if_pos (by omega)]at h3;rw[df (by omega),cond_false,hE.trans (if_neg λh=>hp h.1)];rfl
   ·rw[rI h0,cond_true];have:lgE a i=enF (a.getD i jG):=if_neg h0;rw[this,if_neg h0]
  ·rw[df (by omega),cond_false];rw[show a.length-i=0 by omega]
   rfl
theorem aHD:Sat prog cxT 126 (aHb qH):=aYj sF aHE qH λx t h=>by
 cases h;refine⟨x.length+1,?_⟩;show aIM sF (x.length+1) x=some (tL x)
 (try unfold aNy);unfold aIM A126_0 G126 tL;dsimp only[dX]
 by_cases hc:40 < x.length
 ·rw[dt (show(x.length:Int) > 40 by omega),cond_true,if_pos hc]
 ·rw[df (show ¬ (x.length:Int) > 40 by omega),cond_false,if_neg hc];exact aMz _ x (by omega) _ 0 0 (by omega) (by omega) rfl
end Go.Proofs.Tryz
set_option maxHeartbeats 0
namespace Go.Proofs.Tryz
open Go Go.VM Go.RowKit
def lO (a:List En):En:=a.getD (a.length-1) jG
def eU (a:List En):Option Int:=some (a.length:Int)
theorem aEr:Sat prog cxT 112 (aD8 eU):=aYx eU λx t h=>by cases h;exact⟨0,rfl⟩
abbrev EnB:=Int×Int×Int×Int×Int×Int×Int×Int×Int×Bool
def aFd (x:En)(b:Bool):EnB:=(x.1,x.2.1,x.2.2.1,x.2.2.2.1,x.2.2.2.2.1,x.2.2.2.2.2.1,x.2.2.2.2.2.2.1,x.2.2.2.2.2.2.2.1,x.2.2.2.2.2.2.2.2,b)
def yD (x:List En×Int):Option EnB:=if x.1.length<=lN then some (if 1<=x.2/\x.2<=(x.1.length:Int)then aFd (x.1.getD (x.2-1).toNat jG) true else aFd jG false)else none
theorem aQQ:Sat prog cxT 91 (c91 yD):=s91 eU aEr yD λx t h=>by
 obtain⟨a,i⟩:=x;unfold yD at h;split at h
 ·rename_i hm;have hm':a.length<=1000000000:=hm;cases h;refine⟨0,?_⟩;show g91 eU 0 a i=_
  (try unfold w91);unfold g91 G91;dsimp only[dX]
  rw[show eU a=some (a.length:Int) from rfl,aP];by_cases h1:i < 1
  ·rw[dt h1,cond_true,if_neg (by(try simp only);omega)];rfl
  ·rw[df h1,cond_false];by_cases h2:i > (a.length:Int)
   ·rw[dt h2,cond_true,if_neg (by(try simp only);omega)];rfl
   ·rw[df h2,cond_false,if_pos (by(try simp only);omega)];simp(disch:=omega) only[wi,dt,bM,cond_true]
    rfl
 ·cases h
def jX (a:List En):Option En:=if a.length<=lN then some (lO a)else none
theorem aHC:Sat prog cxT 127 (aHa jX):=aYi eU yD aEr aQQ jX λa t h=>by
 unfold jX at h;split at h
 ·rename_i hm;have hm':a.length<=1000000000:=hm;cases h;refine⟨0,?_⟩
  (try unfold aNx);unfold aKj G127;dsimp only[dX]
  rw[show eU a=some (a.length:Int) from rfl,aP];by_cases h0:a.length=0
  ·rw[show yD (a,(a.length:Int))=some (aFd jG false) from(if_pos hm).trans (by rw[if_neg (by(try simp only);omega)]),aP];have:a=[]:=pK.1 h0;subst this
   rfl
  ·rw[show yD (a,(a.length:Int))=some (aFd (lO a) true) from(if_pos hm).trans (by rw[if_pos (by(try simp only);omega)];unfold lO;simp only;rw[show((a.length:Int)-1).toNat=a.length-1 by omega]),aP]
   rfl
 ·cases h
theorem aK7:Sat prog cxT 98 (c98 jX):=s98 jX λa t h=>by
 unfold jX at h;split at h
 ·rename_i hm;have hm':a.length<=1000000000:=hm;cases h;refine⟨0,?_⟩
  (try unfold w98);unfold g98 G98;dsimp only[dX]
  by_cases h0:a.length=0
  ·have:a=[]:=pK.1 h0;subst this
   rfl
  ·rw[aE9 (by omega),cond_false];simp(disch:=omega) only[wi,dt,bM,cond_true];rw[show((a.length:Int)-1).toNat=a.length-1 by omega]
   rfl
 ·cases h
end Go.Proofs.Tryz
set_option maxHeartbeats 0
namespace Go.Proofs.Tryz
open Go Go.VM Go.RowKit
def vK (x:List Int×Int):Option Int:=if 0<=x.2/\x.2<=1048576/\x.1.length<=top then some (pM x.2 x.1.length)else none
theorem aQO:Sat prog cxT 95 (c95 vK):=s95 vK λx t h=>by
 obtain⟨a,v⟩:=x;unfold vK at h;split at h
 ·rename_i hc;cases h;exact⟨0,aCv hc.1 hc.2.1 hc.2.2⟩
 ·cases h
theorem aMC (L:Nat)(a:List Int):∀ (n:Nat) (o:List Int) (i:Int) (k:List Int->Option (List Int)),tS L a n o i k=toL 0 (λx=>some x) a n o i k
 | 0,_,_,_=>rfl
 | n+1,o,i,k=>by unfold tS B103_0 toL;dsimp only[dX];simp only[aMC L a n,aP]
theorem aDG {n:Nat}(h:n<=lN):((decide ((0:Int)<=(n:Int))&&decide ((n:Int)<=(n:Int)))&&decide ((n:Int)<=(1000000000:Int)))=true:=by
 unfold lN at h;rw[dt (by omega),dt (iH _),dt (by omega)];rfl
def kF (a:List Int):Option (List Int):=if a.length<=lN then some a else none
theorem aOv:Sat prog cxT 103 (aKT kF):=aYE kF λx t h=>by
 unfold kF at h;split at h
 ·rename_i ha;cases h;refine⟨x.length+1,?_⟩
  (try unfold aNH);unfold aKl A103_0 G103;dsimp only[dX]
  rw[aDG ha,cond_true,aMC,bB];unfold lN at ha;exact aCu 0 _ x (by omega) (λ_ _=>rfl) _ _ 0 _ (by simp) (by omega) (by omega) rfl
 ·cases h
theorem aMB (L:Nat)(a b:List Int):∀ (n:Nat) (i:Int) (k:Option Bool),tR L a b n i k=eqL 0 (λx=>some (decide (x.1=x.2))) a b n i k
 | 0,_,_=>rfl
 | n+1,i,k=>by
  unfold tR B109_0 eqL;dsimp only[dX];simp only[aMB L a b n,aP];congr 2
def kE (x:List Int×List Int):Option Bool:=if x.1.length<=1000000000000 then some (decide (x.1=x.2))else none
theorem aOt:Sat prog cxT 109 (aKR kE):=aYy kE λx t h=>by
 obtain⟨a,b⟩:=x;unfold kE at h;split at h
 ·rename_i hc;cases h;have hc:a.length<=1000000000000:=hc;refine⟨a.length+1,?_⟩;show aIT (a.length+1) a b=some (decide (a=b))
  (try unfold aNE);unfold aIT A109_0 G109;dsimp only[dX]
  refine gO (λe=>?_) λe h=>e (by rw[h])
  rw[aMB];refine(aAR 0 _ a b (by omega) (by omega) (λ_ _ _ _=>rfl) _ _ 0 (by omega) (by omega)).trans ?_;simp only[fC];split<;>rename_i hh<;>simp[hh]
 ·cases h
abbrev Nd:=Int×Int×Int×Int×List En×Int×Int×List Int×List Int×List Int
instance decN1:DecidableEq (List Int×List Int×List Int):=inferInstance
instance decN2:DecidableEq (Int×List Int×List Int×List Int):=instDecidableEqProd
instance decN3:DecidableEq (Int×Int×List Int×List Int×List Int):=instDecidableEqProd
instance decN4:DecidableEq (List En×Int×Int×List Int×List Int×List Int):=instDecidableEqProd
instance decN5:DecidableEq (Int×List En×Int×Int×List Int×List Int×List Int):=instDecidableEqProd
instance decN6:DecidableEq (Int×Int×List En×Int×Int×List Int×List Int×List Int):=instDecidableEqProd
instance decN7:DecidableEq (Int×Int×Int×List En×Int×Int×List Int×List Int×List Int):=instDecidableEqProd
instance decNd:DecidableEq Nd:=(instDecidableEqProd:DecidableEq (Int×Int×Int×Int×List En×Int×Int×List Int×List Int×List Int))
def wN (n:Nd):Int:=(n.2.2.2.2.1.length:Int)+n.2.2.2.2.2.2.2.1.length+n.2.2.2.2.2.2.2.2.1.length+n.2.2.2.2.2.2.2.2.2.length
def nK (n:Nd)(B:Nat):Prop:=n.2.2.2.2.1.length<=B/\n.2.2.2.2.2.2.2.1.length<=B/\n.2.2.2.2.2.2.2.2.1.length<=B/\n.2.2.2.2.2.2.2.2.2.length<=B
instance (n:Nd)(B:Nat):Decidable (nK n B):=by unfold nK;infer_instance
def mM (x:Nd×Int):Option Int:=if 0<=x.2/\x.2<=1048576/\nK x.1 top then some (pM x.2 (wN x.1))else none
theorem hJ {v w:Int}(h:v-w < 0):pM v w=-1:=if_pos h
theorem kS {v w:Int}(h:¬ v-w < 0):pM v w=v-w:=if_neg h
theorem aQ7:Sat prog cxT 65 (c65 mM):=s65 mZ vK aK9 aQO mM λx t h=>by
 obtain⟨⟨a,b,c,d,lg,e,f,vt,nx,mt⟩,v⟩:=x;unfold mM at h;split at h
 ·rename_i hc;cases h;obtain⟨h0,h1,h2,h3,h4,h5⟩:=hc;simp only at h0 h1 h2 h3 h4 h5;refine⟨0,?_⟩;show g65 mZ vK 0 a b c d lg e f vt nx mt v=some (pM v ((lg.length:Int)+vt.length+nx.length+mt.length));have e1:mZ (lg,v)=some (pM v lg.length):=if_pos ⟨h2,h0,h1⟩
  (try unfold w65);unfold g65 G65;dsimp only[dX]
  rw[e1,aP];by_cases k1:v-(lg.length:Int) < 0
  ·rw[hJ k1,dt (by omega),cond_true,hJ (by omega)]
  rw[kS k1,df k1,cond_false];have e2:vK (vt,v-lg.length)=some (pM (v-lg.length) vt.length):=if_pos ⟨by(try simp only);omega,by(try simp only);omega,h3⟩;rw[e2,aP];by_cases k2:v-(lg.length:Int)-vt.length < 0
  ·rw[hJ k2,dt (by omega),cond_true,hJ (by omega)]
  rw[kS k2,df k2,cond_false];have e3:vK (nx,v-lg.length-vt.length)=some (pM (v-lg.length-vt.length) nx.length):=if_pos ⟨by(try simp only);omega,by(try simp only);omega,h4⟩;rw[e3,aP];by_cases k3:v-(lg.length:Int)-vt.length-nx.length < 0
  ·rw[hJ k3,dt (by omega),cond_true,hJ (by omega)]
  rw[kS k3,df k3,cond_false];have e4:vK (mt,v-lg.length-vt.length-nx.length)=some (pM (v-lg.length-vt.length-nx.length) mt.length):=if_pos ⟨by(try simp only);omega,by(try simp only);omega,h5⟩;rw[e4,aP];by_cases k4:v-(lg.length:Int)-vt.length-nx.length-mt.length < 0
  ·rw[hJ k4,dt (by omega),cond_true,hJ (by omega)]
  rw[kS k4,df k4,cond_false,kS (by omega)];congr 1;omega
 ·cases h
def mJ (n:Nd):Option Nd:=if nK n lN then some n else none
theorem aQ2:Sat prog cxT 72 (c72 mJ):=s72 gS kF aHH aOv mJ λx t h=>by
 obtain⟨a,b,c,d,lg,e,f,vt,nx,mt⟩:=x;unfold mJ at h;split at h
 ·rename_i hc;cases h;obtain⟨h2,h3,h4,h5⟩:=hc;refine⟨0,?_⟩;show g72 gS kF 0 a b c d lg e f vt nx mt=_
  (try unfold w72);unfold g72 G72;dsimp only[dX]
  rw[show gS lg=some lg from if_pos h2,aP,show kF vt=some vt from if_pos h3,aP,show kF nx=some nx from if_pos h4,aP,show kF mt=some mt from if_pos h5,aP]
 ·cases h
def mH (x:Nd×Nd):Option Bool:=if nK x.1 lN then some (decide (x.1=x.2))else none
theorem pG {p q:Prop}[Decidable p][Decidable q]{o:Option Bool}(h:p->o=some (decide q))(h2:¬ p->¬ q):(bif !decide p then some false else o)=some (decide q):=by
 by_cases hp:p
 ·rw[dt hp];exact h hp
 ·rw[df hp,df (h2 hp)];rfl
theorem aQV:Sat prog cxT 82 (c82 mH):=s82 jF kE aHB aOt mH λx t h=>by
 obtain⟨⟨a,b,c,d,lg,e,f,vt,nx,mt⟩,a',b',c',d',lg',e',f',vt',nx',mt'⟩:=x;unfold mH at h;split at h
 ·rename_i hc;cases h;obtain⟨h2,h3,h4,h5⟩:=hc;simp only[lN]at h2 h3 h4 h5;refine⟨0,?_⟩;show g82 jF kE 0 a b c d lg e f vt nx mt a' b' c' d' lg' e' f' vt' nx' mt'=_
  (try unfold w82);unfold g82 G82;dsimp only[dX]
  rw[show jF (lg,lg')=some (decide (lg=lg')) from if_pos (by(try simp only);omega),aP,show kE (vt,vt')=some (decide (vt=vt')) from if_pos (by(try simp only);omega),aP,show kE (nx,nx')=some (decide (nx=nx')) from if_pos (by(try simp only);omega),aP,
   show kE (mt,mt')=some (decide (mt=mt')) from if_pos (by(try simp only);omega),aP]
  refine gO (λe1=>gO (λe2=>gO (λe3=>gO (λe4=>pG (λe5=>gO (λe6=>gO (λe7=>pG (λe8=>pG (λe9=>pG (λe10=>?_) ?_) ?_) ?_) ?_) ?_) ?_) ?_) ?_) ?_) ?_
  ·subst e1 e2 e3 e4 e5 e6 e7 e8 e9 e10;simp
  all_goals intro e h;simp only[aM]at h;obtain⟨q1,q2,q3,q4,q5,q6,q7,q8,q9,q10⟩:=h;first | exact e q1 | exact e q2 | exact e q3 | exact e q4 | exact e q5 | exact e q6 | exact e q7 | exact e q8 | exact e q9 | exact e q10
 ·cases h
end Go.Proofs.Tryz
set_option maxHeartbeats 0
namespace Go.Proofs.Tryz
open Go Go.VM Go.RowKit
def mkI (v:Int):Int:=v
def kD (x:List Int×Int):Option (Int×List Int):=if x.1.length<=1000000000/\0<=x.2/\x.2<=100000000000 then some (x.2+1 * (x.1.length:Int),oA mkI 1 x.1.length x.2)else none
theorem aXT (L:Nat)(a0:List Int)(a1:Int)(n:Nat)(o:List Int)(v:Int)(i:Nat)(K:List Int->Int->Option (Int×List Int))(ho:o.length<=1000000000)(hi:i < o.length)(h0:0<=v)(h1:v<=1000000000000000) :
  qJ L a0 a1 (n+1) o v i K=qJ L a0 a1 n (o.set i (mkI v)) (v+1) ((i+1:Nat):Int) K:=by
 conv=>lhs;unfold qJ B93_0;dsimp only[dX]
 simp(disch:=omega) only[dX,dt,wi,cond_true,bM,bB];rw[show(i:Int)+1=((i+1:Nat):Int)by omega]
 rfl
theorem aQP:SatW prog cxT 93 (c93 kD).nres (c93 kD).n (c93 kD).F:=s93 kD λx t h=>by
 obtain⟨o,v⟩:=x;unfold kD at h;split at h
 ·rename_i hc;cases h;simp only at hc;refine⟨o.length+1,?_⟩;show g93 (o.length+1) o v=_
  (try unfold w93);unfold g93 A93_0 G93;dsimp only[dX]
  refine(uS mkI 1 1000000000000000 o.length (by omega) (λn o' v' i' K=>qJ (o.length+1) o v n o' v' i' K) (λn o' v' i' K hl h1 h2 h3=>aXT _ _ _ _ _ _ _ _ (by omega) h1 h2 h3)
   (λn o' v' i' K hl h1=>?_) (λw0_0 w0_1=>some (w0_1,w0_0)) (o.length+1) 0 o v rfl (by omega) (by omega) hc.2.1 (by omega)).trans ?_
  ·show qJ _ _ _ (n+1) o' v' i' K=_
   conv=>lhs;unfold qJ B93_0;dsimp only[dX]
   rw[df (by omega),cond_false]
  ·simp
 ·cases h
def hdI (x:List Int×Int):Prop:=x.1.length<=1000000000/\0<=x.2/\x.2<=100000000000/\x.1=oA mkI 1 x.1.length x.2
instance (x:List Int×Int):Decidable (hdI x):=by unfold hdI;infer_instance
def k1 (n:Nd)(v:Int):Int:=v+9 * (n.2.2.2.2.1.length:Int)
def k2 (n:Nd)(v:Int):Int:=k1 n v+1 * (n.2.2.2.2.2.2.2.1.length:Int)
def k3 (n:Nd)(v:Int):Int:=k2 n v+1 * (n.2.2.2.2.2.2.2.2.1.length:Int)
def k4 (n:Nd)(v:Int):Int:=k3 n v+1 * (n.2.2.2.2.2.2.2.2.2.length:Int)
def mkN (n:Nd)(v:Int):Nd:=(n.1,n.2.1,n.2.2.1,n.2.2.2.1,oA mkE 9 n.2.2.2.2.1.length v,n.2.2.2.2.2.1,n.2.2.2.2.2.2.1,oA mkI 1 n.2.2.2.2.2.2.2.1.length (k1 n v),oA mkI 1 n.2.2.2.2.2.2.2.2.1.length (k2 n v),oA mkI 1 n.2.2.2.2.2.2.2.2.2.length (k3 n v))
def hdN (x:Nd×Int):Prop:=nK x.1 100000000/\0<=x.2/\x.2<=1000000000/\x.1=mkN x.1 x.2
instance (x:Nd×Int):Decidable (hdN x):=by unfold hdN;infer_instance
end Go.Proofs.Tryz
