/- A part of the proof of FnExactClusterFault: LiPc, LiPl, LiPn, LiPo. -/
import Derived.Test.YtalbnpcbmakijaaGreatLiPa
import Derived.Test.YtalbnpcbmakijaaGreatLiQc
import Derived.Test.YtalbnpcbmakijaaGreatLiFi
import Derived.Test.YtalbnpcbmakijaaGreatLiFc
set_option linter.unusedSimpArgs false
set_option linter.unusedVariables false
set_option maxHeartbeats 0
namespace Go.Proofs.Tryz
open Go Go.VM Go.RowKit
def qS (x:Int):Bool:=decide (1<=x/\x<=100000)
def aSg (x:Int):Bool:=decide (0<=x/\x<=999)
def aOO (x:Int):Bool:=decide (0<=x/\x<=1000000)
theorem aB0:Sat prog cxT 47 (c47 λx=>some (qS x)):=s47 _ λx t h=>by cases h;exact⟨0,kI⟩
theorem aMs:Sat prog cxT 156 (aIS λx=>some (aSg x)):=aU9 _ λx t h=>by cases h;exact⟨0,kI⟩
theorem aMr:Sat prog cxT 157 (aIR λx=>some (aOO x)):=aU8 _ λx t h=>by cases h;exact⟨0,kI⟩
def z6 (q:Cm):Bool:=(((((q.1 == 0)&&(q.2.1 == 0))&&(q.2.2.1 == 0))&&(q.2.2.2.1 == 0))&&(q.2.2.2.2.1 == 0))&&(q.2.2.2.2.2 == 0)
def enF (x:En):Int:=bif !qS x.1 then 3 else bif !aSg x.2.1 then 3 else bif !aOO x.2.2.1 then 3 else bif !((x.2.1 == 0) == (x.2.2.1 == 0))then 1 else bif x.2.1 != 0 then cmF x.2.2.2 else bif !z6 x.2.2.2 then 1 else 0
def qV (x:En):Option Int:=some (enF x)
theorem aBY {α:Type}(b:Bool)(x y:α):(bif b then some x else some y)=some (bif b then x else y):=by cases b<;>rfl
theorem aJj:Sat prog cxT 97 (c97 qV):=s97 _ _ _ kL aB0 aMs aMr aMq qV λx t h=>by
 obtain⟨t,c,s,q⟩:=x;cases h;refine⟨0,?_⟩;show g97 _ _ _ kL 0 t c s q.1 q.2.1 q.2.2.1 q.2.2.2.1 q.2.2.2.2.1 q.2.2.2.2.2=_
 (try unfold w97);unfold g97 G97;dsimp only[fB]
 simp only[aV];rw[show kL (q.1,(q.2.1,(q.2.2.1,(q.2.2.2.1,(q.2.2.2.2.1,q.2.2.2.2.2)))))=some (cmF q) from rfl,aV];simp only[aBY]
 rfl
theorem aJl:Sat prog cxT 89 (c89 qV):=s89 _ kL mK aME qV λx t h=>by
 obtain⟨t,c,s,q⟩:=x;cases h;refine⟨0,?_⟩;show g89 _ kL 0 t c s q.1 q.2.1 q.2.2.1 q.2.2.2.1 q.2.2.2.2.1 q.2.2.2.2.2=_
 (try unfold w89);unfold g89 G89;dsimp only[fB]
 simp only[aV];rw[show kL (q.1,(q.2.1,(q.2.2.1,(q.2.2.2.1,(q.2.2.2.2.1,q.2.2.2.2.2)))))=some (cmF q) from rfl,aV];simp only[aBY]
 rfl
def lgE (a:List En)(i:Nat):Int:=if enF (a.getD i iZ)=0 then(if 0 < i/\(a.getD i iZ).1 < (a.getD (i-1) iZ).1 then 1 else 0)else enF (a.getD i iZ)
def sA (a:List En):Int:=if 40 < a.length then 2 else fst (lgE a) a.length 0
def pK (a:List En):Option Int:=some (sA a)
theorem aKB (L:Nat)(a:List En)(ha:a.length<=40):∀ (n i:Nat),i<=a.length->a.length < n+i->sL qV L a n i (some 0)=some (fst (lgE a) (a.length-i) i)
 | 0,i,h1,h2=>by omega
 | n+1,i,h1,h2=>by
  unfold sL B136_0;dsimp only[fB];by_cases hi:i < a.length
  ·simp(disch:=omega) only[dt,cond_true,cI,cD];have e0:qV ((a.getD i iZ).1,(a.getD i iZ).2.1,(a.getD i iZ).2.2.1,(a.getD i iZ).2.2.2.1,(a.getD i iZ).2.2.2.2.1,(a.getD i iZ).2.2.2.2.2.1,(a.getD i iZ).2.2.2.2.2.2.1,(a.getD i iZ).2.2.2.2.2.2.2.1,(a.getD i iZ).2.2.2.2.2.2.2.2)=some (enF (a.getD i iZ)):=rfl;have e0':=e0;unfold iZ at e0';rw[e0',aV];have ih:=aKB L a ha n (i+1) (by omega) (by omega);have es:a.length-i=(a.length-(i+1))+1:=by omega
   rw[wi (x:=(i:Int)+1) (by omega) (by omega),show(i:Int)+1=((i+1:Nat):Int)by omega,ih,es,aCo]
   change (bif enF (a.getD i iZ) != 0 then some (enF (a.getD i iZ))else _)=_
   by_cases h0:enF (a.getD i iZ)=0
   ·rw[aCO h0,cond_false];have hE:lgE a i=if 0 < i/\(a.getD i iZ).1 < (a.getD (i-1) iZ).1 then 1 else 0:=if_pos h0
    by_cases hp:0 < i
    ·rw[dt (show(i:Int) > 0 by omega),cond_true,wi (by omega) (by omega)];simp(disch:=omega) only[dt,cond_true,cI];rw[show((i:Int)-1).toNat=i-1 by omega]
     change (bif decide ((a.getD i iZ).1 < (a.getD (i-1) iZ).1)then _ else _)=_
     by_cases hl:(a.getD i iZ).1 < (a.getD (i-1) iZ).1
     ·rw[dt hl,cond_true,hE.trans (if_pos ⟨hp,hl⟩)];rfl
     ·rw[df hl,cond_false,hE.trans (if_neg λh=>hl h.2)];rfl
    ·rw[df (show ¬ (i:Int) > 0 by omega),cond_false,hE.trans (if_neg λh=>hp h.1)];rfl
   ·rw[uN h0,cond_true];have:lgE a i=enF (a.getD i iZ):=if_neg h0;rw[this,if_neg h0]
  ·rw[df (by omega),cond_false];rw[show a.length-i=0 by omega]
   rfl
theorem aGh:Sat prog cxT 136 (aFP pK):=aVs qV aJl pK λx t h=>by
 cases h;refine⟨x.length+1,?_⟩;show aHs qV (x.length+1) x=some (sA x)
 (try unfold aLQ);unfold aHs A136_0 G136 sA;dsimp only[fB]
 by_cases hc:40 < x.length
 ·rw[dt (show(x.length:Int) > 40 by omega),cond_true,if_pos hc]
 ·rw[df (show ¬ (x.length:Int) > 40 by omega),cond_false,if_neg hc];exact aKB _ x (by omega) _ 0 (by omega) (by omega)
theorem aID {x:En}(h:enF x=0):1<=x.1:=by
 unfold enF at h;cases ht:qS x.1 with
 | true=>have:=of_decide_eq_true ht;omega
 | false=>rw[ht]at h;simp at h
theorem aKx (L:Nat)(a:List En)(ha:a.length<=40):∀ (n i:Nat) (p:Int),i<=a.length->a.length < n+i->(if i=0 then p=0 else p=(a.getD (i-1) iZ).1)->pO qV L a n p i (some 0)=some (fst (lgE a) (a.length-i) i)
 | 0,i,p,h1,h2,_=>by omega
 | n+1,i,p,h1,h2,h3=>by
  unfold pO B147_0;dsimp only[fB];by_cases hi:i < a.length
  ·simp(disch:=omega) only[dt,cond_true,cI,cD];have e0:qV ((a.getD i iZ).1,(a.getD i iZ).2.1,(a.getD i iZ).2.2.1,(a.getD i iZ).2.2.2.1,(a.getD i iZ).2.2.2.2.1,(a.getD i iZ).2.2.2.2.2.1,(a.getD i iZ).2.2.2.2.2.2.1,(a.getD i iZ).2.2.2.2.2.2.2.1,(a.getD i iZ).2.2.2.2.2.2.2.2)=some (enF (a.getD i iZ)):=rfl;have e0':=e0;unfold iZ at e0';rw[e0',aV];have ih:=aKx L a ha n (i+1) (a.getD i iZ).1 (by omega) (by omega) (by rw[if_neg (by omega)];rfl);have es:a.length-i=(a.length-(i+1))+1:=by omega
   rw[wi (x:=(i:Int)+1) (by omega) (by omega),show(i:Int)+1=((i+1:Nat):Int)by omega,es,aCo]
   change (bif enF (a.getD i iZ) != 0 then some (enF (a.getD i iZ))else bif decide ((a.getD i iZ).1 < p)then _ else pO qV L a n (a.getD i iZ).1 ((i+1:Nat):Int) (some 0))=_
   rw[ih];by_cases h0:enF (a.getD i iZ)=0
   ·rw[aCO h0,cond_false];have h1t:=aID h0;have hE:lgE a i=if 0 < i/\(a.getD i iZ).1 < (a.getD (i-1) iZ).1 then 1 else 0:=if_pos h0
    by_cases hp:0 < i
    ·rw[if_neg (by omega)]at h3;rw[h3];by_cases hl:(a.getD i iZ).1 < (a.getD (i-1) iZ).1
     ·rw[dt hl,cond_true,hE.trans (if_pos ⟨hp,hl⟩)];rfl
     ·rw[df hl,cond_false,hE.trans (if_neg λh=>hl h.2)];rfl
    ·rw[if_pos (by omega)]at h3;rw[df (by omega),cond_false,hE.trans (if_neg λh=>hp h.1)];rfl
   ·rw[uN h0,cond_true];have:lgE a i=enF (a.getD i iZ):=if_neg h0;rw[this,if_neg h0]
  ·rw[df (by omega),cond_false];rw[show a.length-i=0 by omega]
   rfl
theorem aGe:Sat prog cxT 147 (aFM pK):=aVi qV aJj pK λx t h=>by
 cases h;refine⟨x.length+1,?_⟩;show aHn qV (x.length+1) x=some (sA x)
 (try unfold aLJ);unfold aHn A147_0 G147 sA;dsimp only[fB]
 by_cases hc:40 < x.length
 ·rw[dt (show(x.length:Int) > 40 by omega),cond_true,if_pos hc]
 ·rw[df (show ¬ (x.length:Int) > 40 by omega),cond_false,if_neg hc];exact aKx _ x (by omega) _ 0 0 (by omega) (by omega) rfl
end Go.Proofs.Tryz
set_option maxHeartbeats 0
namespace Go.Proofs.Tryz
open Go Go.VM Go.RowKit
def lC (a:List En):En:=a.getD (a.length-1) iZ
def eO (a:List En):Option Int:=some (a.length:Int)
theorem aC5:Sat prog cxT 190 (aCL eO):=aUW eO λx t h=>by cases h;exact⟨0,rfl⟩
abbrev EnB:=Int×Int×Int×Int×Int×Int×Int×Int×Int×Bool
def aDT (x:En)(b:Bool):EnB:=(x.1,x.2.1,x.2.2.1,x.2.2.2.1,x.2.2.2.2.1,x.2.2.2.2.2.1,x.2.2.2.2.2.2.1,x.2.2.2.2.2.2.2.1,x.2.2.2.2.2.2.2.2,b)
def lH (x:List En×Int):Option EnB:=if x.1.length<=mH then some (if 1<=x.2/\x.2<=(x.1.length:Int)then aDT (x.1.getD (x.2-1).toNat iZ) true else aDT iZ false)else none
theorem aMh:Sat prog cxT 189 (aIO lH):=aUX eO aC5 lH λx t h=>by
 obtain⟨a,i⟩:=x;unfold lH at h;split at h
 ·rename_i hm;have hm':a.length<=1000000000:=hm;cases h;refine⟨0,?_⟩;show aHc eO 0 a i=_
  (try unfold aLw);unfold aHc G189;dsimp only[fB]
  rw[show eO a=some (a.length:Int) from rfl,aV];by_cases h1:i < 1
  ·rw[dt h1,cond_true,if_neg (by(try simp only);omega)];rfl
  ·rw[df h1,cond_false];by_cases h2:i > (a.length:Int)
   ·rw[dt h2,cond_true,if_neg (by(try simp only);omega)];rfl
   ·rw[df h2,cond_false,if_pos (by(try simp only);omega)];simp(disch:=omega) only[wi,dt,cI,cond_true]
    rfl
 ·cases h
def jM (a:List En):Option En:=if a.length<=mH then some (lC a)else none
theorem aGd:Sat prog cxT 148 (aFL jM):=aVh eO lH aC5 aMh jM λa t h=>by
 unfold jM at h;split at h
 ·rename_i hm;have hm':a.length<=1000000000:=hm;cases h;refine⟨0,?_⟩
  (try unfold aLI);unfold aIs G148;dsimp only[fB]
  rw[show eO a=some (a.length:Int) from rfl,aV];by_cases h0:a.length=0
  ·rw[show lH (a,(a.length:Int))=some (aDT iZ false) from(if_pos hm).trans (by rw[if_neg (by(try simp only);omega)]),aV];have:a=[]:=oP.1 h0;subst this
   rfl
  ·rw[show lH (a,(a.length:Int))=some (aDT (lC a) true) from(if_pos hm).trans (by rw[if_pos (by(try simp only);omega)];unfold lC;simp only;rw[show((a.length:Int)-1).toNat=a.length-1 by omega]),aV]
   rfl
 ·cases h
theorem aGj:Sat prog cxT 124 (aFR jM):=aVw jM λa t h=>by
 unfold jM at h;split at h
 ·rename_i hm;have hm':a.length<=1000000000:=hm;cases h;refine⟨0,?_⟩
  (try unfold aLR);unfold aIv G124;dsimp only[fB]
  by_cases h0:a.length=0
  ·have:a=[]:=oP.1 h0;subst this
   rfl
  ·rw[aFS (by omega),cond_false];simp(disch:=omega) only[wi,dt,cI,cond_true];rw[show((a.length:Int)-1).toNat=a.length-1 by omega]
   rfl
 ·cases h
end Go.Proofs.Tryz
set_option maxHeartbeats 0
namespace Go.Proofs.Tryz
open Go Go.VM Go.RowKit
def jT (x:List Int×Int):Option Int:=if 0<=x.2/\x.2<=1048576/\x.1.length<=top then some (pC x.2 x.1.length)else none
theorem aMH:Sat prog cxT 134 (aI6 jT):=aVu jT λx t h=>by
 obtain⟨a,v⟩:=x;unfold jT at h;split at h
 ·rename_i hc;cases h;exact⟨0,aA6 hc.1 hc.2.1 hc.2.2⟩
 ·cases h
theorem aKy (L:Nat)(a:List Int):∀ (n:Nat) (o:List Int) (i:Int) (k:List Int->Option (List Int)),sI L a n o i k=toL 0 (λx=>some x) a n o i k
 | 0,_,_,_=>rfl
 | n+1,o,i,k=>by unfold sI B141_0 toL;dsimp only[fB];simp only[aKy L a n,aV]
theorem aCf {n:Nat}(h:n<=mH):((decide ((0:Int)<=(n:Int))&&decide ((n:Int)<=(n:Int)))&&decide ((n:Int)<=(1000000000:Int)))=true:=by
 unfold mH at h;rw[dt (by omega),dt (jA _),dt (by omega)];rfl
def jS (a:List Int):Option (List Int):=if a.length<=mH then some a else none
theorem aMD:Sat prog cxT 141 (aI3 jS):=aVo jS λx t h=>by
 unfold jS at h;split at h
 ·rename_i ha;cases h;refine⟨x.length+1,?_⟩
  (try unfold aLN);unfold aIt A141_0 G141;dsimp only[fB]
  rw[aCf ha,cond_true,aKy,cD];unfold mH at ha;exact aA5 0 _ x (by omega) (λ_ _=>rfl) _ _ 0 _ (by simp) (by omega) (by omega) rfl
 ·cases h
theorem aKt (L:Nat)(a b:List Int):∀ (n:Nat) (i:Int) (k:Option Bool),sE L a b n i k=eqL 0 (λx=>some (decide (x.1=x.2))) a b n i k
 | 0,_,_=>rfl
 | n+1,i,k=>by
  unfold sE B160_0 eqL;dsimp only[fB];simp only[aKt L a b n,aV];congr 2
def jR (x:List Int×List Int):Option Bool:=if x.1.length<=1000000000000 then some (decide (x.1=x.2))else none
theorem aMp:Sat prog cxT 160 (aIQ jR):=aU6 jR λx t h=>by
 obtain⟨a,b⟩:=x;unfold jR at h;split at h
 ·rename_i hc;cases h;have hc:a.length<=1000000000000:=hc;refine⟨a.length+1,?_⟩;show aHg (a.length+1) a b=some (decide (a=b))
  (try unfold aLB);unfold aHg A160_0 G160;dsimp only[fB]
  refine gS (λe=>?_) λe h=>e (by rw[h])
  rw[aKt];refine(zC 0 _ a b (by omega) (by omega) (λ_ _ _ _=>rfl) _ _ 0 (by omega) (by omega)).trans ?_;simp only[eS];split<;>rename_i hh<;>simp[hh]
 ·cases h
abbrev Nd:=Int×Int×Int×Int×List En×Int×Int×List Int×List Int×List Int
instance decN1:DecidableEq (List Int×List Int×List Int):=inferInstance
instance decN2:DecidableEq (Int×List Int×List Int×List Int):=instDecidableEqProd
instance decN3:DecidableEq (Int×Int×List Int×List Int×List Int):=instDecidableEqProd
instance decN4:DecidableEq (List En×Int×Int×List Int×List Int×List Int):=instDecidableEqProd
instance decN5:DecidableEq (Int×List En×Int×Int×List Int×List Int×List Int):=instDecidableEqProd
instance decN6:DecidableEq (Int×Int×List En×Int×Int×List Int×List Int×List Int):=instDecidableEqProd
instance decN7:DecidableEq (Int×Int×Int×List En×Int×Int×List Int×List Int×List Int):=instDecidableEqProd
instance decNd:DecidableEq Nd:=(instDecidableEqProd:DecidableEq (Int×Int×Int×Int×List En×Int×Int×List Int×List Int×List Int))
def wN (n:Nd):Int:=(n.2.2.2.2.1.length:Int)+n.2.2.2.2.2.2.2.1.length+n.2.2.2.2.2.2.2.2.1.length+n.2.2.2.2.2.2.2.2.2.length
def pA (n:Nd)(B:Nat):Prop:=n.2.2.2.2.1.length<=B/\n.2.2.2.2.2.2.2.1.length<=B/\n.2.2.2.2.2.2.2.2.1.length<=B/\n.2.2.2.2.2.2.2.2.2.length<=B
instance (n:Nd)(B:Nat):Decidable (pA n B):=by unfold pA;infer_instance
def lY (x:Nd×Int):Option Int:=if 0<=x.2/\x.2<=1048576/\pA x.1 top then some (pC x.2 (wN x.1))else none
theorem gT {v w:Int}(h:v-w < 0):pC v w=-1:=if_pos h
theorem kF {v w:Int}(h:¬ v-w < 0):pC v w=v-w:=if_neg h
theorem aO1:Sat prog cxT 83 (c83 lY):=s83 gG jT aGi aMH lY λx t h=>by
 obtain⟨⟨a,b,c,d,lg,e,f,vt,nx,mt⟩,v⟩:=x;unfold lY at h;split at h
 ·rename_i hc;cases h;obtain⟨h0,h1,h2,h3,h4,h5⟩:=hc;simp only at h0 h1 h2 h3 h4 h5;refine⟨0,?_⟩;show g83 gG jT 0 a b c d lg e f vt nx mt v=some (pC v ((lg.length:Int)+vt.length+nx.length+mt.length));have e1:gG (lg,v)=some (pC v lg.length):=if_pos ⟨h2,h0,h1⟩
  (try unfold w83);unfold g83 G83;dsimp only[fB]
  rw[e1,aV];by_cases k1:v-(lg.length:Int) < 0
  ·rw[gT k1,dt (by omega),cond_true,gT (by omega)]
  rw[kF k1,df k1,cond_false];have e2:jT (vt,v-lg.length)=some (pC (v-lg.length) vt.length):=if_pos ⟨by(try simp only);omega,by(try simp only);omega,h3⟩;rw[e2,aV];by_cases k2:v-(lg.length:Int)-vt.length < 0
  ·rw[gT k2,dt (by omega),cond_true,gT (by omega)]
  rw[kF k2,df k2,cond_false];have e3:jT (nx,v-lg.length-vt.length)=some (pC (v-lg.length-vt.length) nx.length):=if_pos ⟨by(try simp only);omega,by(try simp only);omega,h4⟩;rw[e3,aV];by_cases k3:v-(lg.length:Int)-vt.length-nx.length < 0
  ·rw[gT k3,dt (by omega),cond_true,gT (by omega)]
  rw[kF k3,df k3,cond_false];have e4:jT (mt,v-lg.length-vt.length-nx.length)=some (pC (v-lg.length-vt.length-nx.length) mt.length):=if_pos ⟨by(try simp only);omega,by(try simp only);omega,h5⟩;rw[e4,aV];by_cases k4:v-(lg.length:Int)-vt.length-nx.length-mt.length < 0
  ·rw[gT k4,dt (by omega),cond_true,gT (by omega)]
  rw[kF k4,df k4,cond_false,kF (by omega)];congr 1;omega
 ·cases h
def lW (n:Nd):Option Nd:=if pA n mH then some n else none
theorem aOW:Sat prog cxT 90 (c90 lW):=s90 gF jS aGg aMD lW λx t h=>by
 obtain⟨a,b,c,d,lg,e,f,vt,nx,mt⟩:=x;unfold lW at h;split at h
 ·rename_i hc;cases h;obtain⟨h2,h3,h4,h5⟩:=hc;refine⟨0,?_⟩;show g90 gF jS 0 a b c d lg e f vt nx mt=_
  (try unfold w90);unfold g90 G90;dsimp only[fB]
  rw[show gF lg=some lg from if_pos h2,aV,show jS vt=some vt from if_pos h3,aV,show jS nx=some nx from if_pos h4,aV,show jS mt=some mt from if_pos h5,aV]
 ·cases h
def lU (x:Nd×Nd):Option Bool:=if pA x.1 mH then some (decide (x.1=x.2))else none
theorem oL {p q:Prop}[Decidable p][Decidable q]{o:Option Bool}(h:p->o=some (decide q))(h2:¬ p->¬ q):(bif !decide p then some false else o)=some (decide q):=by
 by_cases hp:p
 ·rw[dt hp];exact h hp
 ·rw[df hp,df (h2 hp)];rfl
theorem aOR:Sat prog cxT 98 (c98 lU):=s98 gE jR aGc aMp lU λx t h=>by
 obtain⟨⟨a,b,c,d,lg,e,f,vt,nx,mt⟩,a',b',c',d',lg',e',f',vt',nx',mt'⟩:=x;unfold lU at h;split at h
 ·rename_i hc;cases h;obtain⟨h2,h3,h4,h5⟩:=hc;simp only[mH]at h2 h3 h4 h5;refine⟨0,?_⟩;show g98 gE jR 0 a b c d lg e f vt nx mt a' b' c' d' lg' e' f' vt' nx' mt'=_
  (try unfold w98);unfold g98 G98;dsimp only[fB]
  rw[show gE (lg,lg')=some (decide (lg=lg')) from if_pos (by(try simp only);omega),aV,show jR (vt,vt')=some (decide (vt=vt')) from if_pos (by(try simp only);omega),aV,show jR (nx,nx')=some (decide (nx=nx')) from if_pos (by(try simp only);omega),aV,
   show jR (mt,mt')=some (decide (mt=mt')) from if_pos (by(try simp only);omega),aV]
  refine gS (λe1=>gS (λe2=>gS (λe3=>gS (λe4=>oL (λe5=>gS (λe6=>gS (λe7=>oL (λe8=>oL (λe9=>oL (λe10=>?_) ?_) ?_) ?_) ?_) ?_) ?_) ?_) ?_) ?_) ?_
  ·subst e1 e2 e3 e4 e5 e6 e7 e8 e9 e10;simp
  all_goals intro e h;simp only[aM]at h;obtain⟨q1,q2,q3,q4,q5,q6,q7,q8,q9,q10⟩:=h;first | exact e q1 | exact e q2 | exact e q3 | exact e q4 | exact e q5 | exact e q6 | exact e q7 | exact e q8 | exact e q9 | exact e q10
 ·cases h
end Go.Proofs.Tryz
set_option maxHeartbeats 0
namespace Go.Proofs.Tryz
open Go Go.VM Go.RowKit
def mkI (v:Int):Int:=v
def hdI (x:List Int×Int):Prop:=x.1.length<=1000000000/\0<=x.2/\x.2<=100000000000/\x.1=mkR mkI 1 x.1.length x.2
instance (x:List Int×Int):Decidable (hdI x):=by unfold hdI;infer_instance
def k1 (n:Nd)(v:Int):Int:=v+9 * (n.2.2.2.2.1.length:Int)
def k2 (n:Nd)(v:Int):Int:=k1 n v+1 * (n.2.2.2.2.2.2.2.1.length:Int)
def k3 (n:Nd)(v:Int):Int:=k2 n v+1 * (n.2.2.2.2.2.2.2.2.1.length:Int)
def k4 (n:Nd)(v:Int):Int:=k3 n v+1 * (n.2.2.2.2.2.2.2.2.2.length:Int)
def mkN (n:Nd)(v:Int):Nd:=(n.1,n.2.1,n.2.2.1,n.2.2.2.1,mkR mkE 9 n.2.2.2.2.1.length v,n.2.2.2.2.2.1,n.2.2.2.2.2.2.1,mkR mkI 1 n.2.2.2.2.2.2.2.1.length (k1 n v),mkR mkI 1 n.2.2.2.2.2.2.2.2.1.length (k2 n v),mkR mkI 1 n.2.2.2.2.2.2.2.2.2.length (k3 n v))
def hdN (x:Nd×Int):Prop:=pA x.1 100000000/\0<=x.2/\x.2<=1000000000/\x.1=mkN x.1 x.2
instance (x:Nd×Int):Decidable (hdN x):=by unfold hdN;infer_instance
end Go.Proofs.Tryz
