/- A part of the proof of FnExactCopyMail: LiPc, LiPl, LiPn, LiPo. -/
import Derived.Test.YtalbnpcbmakijaaGreatLiPa
import Derived.Test.YtalbnpcbmakijaaGreatLiQc
import Derived.Test.YtalbnpcbmakijaaGreatLiFi
import Derived.Test.YtalbnpcbmakijaaGreatLiFc
set_option linter.unusedSimpArgs false
set_option linter.unusedVariables false
set_option maxHeartbeats 0
namespace Go.Proofs.Tryz
open Go Go.VM Go.RowKit
def tH (x:Int):Bool:=decide (1<=x/\x<=100000)
def aYs (x:Int):Bool:=decide (0<=x/\x<=999)
def aTS (x:Int):Bool:=decide (0<=x/\x<=1000000)
theorem aEh:Sat prog cxT 47 (c47 λx=>some (tH x)):=s47 _ λx t h=>by cases h;exact⟨0,lT⟩
theorem aQT:Sat prog cxT 156 (aMG λx=>some (aYs x)):=bBP _ λx t h=>by cases h;exact⟨0,lT⟩
theorem aQS:Sat prog cxT 157 (aMF λx=>some (aTS x)):=bBO _ λx t h=>by cases h;exact⟨0,lT⟩
def z6 (q:Cm):Bool:=(((((q.1 == 0)&&(q.2.1 == 0))&&(q.2.2.1 == 0))&&(q.2.2.2.1 == 0))&&(q.2.2.2.2.1 == 0))&&(q.2.2.2.2.2 == 0)
def enF (x:En):Int:=bif !tH x.1 then 3 else bif !aYs x.2.1 then 3 else bif !aTS x.2.2.1 then 3 else bif !((x.2.1 == 0) == (x.2.2.1 == 0))then 1 else bif x.2.1 != 0 then cmF x.2.2.2 else bif !z6 x.2.2.2 then 1 else 0
def tK (x:En):Option Int:=some (enF x)
theorem aEf {α:Type}(b:Bool)(x y:α):(bif b then some x else some y)=some (bif b then x else y):=by cases b<;>rfl
theorem aNc:Sat prog cxT 97 (c97 tK):=s97 _ _ _ lY aEh aQT aQS aQR tK λx t h=>by
 obtain⟨t,c,s,q⟩:=x;cases h;refine⟨0,?_⟩;show g97 _ _ _ lY 0 t c s q.1 q.2.1 q.2.2.1 q.2.2.2.1 q.2.2.2.2.1 q.2.2.2.2.2=_
 (try unfold w97);unfold g97 G97;dsimp only[dY]
 simp only[aO];rw[show lY (q.1,(q.2.1,(q.2.2.1,(q.2.2.2.1,(q.2.2.2.2.1,q.2.2.2.2.2)))))=some (cmF q) from rfl,aO];simp only[aEf]
 rfl
theorem aNe:Sat prog cxT 89 (c89 tK):=s89 _ lY nN aQ5 tK λx t h=>by
 obtain⟨t,c,s,q⟩:=x;cases h;refine⟨0,?_⟩;show g89 _ lY 0 t c s q.1 q.2.1 q.2.2.1 q.2.2.2.1 q.2.2.2.2.1 q.2.2.2.2.2=_
 (try unfold w89);unfold g89 G89;dsimp only[dY]
 simp only[aO];rw[show lY (q.1,(q.2.1,(q.2.2.1,(q.2.2.2.1,(q.2.2.2.2.1,q.2.2.2.2.2)))))=some (cmF q) from rfl,aO];simp only[aEf]
 rfl
def lgE (a:List En)(i:Nat):Int:=if enF (a.getD i jY)=0 then(if 0 < i/\(a.getD i jY).1 < (a.getD (i-1) jY).1 then 1 else 0)else enF (a.getD i jY)
def vB (a:List En):Int:=if 40 < a.length then 2 else fst (lgE a) a.length 0
def rU (a:List En):Option Int:=some (vB a)
theorem aOG (L:Nat)(a:List En)(ha:a.length<=40):∀ (n i:Nat),i<=a.length->a.length < n+i->vM tK L a n i (some 0)=some (fst (lgE a) (a.length-i) i)
 | 0,i,h1,h2=>by omega
 | n+1,i,h1,h2=>by
  unfold vM B136_0;dsimp only[dY];by_cases hi:i < a.length
  ·simp(disch:=omega) only[dt,cond_true,bL,bF];have e0:tK ((a.getD i jY).1,(a.getD i jY).2.1,(a.getD i jY).2.2.1,(a.getD i jY).2.2.2.1,(a.getD i jY).2.2.2.2.1,(a.getD i jY).2.2.2.2.2.1,(a.getD i jY).2.2.2.2.2.2.1,(a.getD i jY).2.2.2.2.2.2.2.1,(a.getD i jY).2.2.2.2.2.2.2.2)=some (enF (a.getD i jY)):=rfl;have e0':=e0;unfold jY at e0';rw[e0',aO];have ih:=aOG L a ha n (i+1) (by omega) (by omega);have es:a.length-i=(a.length-(i+1))+1:=by omega
   rw[wi (x:=(i:Int)+1) (by omega) (by omega),show(i:Int)+1=((i+1:Nat):Int)by omega,ih,es,aEJ]
   change (bif enF (a.getD i jY) != 0 then some (enF (a.getD i jY))else _)=_
   by_cases h0:enF (a.getD i jY)=0
   ·rw[rM h0,cond_false];have hE:lgE a i=if 0 < i/\(a.getD i jY).1 < (a.getD (i-1) jY).1 then 1 else 0:=if_pos h0
    by_cases hp:0 < i
    ·rw[dt (show(i:Int) > 0 by omega),cond_true,wi (by omega) (by omega)];simp(disch:=omega) only[dt,cond_true,bL];rw[show((i:Int)-1).toNat=i-1 by omega]
     change (bif decide ((a.getD i jY).1 < (a.getD (i-1) jY).1)then _ else _)=_
     by_cases hl:(a.getD i jY).1 < (a.getD (i-1) jY).1
     ·rw[dt hl,cond_true,hE.trans (if_pos ⟨hp,hl⟩)];rfl
     ·rw[df hl,cond_false,hE.trans (if_neg λh=>hl h.2)];rfl
    ·rw[df (show ¬ (i:Int) > 0 by omega),cond_false,hE.trans (if_neg λh=>hp h.1)];rfl
   ·rw[yM h0,cond_true];have:lgE a i=enF (a.getD i jY):=if_neg h0;rw[this,if_neg h0]
  ·rw[df (by omega),cond_false];rw[show a.length-i=0 by omega]
   rfl
theorem aI6:Sat prog cxT 136 (aIB rU):=bB8 tK aNe rU λx t h=>by
 cases h;refine⟨x.length+1,?_⟩;show aKF tK (x.length+1) x=some (vB x)
 (try unfold aQb);unfold aKF A136_0 G136 vB;dsimp only[dY]
 by_cases hc:40 < x.length
 ·rw[dt (show(x.length:Int) > 40 by omega),cond_true,if_pos hc]
 ·rw[df (show ¬ (x.length:Int) > 40 by omega),cond_false,if_neg hc];exact aOG _ x (by omega) _ 0 (by omega) (by omega)
theorem aMr {x:En}(h:enF x=0):1<=x.1:=by
 unfold enF at h;cases ht:tH x.1 with
 | true=>have:=of_decide_eq_true ht;omega
 | false=>rw[ht]at h;simp at h
theorem aOC (L:Nat)(a:List En)(ha:a.length<=40):∀ (n i:Nat) (p:Int),i<=a.length->a.length < n+i->(if i=0 then p=0 else p=(a.getD (i-1) jY).1)->sC tK L a n p i (some 0)=some (fst (lgE a) (a.length-i) i)
 | 0,i,p,h1,h2,_=>by omega
 | n+1,i,p,h1,h2,h3=>by
  unfold sC B147_0;dsimp only[dY];by_cases hi:i < a.length
  ·simp(disch:=omega) only[dt,cond_true,bL,bF];have e0:tK ((a.getD i jY).1,(a.getD i jY).2.1,(a.getD i jY).2.2.1,(a.getD i jY).2.2.2.1,(a.getD i jY).2.2.2.2.1,(a.getD i jY).2.2.2.2.2.1,(a.getD i jY).2.2.2.2.2.2.1,(a.getD i jY).2.2.2.2.2.2.2.1,(a.getD i jY).2.2.2.2.2.2.2.2)=some (enF (a.getD i jY)):=rfl;have e0':=e0;unfold jY at e0';rw[e0',aO];have ih:=aOC L a ha n (i+1) (a.getD i jY).1 (by omega) (by omega) (by rw[if_neg (by omega)];rfl);have es:a.length-i=(a.length-(i+1))+1:=by omega
   rw[wi (x:=(i:Int)+1) (by omega) (by omega),show(i:Int)+1=((i+1:Nat):Int)by omega,es,aEJ]
   change (bif enF (a.getD i jY) != 0 then some (enF (a.getD i jY))else bif decide ((a.getD i jY).1 < p)then _ else sC tK L a n (a.getD i jY).1 ((i+1:Nat):Int) (some 0))=_
   rw[ih];by_cases h0:enF (a.getD i jY)=0
   ·rw[rM h0,cond_false];have h1t:=aMr h0;have hE:lgE a i=if 0 < i/\(a.getD i jY).1 < (a.getD (i-1) jY).1 then 1 else 0:=if_pos h0
    by_cases hp:0 < i
    ·rw[if_neg (by omega)]at h3;rw[h3];by_cases hl:(a.getD i jY).1 < (a.getD (i-1) jY).1
     ·rw[dt hl,cond_true,hE.trans (if_pos ⟨hp,hl⟩)];rfl
     ·rw[df hl,cond_false,hE.trans (if_neg λh=>hl h.2)];rfl
    ·rw[if_pos (by omega)]at h3;rw[df (by omega),cond_false,hE.trans (if_neg λh=>hp h.1)];rfl
   ·rw[yM h0,cond_true];have:lgE a i=enF (a.getD i jY):=if_neg h0;rw[this,if_neg h0]
  ·rw[df (by omega),cond_false];rw[show a.length-i=0 by omega]
   rfl
theorem aI3:Sat prog cxT 147 (aIy rU):=bBY tK aNc rU λx t h=>by
 cases h;refine⟨x.length+1,?_⟩;show aKA tK (x.length+1) x=some (vB x)
 (try unfold aP4);unfold aKA A147_0 G147 vB;dsimp only[dY]
 by_cases hc:40 < x.length
 ·rw[dt (show(x.length:Int) > 40 by omega),cond_true,if_pos hc]
 ·rw[df (show ¬ (x.length:Int) > 40 by omega),cond_false,if_neg hc];exact aOC _ x (by omega) _ 0 0 (by omega) (by omega) rfl
end Go.Proofs.Tryz
set_option maxHeartbeats 0
namespace Go.Proofs.Tryz
open Go Go.VM Go.RowKit
def mO (a:List En):En:=a.getD (a.length-1) jY
def fH (a:List En):Option Int:=some (a.length:Int)
theorem aFs:Sat prog cxT 190 (aE5 fH):=bBA fH λx t h=>by cases h;exact⟨0,rfl⟩
abbrev EnB:=Int×Int×Int×Int×Int×Int×Int×Int×Int×Bool
def aGl (x:En)(b:Bool):EnB:=(x.1,x.2.1,x.2.2.1,x.2.2.2.1,x.2.2.2.2.1,x.2.2.2.2.2.1,x.2.2.2.2.2.2.1,x.2.2.2.2.2.2.2.1,x.2.2.2.2.2.2.2.2,b)
def mT (x:List En×Int):Option EnB:=if x.1.length<=oP then some (if 1<=x.2/\x.2<=(x.1.length:Int)then aGl (x.1.getD (x.2-1).toNat jY) true else aGl jY false)else none
theorem aQH:Sat prog cxT 189 (aMB mT):=bBB fH aFs mT λx t h=>by
 obtain⟨a,i⟩:=x;unfold mT at h;split at h
 ·rename_i hm;have hm':a.length<=1000000000:=hm;cases h;refine⟨0,?_⟩;show aKn fH 0 a i=_
  (try unfold aPP);unfold aKn G189;dsimp only[dY]
  rw[show fH a=some (a.length:Int) from rfl,aO];by_cases h1:i < 1
  ·rw[dt h1,cond_true,if_neg (by(try simp only);omega)];rfl
  ·rw[df h1,cond_false];by_cases h2:i > (a.length:Int)
   ·rw[dt h2,cond_true,if_neg (by(try simp only);omega)];rfl
   ·rw[df h2,cond_false,if_pos (by(try simp only);omega)];simp(disch:=omega) only[wi,dt,bL,cond_true]
    rfl
 ·cases h
def kV (a:List En):Option En:=if a.length<=oP then some (mO a)else none
theorem aI2:Sat prog cxT 148 (aIx kV):=bBX fH mT aFs aQH kV λa t h=>by
 unfold kV at h;split at h
 ·rename_i hm;have hm':a.length<=1000000000:=hm;cases h;refine⟨0,?_⟩
  (try unfold aP3);unfold aMd G148;dsimp only[dY]
  rw[show fH a=some (a.length:Int) from rfl,aO];by_cases h0:a.length=0
  ·rw[show mT (a,(a.length:Int))=some (aGl jY false) from(if_pos hm).trans (by rw[if_neg (by(try simp only);omega)]),aO];have:a=[]:=rB.1 h0;subst this
   rfl
  ·rw[show mT (a,(a.length:Int))=some (aGl (mO a) true) from(if_pos hm).trans (by rw[if_pos (by(try simp only);omega)];unfold mO;simp only;rw[show((a.length:Int)-1).toNat=a.length-1 by omega]),aO]
   rfl
 ·cases h
theorem aI8:Sat prog cxT 124 (aID kV):=bCc kV λa t h=>by
 unfold kV at h;split at h
 ·rename_i hm;have hm':a.length<=1000000000:=hm;cases h;refine⟨0,?_⟩
  (try unfold aQc);unfold aMg G124;dsimp only[dY]
  by_cases h0:a.length=0
  ·have:a=[]:=rB.1 h0;subst this
   rfl
  ·rw[aIF (by omega),cond_false];simp(disch:=omega) only[wi,dt,bL,cond_true];rw[show((a.length:Int)-1).toNat=a.length-1 by omega]
   rfl
 ·cases h
end Go.Proofs.Tryz
set_option maxHeartbeats 0
namespace Go.Proofs.Tryz
open Go Go.VM Go.RowKit
def lD (x:List Int×Int):Option Int:=if 0<=x.2/\x.2<=1048576/\x.1.length<=top then some (qJ x.2 x.1.length)else none
theorem aQ8:Sat prog cxT 134 (aMU lD):=bCa lD λx t h=>by
 obtain⟨a,v⟩:=x;unfold lD at h;split at h
 ·rename_i hc;cases h;exact⟨0,aDm hc.1 hc.2.1 hc.2.2⟩
 ·cases h
theorem aOD (L:Nat)(a:List Int):∀ (n:Nat) (o:List Int) (i:Int) (k:List Int->Option (List Int)),vJ L a n o i k=toL 0 (λx=>some x) a n o i k
 | 0,_,_,_=>rfl
 | n+1,o,i,k=>by unfold vJ B141_0 toL;dsimp only[dY];simp only[aOD L a n,aO]
theorem aEA {n:Nat}(h:n<=oP):((decide ((0:Int)<=(n:Int))&&decide ((n:Int)<=(n:Int)))&&decide ((n:Int)<=(1000000000:Int)))=true:=by
 unfold oP at h;rw[dt (by omega),dt (iJ _),dt (by omega)];rfl
def lC (a:List Int):Option (List Int):=if a.length<=oP then some a else none
theorem aQ4:Sat prog cxT 141 (aMR lC):=bB4 lC λx t h=>by
 unfold lC at h;split at h
 ·rename_i ha;cases h;refine⟨x.length+1,?_⟩
  (try unfold aP8);unfold aMe A141_0 G141;dsimp only[dY]
  rw[aEA ha,cond_true,aOD,bF];unfold oP at ha;exact aDl 0 _ x (by omega) (λ_ _=>rfl) _ _ 0 _ (by simp) (by omega) (by omega) rfl
 ·cases h
theorem aOy (L:Nat)(a b:List Int):∀ (n:Nat) (i:Int) (k:Option Bool),vF L a b n i k=eqL 0 (λx=>some (decide (x.1=x.2))) a b n i k
 | 0,_,_=>rfl
 | n+1,i,k=>by
  unfold vF B160_0 eqL;dsimp only[dY];simp only[aOy L a b n,aO];congr 2
def lB (x:List Int×List Int):Option Bool:=if x.1.length<=1000000000000 then some (decide (x.1=x.2))else none
theorem aQQ:Sat prog cxT 160 (aME lB):=bBM lB λx t h=>by
 obtain⟨a,b⟩:=x;unfold lB at h;split at h
 ·rename_i hc;cases h;have hc:a.length<=1000000000000:=hc;refine⟨a.length+1,?_⟩;show aKt (a.length+1) a b=some (decide (a=b))
  (try unfold aPW);unfold aKt A160_0 G160;dsimp only[dY]
  refine iA (λe=>?_) λe h=>e (by rw[h])
  rw[aOy];refine(aBP 0 _ a b (by omega) (by omega) (λ_ _ _ _=>rfl) _ _ 0 (by omega) (by omega)).trans ?_;simp only[gH];split<;>rename_i hh<;>simp[hh]
 ·cases h
abbrev Nd:=Int×Int×Int×Int×List En×Int×Int×List Int×List Int×List Int
instance decN1:DecidableEq (List Int×List Int×List Int):=inferInstance
instance decN2:DecidableEq (Int×List Int×List Int×List Int):=instDecidableEqProd
instance decN3:DecidableEq (Int×Int×List Int×List Int×List Int):=instDecidableEqProd
instance decN4:DecidableEq (List En×Int×Int×List Int×List Int×List Int):=instDecidableEqProd
instance decN5:DecidableEq (Int×List En×Int×Int×List Int×List Int×List Int):=instDecidableEqProd
instance decN6:DecidableEq (Int×Int×List En×Int×Int×List Int×List Int×List Int):=instDecidableEqProd
instance decN7:DecidableEq (Int×Int×Int×List En×Int×Int×List Int×List Int×List Int):=instDecidableEqProd
instance decNd:DecidableEq Nd:=(instDecidableEqProd:DecidableEq (Int×Int×Int×Int×List En×Int×Int×List Int×List Int×List Int))
def wN (n:Nd):Int:=(n.2.2.2.2.1.length:Int)+n.2.2.2.2.2.2.2.1.length+n.2.2.2.2.2.2.2.2.1.length+n.2.2.2.2.2.2.2.2.2.length
def oS (n:Nd)(B:Nat):Prop:=n.2.2.2.2.1.length<=B/\n.2.2.2.2.2.2.2.1.length<=B/\n.2.2.2.2.2.2.2.2.1.length<=B/\n.2.2.2.2.2.2.2.2.2.length<=B
instance (n:Nd)(B:Nat):Decidable (oS n B):=by unfold oS;infer_instance
def nV (x:Nd×Int):Option Int:=if 0<=x.2/\x.2<=1048576/\oS x.1 top then some (qJ x.2 (wN x.1))else none
theorem iL {v w:Int}(h:v-w < 0):qJ v w=-1:=if_pos h
theorem lP {v w:Int}(h:¬ v-w < 0):qJ v w=v-w:=if_neg h
theorem aT5:Sat prog cxT 83 (c83 nV):=s83 hI lD aI7 aQ8 nV λx t h=>by
 obtain⟨⟨a,b,c,d,lg,e,f,vt,nx,mt⟩,v⟩:=x;unfold nV at h;split at h
 ·rename_i hc;cases h;obtain⟨h0,h1,h2,h3,h4,h5⟩:=hc;simp only at h0 h1 h2 h3 h4 h5;refine⟨0,?_⟩;show g83 hI lD 0 a b c d lg e f vt nx mt v=some (qJ v ((lg.length:Int)+vt.length+nx.length+mt.length));have e1:hI (lg,v)=some (qJ v lg.length):=if_pos ⟨h2,h0,h1⟩
  (try unfold w83);unfold g83 G83;dsimp only[dY]
  rw[e1,aO];by_cases k1:v-(lg.length:Int) < 0
  ·rw[iL k1,dt (by omega),cond_true,iL (by omega)]
  rw[lP k1,df k1,cond_false];have e2:lD (vt,v-lg.length)=some (qJ (v-lg.length) vt.length):=if_pos ⟨by(try simp only);omega,by(try simp only);omega,h3⟩;rw[e2,aO];by_cases k2:v-(lg.length:Int)-vt.length < 0
  ·rw[iL k2,dt (by omega),cond_true,iL (by omega)]
  rw[lP k2,df k2,cond_false];have e3:lD (nx,v-lg.length-vt.length)=some (qJ (v-lg.length-vt.length) nx.length):=if_pos ⟨by(try simp only);omega,by(try simp only);omega,h4⟩;rw[e3,aO];by_cases k3:v-(lg.length:Int)-vt.length-nx.length < 0
  ·rw[iL k3,dt (by omega),cond_true,iL (by omega)]
  rw[lP k3,df k3,cond_false];have e4:lD (mt,v-lg.length-vt.length-nx.length)=some (qJ (v-lg.length-vt.length-nx.length) mt.length):=if_pos ⟨by(try simp only);omega,by(try simp only);omega,h5⟩;rw[e4,aO];by_cases k4:v-(lg.length:Int)-vt.length-nx.length-mt.length < 0
  ·rw[iL k4,dt (by omega),cond_true,iL (by omega)]
  rw[lP k4,df k4,cond_false,lP (by omega)];congr 1;omega
 ·cases h
def nT (n:Nd):Option Nd:=if oS n oP then some n else none
theorem aT0:Sat prog cxT 90 (c90 nT):=s90 hH lC aI5 aQ4 nT λx t h=>by
 obtain⟨a,b,c,d,lg,e,f,vt,nx,mt⟩:=x;unfold nT at h;split at h
 ·rename_i hc;cases h;obtain⟨h2,h3,h4,h5⟩:=hc;refine⟨0,?_⟩;show g90 hH lC 0 a b c d lg e f vt nx mt=_
  (try unfold w90);unfold g90 G90;dsimp only[dY]
  rw[show hH lg=some lg from if_pos h2,aO,show lC vt=some vt from if_pos h3,aO,show lC nx=some nx from if_pos h4,aO,show lC mt=some mt from if_pos h5,aO]
 ·cases h
def nR (x:Nd×Nd):Option Bool:=if oS x.1 oP then some (decide (x.1=x.2))else none
theorem pM {p q:Prop}[Decidable p][Decidable q]{o:Option Bool}(h:p->o=some (decide q))(h2:¬ p->¬ q):(bif !decide p then some false else o)=some (decide q):=by
 by_cases hp:p
 ·rw[dt hp];exact h hp
 ·rw[df hp,df (h2 hp)];rfl
theorem aTV:Sat prog cxT 98 (c98 nR):=s98 gZ lB aI1 aQQ nR λx t h=>by
 obtain⟨⟨a,b,c,d,lg,e,f,vt,nx,mt⟩,a',b',c',d',lg',e',f',vt',nx',mt'⟩:=x;unfold nR at h;split at h
 ·rename_i hc;cases h;obtain⟨h2,h3,h4,h5⟩:=hc;simp only[oP]at h2 h3 h4 h5;refine⟨0,?_⟩;show g98 gZ lB 0 a b c d lg e f vt nx mt a' b' c' d' lg' e' f' vt' nx' mt'=_
  (try unfold w98);unfold g98 G98;dsimp only[dY]
  rw[show gZ (lg,lg')=some (decide (lg=lg')) from if_pos (by(try simp only);omega),aO,show lB (vt,vt')=some (decide (vt=vt')) from if_pos (by(try simp only);omega),aO,show lB (nx,nx')=some (decide (nx=nx')) from if_pos (by(try simp only);omega),aO,
   show lB (mt,mt')=some (decide (mt=mt')) from if_pos (by(try simp only);omega),aO]
  refine iA (λe1=>iA (λe2=>iA (λe3=>iA (λe4=>pM (λe5=>iA (λe6=>iA (λe7=>pM (λe8=>pM (λe9=>pM (λe10=>?_) ?_) ?_) ?_) ?_) ?_) ?_) ?_) ?_) ?_) ?_
  ·subst e1 e2 e3 e4 e5 e6 e7 e8 e9 e10;simp
  all_goals intro e h;simp only[aM]at h;obtain⟨q1,q2,q3,q4,q5,q6,q7,q8,q9,q10⟩:=h;first | exact e q1 | exact e q2 | exact e q3 | exact e q4 | exact e q5 | exact e q6 | exact e q7 | exact e q8 | exact e q9 | exact e q10
 ·cases h
end Go.Proofs.Tryz
set_option maxHeartbeats 0
namespace Go.Proofs.Tryz
open Go Go.VM Go.RowKit
def mkI (v:Int):Int:=v
def fU (x:List Int×Int):Option (Int×List Int):=if x.1.length<=1000000000/\0<=x.2/\x.2<=100000000000 then some (x.2+1 * (x.1.length:Int),qE mkI 1 x.1.length x.2)else none
theorem bBf (L:Nat)(a0:List Int)(a1:Int)(n:Nat)(o:List Int)(v:Int)(i:Nat)(K:List Int->Int->Option (Int×List Int))(ho:o.length<=1000000000)(hi:i < o.length)(h0:0<=v)(h1:v<=1000000000000000) :
  oH L a0 a1 (n+1) o v i K=oH L a0 a1 n (o.set i (mkI v)) (v+1) ((i+1:Nat):Int) K:=by
 conv=>lhs;unfold oH B110_0;dsimp only[dY]
 simp(disch:=omega) only[dY,dt,wi,cond_true,bL,bF];rw[show(i:Int)+1=((i+1:Nat):Int)by omega]
 rfl
theorem aRh:SatW prog cxT 110 (aCG fU).nres (aCG fU).n (aCG fU).F:=bCk fU λx t h=>by
 obtain⟨o,v⟩:=x;unfold fU at h;split at h
 ·rename_i hc;cases h;simp only at hc;refine⟨o.length+1,?_⟩;show aKI (o.length+1) o v=_
  (try unfold aQg);unfold aKI A110_0 G110;dsimp only[dY]
  refine(wT mkI 1 1000000000000000 o.length (by omega) (λn o' v' i' K=>oH (o.length+1) o v n o' v' i' K) (λn o' v' i' K hl h1 h2 h3=>bBf _ _ _ _ _ _ _ _ (by omega) h1 h2 h3)
   (λn o' v' i' K hl h1=>?_) (λw0_0 w0_1=>some (w0_1,w0_0)) (o.length+1) 0 o v rfl (by omega) (by omega) hc.2.1 (by omega)).trans ?_
  ·show oH _ _ _ (n+1) o' v' i' K=_
   conv=>lhs;unfold oH B110_0;dsimp only[dY]
   rw[df (by omega),cond_false]
  ·simp
 ·cases h
def hdI (x:List Int×Int):Prop:=x.1.length<=1000000000/\0<=x.2/\x.2<=100000000000/\x.1=qE mkI 1 x.1.length x.2
instance (x:List Int×Int):Decidable (hdI x):=by unfold hdI;infer_instance
def gE (x:List Int×Int):Option Int:=if hdI x then some (x.2+1 * (x.1.length:Int))else none
theorem bBd (L:Nat)(a0:List Int)(a1:Int)(n:Nat)(v:Int)(i:Nat)(K:Int->Option Int)(ho:a0.length<=1000000000)(hi:i < a0.length)(h0:0<=v)(h1:v<=1000000000000000)(hm:a0.getD i 0=mkI v) :
  oD L a0 a1 (n+1) v i K=oD L a0 a1 n (v+1) ((i+1:Nat):Int) K:=by
 conv=>lhs;unfold oD B173_0;dsimp only[dY]
 simp(disch:=omega) only[dY,dt,wi,cond_true,bL,bF,hm];unfold mkI;simp(disch:=omega) only[rM,cond_false];rw[show(i:Int)+1=((i+1:Nat):Int)by omega]
theorem aQP:Sat prog cxT 173 (aMD gE):=bBJ gE λx t h=>by
 obtain⟨a,v⟩:=x;unfold gE at h;split at h
 ·rename_i hc;cases h;obtain⟨h1,h2,h3,h4⟩:=hc;simp only at h1 h2 h3 h4;refine⟨a.length+1,?_⟩;show aKq (a.length+1) a v=_
  (try unfold aPT);unfold aKq A173_0 G173;dsimp only[dY]
  have:=aAs 0 mkI 1 1000000000000000 (by omega) a.length v (λn v' i' K=>oD (a.length+1) a v n v' i' K) h2 (λn v' i' K k1 k2 k3 k4=>bBd _ _ _ _ _ _ _ h1 k1 k2 k3 (by rw[<-h4]at k4;exact k4))
   (λn v' i' K k1=>by
    show oD _ _ _ (n+1) v' i' K=_
    conv=>lhs;unfold oD B173_0;dsimp only[dY]
    rw[df (by omega),cond_false]) (by omega) (λw0_1=>some w0_1) (a.length+1) 0 (by omega) (by omega)
  simp only[hM,Int.mul_zero,pG]at this;exact this
 ·cases h
def k1 (n:Nd)(v:Int):Int:=v+9 * (n.2.2.2.2.1.length:Int)
def k2 (n:Nd)(v:Int):Int:=k1 n v+1 * (n.2.2.2.2.2.2.2.1.length:Int)
def k3 (n:Nd)(v:Int):Int:=k2 n v+1 * (n.2.2.2.2.2.2.2.2.1.length:Int)
def k4 (n:Nd)(v:Int):Int:=k3 n v+1 * (n.2.2.2.2.2.2.2.2.2.length:Int)
def mkN (n:Nd)(v:Int):Nd:=(n.1,n.2.1,n.2.2.1,n.2.2.2.1,qE mkE 9 n.2.2.2.2.1.length v,n.2.2.2.2.2.1,n.2.2.2.2.2.2.1,qE mkI 1 n.2.2.2.2.2.2.2.1.length (k1 n v),qE mkI 1 n.2.2.2.2.2.2.2.2.1.length (k2 n v),qE mkI 1 n.2.2.2.2.2.2.2.2.2.length (k3 n v))
def hdN (x:Nd×Int):Prop:=oS x.1 100000000/\0<=x.2/\x.2<=1000000000/\x.1=mkN x.1 x.2
instance (x:Nd×Int):Decidable (hdN x):=by unfold hdN;infer_instance
end Go.Proofs.Tryz
