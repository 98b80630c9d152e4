/- A part of the proof of FnExactSafeCluster: LmPc, LmPl, LmPn, LmPo. -/
import Derived.Test.YtnmbggfkmkcmkaaGreatLmPa
import Derived.Test.YtnmbggfkmkcmkaaGreatLmQc
import Derived.Test.YtnmbggfkmkcmkaaGreatLmFi
set_option linter.unusedSimpArgs false
set_option linter.unusedVariables false
set_option maxHeartbeats 0
namespace Go.Proofs.Tryz
open Go Go.VM Go.RowKit
def sS (x:Int):Bool:=decide (1<=x/\x<=100000)
def aWm (x:Int):Bool:=decide (0<=x/\x<=999)
def aRB (x:Int):Bool:=decide (0<=x/\x<=1000000)
theorem aDv:Sat prog cxT 79 (c79 λx=>some (sS x)):=s79 _ λx t h=>by cases h;exact⟨0,lA⟩
theorem aOA:Sat prog cxT 134 (aKJ λx=>some (aWm x)):=aZg _ λx t h=>by cases h;exact⟨0,lA⟩
theorem aOz:Sat prog cxT 135 (aKI λx=>some (aRB x)):=aZf _ λx t h=>by cases h;exact⟨0,lA⟩
def z6 (q:Cm):Bool:=(((((q.1 == 0)&&(q.2.1 == 0))&&(q.2.2.1 == 0))&&(q.2.2.2.1 == 0))&&(q.2.2.2.2.1 == 0))&&(q.2.2.2.2.2 == 0)
def enF (x:En):Int:=bif !sS x.1 then 3 else bif !aWm x.2.1 then 3 else bif !aRB x.2.2.1 then 3 else bif !((x.2.1 == 0) == (x.2.2.1 == 0))then 1 else bif x.2.1 != 0 then cmF x.2.2.2 else bif !z6 x.2.2.2 then 1 else 0
def sW (x:En):Option Int:=some (enF x)
theorem aDs {α:Type}(b:Bool)(x y:α):(bif b then some x else some y)=some (bif b then x else y):=by cases b<;>rfl
theorem aHW:Sat prog cxT 108 (aHs sW):=aZG _ _ _ lF aDv aOA aOz aOy sW λx t h=>by
 obtain⟨t,c,s,q⟩:=x;cases h;refine⟨0,?_⟩;show aJj _ _ _ lF 0 t c s q.1 q.2.1 q.2.2.1 q.2.2.2.1 q.2.2.2.2.1 q.2.2.2.2.2=_
 (try unfold aN6);unfold aJj G108;dsimp only[eF]
 simp only[aR];rw[show lF (q.1,(q.2.1,(q.2.2.1,(q.2.2.2.1,(q.2.2.2.2.1,q.2.2.2.2.2)))))=some (cmF q) from rfl,aR];simp only[aDs]
 rfl
theorem aLl:Sat prog cxT 71 (c71 sW):=s71 _ lF nN aOY sW λx t h=>by
 obtain⟨t,c,s,q⟩:=x;cases h;refine⟨0,?_⟩;show g71 _ lF 0 t c s q.1 q.2.1 q.2.2.1 q.2.2.2.1 q.2.2.2.2.1 q.2.2.2.2.2=_
 (try unfold w71);unfold g71 G71;dsimp only[eF]
 simp only[aR];rw[show lF (q.1,(q.2.1,(q.2.2.1,(q.2.2.2.1,(q.2.2.2.2.1,q.2.2.2.2.2)))))=some (cmF q) from rfl,aR];simp only[aDs]
 rfl
def lgE (a:List En)(i:Nat):Int:=if enF (a.getD i gB)=0 then(if 0 < i/\(a.getD i gB).1 < (a.getD (i-1) gB).1 then 1 else 0)else enF (a.getD i gB)
def uA (a:List En):Int:=if 40 < a.length then 2 else fst (lgE a) a.length 0
def rD (a:List En):Option Int:=some (uA a)
theorem aUS (L:Nat)(a:List En)(ha:a.length<=40):∀ (n i:Nat),i<=a.length->a.length < n+i->aAf sW L a n i (some 0)=some (fst (lgE a) (a.length-i) i)
 | 0,i,h1,h2=>by omega
 | n+1,i,h1,h2=>by
  unfold aAf B97_0;dsimp only[eF];by_cases hi:i < a.length
  ·simp(disch:=omega) only[dt,cond_true,bK,aY];have e0:sW ((a.getD i gB).1,(a.getD i gB).2.1,(a.getD i gB).2.2.1,(a.getD i gB).2.2.2.1,(a.getD i gB).2.2.2.2.1,(a.getD i gB).2.2.2.2.2.1,(a.getD i gB).2.2.2.2.2.2.1,(a.getD i gB).2.2.2.2.2.2.2.1,(a.getD i gB).2.2.2.2.2.2.2.2)=some (enF (a.getD i gB)):=rfl;have e0':=e0;unfold gB at e0';rw[e0',aR];have ih:=aUS L a ha n (i+1) (by omega) (by omega);have es:a.length-i=(a.length-(i+1))+1:=by omega
   rw[wi (x:=(i:Int)+1) (by omega) (by omega),show(i:Int)+1=((i+1:Nat):Int)by omega,ih,es,aDY]
   change (bif enF (a.getD i gB) != 0 then some (enF (a.getD i gB))else _)=_
   by_cases h0:enF (a.getD i gB)=0
   ·rw[aA4 h0,cond_false];have hE:lgE a i=if 0 < i/\(a.getD i gB).1 < (a.getD (i-1) gB).1 then 1 else 0:=if_pos h0
    by_cases hp:0 < i
    ·rw[dt (show(i:Int) > 0 by omega),cond_true,wi (by omega) (by omega)];simp(disch:=omega) only[dt,cond_true,bK];rw[show((i:Int)-1).toNat=i-1 by omega]
     change (bif decide ((a.getD i gB).1 < (a.getD (i-1) gB).1)then _ else _)=_
     by_cases hl:(a.getD i gB).1 < (a.getD (i-1) gB).1
     ·rw[dt hl,cond_true,hE.trans (if_pos ⟨hp,hl⟩)];rfl
     ·rw[df hl,cond_false,hE.trans (if_neg λh=>hl h.2)];rfl
    ·rw[df (show ¬ (i:Int) > 0 by omega),cond_false,hE.trans (if_neg λh=>hp h.1)];rfl
   ·rw[qU h0,cond_true];have:lgE a i=enF (a.getD i gB):=if_neg h0;rw[this,if_neg h0]
  ·rw[df (by omega),cond_false];rw[show a.length-i=0 by omega]
   rfl
theorem aLe:Sat prog cxT 97 (c97 rD):=s97 sW aLl rD λx t h=>by
 cases h;refine⟨x.length+1,?_⟩;show g97 sW (x.length+1) x=some (uA x)
 (try unfold w97);unfold g97 A97_0 G97 uA;dsimp only[eF]
 by_cases hc:40 < x.length
 ·rw[dt (show(x.length:Int) > 40 by omega),cond_true,if_pos hc]
 ·rw[df (show ¬ (x.length:Int) > 40 by omega),cond_false,if_neg hc];exact aUS _ x (by omega) _ 0 (by omega) (by omega)
theorem aKz {x:En}(h:enF x=0):1<=x.1:=by
 unfold enF at h;cases ht:sS x.1 with
 | true=>have:=of_decide_eq_true ht;omega
 | false=>rw[ht]at h;simp at h
theorem aMV (L:Nat)(a:List En)(ha:a.length<=40):∀ (n i:Nat) (p:Int),i<=a.length->a.length < n+i->(if i=0 then p=0 else p=(a.getD (i-1) gB).1)->rL sW L a n p i (some 0)=some (fst (lgE a) (a.length-i) i)
 | 0,i,p,h1,h2,_=>by omega
 | n+1,i,p,h1,h2,h3=>by
  unfold rL B126_0;dsimp only[eF];by_cases hi:i < a.length
  ·simp(disch:=omega) only[dt,cond_true,bK,aY];have e0:sW ((a.getD i gB).1,(a.getD i gB).2.1,(a.getD i gB).2.2.1,(a.getD i gB).2.2.2.1,(a.getD i gB).2.2.2.2.1,(a.getD i gB).2.2.2.2.2.1,(a.getD i gB).2.2.2.2.2.2.1,(a.getD i gB).2.2.2.2.2.2.2.1,(a.getD i gB).2.2.2.2.2.2.2.2)=some (enF (a.getD i gB)):=rfl;have e0':=e0;unfold gB at e0';rw[e0',aR];have ih:=aMV L a ha n (i+1) (a.getD i gB).1 (by omega) (by omega) (by rw[if_neg (by omega)];rfl);have es:a.length-i=(a.length-(i+1))+1:=by omega
   rw[wi (x:=(i:Int)+1) (by omega) (by omega),show(i:Int)+1=((i+1:Nat):Int)by omega,es,aDY]
   change (bif enF (a.getD i gB) != 0 then some (enF (a.getD i gB))else bif decide ((a.getD i gB).1 < p)then _ else rL sW L a n (a.getD i gB).1 ((i+1:Nat):Int) (some 0))=_
   rw[ih];by_cases h0:enF (a.getD i gB)=0
   ·rw[aA4 h0,cond_false];have h1t:=aKz h0;have hE:lgE a i=if 0 < i/\(a.getD i gB).1 < (a.getD (i-1) gB).1 then 1 else 0:=if_pos h0
    by_cases hp:0 < i
    ·rw[if_neg (by omega)]at h3;rw[h3];by_cases hl:(a.getD i gB).1 < (a.getD (i-1) gB).1
     ·rw[dt hl,cond_true,hE.trans (if_pos ⟨hp,hl⟩)];rfl
     ·rw[df hl,cond_false,hE.trans (if_neg λh=>hl h.2)];rfl
    ·rw[if_pos (by omega)]at h3;rw[df (by omega),cond_false,hE.trans (if_neg λh=>hp h.1)];rfl
   ·rw[qU h0,cond_true];have:lgE a i=enF (a.getD i gB):=if_neg h0;rw[this,if_neg h0]
  ·rw[df (by omega),cond_false];rw[show a.length-i=0 by omega]
   rfl
theorem aHV:Sat prog cxT 126 (aHr rD):=aZo sW aHW rD λx t h=>by
 cases h;refine⟨x.length+1,?_⟩;show aJa sW (x.length+1) x=some (uA x)
 (try unfold aNY);unfold aJa A126_0 G126 uA;dsimp only[eF]
 by_cases hc:40 < x.length
 ·rw[dt (show(x.length:Int) > 40 by omega),cond_true,if_pos hc]
 ·rw[df (show ¬ (x.length:Int) > 40 by omega),cond_false,if_neg hc];exact aMV _ x (by omega) _ 0 0 (by omega) (by omega) rfl
end Go.Proofs.Tryz
set_option maxHeartbeats 0
namespace Go.Proofs.Tryz
open Go Go.VM Go.RowKit
def lT (a:List En):En:=a.getD (a.length-1) gB
def dI (a:List En):Option Int:=some (a.length:Int)
theorem aCA:Sat prog cxT 112 (aBN dI):=aZC dI λx t h=>by cases h;exact⟨0,rfl⟩
abbrev EnB:=Int×Int×Int×Int×Int×Int×Int×Int×Int×Bool
def aDp (x:En)(b:Bool):EnB:=(x.1,x.2.1,x.2.2.1,x.2.2.2.1,x.2.2.2.2.1,x.2.2.2.2.2.1,x.2.2.2.2.2.2.1,x.2.2.2.2.2.2.2.1,x.2.2.2.2.2.2.2.2,b)
def iT (x:List En×Int):Option EnB:=if x.1.length<=jL then some (if 1<=x.2/\x.2<=(x.1.length:Int)then aDp (x.1.getD (x.2-1).toNat gB) true else aDp gB false)else none
theorem aLh:Sat prog cxT 91 (c91 iT):=s91 dI aCA iT λx t h=>by
 obtain⟨a,i⟩:=x;unfold iT at h;split at h
 ·rename_i hm;have hm':a.length<=1000000000:=hm;cases h;refine⟨0,?_⟩;show g91 dI 0 a i=_
  (try unfold w91);unfold g91 G91;dsimp only[eF]
  rw[show dI a=some (a.length:Int) from rfl,aR];by_cases h1:i < 1
  ·rw[dt h1,cond_true,if_neg (by(try simp only);omega)];rfl
  ·rw[df h1,cond_false];by_cases h2:i > (a.length:Int)
   ·rw[dt h2,cond_true,if_neg (by(try simp only);omega)];rfl
   ·rw[df h2,cond_false,if_pos (by(try simp only);omega)];simp(disch:=omega) only[wi,dt,bK,cond_true]
    rfl
 ·cases h
def kD (a:List En):Option En:=if a.length<=jL then some (lT a)else none
theorem aHU:Sat prog cxT 127 (aHq kD):=aZn dI iT aCA aLh kD λa t h=>by
 unfold kD at h;split at h
 ·rename_i hm;have hm':a.length<=1000000000:=hm;cases h;refine⟨0,?_⟩
  (try unfold aNX);unfold aKp G127;dsimp only[eF]
  rw[show dI a=some (a.length:Int) from rfl,aR];by_cases h0:a.length=0
  ·rw[show iT (a,(a.length:Int))=some (aDp gB false) from(if_pos hm).trans (by rw[if_neg (by(try simp only);omega)]),aR];have:a=[]:=pV.1 h0;subst this
   rfl
  ·rw[show iT (a,(a.length:Int))=some (aDp (lT a) true) from(if_pos hm).trans (by rw[if_pos (by(try simp only);omega)];unfold lT;simp only;rw[show((a.length:Int)-1).toNat=a.length-1 by omega]),aR]
   rfl
 ·cases h
theorem aLd:Sat prog cxT 98 (c98 kD):=s98 kD λa t h=>by
 unfold kD at h;split at h
 ·rename_i hm;have hm':a.length<=1000000000:=hm;cases h;refine⟨0,?_⟩
  (try unfold w98);unfold g98 G98;dsimp only[eF]
  by_cases h0:a.length=0
  ·have:a=[]:=pV.1 h0;subst this
   rfl
  ·rw[yB (by omega),cond_false];simp(disch:=omega) only[wi,dt,bK,cond_true];rw[show((a.length:Int)-1).toNat=a.length-1 by omega]
   rfl
 ·cases h
end Go.Proofs.Tryz
set_option maxHeartbeats 0
namespace Go.Proofs.Tryz
open Go Go.VM Go.RowKit
def wA (x:List Int×Int):Option Int:=if 0<=x.2/\x.2<=1048576/\x.1.length<=top then some (qV x.2 x.1.length)else none
theorem aRD:Sat prog cxT 95 (c95 wA):=s95 wA λx t h=>by
 obtain⟨a,v⟩:=x;unfold wA at h;split at h
 ·rename_i hc;cases h;exact⟨0,aCv hc.1 hc.2.1 hc.2.2⟩
 ·cases h
theorem aMZ (L:Nat)(a:List Int):∀ (n:Nat) (o:List Int) (i:Int) (k:List Int->Option (List Int)),uI L a n o i k=toL 0 (λx=>some x) a n o i k
 | 0,_,_,_=>rfl
 | n+1,o,i,k=>by unfold uI B103_0 toL;dsimp only[eF];simp only[aMZ L a n,aR]
theorem aDO {n:Nat}(h:n<=jL):((decide ((0:Int)<=(n:Int))&&decide ((n:Int)<=(n:Int)))&&decide ((n:Int)<=(1000000000:Int)))=true:=by
 unfold jL at h;rw[dt (by omega),dt (jD _),dt (by omega)];rfl
def kJ (a:List Int):Option (List Int):=if a.length<=jL then some a else none
theorem aOX:Sat prog cxT 103 (aK0 kJ):=aZL kJ λx t h=>by
 unfold kJ at h;split at h
 ·rename_i ha;cases h;refine⟨x.length+1,?_⟩
  (try unfold aN8);unfold aKr A103_0 G103;dsimp only[eF]
  rw[aDO ha,cond_true,aMZ,aY];unfold jL at ha;exact aCu 0 _ x (by omega) (λ_ _=>rfl) _ _ 0 _ (by simp) (by omega) (by omega) rfl
 ·cases h
theorem aMY (L:Nat)(a b:List Int):∀ (n:Nat) (i:Int) (k:Option Bool),uH L a b n i k=eqL 0 (λx=>some (decide (x.1=x.2))) a b n i k
 | 0,_,_=>rfl
 | n+1,i,k=>by
  unfold uH B109_0 eqL;dsimp only[eF];simp only[aMY L a b n,aR];congr 2
def kI (x:List Int×List Int):Option Bool:=if x.1.length<=1000000000000 then some (decide (x.1=x.2))else none
theorem aOV:Sat prog cxT 109 (aKY kI):=aZF kI λx t h=>by
 obtain⟨a,b⟩:=x;unfold kI at h;split at h
 ·rename_i hc;cases h;have hc:a.length<=1000000000000:=hc;refine⟨a.length+1,?_⟩;show aJi (a.length+1) a b=some (decide (a=b))
  (try unfold aN5);unfold aJi A109_0 G109;dsimp only[eF]
  refine hM (λe=>?_) λe h=>e (by rw[h])
  rw[aMY];refine(aAU 0 _ a b (by omega) (by omega) (λ_ _ _ _=>rfl) _ _ 0 (by omega) (by omega)).trans ?_;simp only[fC];split<;>rename_i hh<;>simp[hh]
 ·cases h
abbrev Nd:=Int×Int×Int×Int×List En×Int×Int×List Int×List Int×List Int
instance decN1:DecidableEq (List Int×List Int×List Int):=inferInstance
instance decN2:DecidableEq (Int×List Int×List Int×List Int):=instDecidableEqProd
instance decN3:DecidableEq (Int×Int×List Int×List Int×List Int):=instDecidableEqProd
instance decN4:DecidableEq (List En×Int×Int×List Int×List Int×List Int):=instDecidableEqProd
instance decN5:DecidableEq (Int×List En×Int×Int×List Int×List Int×List Int):=instDecidableEqProd
instance decN6:DecidableEq (Int×Int×List En×Int×Int×List Int×List Int×List Int):=instDecidableEqProd
instance decN7:DecidableEq (Int×Int×Int×List En×Int×Int×List Int×List Int×List Int):=instDecidableEqProd
instance decNd:DecidableEq Nd:=(instDecidableEqProd:DecidableEq (Int×Int×Int×Int×List En×Int×Int×List Int×List Int×List Int))
def wN (n:Nd):Int:=(n.2.2.2.2.1.length:Int)+n.2.2.2.2.2.2.2.1.length+n.2.2.2.2.2.2.2.2.1.length+n.2.2.2.2.2.2.2.2.2.length
def mM (n:Nd)(B:Nat):Prop:=n.2.2.2.2.1.length<=B/\n.2.2.2.2.2.2.2.1.length<=B/\n.2.2.2.2.2.2.2.2.1.length<=B/\n.2.2.2.2.2.2.2.2.2.length<=B
instance (n:Nd)(B:Nat):Decidable (mM n B):=by unfold mM;infer_instance
def mS (x:Nd×Int):Option Int:=if 0<=x.2/\x.2<=1048576/\mM x.1 top then some (qV x.2 (wN x.1))else none
theorem hU {v w:Int}(h:v-w < 0):qV v w=-1:=if_pos h
theorem kX {v w:Int}(h:¬ v-w < 0):qV v w=v-w:=if_neg h
theorem aRX:Sat prog cxT 65 (c65 mS):=s65 nL wA aLf aRD mS λx t h=>by
 obtain⟨⟨a,b,c,d,lg,e,f,vt,nx,mt⟩,v⟩:=x;unfold mS at h;split at h
 ·rename_i hc;cases h;obtain⟨h0,h1,h2,h3,h4,h5⟩:=hc;simp only at h0 h1 h2 h3 h4 h5;refine⟨0,?_⟩;show g65 nL wA 0 a b c d lg e f vt nx mt v=some (qV v ((lg.length:Int)+vt.length+nx.length+mt.length));have e1:nL (lg,v)=some (qV v lg.length):=if_pos ⟨h2,h0,h1⟩
  (try unfold w65);unfold g65 G65;dsimp only[eF]
  rw[e1,aR];by_cases k1:v-(lg.length:Int) < 0
  ·rw[hU k1,dt (by omega),cond_true,hU (by omega)]
  rw[kX k1,df k1,cond_false];have e2:wA (vt,v-lg.length)=some (qV (v-lg.length) vt.length):=if_pos ⟨by(try simp only);omega,by(try simp only);omega,h3⟩;rw[e2,aR];by_cases k2:v-(lg.length:Int)-vt.length < 0
  ·rw[hU k2,dt (by omega),cond_true,hU (by omega)]
  rw[kX k2,df k2,cond_false];have e3:wA (nx,v-lg.length-vt.length)=some (qV (v-lg.length-vt.length) nx.length):=if_pos ⟨by(try simp only);omega,by(try simp only);omega,h4⟩;rw[e3,aR];by_cases k3:v-(lg.length:Int)-vt.length-nx.length < 0
  ·rw[hU k3,dt (by omega),cond_true,hU (by omega)]
  rw[kX k3,df k3,cond_false];have e4:wA (mt,v-lg.length-vt.length-nx.length)=some (qV (v-lg.length-vt.length-nx.length) mt.length):=if_pos ⟨by(try simp only);omega,by(try simp only);omega,h5⟩;rw[e4,aR];by_cases k4:v-(lg.length:Int)-vt.length-nx.length-mt.length < 0
  ·rw[hU k4,dt (by omega),cond_true,hU (by omega)]
  rw[kX k4,df k4,cond_false,kX (by omega)];congr 1;omega
 ·cases h
def mQ (n:Nd):Option Nd:=if mM n jL then some n else none
theorem aRS:Sat prog cxT 72 (c72 mQ):=s72 gR kJ aHZ aOX mQ λx t h=>by
 obtain⟨a,b,c,d,lg,e,f,vt,nx,mt⟩:=x;unfold mQ at h;split at h
 ·rename_i hc;cases h;obtain⟨h2,h3,h4,h5⟩:=hc;refine⟨0,?_⟩;show g72 gR kJ 0 a b c d lg e f vt nx mt=_
  (try unfold w72);unfold g72 G72;dsimp only[eF]
  rw[show gR lg=some lg from if_pos h2,aR,show kJ vt=some vt from if_pos h3,aR,show kJ nx=some nx from if_pos h4,aR,show kJ mt=some mt from if_pos h5,aR]
 ·cases h
def mO (x:Nd×Nd):Option Bool:=if mM x.1 jL then some (decide (x.1=x.2))else none
theorem pQ {p q:Prop}[Decidable p][Decidable q]{o:Option Bool}(h:p->o=some (decide q))(h2:¬ p->¬ q):(bif !decide p then some false else o)=some (decide q):=by
 by_cases hp:p
 ·rw[dt hp];exact h hp
 ·rw[df hp,df (h2 hp)];rfl
theorem aRL:Sat prog cxT 82 (c82 mO):=s82 nM kI aLm aOV mO λx t h=>by
 obtain⟨⟨a,b,c,d,lg,e,f,vt,nx,mt⟩,a',b',c',d',lg',e',f',vt',nx',mt'⟩:=x;unfold mO at h;split at h
 ·rename_i hc;cases h;obtain⟨h2,h3,h4,h5⟩:=hc;simp only[jL]at h2 h3 h4 h5;refine⟨0,?_⟩;show g82 nM kI 0 a b c d lg e f vt nx mt a' b' c' d' lg' e' f' vt' nx' mt'=_
  (try unfold w82);unfold g82 G82;dsimp only[eF]
  rw[show nM (lg,lg')=some (decide (lg=lg')) from if_pos (by(try simp only);omega),aR,show kI (vt,vt')=some (decide (vt=vt')) from if_pos (by(try simp only);omega),aR,show kI (nx,nx')=some (decide (nx=nx')) from if_pos (by(try simp only);omega),aR,
   show kI (mt,mt')=some (decide (mt=mt')) from if_pos (by(try simp only);omega),aR]
  refine hM (λe1=>hM (λe2=>hM (λe3=>hM (λe4=>pQ (λe5=>hM (λe6=>hM (λe7=>pQ (λe8=>pQ (λe9=>pQ (λe10=>?_) ?_) ?_) ?_) ?_) ?_) ?_) ?_) ?_) ?_) ?_
  ·subst e1 e2 e3 e4 e5 e6 e7 e8 e9 e10;simp
  all_goals intro e h;simp only[aN]at h;obtain⟨q1,q2,q3,q4,q5,q6,q7,q8,q9,q10⟩:=h;first | exact e q1 | exact e q2 | exact e q3 | exact e q4 | exact e q5 | exact e q6 | exact e q7 | exact e q8 | exact e q9 | exact e q10
 ·cases h
end Go.Proofs.Tryz
set_option maxHeartbeats 0
namespace Go.Proofs.Tryz
open Go Go.VM Go.RowKit
def mkI (v:Int):Int:=v
def hdI (x:List Int×Int):Prop:=x.1.length<=1000000000/\0<=x.2/\x.2<=100000000000/\x.1=mkR mkI 1 x.1.length x.2
instance (x:List Int×Int):Decidable (hdI x):=by unfold hdI;infer_instance
def k1 (n:Nd)(v:Int):Int:=v+9 * (n.2.2.2.2.1.length:Int)
def k2 (n:Nd)(v:Int):Int:=k1 n v+1 * (n.2.2.2.2.2.2.2.1.length:Int)
def k3 (n:Nd)(v:Int):Int:=k2 n v+1 * (n.2.2.2.2.2.2.2.2.1.length:Int)
def k4 (n:Nd)(v:Int):Int:=k3 n v+1 * (n.2.2.2.2.2.2.2.2.2.length:Int)
def mkN (n:Nd)(v:Int):Nd:=(n.1,n.2.1,n.2.2.1,n.2.2.2.1,mkR mkE 9 n.2.2.2.2.1.length v,n.2.2.2.2.2.1,n.2.2.2.2.2.2.1,mkR mkI 1 n.2.2.2.2.2.2.2.1.length (k1 n v),mkR mkI 1 n.2.2.2.2.2.2.2.2.1.length (k2 n v),mkR mkI 1 n.2.2.2.2.2.2.2.2.2.length (k3 n v))
def hdN (x:Nd×Int):Prop:=mM x.1 100000000/\0<=x.2/\x.2<=1000000000/\x.1=mkN x.1 x.2
instance (x:Nd×Int):Decidable (hdN x):=by unfold hdN;infer_instance
end Go.Proofs.Tryz
