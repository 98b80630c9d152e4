/- A part of the proof of FnExactSameMachines: LnPe, LnPg. -/
import Derived.Test.YtchokegffjaihaaLnPc
set_option linter.unusedSimpArgs false
set_option linter.unusedVariables false
set_option maxHeartbeats 0
namespace Go.Proofs.Try
open Go Go.VM Go.RowKit
instance (bs:List Bk):Decidable (ris bs):=by
 have:ris bs↔∀ j,j < bs.length->∀ i,i < j->(bs.getD i dBk).1 < (bs.getD j dBk).1:=⟨λh j hj i hi=>h i j hi hj,λh i j hi hj=>h j hj i hi⟩
 exact decidable_of_iff _ this.symm
def orI:List Int->Int
 | []=>0
 | x::r=>if x=0 then orI r else x
theorem p65 (L:Nat)(a:List Int)(ha:a.length<=vJ):∀ (n i:Nat),i<=a.length->a.length < n+i->sW L a n i (some 0)=some (orI (a.drop i))
 | 0,i,h2,h3=>by omega
 | n+1,i,h2,h3=>by
  unfold sW;unfold vJ at ha;by_cases hi:i < a.length
  ·rw[dR];simp(disch:=omega) only[dt,wi,cond_true,hU];rw[nO 0 hi];unfold orI;by_cases h0:a.getD i 0=0
   ·rw[aDI h0,cond_false,if_pos h0];exact p65 L a ha n (i+1) (by omega) (by omega)
   ·rw[aDH h0,cond_true,if_neg h0]
  ·simp(disch:=omega) only[df,cond_false];rw[cP (by omega)];rfl
def wR (a:List Int):Option Int:=if a.length<=vJ then some (orI a)else none
theorem aGW:Sat prog cxT 65 (c65 wR):=s65 wR λx t h=>by
 unfold wR at h;split at h
 ·rename_i hc;cases h;exact⟨x.length+1,p65 _ x hc _ 0 (by omega) (by omega)⟩
 ·cases h
def aDA (a b:Vp):Int:=orI [uP a.1 b.1,uP a.2.1 b.2.1,uP a.2.2.1 b.2.2.1]
theorem aG7:Sat prog cxT 41 (c41 λx=>some (aDA x.1 x.2)):=s41 _ wR aGV aGW _ λx t h=>by
 obtain⟨⟨a,b,c,d⟩,a',b',c',d'⟩:=x;cases h;exact⟨0,rfl⟩
end Go.Proofs.Try
set_option maxHeartbeats 0
namespace Go.Proofs.Try
open Go Go.VM Go.RowKit
theorem xB {a b:Vp}:aDA a b=0↔(a.1=b.1/\a.2.1=b.2.1/\a.2.2.1=b.2.2.1):=by
 unfold aDA orI orI orI orI;by_cases h1:uP a.1 b.1=0
 ·rw[if_pos h1];by_cases h2:uP a.2.1 b.2.1=0
  ·rw[if_pos h2];by_cases h3:uP a.2.2.1 b.2.2.1=0
   ·rw[if_pos h3];simp[jO.1 h1,jO.1 h2,jO.1 h3]
   ·rw[if_neg h3];exact⟨λh=>absurd h h3,λh=>absurd (jO.2 h.2.2) h3⟩
  ·rw[if_neg h2];exact⟨λh=>absurd h h2,λh=>absurd (jO.2 h.2.1) h2⟩
 ·rw[if_neg h1];exact⟨λh=>absurd h h1,λh=>absurd (jO.2 h.1) h1⟩
theorem aH2 (L:Nat)(a b:List Int):∀ (n:Nat) (i:Int) (k:Option Bool),sZ L a b n i k=pM 0 (λx=>some (decide (x.1=x.2))) a b n i k
 | 0,_,_=>rfl
 | n+1,i,k=>by
  unfold sZ pM;simp only[aH2 L a b n,bX];congr 2
theorem aHZ (L:Nat)(a b:List Int):∀ (n:Nat) (i:Int) (k:Option Bool),sV L a b n i k=pM 0 (λx=>some (decide (x.1=x.2))) a b n i k
 | 0,_,_=>rfl
 | n+1,i,k=>by
  unfold sV pM;simp only[aHZ L a b n,bX];congr 2
theorem yV {α:Type}[DecidableEq α](d:α)(f:α×α->Option Bool)(a b:List α)(ha:a.length<=vJ)(hf:∀ x∈a,∀ y∈b,f (x,y)=some (decide (x=y))):(bif ((a.length:Int) != (b.length:Int))then some false else pM d f a b (a.length+1) 0 (some true))=some (decide (a=b)):=by
 have ha':a.length<=1000000000000:=ha;refine gL (λe=>?_) λe h=>e (by rw[h])
 refine(kE d f a b (by omega) (by omega) hf _ _ 0 (by omega) (by omega)).trans ?_;simp only[cU];split<;>rename_i hh<;>simp[hh]
theorem aG3:Sat prog cxT 49 (c49 mD):=s49 mD λx t h=>by
 obtain⟨a,b⟩:=x;unfold mD at h;split at h
 ·rename_i hc;cases h;refine⟨a.length+1,?_⟩;show g49 (a.length+1) a b=some (decide (a=b));unfold g49;rw[aH2];exact yV 0 _ a b hc (λ_ _ _ _=>rfl)
 ·cases h
theorem aGS:Sat prog cxT 70 (c70 mD):=s70 mD λx t h=>by
 obtain⟨a,b⟩:=x;unfold mD at h;split at h
 ·rename_i hc;cases h;refine⟨a.length+1,?_⟩;show g70 (a.length+1) a b=some (decide (a=b));unfold g70;rw[aHZ];exact yV 0 _ a b hc (λ_ _ _ _=>rfl)
 ·cases h
theorem aIR (x y:Bk):((((x.1 == y.1&&x.2.1 == y.2.1)&&x.2.2.1 == y.2.2.1)&&x.2.2.2.1 == y.2.2.2.1)&&x.2.2.2.2 == y.2.2.2.2)=decide (x=y):=by
 obtain⟨a,b,c,d,e⟩:=x;obtain⟨a',b',c',d',e'⟩:=y;by_cases h:(a,b,c,d,e)=(a',b',c',d',e')
 ·rw[dt h];simp only[aL]at h;obtain⟨rfl,rfl,rfl,rfl,rfl⟩:=h;simp
 ·rw[df h];refine Bool.eq_false_iff.2 λhh=>h ?_
  simp only[aD,beq_iff_eq]at hh;obtain⟨⟨⟨⟨rfl,rfl⟩,rfl⟩,rfl⟩,rfl⟩:=hh
  rfl
theorem aH1 (L:Nat)(a b:List Bk):∀ (n:Nat) (i:Int) (k:Option Bool),sY L a b n i k=pM dBk (λx=>some (decide (x.1=x.2))) a b n i k
 | 0,_,_=>rfl
 | n+1,i,k=>by
  unfold sY pM;simp only[aH1 L a b n,bX,<-aIR]
  rfl
theorem aG2:Sat prog cxT 50 (c50 pK):=s50 pK λx t h=>by
 obtain⟨a,b⟩:=x;unfold pK at h;split at h
 ·rename_i hc;cases h;refine⟨a.length+1,?_⟩;show g50 (a.length+1) a b=some (decide (a=b));unfold g50;rw[aH1];exact yV dBk _ a b hc (λ_ _ _ _=>rfl)
 ·cases h
theorem aG0:Sat prog cxT 52 (c52 iO):=s52 _ mD aG7 aGS iO λx t h=>by
 obtain⟨⟨a,b,c,d⟩,a',b',c',d'⟩:=x;unfold iO at h;split at h
 ·rename_i hc;cases h;refine⟨0,?_⟩;show g52 _ mD 0 a b c d a' b' c' d'=some (decide ((a,b,c,d)=(a',b',c',d')));unfold g52;rw[bX];show(bif aDA (a,b,c,d) (a',b',c',d') == 0 then _ else _)=_;by_cases h0:aDA (a,b,c,d) (a',b',c',d')=0
  ·rw[beq_iff_eq.2 h0,cond_true,show mD (d,d')=some (decide (d=d')) from if_pos hc,bX];obtain⟨h1,h2,h3⟩:=xB.1 h0;simp only at h1 h2 h3;rw[h1,h2,h3];simp
  ·rw[beq_eq_false_iff_ne.2 h0,cond_false,df];intro h;simp only[aL]at h;exact h0 (xB.2 ⟨h.1,h.2.1,h.2.2.1⟩)
 ·cases h
theorem aH0 (L:Nat)(a b:List Vp)(u:Unit):∀ (n:Nat) (i:Int) (k:Option Bool),sX iO L a b u n i k=pM dVp iO a b n i k
 | 0,_,_=>rfl
 | n+1,i,k=>by unfold sX pM;simp only[aH0 L a b u n];rfl
def uZ (x:List Vp×List Vp×Unit):Option Bool:=if x.1.length<=vJ/\∀ v∈x.1,v.2.2.2.length<=vJ then some (decide (x.1=x.2.1))else none
theorem aG1:Sat prog cxT 51 (c51 uZ):=s51 iO aG0 uZ λx t h=>by
 obtain⟨a,b,u⟩:=x;unfold uZ at h;split at h
 ·rename_i hc;cases h;refine⟨a.length+1,?_⟩;show g51 iO (a.length+1) a b u=some (decide (a=b));unfold g51;rw[aH0];exact yV dVp _ a b hc.1 (λx hx y _=>if_pos (hc.2 x hx))
 ·cases h
theorem aHe:Sat prog cxT 29 (c29 nL):=s29 pK uZ aG2 aG1 nL λx t h=>by
 obtain⟨⟨a,b,c⟩,a',b',c'⟩:=x;unfold nL at h;split at h
 ·rename_i hc;cases h;refine⟨0,?_⟩;show g29 pK uZ 0 a b c a' b' c'=some (decide ((a,b,c)=(a',b',c')));unfold g29;rw[show pK (b,b')=some (decide (b=b')) from if_pos hc.1,bX,show uZ (c,c',PUnit.unit)=some (decide (c=c')) from if_pos hc.2,bX];by_cases e1:a=a'
  ·subst e1;by_cases e2:b=b'<;>by_cases e3:c=c'<;>simp[e2,e3]
  ·rw[beq_eq_false_iff_ne.2 e1,cond_false,df (λh=>e1 (Prod.mk.inj h).1)]
 ·cases h
theorem aDw (M:List Int×List Int->Option Bool)(L:Nat)(a0:Int)(a1:List Bk)(a2:List Vp)(c0:Int)(c1:List Bk)(c2:List Vp)(x:Int)(b:List Bk)(v:List Vp)(x':Int)(b':List Bk)(v':List Vp)(k:Int->List Bk->List Vp->Int->List Bk->List Vp->Option Bool) :
  ∀ (n:Nat) (i:Int),tG M L a0 a1 a2 c0 c1 c2 n x b v x' b' v' i k=pM dBk (λx=>some (decide (x.1=x.2))) b b' n i (k x b v x' b' v')
 | 0,_=>rfl
 | n+1,i=>by
  unfold tG pM;simp only[aDw M L a0 a1 a2 c0 c1 c2 x b v x' b' v' k n,bX,<-aIR]
  rfl
theorem aJJ (x y:Vp)(K:Option Bool)(hx:x.2.2.2.length<=vJ):(bif x.1 != y.1 then some false else bif x.2.1 != y.2.1 then some false else bif x.2.2.1 != y.2.2.1 then some false else dK (mD (x.2.2.2,y.2.2.2)) false λq=>bif !q then some false else K)=dK (iO (x,y)) false λq=>bif !q then some false else K:=by
 obtain⟨a,b,c,d⟩:=x;obtain⟨a',b',c',d'⟩:=y;rw[show iO ((a,b,c,d),a',b',c',d')=some (decide ((a,b,c,d)=(a',b',c',d'))) from if_pos hx,show mD (d,d')=some (decide (d=d')) from if_pos hx,bX,bX];by_cases e1:a=a'
 ·by_cases e2:b=b'
  ·by_cases e3:c=c'
   ·subst e1;subst e2;subst e3;simp
   ·rw[aDI (a:=(a,b,c,d).1) (b:=(a',b',c',d').1) e1,aDI (a:=(a,b,c,d).2.1) (b:=(a',b',c',d').2.1) e2,aDH (a:=(a,b,c,d).2.2.1) (b:=(a',b',c',d').2.2.1) e3,df (show ¬ (a,b,c,d)=(a',b',c',d') from λh=>e3 (by simp at h;exact h.2.2.1))];rfl
  ·rw[aDI (a:=(a,b,c,d).1) (b:=(a',b',c',d').1) e1,aDH (a:=(a,b,c,d).2.1) (b:=(a',b',c',d').2.1) e2,df (show ¬ (a,b,c,d)=(a',b',c',d') from λh=>e2 (by simp at h;exact h.2.1))];rfl
 ·rw[aDH (a:=(a,b,c,d).1) (b:=(a',b',c',d').1) e1,df (show ¬ (a,b,c,d)=(a',b',c',d') from λh=>e1 (by simp at h;exact h.1))];rfl
theorem aDv (L:Nat)(a0:Int)(a1:List Bk)(a2:List Vp)(c0:Int)(c1:List Bk)(c2:List Vp)(x:Int)(b:List Bk)(v:List Vp)(x':Int)(b':List Bk)(v':List Vp)(hv:∀ w∈v,w.2.2.2.length<=vJ)(hl:v.length<=vJ)(k:Option Bool) :
  ∀ (n i:Nat),qI mD L a0 a1 a2 c0 c1 c2 n x b v x' b' v' (i:Int) k=pM dVp iO v v' n i k
 | 0,_=>rfl
 | n+1,i=>by
  have ih:=aDv L a0 a1 a2 c0 c1 c2 x b v x' b' v' hv hl k n (i+1);unfold qI pM;have hl':v.length<=1000000000000:=hl;by_cases hi:i < v.length
  ·rw[dt (show(i:Int) < (v.length:Int)by omega),cond_true,cond_true,wi (x:=(i:Int)+1) (by omega) (by omega),show(i:Int)+1=((i+1:Nat):Int) from rfl,ih,<-aJJ _ _ _ (by rw[dR];exact hv _ (kU dVp hi))]
   rfl
  ·rw[df (show ¬ (i:Int) < (v.length:Int)by omega),cond_false,cond_false]
theorem aHf:Sat prog cxT 28 (c28 nL):=s28 mD aG3 nL λx t h=>by
 obtain⟨⟨a,b,c⟩,a',b',c'⟩:=x;unfold nL at h;split at h
 ·rename_i hc;obtain⟨hb,hl,hv⟩:=hc;cases h;simp only at hb hl hv;have hb':b.length<=1000000000000:=hb;have hl':c.length<=1000000000000:=hl;refine⟨b.length+c.length+1,?_⟩;show g28 mD _ a b c a' b' c'=some (decide ((a,b,c)=(a',b',c')));unfold g28;refine gL (λe1=>gL (λe2=>gL (λe3=>?_) λe h=>e (by simp at h;rw[h.2.2])) λe h=>e (by simp at h;rw[h.2.1])) λe h=>e (by simp at h;exact h.1)
  rw[aDw];refine(kE dBk _ b b' (by omega) (by omega) (λ_ _ _ _=>rfl) _ _ 0 (by omega) (by omega)).trans ?_;simp only[cU];by_cases h1:b=b'
  ·rw[if_pos h1];refine(aDv _ a b c a' b' c' a b c a' b' c' hv hl _ _ 0).trans ?_;refine(kE dVp iO c c' (by omega) (by omega) (λw hw y _=>if_pos (hv w hw)) _ _ 0 (by omega) (by omega)).trans ?_;simp only[cU];by_cases h2:c=c'<;>simp[h1,h2,e1]
  ·rw[if_neg h1,df (λh=>h1 (by simp at h;exact h.2.1))]
 ·cases h
end Go.Proofs.Try
