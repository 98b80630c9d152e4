/- A part of the proof of FnExactServeFrom: LtNa, LtNb. -/
import Derived.Test.YtnmnomckcjihoaaGreatLtPe
import Derived.Test.YtnmnomckcjihoaaGreatLtQc
import Derived.Test.YtnmnomckcjihoaaGreatLtFe
import Derived.Test.YtnmnomckcjihoaaGreatLtFg
set_option linter.unusedSimpArgs false
set_option linter.unusedVariables false
set_option maxHeartbeats 0
namespace Go.Proofs.Tryz
open Go Go.VM Go.RowKit
abbrev Ud:=Int×Int×Bool×Int×List Bk×List Vp×List Cm
def dCm:Cm:=((0:Int),(0:Int),(0:Int),(0:Int),(0:Int),(0:Int))
def aDN (l:List Cm)(i:Nat):Int:=cmF (l.getD i dCm)
def aLO (l:List Cm):Int:=kE (aDN l) l.length 0
def okU (u:Ud):Prop:=okC (u.2.2.2.1,u.2.2.2.2.1,u.2.2.2.2.2.1)
instance (u:Ud):Decidable (okU u):=by unfold okU;infer_instance
theorem aMZ {v:Int}(h:lC v=true):0<=v/\v<=1000000:=by
 unfold lC at h;simpa using h
def nK (x:Cm):Option Cm:=some x
theorem aOf:Sat prog cxT 37 (c37 nK):=s37 nK λx t h=>by
 obtain⟨a,b,c,d,e,f⟩:=x;cases h;exact⟨0,rfl⟩
theorem aP8 (L:Nat)(a:List Cm):∀ (n:Nat) (o:List Cm) (i:Int) (k:List Cm->Option (List Cm)),yE nK L a n o i k=toL dCm nK a n o i k
 | 0,_,_,_=>rfl
 | n+1,o,i,k=>by unfold yE toL;simp only[aP8 L a n];rfl
def rS (a:List Cm):Option (List Cm):=if a.length<=qA then some a else none
theorem aOt:Sat prog cxT 14 (c14 rS):=s14 _ aOf rS λx t h=>by
 unfold rS at h;split at h
 ·rename_i ha;cases h;refine⟨x.length+1,?_⟩;unfold g14;rw[sF ha,cond_true,aP8,bA];unfold qA at ha;exact tA dCm _ x (by omega) (λv hv=>rfl) _ _ 0 _ (by simp) (by omega) (by omega) rfl
 ·cases h
def qJ (x:List Cm×Int):Option Int:=if 0<=x.2/\x.2<=1048576/\x.1.length<=top then some (kD x.2 x.1.length)else none
theorem aOw:Sat prog cxT 11 (c11 qJ):=s11 qJ λx t h=>by
 obtain⟨a,v⟩:=x;unfold qJ at h;split at h
 ·rename_i hc;cases h;exact⟨0,aC1 hc.1 hc.2.1 hc.2.2⟩
 ·cases h
def nJ (x:Cm×Cm):Option Bool:=some (decide (x.1=x.2))
theorem aOb:Sat prog cxT 41 (c41 nJ):=s41 nJ λx t h=>by
 obtain⟨⟨a,b,c,d,e,f⟩,a',b',c',d',e',f'⟩:=x;cases h;refine⟨0,?_⟩;show g41 0 a b c d e f a' b' c' d' e' f'=_;unfold g41;by_cases h1:a=a'
 ·rw[iW h1,cond_false];by_cases h2:b=b'
  ·rw[iW h2,cond_false];by_cases h3:c=c'
   ·rw[iW h3,cond_false];by_cases h4:d=d'
    ·rw[iW h4,cond_false];by_cases h5:e=e'
     ·rw[iW h5,cond_false];by_cases h6:f=f'
      ·rw[iW h6,cond_false];simp[h1,h2,h3,h4,h5,h6]
      ·rw[iR h6,cond_true];simp[h6]
     ·rw[iR h5,cond_true];simp[h5]
    ·rw[iR h4,cond_true];simp[h4]
   ·rw[iR h3,cond_true];simp[h3]
  ·rw[iR h2,cond_true];simp[h2]
 ·rw[iR h1,cond_true];simp[h1]
instance decCm:DecidableEq Cm:=inferInstance
instance decLc:DecidableEq (List Cm):=@instDecidableEqList _ decCm
theorem aP6 (L:Nat)(a b:List Cm):∀ (n:Nat) (i:Int) (k:Option Bool),yC nJ L a b n i k=eqL dCm nJ a b n i k
 | 0,_,_=>rfl
 | n+1,i,k=>by unfold yC eqL;simp only[aP6 L a b n];rfl
def mQ (x:List Cm×List Cm):Option Bool:=if x.1.length<=nB then some (decide (x.1=x.2))else none
theorem aIV:Sat prog cxT 18 (c18 mQ):=s18 _ aOb mQ λx t h=>by
 obtain⟨a,b⟩:=x;unfold mQ at h;split at h
 ·rename_i hc;cases h;have hc1:a.length<=1000000000000:=hc;refine⟨a.length+1,?_⟩;show g18 _ (a.length+1) a b=some (decide (a=b));unfold g18;refine oF (λe=>?_) λe h=>e (by rw[h])
  rw[aP6];refine(tM dCm _ a b (by omega) (by omega) (λx hx y _=>rfl) _ _ 0 (by omega) (by omega)).trans ?_;simp only[dW];split<;>rename_i hh<;>simp[hh]
 ·cases h
noncomputable def m9 (x:Ud×Ud):Option Bool:=@ite _ (okU x.1/\x.1.2.2.2.2.2.2.length<=nB/\x.2=x.1) (Classical.propDecidable _) (some true) none
theorem aTk:Sat prog cxT 9 (c9 m9):=s9 iX mQ aIR aIV m9 λx t h=>by
 obtain⟨⟨a,b,c,d,e,f,g⟩,y⟩:=x;unfold m9 at h;split at h
 ·rename_i hc;obtain⟨h1,h2,h3⟩:=hc;simp only at h2 h3;subst h3;cases h;refine⟨0,?_⟩;show g9 iX mQ 0 a b c d e f g a b c d e f g=_;unfold g9;rw[show iX ((d,e,f),(d,e,f))=some true from(if_pos h1).trans (by rw[dt rfl]),bJ,show mQ (g,g)=some true from(if_pos h2).trans (by rw[dt rfl]),bJ,iW rfl,iW rfl];cases c<;>rfl
 ·cases h
def m7 (u:Ud):Option Ud:=if okM (u.2.2.2.1,u.2.2.2.2.1,u.2.2.2.2.2.1)/\u.2.2.2.2.2.2.length<=qA then some u else none
def wU (u:Ud):Int:=wC (u.2.2.2.1,u.2.2.2.2.1,u.2.2.2.2.2.1)+(u.2.2.2.2.2.2.length:Int)
def zU (u:Ud):Prop:=okZ (u.2.2.2.1,u.2.2.2.2.1,u.2.2.2.2.2.1)/\u.2.2.2.2.2.2.length<=top
instance (u:Ud):Decidable (zU u):=by unfold zU;infer_instance
theorem pQ (c:Cg):0<=wC c:=by
 have:=dR (w:=wV) (l:=c.2.2) λx _=>jK x
 unfold wC;omega
def m5 (x:Ud×Int):Option Int:=if 0<=x.2/\x.2<=1048576/\zU x.1 then some (kD x.2 (wU x.1))else none
def m3 (x:Ud):Option Bool:=if zU x then some true else none
end Go.Proofs.Tryz
set_option maxHeartbeats 0
namespace Go.Proofs.Tryz
open Go Go.VM Go.RowKit
def fU:Cg:=((0:Int),[],[])
abbrev Ur:=Int×Ud
def svA (l:List Cg)(i:Nat):Int:=if cF (l.getD i fU)=0 then(if(l.getD i fU).1=(l.getD 0 fU).1+(i:Int)then 0 else 1)else cF (l.getD i fU)
def svF (l:List Cg)(cs:List Cm):Int:=
 if l.length < 1 then 2 else if 60 < l.length then 2 else if(cs.length:Int)=(l.length:Int)-1 then(if kE (svA l) l.length 0=0 then aLO cs else kE (svA l) l.length 0)else 2
def okL (l:List Cg):Prop:=∀ c∈l,okC c
instance (l:List Cg):Decidable (okL l):=by unfold okL;infer_instance
theorem aDg {l:List Cg}(h:okL l){i:Nat}(hi:i < l.length):okC (l.getD i fU):=h _ (gO fU hi)
theorem aDV {c:Cg}(h:cF c=0):0<=c.1/\c.1<=1000000:=aMZ (aEJ h).1
theorem aGg (M:Cg->Option Int)(L:Nat)(l:List Cg)(g:List Cm)(hl:g.length<=1000):∀ (n i:Nat),i<=g.length->g.length < n+i->
  uC M iO L l g n (i:Int) (some 0)=some (kE (aDN g) (g.length-i) i)
 | 0,i,h1,h2=>by omega
 | n+1,i,h1,h2=>by
  unfold uC;by_cases hi:i < g.length
  ·have ih:=aGg M L l g hl n (i+1) (by omega) (by omega);rw[show((i+1:Nat):Int)=(i:Int)+1 by omega]at ih;rw[dt (show(i:Int) < (g.length:Int)by omega),dt (show(0:Int)<=(i:Int)by omega),bA,wi (x:=(i:Int)+1) (by omega) (by omega),gP hi];simp only[cond_true,bL]
   change cK (some (aDN g i)) _ _=_
   rw[bJ,ih];by_cases h0:aDN g i=0
   ·rw[iW h0,cond_false,if_pos h0]
   ·rw[iR h0,cond_true,if_neg h0]
  ·rw[df (show ¬ (i:Int) < (g.length:Int)by omega),cond_false,gQ hi]
theorem aGh (M:Cg->Option Int)(L:Nat)(l:List Cg)(g:List Cm)(hl:g.length<=1000):∀ (n i:Nat),i<=g.length->g.length < n+i->
  uD M iO L l g n (i:Int) (some 0)=some (kE (aDN g) (g.length-i) i)
 | 0,i,h1,h2=>by omega
 | n+1,i,h1,h2=>by
  unfold uD;by_cases hi:i < g.length
  ·have ih:=aGh M L l g hl n (i+1) (by omega) (by omega);rw[show((i+1:Nat):Int)=(i:Int)+1 by omega]at ih;rw[dt (show(i:Int) < (g.length:Int)by omega),dt (show(0:Int)<=(i:Int)by omega),bA,wi (x:=(i:Int)+1) (by omega) (by omega),gP hi];simp only[cond_true,bL]
   change cK (some (aDN g i)) _ _=_
   rw[bJ,ih];by_cases h0:aDN g i=0
   ·rw[iW h0,cond_false,if_pos h0]
   ·rw[iR h0,cond_true,if_neg h0]
  ·rw[df (show ¬ (i:Int) < (g.length:Int)by omega),cond_false,gQ hi]
theorem aPm (L:Nat)(l:List Cg)(g:List Cm)(hc:okL l)(hl:l.length<=60)(k:Option Int)(w:Int)(hk:k=some w):∀ (n i:Nat),i<=l.length->l.length < n+i->(0 < i->0<=(l.getD 0 fU).1/\(l.getD 0 fU).1<=1000000)->
  xY mCF iO L l g n (i:Int) k=some (if kE (svA l) (l.length-i) i=0 then w else kE (svA l) (l.length-i) i)
 | 0,i,h1,h2,_=>by omega
 | n+1,i,h1,h2,h3=>by
  unfold xY;by_cases hi:i < l.length
  ·have h0:(0 < i->0<=(l.getD 0 fU).1/\(l.getD 0 fU).1<=1000000):=h3;rw[dt (show(i:Int) < (l.length:Int)by omega),dt (show(0:Int)<=(i:Int)by omega),bA,wi (x:=(i:Int)+1) (by omega) (by omega),gP hi,dt (show(0:Int)<=0 by omega),dt (show(0:Int) < (l.length:Int)by omega)];simp only[cond_true,bL];rw[show(((0:Int),([],[])):Cg)=fU from rfl]
   change cK (mCF (l.getD i fU)) _ _=_
   rw[show mCF (l.getD i fU)=some (cF (l.getD i fU)) from if_pos (aDg hc hi),bJ];by_cases e:cF (l.getD i fU)=0
   ·rw[iW e,cond_false];have hv:=aDV e;have hb:0<=(l.getD 0 fU).1/\(l.getD 0 fU).1<=1000000:=by
     rcases Nat.eq_zero_or_pos i with h | h
     ·subst h;exact hv
     ·exact h0 h
    have ih:=aPm L l g hc hl k w hk n (i+1) (by omega) (by omega) (λ_=>hb);rw[show((i+1:Nat):Int)=(i:Int)+1 by omega]at ih;rw[wi (x:=(i:Int)+(l.getD 0 fU).1) (by omega) (by omega),ih];have es:svA l i=if(l.getD i fU).1=(l.getD 0 fU).1+(i:Int)then 0 else 1:=by unfold svA;rw[if_pos e]
    by_cases e2:(l.getD i fU).1=(l.getD 0 fU).1+(i:Int)
    ·rw[iW (show(l.getD i fU).1=(i:Int)+(l.getD 0 fU).1 by omega),cond_false,es,if_pos e2,if_pos rfl]
    ·rw[iR (show ¬ (l.getD i fU).1=(i:Int)+(l.getD 0 fU).1 by omega),cond_true,es,if_neg e2];rfl
   ·have es:svA l i=cF (l.getD i fU):=by unfold svA;rw[if_neg e]
    rw[iR e,cond_true,es,if_neg e,if_neg e]
  ·rw[df (show ¬ (i:Int) < (l.length:Int)by omega),cond_false,gQ hi,hk,if_pos rfl]
theorem aPn (L:Nat)(l:List Cg)(g:List Cm)(hc:okL l)(hl:l.length<=60)(k:Option Int)(w:Int)(hk:k=some w):∀ (n i:Nat),i<=l.length->l.length < n+i->(0 < i->0<=(l.getD 0 fU).1/\(l.getD 0 fU).1<=1000000)->
  yA fO iO L l g n (i:Int) k=some (if kE (svA l) (l.length-i) i=0 then w else kE (svA l) (l.length-i) i)
 | 0,i,h1,h2,_=>by omega
 | n+1,i,h1,h2,h3=>by
  unfold yA;by_cases hi:i < l.length
  ·have h0:(0 < i->0<=(l.getD 0 fU).1/\(l.getD 0 fU).1<=1000000):=h3;rw[dt (show(i:Int) < (l.length:Int)by omega),dt (show(0:Int)<=(i:Int)by omega),bA,wi (x:=(i:Int)+1) (by omega) (by omega),gP hi,dt (show(0:Int)<=0 by omega),dt (show(0:Int) < (l.length:Int)by omega)];simp only[cond_true,bL];rw[show(((0:Int),([],[])):Cg)=fU from rfl];rw[show fO (l.getD i fU)=some (cF (l.getD i fU)) from if_pos (aDg hc hi),bJ];by_cases e:cF (l.getD i fU)=0
   ·rw[iW e,cond_false];have hv:=aDV e;have hb:0<=(l.getD 0 fU).1/\(l.getD 0 fU).1<=1000000:=by
     rcases Nat.eq_zero_or_pos i with h | h
     ·subst h;exact hv
     ·exact h0 h
    have ih:=aPn L l g hc hl k w hk n (i+1) (by omega) (by omega) (λ_=>hb);rw[show((i+1:Nat):Int)=(i:Int)+1 by omega]at ih;rw[wi (x:=(l.getD 0 fU).1+(i:Int)) (by omega) (by omega),ih];have es:svA l i=if(l.getD i fU).1=(l.getD 0 fU).1+(i:Int)then 0 else 1:=by unfold svA;rw[if_pos e]
    by_cases e2:(l.getD i fU).1=(l.getD 0 fU).1+(i:Int)
    ·rw[iW e2,cond_false,es,if_pos e2,if_pos rfl]
    ·rw[iR e2,cond_true,es,if_neg e2];rfl
   ·have es:svA l i=cF (l.getD i fU):=by unfold svA;rw[if_neg e]
    rw[iR e,cond_true,es,if_neg e,if_neg e]
  ·rw[df (show ¬ (i:Int) < (l.length:Int)by omega),cond_false,gQ hi,hk,if_pos rfl]
def mSv (x:List Cg×List Cm):Option Int:=if okL x.1 then some (svF x.1 x.2)else none
theorem aOe:Sat prog cxT 38 (c38 mSv):=s38 _ _ aIM aN0 mSv λx t h=>by
 obtain⟨l,g⟩:=x;unfold mSv at h;split at h
 ·rename_i hc;have hc:okL l:=hc;cases h;refine⟨l.length+g.length+1,?_⟩;show g38 mCF iO (l.length+g.length+1) l g=some (svF l g);unfold g38 svF;by_cases h1:l.length < 1
  ·rw[dt (show(l.length:Int) < 1 by omega),cond_true,if_pos h1]
  ·rw[df (show ¬ (l.length:Int) < 1 by omega),cond_false,if_neg h1];by_cases h2:60 < l.length
   ·rw[dt (show(l.length:Int) > 60 by omega),cond_true,if_pos h2]
   ·rw[df (show ¬ (l.length:Int) > 60 by omega),cond_false,if_neg h2,wi (by omega) (by omega)];by_cases h3:(g.length:Int)=(l.length:Int)-1
    ·rw[iW h3,cond_false,if_pos h3];exact aPm _ l g hc (by omega) _ (aLO g) (aGg _ _ l g (by omega) _ 0 (by omega) (by omega)) _ 0 (by omega) (by omega) (λh=>by omega)
    ·rw[iR h3,cond_true,if_neg h3]
 ·cases h
theorem aOi:Sat prog cxT 33 (c33 mSv):=s33 _ _ aOl aOk mSv λx t h=>by
 obtain⟨l,g⟩:=x;unfold mSv at h;split at h
 ·rename_i hc;have hc:okL l:=hc;cases h;refine⟨l.length+g.length+1,?_⟩;show g33 fO iO (l.length+g.length+1) l g=some (svF l g);unfold g33 svF;by_cases h1:l.length < 1
  ·rw[dt (show(l.length:Int) < 1 by omega),cond_true,if_pos h1]
  ·rw[df (show ¬ (l.length:Int) < 1 by omega),cond_false,if_neg h1];by_cases h2:60 < l.length
   ·rw[dt (show(l.length:Int) > 60 by omega),cond_true,if_pos h2]
   ·rw[df (show ¬ (l.length:Int) > 60 by omega),cond_false,if_neg h2,wi (by omega) (by omega)];by_cases h3:(g.length:Int)=(l.length:Int)-1
    ·rw[iW h3,cond_false,if_pos h3];exact aPn _ l g hc (by omega) _ (aLO g) (aGh _ _ l g (by omega) _ 0 (by omega) (by omega)) _ 0 (by omega) (by omega) (λh=>by omega)
    ·rw[iR h3,cond_true,if_neg h3]
 ·cases h
theorem wF {l:List Cg}{g:List Cm}(h:svF l g=0):1<=l.length/\l.length<=60/\g.length=l.length-1/\(∀ i,i < l.length->cF (l.getD i fU)=0)/\∀ i,i < l.length->(l.getD i fU).1=(l.getD 0 fU).1+(i:Int):=by
 unfold svF at h;split at h
 ·exact absurd h (by decide)
 ·split at h
  ·exact absurd h (by decide)
  ·split at h
   ·rename_i h1 h2 h3;split at h
    ·rename_i h4;have key:∀ i,i < l.length->svA l i=0:=λi hi=>lG.1 h4 i (eK _) (by omega)
     have k1:∀ i,i < l.length->cF (l.getD i fU)=0:=λi hi=>by
      have:=key i hi;unfold svA at this;split at this
      ·assumption
      ·rename_i hn;exact absurd this hn
     refine⟨by omega,by omega,by omega,k1,λi hi=>?_⟩;have:=key i hi;unfold svA at this;rw[if_pos (k1 i hi)]at this;split at this
     ·assumption
     ·exact absurd this (by decide)
    ·rename_i h4;exact absurd h h4
   ·exact absurd h (by decide)
end Go.Proofs.Tryz
