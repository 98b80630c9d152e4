/- A part of the proof of FnExactServeFrom: LtPh, LtPm, LtPn. -/
import Derived.Test.YtnmnomckcjihoaaGreatLtNa
import Derived.Test.YtnmnomckcjihoaaGreatLtFh
import Derived.Test.YtnmnomckcjihoaaGreatVmPl
import Derived.Test.YtnmnomckcjihoaaGreatLtFi
set_option linter.unusedSimpArgs false
set_option linter.unusedVariables false
set_option maxHeartbeats 0
namespace Go.Proofs.Tryz
open Go Go.VM Go.RowKit
def okS (c:Cg):Prop:=c.2.1.length<=1000/\c.2.2.length<=1000/\∀ v∈c.2.2,v.2.2.2.length<=1000
instance (c:Cg):Decidable (okS c):=by unfold okS;infer_instance
theorem p62 (L:Nat)(a:Int)(bs:List Bk)(vs:List Vp)(hv:vs.length<=1000)(hn:∀ v∈vs,v.2.2.2.length<=1000)(x:Int)(y:List Bk)(z:List Vp)(k:Int->List Bk->List Vp->Int->List Bk->List Vp->Option Cg) :
  ∀ (n i:Nat) (acc:List Vp),i<=vs.length->vs.length < n+i->acc.length=i->xS L a bs vs n x y z a bs acc i k=k x y z a bs (acc++vs.drop i)
 | 0,i,acc,h1,h2,h3=>by omega
 | n+1,i,acc,h1,h2,h3=>by
  unfold xS;simp only[dC,gG];by_cases hi:i < vs.length
  ·have hm:=hn _ (gO jH hi);rw[dt (show(i:Int) < (vs.length:Int)by omega),dt (show(0:Int)<=(i:Int)by omega),bL,cond_true,cond_true,bA,show(((0:Int),((0:Int),((0:Int),([]:List Int)))):Vp)=jH from rfl];rw[dt (show(vs.getD i jH).2.2.2.length<=1000000000 by omega),cond_true];rw[dt (show acc.length+(0+1)<=1000000000 by omega),cond_true,wi (by omega) (by omega),show((i:Int)+1)=((i+1:Nat):Int)by omega];rw[p62 L a bs vs hv hn x y z k n (i+1) _ (by omega) (by omega) (by simp[h3])];congr 1;rw[eH,dX hi,<-lR jH hi]
   rfl
  ·rw[df (show ¬ (i:Int) < (vs.length:Int)by omega),cond_false,cW (by omega),dV]
def mCp (c:Cg):Option Cg:=if okS c then some c else none
theorem aNX:Sat prog cxT 62 (c62 mCp):=s62 mCp λx t h=>by
 obtain⟨a,bs,vs⟩:=x;unfold mCp at h;split at h
 ·rename_i hc;obtain⟨h1,h2,h3⟩:=hc;cases h;simp only at h1 h2 h3;refine⟨vs.length+1,?_⟩;show g62 _ a bs vs=_;unfold g62;rw[dt (show bs.length<=1000000000 by omega),cond_true];exact(p62 _ a bs vs h2 h3 0 [] [] _ (vs.length+1) 0 [] (by omega) (by omega) rfl).trans rfl
 ·cases h
theorem p36 (L:Nat)(a:Int)(bs:List Bk)(vs:List Vp)(hv:vs.length<=1000)(hn:∀ v∈vs,v.2.2.2.length<=1000)(x:Int)(y:List Bk)(z:List Vp)(k:Int->List Bk->List Vp->Int->List Bk->List Vp->Option Cg) :
  ∀ (n i:Nat) (acc:List Vp),i<=vs.length->vs.length < n+i->acc.length=i->xZ L a bs vs n a bs vs x y z a bs acc i k=k x y z a bs (acc++vs.drop i)
 | 0,i,acc,h1,h2,h3=>by omega
 | n+1,i,acc,h1,h2,h3=>by
  unfold xZ;simp only[dC,gG];by_cases hi:i < vs.length
  ·have hm:=hn _ (gO jH hi);rw[dt (show(i:Int) < (vs.length:Int)by omega),dt (show(0:Int)<=(i:Int)by omega),bL,cond_true,cond_true,bA,show(((0:Int),((0:Int),((0:Int),([]:List Int)))):Vp)=jH from rfl];rw[dt (show 0+(vs.getD i jH).2.2.2.length<=1000000000 by omega),cond_true];rw[dt (show acc.length+(0+1)<=1000000000 by omega),cond_true,wi (by omega) (by omega),show((i:Int)+1)=((i+1:Nat):Int)by omega];rw[p36 L a bs vs hv hn x y z k n (i+1) _ (by omega) (by omega) (by simp[h3])];congr 1;rw[eH,dX hi,<-lR jH hi]
   rfl
  ·rw[df (show ¬ (i:Int) < (vs.length:Int)by omega),cond_false,cW (by omega),dV]
theorem aOg:Sat prog cxT 36 (c36 mCp):=s36 mCp λx t h=>by
 obtain⟨a,bs,vs⟩:=x;unfold mCp at h;split at h
 ·rename_i hc;obtain⟨h1,h2,h3⟩:=hc;cases h;simp only at h1 h2 h3;refine⟨vs.length+1,?_⟩;show g36 _ a bs vs=_;unfold g36;rw[dt (show([]:List Bk).length+bs.length<=1000000000 by simp only[gG];omega),cond_true];exact(p36 _ a bs vs h2 h3 0 [] [] _ (vs.length+1) 0 [] (by omega) (by omega) rfl).trans rfl
 ·cases h
end Go.Proofs.Tryz
set_option maxHeartbeats 0
namespace Go.Proofs.Tryz
open Go Go.VM Go.RowKit
def lK (x:List Int×Int):Option (Int×List Int):=g63 (x.1.length+1) x.1 x.2
theorem aNW:SatW prog cxT 63 (c63 lK).nres (c63 lK).n (c63 lK).F:=s63 lK λx t h=>⟨_,h⟩
def iH (x:List Bk×Int):Option (Int×List Bk):=g42 (x.1.length+1) x.1 x.2
theorem aIQ:SatW prog cxT 42 (c42 iH).nres (c42 iH).n (c42 iH).F:=s42 iH λx t h=>⟨_,h⟩
def iG (x:List Vp×Int):Option (Int×List Vp):=g43 lK (x.1.length+1) x.1 x.2
theorem aIP:SatW prog cxT 43 (c43 iG).nres (c43 iG).n (c43 iG).F:=s43 lK aNW iG λx t h=>⟨_,h⟩
def tX (x:Cg×Int):Option (Int×Cg):=g64 iH iG 0 x.1.1 x.1.2.1 x.1.2.2 x.2
theorem aNV:SatW prog cxT 64 (c64 tX).nres (c64 tX).n (c64 tX).F:=s64 iH iG aIQ aIP tX λx t h=>⟨0,h⟩
end Go.Proofs.Tryz
set_option maxHeartbeats 0
namespace Go.Proofs.Tryz
open Go Go.VM Go.RowKit
def mkI (v:Int):Int:=v
def mkB (v:Int):Bk:=(v,v+1,v+2,v+3,Int.tmod (v+4) 3 == 0)
def wP (x:Vp):Int:=3+(x.2.2.2.length:Int)
def mkP (x:Vp)(v:Int):Vp:=(v,v+1,v+2,pZ mkI 1 x.2.2.2.length (v+3))
theorem wR (x:Vp):0<=wP x:=by unfold wP;omega
theorem aFx (x:Vp)(v:Int):wP (mkP x v)=wP x:=by unfold wP mkP;simp only[kR]
theorem aKQ (x:Vp)(v:Int):mkP (mkP x v) v=mkP x v:=by unfold mkP;simp only[kR]
theorem aU2 {l:List Int}{q:Int}(hl:l.length<=1000000000)(h0:0<=q)(h1:q<=100000000000):lK (l,q)=some (q+1 * (l.length:Int),pZ mkI 1 l.length q):=by
 have:=wH (R:=Int×List Int) mkI 1 1000000000000000 l.length (by omega) (λn o v i K=>qM (l.length+1) l q n o v i K)
  (λn o v i K k1 k2 k3 k4=>by
   show qM _ _ _ (n+1) o v i K=_
   conv=>lhs;unfold qM
   rw[dt (show(i:Int) < (o.length:Int)by omega),dt (show(0:Int)<=(i:Int)by omega),bL,cond_true,cond_true,bA,wi (x:=v+1) (by omega) (by omega),wi (x:=(i:Int)+1) (by omega) (by omega)]
   rfl)
  (λn o v i K k1 k2=>by
   show qM _ _ _ (n+1) o v i K=_
   conv=>lhs;unfold qM
   rw[df (show ¬ (i:Int) < (o.length:Int)by omega),cond_false]) (λo k=>some (k,o)) (l.length+1) 0 l q rfl (by omega) (by omega) h0 (by simp only[fA];omega)
 simp only[List.take_zero,pM,fA]at this;exact this
theorem aPZ {l:List Bk}{q:Int}(hl:l.length<=1000000000)(h0:0<=q)(h1:q<=100000000000):iH (l,q)=some (q+5 * (l.length:Int),pZ mkB 5 l.length q):=by
 have:=wH (R:=Int×List Bk) mkB 5 1000000000000000 l.length (by omega) (λn o v i K=>qP (l.length+1) l q n o v i K)
  (λn o v i K k1 k2 k3 k4=>by
   show qP _ _ _ (n+1) o v i K=_
   conv=>lhs;unfold qP
   simp only[aDR,cD];rw[dt (show(i:Int) < (o.length:Int)by omega),dt (show(0:Int)<=(i:Int)by omega),bL];simp only[cond_true];rw[wi (x:=(i:Int)+1) (by omega) (by omega),wi (x:=v+1) (by omega) (by omega),wi (x:=v+1+1) (by omega) (by omega),wi (x:=v+1+1+1) (by omega) (by omega),wi (x:=v+1+1+1+1) (by omega) (by omega),wi (x:=v+1+1+1+1+1) (by omega) (by omega)];simp only[bA,List.set_set];have eg:∀ x:Bk,(o.set i x).getD i (0,0,0,0,false)=x:=λx=>by simp[List.getD,dY k2]
   simp only[eg];rw[show v+1+1=v+2 by omega,show v+2+1=v+3 by omega,show v+3+1=v+4 by omega,show v+4+1=v+5 by omega]
   rfl)
  (λn o v i K k1 k2=>by
   show qP _ _ _ (n+1) o v i K=_
   conv=>lhs;unfold qP
   rw[df (show ¬ (i:Int) < (o.length:Int)by omega),cond_false]) (λo k=>some (k,o)) (l.length+1) 0 l q rfl (by omega) (by omega) h0 (by simp only[fA];omega)
 simp only[List.take_zero,pM,fA]at this;exact this
theorem aPY {l:List Vp}{q:Int}(hl:l.length<=1048576)(hv:∀ v∈l,v.2.2.2.length<=1048576)(h0:0<=q)(h1:q+cZ wP l<=10000000000):iG (l,q)=some (q+cZ wP l,sW mkP wP l q):=by
 have:=aCs (R:=Int×List Vp) jH mkP wP 10000000000 wR (λx=>x.2.2.2.length<=1048576) l.length (λn o v i K=>oA lK (l.length+1) l q n o v i K)
  (λn o v i K k1 k2 k3 k4 k5=>by
   show oA _ _ _ _ (n+1) o v i K=_
   conv=>lhs;unfold oA
   simp only[aDR,cD];rw[dt (show(i:Int) < (o.length:Int)by omega),dt (show(0:Int)<=(i:Int)by omega),bL];simp only[cond_true];rw[wi (x:=(i:Int)+1) (by omega) (by omega),wi (x:=v+1) (by omega) (by omega),wi (x:=v+1+1) (by omega) (by omega),wi (x:=v+1+1+1) (by omega) (by omega)];simp only[bA,List.set_set];have eg:∀ x:Vp,(o.set i x).getD i (0,0,0,[])=x:=λx=>by simp[List.getD,dY k2]
   simp only[eg];have k5':(o.getD i (0,0,0,[])).2.2.2.length<=1048576:=k5;rw[aU2 (l:=(o.getD i (0,0,0,[])).2.2.2) (q:=v+1+1+1) (by omega) (by omega) (by omega),bJ];rw[show v+1+1=v+2 by omega,show v+2+1=v+3 by omega];show oA _ _ _ _ n _ (v+3+1 * ((o.getD i jH).2.2.2.length:Int)) _ K=oA _ _ _ _ n _ (v+wP (o.getD i jH)) _ K;rw[show v+3+1 * ((o.getD i jH).2.2.2.length:Int)=v+wP (o.getD i jH)by unfold wP;omega]
   rfl)
  (λn o v i K k1 k2=>by
   show oA _ _ _ _ (n+1) o v i K=_
   conv=>lhs;unfold oA
   rw[df (show ¬ (i:Int) < (o.length:Int)by omega),cond_false]) (λo k=>some (k,o)) l [] q (l.length+1) rfl (by omega) h0 h1 hv
 exact this
def gC (x:List Int×Int):Option Int:=aFf (x.1.length+1) x.1 x.2
theorem aKp:Sat prog cxT 108 (aIt gC):=aTo gC λx t h=>⟨_,h⟩
theorem aTL {n:Nat}{q:Int}(hl:n<=1000000000)(h0:0<=q)(h1:q<=100000000000):gC (pZ mkI 1 n q,q)=some (q+(n:Int)):=by
 have hlen:=kR mkI 1 n q;have:=wJ (R:=Int) 0 mkI 1 1000000000000000 (by omega) n q (λn' v i K=>lZ (n+1) (pZ mkI 1 n q) q n' v i K) h0
  (λn' v i K k1 k2 k3 k4=>by
   show lZ _ _ _ (n'+1) v i K=_
   conv=>lhs;unfold lZ
   rw[hlen,dt (show(i:Int) < (n:Int)by omega),dt (show(0:Int)<=(i:Int)by omega),bL,cond_true,cond_true,bA,k4,iW (show mkI v=v from rfl),cond_false,wi (x:=v+1) (by omega) (by omega),wi (x:=(i:Int)+1) (by omega) (by omega)]
   rfl)
  (λn' v i K k1=>by
   show lZ _ _ _ (n'+1) v i K=_
   conv=>lhs;unfold lZ
   rw[hlen,df (show ¬ (i:Int) < (n:Int)by omega),cond_false]) (by omega) (λk=>some k) (n+1) 0 (by omega) (by omega)
 simp only[oJ,Int.mul_zero,lV,Int.one_mul]at this;unfold gC aFf;simp only[hlen];exact this
def xK (x:List Bk×Int):Option Int:=g81 (x.1.length+1) x.1 x.2
theorem aNG:Sat prog cxT 81 (c81 xK):=s81 xK λx t h=>⟨_,h⟩
theorem aVD (b:Bool):(!(b == b))=false:=by cases b<;>rfl
theorem aTN {n:Nat}{q:Int}(hl:n<=1000000000)(h0:0<=q)(h1:q<=100000000000):xK (pZ mkB 5 n q,q)=some (q+5 * (n:Int)):=by
 have hlen:=kR mkB 5 n q;have:=wJ (R:=Int) kV mkB 5 1000000000000000 (by omega) n q (λn' v i K=>qL (n+1) (pZ mkB 5 n q) q n' v i K) h0
  (λn' v i K k1 k2 k3 k4=>by
   show qL _ _ _ (n'+1) v i K=_
   conv=>lhs;unfold qL
   rw[show(((0:Int),((0:Int),((0:Int),((0:Int),Bool.false)))):Bk)=kV from rfl];rw[hlen,dt (show(i:Int) < (n:Int)by omega),dt (show(0:Int)<=(i:Int)by omega),bL];simp only[cond_true,bA,k4];rw[wi (x:=(i:Int)+1) (by omega) (by omega),wi (x:=v+1) (by omega) (by omega),wi (x:=v+1+1) (by omega) (by omega),wi (x:=v+1+1+1) (by omega) (by omega),wi (x:=v+1+1+1+1) (by omega) (by omega),wi (x:=v+1+1+1+1+1) (by omega) (by omega)];rw[show v+1+1=v+2 by omega,show v+2+1=v+3 by omega,show v+3+1=v+4 by omega,show v+4+1=v+5 by omega];unfold mkB;simp only[bne_self_eq_false,cond_false,aVD]
   rfl)
  (λn' v i K k1=>by
   show qL _ _ _ (n'+1) v i K=_
   conv=>lhs;unfold qL
   rw[hlen,df (show ¬ (i:Int) < (n:Int)by omega),cond_false]) (by omega) (λk=>some k) (n+1) 0 (by omega) (by omega)
 simp only[oJ,Int.mul_zero,lV]at this;unfold xK g81;simp only[hlen];exact this
def xJ (x:List Vp×Int):Option Int:=g82 gC (x.1.length+1) x.1 x.2
theorem aNF:Sat prog cxT 82 (c82 xJ):=s82 gC aKp xJ λx t h=>⟨_,h⟩
theorem aTM {l:List Vp}{q:Int}(hl:l.length<=1048576)(hv:∀ v∈l,v.2.2.2.length<=1048576)(h0:0<=q)(h1:q+cZ wP l<=10000000000):xJ (sW mkP wP l q,q)=some (q+cZ wP l):=by
 have hlen:=aEq mkP wP l q;have hsum:=aEo aFx l q;have:=aCx (R:=Int) jH mkP wP 10000000000 wR aFx (λx=>x.2.2.2.length<=1048576) (sW mkP wP l q) (λn v i K=>qK gC (l.length+1) (sW mkP wP l q) q n v i K)
  (λn v i K k1 k2 k3 k4 k5=>by
   rw[hlen]at k1;show qK _ _ _ _ (n+1) v i K=_
   conv=>lhs;unfold qK
   rw[show(((0:Int),((0:Int),((0:Int),([]:List Int)))):Vp)=jH from rfl];rw[hlen,dt (show(i:Int) < (l.length:Int)by omega),dt (show(0:Int)<=(i:Int)by omega),bL];simp only[cond_true,bA]
   generalize (sW mkP wP l q).getD i jH=x at k4 k5 ⊢
   have e1:x.1=v:=congrArg (·.1) k5;have e2:x.2.1=v+1:=congrArg (·.2.1) k5;have e3:x.2.2.1=v+2:=congrArg (·.2.2.1) k5;have e4:x.2.2.2=pZ mkI 1 x.2.2.2.length (v+3):=congrArg (·.2.2.2) k5;have e5:gC (x.2.2.2,v+3)=some (v+3+(x.2.2.2.length:Int)):=by
    have:=aTL (n:=x.2.2.2.length) (q:=v+3) (by omega) (by omega) (by omega);rw[<-e4]at this;exact this
   rw[wi (x:=(i:Int)+1) (by omega) (by omega),wi (x:=v+1) (by omega) (by omega),wi (x:=v+1+1) (by omega) (by omega),wi (x:=v+1+1+1) (by omega) (by omega)];rw[show v+1+1=v+2 by omega,show v+2+1=v+3 by omega,e5,bJ,e1,e2,e3,df (show ¬ v+3+(x.2.2.2.length:Int) < 0 by omega)];simp only[bne_self_eq_false,cond_false];rw[show v+3+(x.2.2.2.length:Int)=v+wP x by unfold wP;omega]
   rfl)
  (λn v i K k1=>by
   rw[hlen]at k1;show qK _ _ _ _ (n+1) v i K=_
   conv=>lhs;unfold qK
   rw[hlen,df (show ¬ (i:Int) < (l.length:Int)by omega),cond_false]) (λk=>some k) (sW mkP wP l q) [] q (l.length+1) rfl (by rw[hlen];omega) h0 (by rw[hsum];exact h1)
  (λx hx=>by
   obtain⟨y,hy,v,rfl⟩:=aEp hx;show(pZ mkI 1 y.2.2.2.length (v+3)).length<=1048576;rw[kR];exact hv y hy) (aGc aFx aKQ l q).symm
 rw[hsum]at this;unfold xJ g82;simp only[hlen];exact this
def zX (x:Cg×Int):Option Int:=g65 xK xJ 0 x.1.1 x.1.2.1 x.1.2.2 x.2
theorem aNU:Sat prog cxT 65 (c65 zX):=s65 xK xJ aNG aNF zX λx t h=>⟨0,h⟩
end Go.Proofs.Tryz
