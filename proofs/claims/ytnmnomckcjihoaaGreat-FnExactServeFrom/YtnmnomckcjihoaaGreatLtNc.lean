/- A part of the proof of FnExactServeFrom: LtNc, LtNd, LtNe. -/
import Derived.Test.YtnmnomckcjihoaaGreatLtPh
set_option linter.unusedSimpArgs false
set_option linter.unusedVariables false
set_option maxHeartbeats 0
namespace Go.Proofs.Tryz
open Go.IntKind (wrap)
open Go Go.VM Go.RowKit
def aOB (ns:List Int):Prop:=∀ i j,i < j->j < ns.length->ns.getD i 0 < ns.getD j 0
theorem aHR {bs:List Bk}{ns:List Int}(h:nF bs ns=0):(∀ j,j < ns.length->qC bs (ns.getD j 0)=true)/\∀ j,j < ns.length->rsN ns j=0:=by
 unfold nF at h;split at h
 ·rename_i h1;refine⟨λj hj=>?_,λj hj=>lG.1 h j (eK _) (by omega)⟩;have:=lG.1 h1 j (eK _) (by omega);unfold knN at this;split at this
  ·assumption
  ·exact absurd this (by decide)
 ·exact absurd h (by decide)
theorem aHo {bs:List Bk}{vs:List Vp}{j:Nat}(h:vF bs vs j=0):aBa (vs.getD j jH)=true/\nF bs (vs.getD j jH).2.2.2=0:=by
 unfold vF at h;split at h
 ·rename_i h1;split at h
  ·exact absurd h (by decide)
  ·exact⟨h1,h⟩
 ·exact absurd h (by decide)
theorem aHC {ns:List Int}(h:∀ j,j < ns.length->rsN ns j=0):aOB ns:=by
 intro i j hij
 induction j with
 | zero=>omega
 | succ j ih=>
  intro hj;have h1:=h (j+1) hj;unfold rsN at h1;have h2:ns.getD j 0 < ns.getD (j+1) 0:=by
   by_cases hc:0 < j+1/\ns.getD (j+1) 0<=ns.getD (j+1-1) 0
   ·rw[if_pos hc]at h1;exact absurd h1 (by decide)
   ·rw[gX]at hc;omega
  by_cases h3:i=j
  ·rw[h3];exact h2
  ·have:=ih (by omega) (by omega);omega
theorem aF1 {bs:List Bk}{ns:List Int}(hr:ris bs)(hn:aOB ns)(hh:∀ j,j < ns.length->qC bs (ns.getD j 0)=true):ns.length<=bs.length:=by
 have hat:∀ j,j < ns.length->rD bs (ns.getD j 0) < bs.length/\(bs.getD (rD bs (ns.getD j 0)) kV).1=ns.getD j 0:=λj hj=>by
  have:=hh j hj;rw[aD7 hr,aF]at this;exact⟨of_decide_eq_true this.1,by simpa using this.2⟩
 have key:∀ j,j < ns.length->j<=rD bs (ns.getD j 0):=by
  intro j
  induction j with
  | zero=>intro _;omega
  | succ j ih=>
   intro hj;have h1:=ih (by omega);obtain⟨a1,a2⟩:=hat j (by omega);obtain⟨b1,b2⟩:=hat (j+1) hj;have h2:=hn j (j+1) (by omega) hj;rcases fX (rD bs (ns.getD j 0)) (rD bs (ns.getD (j+1) 0))with h3 | h3
   ·omega
   ·exfalso;rcases Nat.lt_or_eq_of_le h3 with h4 | h4
    ·have:=hr _ _ h4 a1;omega
    ·rw[h4]at b2;omega
 rcases Nat.eq_zero_or_pos ns.length with h0 | h0
 ·omega
 ·have h1:=key (ns.length-1) (by omega);have h2:=(hat (ns.length-1) (by omega)).1;omega
theorem aDf {c:Cg}(h:cF c=0):okS c:=by
 obtain⟨h1,h2,h3,h4,h5⟩:=aEJ h;have hr:=aFP h4;refine⟨by omega,by omega,λv hv=>?_⟩;obtain⟨j,hj,rfl⟩:=kO.1 hv;obtain⟨k1,k2⟩:=aHo (h5 j hj);rw[lR jH hj]at k2;obtain⟨k3,k4⟩:=aHR k2;have:=aF1 hr (aHC k4) k3;omega
def fuF (c:Cg):Ur:=if cF c=0 then(0,0,c.1,true,c.1,c.2.1,c.2.2,[])else(cF c,0,0,false,0,[],[],[])
def mFu (c:Cg):Option Ur:=if okC c then some (fuF c)else none
theorem aOd:Sat prog cxT 39 (c39 mFu):=s39 _ _ aIM aNX mFu λx t h=>by
 obtain⟨a,b,c⟩:=x;unfold mFu at h;split at h
 ·rename_i hc;cases h;refine⟨0,?_⟩;show g39 mCF mCp 0 a b c=some (fuF (a,b,c));unfold g39 fuF;rw[show mCF (a,b,c)=some (cF (a,b,c)) from if_pos hc,bJ];by_cases e:cF (a,b,c)=0
  ·rw[iW e,cond_false,if_pos e,show mCp (a,b,c)=some (a,b,c) from if_pos (aDf e),bJ]
  ·rw[iR e,cond_true,if_neg e]
 ·cases h
def m40 (x:Int×Int×List Cm):Option Ud:=if x.2.2.length<=1000000000 then some (x.1,x.2.1,false,0,[],[],x.2.2)else none
theorem aOc:Sat prog cxT 40 (c40 m40):=s40 m40 λx t h=>by
 obtain⟨a,b,g⟩:=x;unfold m40 at h;split at h
 ·rename_i hc;cases h;refine⟨0,?_⟩;show g40 0 a b g=_;unfold g40;rw[dt hc,cond_true]
 ·cases h
theorem aOh:Sat prog cxT 35 (c35 λx=>some (max x.1 x.2)):=s35 _ λx t h=>by
 obtain⟨a,b⟩:=x;cases h;refine⟨0,?_⟩;show g35 0 a b=some (max a b);unfold g35;by_cases h:a > b
 ·rw[dt h,cond_true,show max a b=a by omega]
 ·rw[df h,cond_false,show max a b=b by omega]
def lN (l:List Cg):Cg:=l.getD (l.length-1) fU
def sfF (l:List Cg)(cs:List Cm)(fr:Int):Ur:=
  if svF l cs=0 then
    (if fr < 0 then(3,0,0,false,0,[],[],[])
     else if(l.getD 0 fU).1<=fr/\(lN l).1-4<=fr/\fr<=(lN l).1-1 then(0,fr,(lN l).1,false,0,[],[],cs.drop (fr-(l.getD 0 fU).1).toNat)
     else(0,0,(lN l).1,true,(lN l).1,(lN l).2.1,(lN l).2.2,[]))
  else(svF l cs,0,0,false,0,[],[],[])
def mSF (x:List Cg×List Cm×Int):Option Ur:=if okL x.1 then some (sfF x.1 x.2.1 x.2.2)else none
theorem aOs:Sat prog cxT 15 (c15 mSF):=s15 _ _ _ aOe aOd aOc mSF λx t h=>by
 obtain⟨l,g,fr⟩:=x;unfold mSF at h;split at h
 ·rename_i hc;have hc:okL l:=hc;cases h;refine⟨0,?_⟩;show g15 mSv mFu m40 0 l g fr=some (sfF l g fr);unfold g15 sfF;rw[show mSv (l,g)=some (svF l g) from if_pos hc,bJ];by_cases e:svF l g=0
  ·rw[iW e,cond_false,if_pos e];obtain⟨h1,h2,h3,h4,h5⟩:=wF e;by_cases hf:fr < 0
   ·rw[dt hf,cond_true,if_pos hf]
   ·rw[df hf,cond_false,if_neg hf,wi (x:=(l.length:Int)-1) (by omega) (by omega),show((l.length:Int)-1).toNat=l.length-1 by omega];rw[dt (show(0:Int)<=0 by omega),dt (show(0:Int) < (l.length:Int)by omega),dt (show(0:Int)<=(l.length:Int)-1 by omega),dt (show(l.length:Int)-1 < (l.length:Int)by omega)];simp only[cond_true,bL];rw[show(((0:Int),([],[])):Cg)=fU from rfl];have v0:=aDV (h4 0 (by omega));have e1:=h5 (l.length-1) (by omega);have zL:cF (lN l)=0:=h4 (l.length-1) (by omega);have hL:okC (lN l):=aDg hc (by omega);have mF:mFu (lN l)=some (0,0,(lN l).1,true,(lN l).1,(lN l).2.1,(lN l).2.2,[]):=by
     rw[show mFu (lN l)=some (fuF (lN l)) from if_pos hL];unfold fuF;rw[if_pos zL]
    have e1:(lN l).1=(l.getD 0 fU).1+((l.length-1:Nat):Int):=e1
    change (bif decide (fr < (l.getD 0 fU).1)then cK (mFu (lN l)) _ _ else bif decide (fr>=(lN l).1)then cK (mFu (lN l)) _ _ else bif decide (wrap .i64 ((lN l).1-fr)>=(5:Int))then cK (mFu (lN l)) _ _ else _)=_
    rw[mF];simp only[bJ];by_cases k1:fr < (l.getD 0 fU).1
    ·rw[dt k1,cond_true,if_neg (λh=>by omega)]
    ·rw[df k1,cond_false];by_cases k2:fr>=(lN l).1
     ·rw[dt k2,cond_true,if_neg (λh=>by omega)]
     ·rw[df k2,cond_false,wi (x:=(lN l).1-fr) (by omega) (by omega)];by_cases k3:(lN l).1-fr>=5
      ·rw[dt k3,cond_true,if_neg (λh=>by omega)]
      ·rw[df k3,cond_false,if_pos ⟨by omega,by omega,by omega⟩,wi (x:=fr-(l.getD 0 fU).1) (by omega) (by omega),dt (show(0:Int)<=fr-(l.getD 0 fU).1 by omega),dt (show fr-(l.getD 0 fU).1<=(g.length:Int)by omega),dt (show(g.length:Int)<=(g.length:Int)by omega)];simp only[cond_true,bL,bA,kF]
       change cK (m40 (fr,(lN l).1,g.drop (fr-(l.getD 0 fU).1).toNat)) _ _=_
       rw[show m40 (fr,(lN l).1,g.drop (fr-(l.getD 0 fU).1).toNat)=some (fr,(lN l).1,false,0,[],[],g.drop (fr-(l.getD 0 fU).1).toNat) from if_pos (by simp only[kI];omega),bJ]
  ·rw[iR e,cond_true,if_neg e]
 ·cases h
theorem aOv:Sat prog cxT 12 (c12 mSF):=s12 _ _ _ _ aOi aOh qF aOg mSF λx t h=>by
 obtain⟨l,g,fr⟩:=x;unfold mSF at h;split at h
 ·rename_i hc;have hc:okL l:=hc;cases h;refine⟨0,?_⟩;show g12 mSv (λx=>some (max x.1 x.2)) (λx=>some (decide (x.2.1<=x.1/\x.1<=x.2.2))) mCp 0 l g fr=some (sfF l g fr);unfold g12 sfF;rw[show mSv (l,g)=some (svF l g) from if_pos hc,bJ];by_cases e:svF l g=0
  ·rw[iW e,cond_false,if_pos e];obtain⟨h1,h2,h3,h4,h5⟩:=wF e;by_cases hf:fr < 0
   ·rw[dt hf,cond_true,if_pos hf]
   ·rw[df hf,cond_false,if_neg hf,wi (x:=(l.length:Int)-1) (by omega) (by omega),show((l.length:Int)-1).toNat=l.length-1 by omega];rw[dt (show(0:Int)<=0 by omega),dt (show(0:Int) < (l.length:Int)by omega),dt (show(0:Int)<=(l.length:Int)-1 by omega),dt (show(l.length:Int)-1 < (l.length:Int)by omega)];simp only[cond_true,bL,bJ];rw[show(((0:Int),([],[])):Cg)=fU from rfl];have v0:=aDV (h4 0 (by omega));have e1:=h5 (l.length-1) (by omega);have zL:cF (lN l)=0:=h4 (l.length-1) (by omega);have hL:mCp (lN l)=some (lN l):=if_pos (aDf zL);have e1:(lN l).1=(l.getD 0 fU).1+((l.length-1:Nat):Int):=e1;rw[show l.getD (l.length-1) fU=lN l from rfl];rw[show mCp ((lN l).1,((lN l).2.1,(lN l).2.2))=some (lN l) from hL];simp only[bJ];rw[wi (x:=(lN l).1-4) (by omega) (by omega),wi (x:=(lN l).1-1) (by omega) (by omega)];by_cases k:(l.getD 0 fU).1<=fr/\(lN l).1-4<=fr/\fr<=(lN l).1-1
    ·rw[dt (show max (l.getD 0 fU).1 ((lN l).1-4)<=fr/\fr<=(lN l).1-1 by omega),cond_true,if_pos k,wi (x:=fr-(l.getD 0 fU).1) (by omega) (by omega),dt (show(0:Int)<=fr-(l.getD 0 fU).1 by omega),dt (show fr-(l.getD 0 fU).1<=(g.length:Int)by omega),dt (show(g.length:Int)<=(g.length:Int)by omega)];simp only[cond_true,bL,bA,kF];rw[dt (show([]:List Cm).length+(g.drop (fr-(l.getD 0 fU).1).toNat).length<=1000000000 by simp only[gG,kI];omega),cond_true]
     rfl
    ·rw[df (show ¬ (max (l.getD 0 fU).1 ((lN l).1-4)<=fr/\fr<=(lN l).1-1)by omega),cond_false,if_neg k]
  ·rw[iR e,cond_true,if_neg e]
 ·cases h
end Go.Proofs.Tryz
set_option maxHeartbeats 0
namespace Go.Proofs.Tryz
open Go.IntKind (wrap)
open Go Go.VM Go.RowKit
theorem aQa (L:Nat)(a:List Cg)(v0:Int):∀ (n:Nat) (v i:Int) (k:Int->Option Int),yG jX L a v0 n v i k=szL fU jX a n v i k
 | 0,_,_,_=>rfl
 | n+1,v,i,k=>by
  unfold yG szL;simp only[aQa L a v0 n]
  rfl
def m10 (x:List Cg×Int):Option Int:=if 0<=x.2/\x.2<=1048576/\x.1.length<=top/\∀ c∈x.1,okZ c then some (kD x.2 ((x.1.length:Int)+cZ wC x.1))else none
theorem aOx:Sat prog cxT 10 (c10 m10):=s10 jX aOm m10 λx t h=>by
 obtain⟨a,v⟩:=x;unfold m10 at h;split at h
 ·rename_i hc;obtain⟨h0,h1,h2,h3⟩:=hc;cases h;simp only at h0 h1 h2 h3;have h2':a.length<=9223372036854775807:=h2;refine⟨a.length+1,?_⟩;show g10 jX (a.length+1) a v=some (kD v ((a.length:Int)+cZ wC a));unfold g10;rw[wi (by omega) (by omega)];have hs:0<=cZ wC a:=dR λx _=>pQ x
  by_cases hn:v-(a.length:Int) < 0
  ·rw[dt hn,cond_true];unfold kD;rw[if_pos (by omega)]
  ·rw[df hn,cond_false,aQa];refine(aC2 fU jX a wC 1048576 (by omega) (λx _=>pQ x) (λx hx v h0 h1=>if_pos ⟨h0,h1,h3 x hx⟩) _ (a.length+1) 0 (v-a.length) (by omega) (by omega) (by omega) (by omega)).trans ?_;rw[dW];unfold kD;have e:v-((a.length:Int)+cZ wC a)=v-(a.length:Int)-cZ wC a:=by omega
   rw[e];split<;>rfl
 ·cases h
theorem aP9 (L:Nat)(a:List Cg):∀ (n:Nat) (o:List Cg) (i:Int) (k:List Cg->Option (List Cg)),yF lP L a n o i k=toL fU lP a n o i k
 | 0,_,_,_=>rfl
 | n+1,o,i,k=>by unfold yF toL;simp only[aP9 L a n];rfl
def sX (a:List Cg):Option (List Cg):=if a.length<=qA/\∀ c∈a,okM c then some a else none
theorem aOu:Sat prog cxT 13 (c13 sX):=s13 lP aOj sX λx t h=>by
 unfold sX at h;split at h
 ·rename_i ha;cases h;refine⟨x.length+1,?_⟩;unfold g13;rw[sF ha.1,cond_true,aP9,bA];have:=ha.1;unfold qA at this;exact tA fU lP x (by omega) (λv hv=>if_pos (ha.2 v hv)) _ _ 0 _ (by simp) (by omega) (by omega) rfl
 ·cases h
theorem aP7 (L:Nat)(a b:List Cg):∀ (n:Nat) (i:Int) (k:Option Bool),yD iX L a b n i k=eqL fU iX a b n i k
 | 0,_,_=>rfl
 | n+1,i,k=>by unfold yD eqL;simp only[aP7 L a b n];rfl
instance decLg:DecidableEq (List Cg):=@instDecidableEqList _ decCg
def m17 (x:List Cg×List Cg):Option Bool:=if x.1.length<=nB/\okL x.1 then some (decide (x.1=x.2))else none
theorem aOq:Sat prog cxT 17 (c17 m17):=s17 _ aIR m17 λx t h=>by
 obtain⟨a,b⟩:=x;unfold m17 at h;split at h
 ·rename_i hc;cases h;have hc1:a.length<=1000000000000:=hc.1;refine⟨a.length+1,?_⟩;show g17 _ (a.length+1) a b=some (decide (a=b));unfold g17;by_cases e:a.length=b.length
  ·rw[iW (show((a.length:Nat):Int)=(b.length:Int)by omega),cond_false,aP7];refine(tM fU iX a b e (by omega) (λx hx y _=>if_pos (hc.2 x hx)) (some true) _ 0 (by omega) (by omega)).trans ?_;simp only[dW];split<;>rename_i hh
   ·rw[dt hh]
   ·rw[df hh]
  ·rw[iR (show ¬ ((a.length:Nat):Int)=(b.length:Int)by omega),cond_true];rw[df (λh=>e (by rw[h]))]
 ·cases h
def wM (c:Cg):Int:=1+5 * (c.2.1.length:Int)+cZ wP c.2.2
theorem aAw (c:Cg):1<=wM c:=by
 have:0<=cZ wP c.2.2:=dR λx _=>wR x
 unfold wM;omega
def uU (x:List Cg×Int):Option (Int×List Cg):=g19 iH iG (x.1.length+1) x.1 x.2
theorem aOp:SatW prog cxT 19 (c19 uU).nres (c19 uU).n (c19 uU).F:=s19 iH iG aIQ aIP uU λx t h=>⟨_,h⟩
theorem p19 (L:Nat)(a:List Cg)(c:Int)(l:List Cg)(hN:l.length<=1048576)(hl:∀ x∈l,x.2.1.length<=1048576/\x.2.2.length<=1048576/\∀ v∈x.2.2,v.2.2.2.length<=1048576)(K:List Cg->Int->Option (Int×List Cg)) :
  ∀ (n i:Nat) (o:List Cg) (q:Int),o.length=l.length->o.drop i=l.drop i->i<=l.length->l.length < n+i->0<=q->q+cZ wM (l.drop i)<=1000000000->
  ∃ o',yB iH iG L a c n o q i K=K o' (q+cZ wM (l.drop i))
 | 0,i,o,q,_,_,h2,h3,_,_=>by omega
 | n+1,i,o,q,h1,hd,h2,h3,h4,h5=>by
  unfold yB;by_cases hi:i < l.length
  ·have hio:i < o.length:=by omega
   have hoi:o.getD i fU=l.getD i fU:=by
    have e1:(o.drop i).getD 0 fU=(l.drop i).getD 0 fU:=by rw[hd]
    simpa[List.getD,dI]using e1
   have ed:l.drop i=l.getD i fU::l.drop (i+1):=by
    rw[dX hi,<-lR fU hi]
   have es:cZ wM (l.drop i)=wM (l.getD i fU)+cZ wM (l.drop (i+1)):=by rw[ed];rfl
   rw[es]at h5 ⊢;obtain⟨k1,k2,k3⟩:=hl _ (gO fU hi);have hs0:0<=cZ wM (l.drop (i+1)):=dR λx _=>by have:=aAw x;omega
   have hs1:0<=cZ wP (l.getD i fU).2.2:=dR λx _=>wR x
   have hwm:wM (l.getD i fU)=1+5 * ((l.getD i fU).2.1.length:Int)+cZ wP (l.getD i fU).2.2:=rfl
   generalize hX:l.getD i fU=X at *
   obtain⟨A,B,C⟩:=X;simp only at k1 k2 k3 hs1 hwm;have hoi':o.getD i ((0:Int),([],[]))=(A,B,C):=hoi;have eg:∀ x:Cg,(o.set i x).getD i ((0:Int),([],[]))=x:=λx=>by simp[List.getD,dY hio]
   simp only[aDR,cD];rw[dt (show(i:Int) < (o.length:Int)by omega),dt (show(0:Int)<=(i:Int)by omega),bL];simp only[cond_true,bA,List.set_set,hoi',eg];rw[wi (x:=q+1) (by omega) (by omega),wi (x:=(i:Int)+1) (by omega) (by omega)];rw[aPZ (l:=B) (q:=q+1) (by omega) (by omega) (by omega),bJ];simp only;rw[aPY (l:=C) (q:=q+1+5 * (B.length:Int)) k2 k3 (by omega) (by omega),bJ];simp only;obtain⟨o',e⟩:=p19 L a c l hN hl K n (i+1) (o.set i (q,pZ mkB 5 B.length (q+1),sW mkP wP C (q+1+5 * (B.length:Int)))) (q+1+5 * (B.length:Int)+cZ wP C) (by rw[cD];exact h1) (by rw[List.drop_set,if_pos (by omega)];have:=congrArg (List.drop 1) hd;simpa[gU,eG]using this) (by omega) (by omega) (by omega) (by omega);refine⟨o',?_⟩;rw[show(i:Int)+1=((i+1:Nat):Int)by omega,show q+(wM (A,B,C)+cZ wM (l.drop (i+1)))=q+1+5 * (B.length:Int)+cZ wP C+cZ wM (l.drop (i+1))by omega];exact e
  ·refine⟨o,?_⟩;rw[df (show ¬ (i:Int) < (o.length:Int)by omega),cond_false,cW (by omega)];simp[cZ]
theorem aGf {l:List Cg}(hN:l.length<=1048576)(hl:∀ x∈l,x.2.1.length<=1048576/\x.2.2.length<=1048576/\∀ v∈x.2.2,v.2.2.2.length<=1048576)(hw:cZ wM l<=100000000):∃ o',uU (l,1)=some (1+cZ wM l,o'):=by
 obtain⟨o',e⟩:=p19 (l.length+1) l 1 l hN hl (λo k=>some (k,o)) (l.length+1) 0 l 1 rfl rfl (by omega) (by omega) (by omega) (by rw[dW];omega);rw[dW]at e;exact⟨o',e⟩
def mkC (v:Int):Cm:=(v,v+1,v+2,v+3,v+4,v+5)
def kY (x:List Cm×Int):Option (Int×List Cm):=if x.1.length<=1000000000/\0<=x.2/\x.2<=100000000000 then some (x.2+6 * (x.1.length:Int),pZ mkC 6 x.1.length x.2)else none
theorem aTj (L:Nat)(a0:List Cm)(a1:Int)(n:Nat)(o:List Cm)(v:Int)(i:Nat)(K:List Cm->Int->Option (Int×List Cm))(ho:o.length<=1000000000)(hi:i < o.length)(h0:0<=v)(h1:v<=1000000000000000) :
  oS L a0 a1 (n+1) o v i K=oS L a0 a1 n (o.set i (mkC v)) (v+6) ((i+1:Nat):Int) K:=by
 conv=>lhs;unfold oS
 simp(disch:=omega) only[zM,List.length_modify,dt,wi,cond_true,bL,bA,xI,aBp];rw[show v+1+1+1+1+1+1=v+6 by omega,show(i:Int)+1=((i+1:Nat):Int)by omega];have e:(v,v+1,v+1+1,v+1+1+1,v+1+1+1+1,v+1+1+1+1+1)=mkC v:=by
  unfold mkC;simp only[aQ,true_and];omega
 rw[e]
theorem aIU:SatW prog cxT 20 (c20 kY).nres (c20 kY).n (c20 kY).F:=s20 kY λx t h=>by
 obtain⟨o,v⟩:=x;unfold kY at h;split at h
 ·rename_i hc;cases h;simp only at hc;refine⟨o.length+1,?_⟩;show g20 (o.length+1) o v=_;unfold g20;refine(wH mkC 6 1000000000000000 o.length (by omega) (λn o' v' i' K=>oS (o.length+1) o v n o' v' i' K) (λn o' v' i' K hl h1 h2 h3=>aTj _ _ _ _ _ _ _ _ (by omega) h1 h2 h3)
   (λn o' v' i' K hl h1=>?_) (λw0_0 w0_1=>some (w0_1,w0_0)) (o.length+1) 0 o v rfl (by omega) (by omega) hc.2.1 (by omega)).trans ?_
  ·show oS _ _ _ (n+1) o' v' i' K=_
   conv=>lhs;unfold oS
   rw[df (by omega),cond_false]
  ·simp
 ·cases h
def hdC (x:List Cm×Int):Prop:=x.1.length<=1000000000/\0<=x.2/\x.2<=100000000000/\x.1=pZ mkC 6 x.1.length x.2
instance (x:List Cm×Int):Decidable (hdC x):=by unfold hdC;infer_instance
def wI (x:List Cm×Int):Option Int:=if hdC x then some (x.2+6 * (x.1.length:Int))else none
theorem aTi (L:Nat)(a0:List Cm)(a1:Int)(n:Nat)(v:Int)(i:Nat)(K:Int->Option Int)(ho:a0.length<=1000000000)(hi:i < a0.length)(h0:0<=v)(h1:v<=1000000000000000)(hm:a0.getD i dCm=mkC v) :
  oR L a0 a1 (n+1) v i K=oR L a0 a1 n (v+6) ((i+1:Nat):Int) K:=by
 conv=>lhs;unfold oR
 have hm':a0.getD i (0,0,0,0,0,0)=mkC v:=hm;simp(disch:=omega) only[zM,dt,wi,cond_true,bL,bA,hm'];unfold mkC;simp(disch:=omega) only[iW,cond_false];rw[show v+1+1+1+1+1+1=v+6 by omega,show(i:Int)+1=((i+1:Nat):Int)by omega]
theorem aNT:Sat prog cxT 66 (c66 wI):=s66 wI λx t h=>by
 obtain⟨a,v⟩:=x;unfold wI at h;split at h
 ·rename_i hc;cases h;obtain⟨h1,h2,h3,h4⟩:=hc;simp only at h1 h2 h3 h4;refine⟨a.length+1,?_⟩;show g66 (a.length+1) a v=_;unfold g66;have:=wJ dCm mkC 6 1000000000000000 (by omega) a.length v (λn v' i' K=>oR (a.length+1) a v n v' i' K) h2 (λn v' i' K k1 k2 k3 k4=>aTi _ _ _ _ _ _ _ h1 k1 k2 k3 (by rw[<-h4]at k4;exact k4))
   (λn v' i' K k1=>by
    show oR _ _ _ (n+1) v' i' K=_
    conv=>lhs;unfold oR
    rw[df (by omega),cond_false]) (by omega) (λw0_1=>some w0_1) (a.length+1) 0 (by omega) (by omega)
  simp only[oJ,Int.mul_zero,lV]at this;exact this
 ·cases h
end Go.Proofs.Tryz
set_option maxHeartbeats 0
namespace Go.Proofs.Tryz
open Go.IntKind (wrap)
open Go Go.VM Go.RowKit
noncomputable def tZ (x : Ur × Ur) : Option Bool := @ite _ (okU x.1.2 ∧ x.1.2.2.2.2.2.2.2.length ≤ nB ∧ x.2 = x.1) (Classical.propDecidable _) (some true) none
theorem aOr:Sat prog cxT 16 (c16 tZ):=s16 m9 aTk tZ λx t h=>by
 obtain⟨⟨k,a,b,c,d,e,f,g⟩,y⟩:=x;unfold tZ at h;split at h
 ·rename_i hc;obtain⟨h1,h2,h3⟩:=hc;simp only at h1 h2 h3;subst h3;cases h;refine⟨0,?_⟩;show g16 m9 0 k a b c d e f g k a b c d e f g=_;unfold g16;rw[show m9 ((a,b,c,d,e,f,g),(a,b,c,d,e,f,g))=some true from if_pos ⟨h1,h2,rfl⟩,bJ,iW rfl]
  rfl
 ·cases h
def tY (x:Ud×Int):Option (Int×Ud):=g44 tX kY 0 x.1.1 x.1.2.1 x.1.2.2.1 x.1.2.2.2.1 x.1.2.2.2.2.1 x.1.2.2.2.2.2.1 x.1.2.2.2.2.2.2 x.2
theorem aOa:SatW prog cxT 44 (c44 tY).nres (c44 tY).n (c44 tY).F:=s44 tX kY aNV aIU tY λx t h=>⟨0,h⟩
def uT (x:Ur×Int):Option (Int×Ur):=g21 tY 0 x.1.1 x.1.2.1 x.1.2.2.1 x.1.2.2.2.1 x.1.2.2.2.2.1 x.1.2.2.2.2.2.1 x.1.2.2.2.2.2.2.1 x.1.2.2.2.2.2.2.2 x.2
theorem aOo:SatW prog cxT 21 (c21 uT).nres (c21 uT).n (c21 uT).F:=s21 tY aOa uT λx t h=>⟨0,h⟩
def m45 (x:Ud×Int):Option Int:=g45 zX wI 0 x.1.1 x.1.2.1 x.1.2.2.1 x.1.2.2.2.1 x.1.2.2.2.2.1 x.1.2.2.2.2.2.1 x.1.2.2.2.2.2.2 x.2
theorem aN9:Sat prog cxT 45 (c45 m45):=s45 zX wI aNU aNT m45 λx t h=>⟨0,h⟩
def xL (x:Ur×Int):Option Int:=g22 m45 0 x.1.1 x.1.2.1 x.1.2.2.1 x.1.2.2.2.1 x.1.2.2.2.2.1 x.1.2.2.2.2.2.1 x.1.2.2.2.2.2.2.1 x.1.2.2.2.2.2.2.2 x.2
theorem aOn:Sat prog cxT 22 (c22 xL):=s22 m45 aN9 xL λx t h=>⟨0,h⟩
theorem aH9 {k a b:Int}{o:Bool}{v:Int}{bs:List Bk}{vs:List Vp}{g:List Cm}(h1:bs.length<=1000000)(h2:vs.length<=1000000)(h3:∀ v∈vs,v.2.2.2.length<=1048576)(h4:cZ wP vs<=1000000000)(h5:g.length<=1000000) :
  ∃ q bs' vs' g',0<=q/\uT ((k,a,b,o,v,bs,vs,g),1)=some (q,k,a,b,o,v,bs',vs',g')/\xL ((k,a,b,o,v,bs',vs',g'),1)=some q:=by
 have hs:0<=cZ wP vs:=dR λx _=>wR x
 have c1:kY (g,1+5 * (bs.length:Int)+cZ wP vs)=some (1+5 * (bs.length:Int)+cZ wP vs+6 * (g.length:Int),pZ mkC 6 g.length (1+5 * (bs.length:Int)+cZ wP vs)):=if_pos ⟨by simp only;omega,by simp only;omega,by simp only;omega⟩;have c2:wI (pZ mkC 6 g.length (1+5 * (bs.length:Int)+cZ wP vs),1+5 * (bs.length:Int)+cZ wP vs)=some (1+5 * (bs.length:Int)+cZ wP vs+6 * (g.length:Int)):=by
  have:hdC (pZ mkC 6 g.length (1+5 * (bs.length:Int)+cZ wP vs),1+5 * (bs.length:Int)+cZ wP vs):=⟨by simp only[kR];omega,by simp only;omega,by simp only;omega,by simp only[kR]⟩
  rw[show wI _=some _ from if_pos this];simp only[kR]
 refine⟨1+5 * (bs.length:Int)+cZ wP vs+6 * (g.length:Int),pZ mkB 5 bs.length 1,sW mkP wP vs (1+5 * (bs.length:Int)),pZ mkC 6 g.length (1+5 * (bs.length:Int)+cZ wP vs),by omega,?_,?_⟩
 ·show g21 tY 0 k a b o v bs vs g 1=_;unfold g21 tY;show cK (g44 tX kY 0 a b o v bs vs g 1) _ _=_;unfold g44 tX;show cK (cK (g64 iH iG 0 v bs vs 1) _ _) _ _=_;unfold g64;rw[aPZ (l:=bs) (q:=1) (by omega) (by omega) (by omega),bJ];simp only;rw[aPY (l:=vs) (q:=1+5 * (bs.length:Int)) (by omega) h3 (by omega) (by omega),bJ,bJ,c1,bJ,bJ]
 ·show g22 m45 0 k a b o v (pZ mkB 5 bs.length 1) (sW mkP wP vs (1+5 * (bs.length:Int))) (pZ mkC 6 g.length (1+5 * (bs.length:Int)+cZ wP vs)) 1=_;unfold g22 m45;show cK (g45 zX wI 0 a b o v (pZ mkB 5 bs.length 1) (sW mkP wP vs (1+5 * (bs.length:Int))) (pZ mkC 6 g.length (1+5 * (bs.length:Int)+cZ wP vs)) 1) _ _=_;unfold g45 zX;show cK (cK (g65 xK xJ 0 v (pZ mkB 5 bs.length 1) (sW mkP wP vs (1+5 * (bs.length:Int))) 1) _ _) _ _=_;unfold g65;rw[aTN (n:=bs.length) (q:=1) (by omega) (by omega) (by omega),bJ,df (show ¬ 1+5 * (bs.length:Int) < 0 by omega),cond_false,aTM (l:=vs) (q:=1+5 * (bs.length:Int)) (by omega) h3 (by omega) (by omega),bJ,df (show ¬ 1+5 * (bs.length:Int)+cZ wP vs < 0 by omega),cond_false,bJ,df (show ¬ 1+5 * (bs.length:Int)+cZ wP vs < 0 by omega),cond_false,
   c2,bJ,df (show ¬ 1+5 * (bs.length:Int)+cZ wP vs+6 * (g.length:Int) < 0 by omega),cond_false,bJ,df (show ¬ 1+5 * (bs.length:Int)+cZ wP vs+6 * (g.length:Int) < 0 by omega),cond_false]
theorem aKe {l:List Vp}(h:∀ v∈l,v.2.2.2.length<=1000):cZ wP l<=1003 * (l.length:Int):=by
 induction l with
 | nil=>simp[cZ]
 | cons x r ih=>
  have h1:=ih λv hv=>h v (aV _ hv)
  have h2:=h x (bC ..);have h3:wP x<=1003:=by unfold wP;omega
  simp only[cZ,dC];omega
theorem aTb (l:List Vp):cZ wP l=3 * (l.length:Int)+cZ wV l:=by
 induction l with
 | nil=>simp[cZ]
 | cons x r ih=>
  simp only[cZ,dC];have:wP x=3+wV x:=rfl;omega
theorem aMY (c:Cg):wM c<=1+5 * wC c:=by
 have:=aTb c.2.2;have h0:0<=cZ wV c.2.2:=dR λx _=>jK x
 unfold wM wC;omega
theorem aTc (l:List Cg):cZ wM l<=(l.length:Int)+5 * cZ wC l:=by
 induction l with
 | nil=>simp[cZ]
 | cons x r ih=>
  have:=aMY x;simp only[cZ,dC];omega
theorem aHw (l:List Cg)(g:List Cm)(fr:Int)(hg:g.length<=1000000):∃ k a b o v bs vs g',sfF l g fr=(k,a,b,o,v,bs,vs,g')/\okS (v,bs,vs)/\g'.length<=1000000:=by
 have e0:okS ((0:Int),[],[]):=⟨by simp,by simp,λv hv=>by simp at hv⟩
 unfold sfF;split
 ·rename_i h;split
  ·exact⟨_,_,_,_,_,_,_,_,rfl,e0,by simp⟩
  ·split
   ·exact⟨_,_,_,_,_,_,_,_,rfl,e0,by simp only[kI];omega⟩
   ·obtain⟨h1,h2,h3,h4,h5⟩:=wF h;exact⟨_,_,_,_,_,_,_,_,rfl,aDf (h4 (l.length-1) (by omega)),by simp⟩
 ·exact⟨_,_,_,_,_,_,_,_,rfl,e0,by simp⟩
def zS (x:List Cg×List Cm×Int):Prop:=x.1.length<=top/\(∀ c∈x.1,okZ c)/\x.2.1.length<=top
instance (x:List Cg×List Cm×Int):Decidable (zS x):=by unfold zS;infer_instance
def m4 (x:List Cg×List Cm×Int):Option Bool:=if zS x then some true else none
theorem sat4:Sat prog cxT 4 (c4 m4):=s4 m10 qJ sX rS mSF mSF tZ m17 mQ uU kY uT xL aOx aOw aOu aOt aOv aOs aOr aOq aIV aOp aIU aOo aOn m4 λx t h=>by
 obtain⟨l,g,fr⟩:=x;unfold m4 at h;split at h
 ·rename_i hz;obtain⟨z1,z2,z3⟩:=hz;simp only at z1 z2 z3;cases h;refine⟨0,?_⟩;show g4 m10 qJ sX rS mSF mSF tZ m17 mQ uU kY uT xL 0 l g fr=some true;unfold g4;have hs:0<=cZ wC l:=dR λx _=>pQ x
  rw[show m10 (l,1048576)=some (kD 1048576 ((l.length:Int)+cZ wC l)) from if_pos ⟨by simp only;omega,by simp only;omega,z1,z2⟩,bJ];by_cases h:kD 1048576 ((l.length:Int)+cZ wC l) < 0
  ·rw[dt h,cond_true]
  ·have hr:=tB (v:=1048576) (a:=(l.length:Int)+cZ wC l) (by omega) (by omega);rw[df h,cond_false,show qJ (g,kD 1048576 ((l.length:Int)+cZ wC l))=some (kD (kD 1048576 ((l.length:Int)+cZ wC l)) g.length) from if_pos ⟨by simp only;omega,by simp only;omega,z3⟩,bJ];by_cases h':kD (kD 1048576 ((l.length:Int)+cZ wC l)) (g.length:Int) < 0
   ·rw[dt h',cond_true]
   ·rw[df h',cond_false];have hle:(l.length:Int)+cZ wC l<=1048576:=by unfold kD at h;split at h<;>omega
    have hgl:g.length<=1048576:=by
     unfold kD at h';split at h'
     ·omega
     ·split at h'<;>omega
    have hg6:g.length<=1048576-l.length:=by
     unfold kD at h';split at h'
     ·omega
     ·split at h'<;>omega
    have each:∀ c∈l,c.2.1.length<=1048576/\c.2.2.length<=1048576/\∀ v∈c.2.2,v.2.2.2.length<=1048576:=λc hc=>by
     have:=wZ (w:=wC) (l:=l) (λx _=>pQ x) c hc;exact aFy (by unfold kD;split<;>omega)
    have hM:sX l=some l:=if_pos ⟨by unfold qA;omega,λc hc=>⟨by have:=(each c hc).1;unfold qA;omega,by have:=(each c hc).2.1;unfold qA;omega,λv hv=>by have:=(each c hc).2.2 v hv;unfold qA;omega⟩⟩;have hL:okL l:=λc hc=>⟨by have:=(each c hc).1;unfold nB;omega,by have:=(each c hc).2.1;unfold nB;omega,λv hv=>by have:=(each c hc).2.2 v hv;unfold nB;omega⟩
    have hG:rS g=some g:=if_pos (by unfold qA;omega);have hF:mSF (l,g,fr)=some (sfF l g fr):=if_pos hL;have h17:m17 (l,l)=some true:=(if_pos ⟨by simp only;unfold nB;omega,hL⟩).trans (by rw[dt rfl]);have h18:mQ (g,g)=some true:=(if_pos (by simp only;unfold nB;omega)).trans (by rw[dt rfl]);have hsM:=aTc l;have hsM0:0<=cZ wM l:=dR λx _=>by have:=aAw x;omega
    obtain⟨l',e19⟩:=aGf (l:=l) (by omega) each (by omega);have e20:kY (g,1+cZ wM l)=some (1+cZ wM l+6 * (g.length:Int),pZ mkC 6 g.length (1+cZ wM l)):=if_pos ⟨by simp only;omega,by simp only;omega,by simp only;omega⟩;obtain⟨k,a,b,o,v,bs,vs,g',hf,⟨s1,s2,s3⟩,s4⟩:∃ k a b o v bs vs g',sfF l g fr=(k,a,b,o,v,bs,vs,g')/\okS (v,bs,vs)/\g'.length<=1000000:=by
     by_cases hg9:g.length<=1000000
     ·exact aHw l g fr hg9
     ·have hv0:svF l g≠0:=λh=>by obtain⟨h1,h2,h3,_⟩:=wF h;omega
      unfold sfF;rw[if_neg hv0];exact⟨_,_,_,_,_,_,_,_,rfl,⟨by simp,by simp,λv hv=>by simp at hv⟩,by simp⟩
    simp only at s1 s2 s3;rw[hf]at hF;have h16:tZ ((k,a,b,o,v,bs,vs,g'),k,a,b,o,v,bs,vs,g')=some true:=if_pos ⟨⟨by simp only;unfold nB;omega,by simp only;unfold nB;omega,λv hv=>by have:=s3 v hv;unfold nB;omega⟩,by simp only;unfold nB;omega,rfl⟩;obtain⟨q,bs',vs',g2,q0,e1,e2⟩:=aH9 (k:=k) (a:=a) (b:=b) (o:=o) (v:=v) (bs:=bs) (vs:=vs) (g:=g') (by omega) (by omega) (λv hv=>by have:=s3 v hv;omega) (by have:=aKe s3;omega) s4;simp only[hM,hG,bJ,hF,h16,h17,h18,e19,e20,e1,e2,fK,cond_false];rw[df (show ¬ 1+cZ wM l+6 * (g.length:Int) < 0 by omega),df (show ¬ q < 0 by omega),iW rfl];simp only[cond_false]
 ·cases h
end Go.Proofs.Tryz
