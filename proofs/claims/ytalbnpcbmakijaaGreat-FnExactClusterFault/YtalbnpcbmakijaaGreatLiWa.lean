/- A part of the proof of FnExactClusterFault: LiWa, LiWb, LiWc, LiTop. -/
import Derived.Test.YtalbnpcbmakijaaGreatLiRa
import Derived.Test.YtalbnpcbmakijaaGreatLiVa
import Derived.Test.YtalbnpcbmakijaaGreatLiFi
import Derived.Test.YtalbnpcbmakijaaGreatVmOpen
set_option linter.unusedSimpArgs false
set_option linter.unusedVariables false
set_option maxHeartbeats 0
namespace Go.Proofs.Tryz
open Go.IntKind (wrap)
open Go Go.VM Go.RowKit
def lB (x:Nd×Ml):Option Int:=if pA x.1 mH/\(enM x.2).length<=mH then some (mlF x.1 x.2)else none
theorem aOS:Sat prog cxT 96 (c96 lB):=s96 dX dY cZ dZ pK lI lZ iS aJk aAw aA9 aB0 aGe aMv aMu aMt lB λx t h=>by
 obtain⟨⟨a,b,c,d,lg,e,f,vt,nx,mt⟩,m⟩:=x;obtain⟨ma,mb,mc,md,me,mf,mg,mo,ml⟩:=m;unfold lB at h;split at h
 ·rename_i hm;cases h;refine⟨0,?_⟩;show g96 dX dY cZ dZ pK lI lZ iS 0 a b c d lg e f vt nx mt ma mb mc md me mf mg mo ml=_;unfold g96 G96 mlF mlB;rw[show dX (a,b,c,d,lg,e,f,vt,nx,mt)=some (ndF (a,b,c,d,lg,e,f,vt,nx,mt)) from if_pos hm.1,show lI (ma,mb,mc,md,me,mf,mg,mo,ml)=some (heK (ma,mb,mc,md,me,mf,mg,mo,ml)) from if_pos hm.2];simp only[dY,cZ,dZ,lZ,iS,aV,show pK ml=some (sA ml) from rfl,qS];by_cases hn:ndF (a,b,c,d,lg,e,f,vt,nx,mt)=0
  ·rw[hn];have hp:=aGx hn;rw[tM hp];simp only[bqi]
   rfl
  ·rw[aNH,df hn];rfl
 ·cases h
def ff (f:Nat->Int):Nat->Nat->Int
 | 0,_=>0
 | n+1,i=>if f i=0 then ff f n (i+1)else f i
theorem aHx {N:Nat}{f:Nat->Int}{l:Nat->Int->Option Int->Option Int}{k:Option Int}(hs:∀ n (i:Nat),i < N->l (n+1) (i:Int) k=if f i=0 then l n ((i+1:Nat):Int) k else some (f i))(he:∀ n,l (n+1) ((N:Nat):Int) k=k) :
  ∀ n (i:Nat),i<=N->N < n+i->l n (i:Int) k=if ff f (N-i) i=0 then k else some (ff f (N-i) i)
 | 0,i,h1,h2=>by omega
 | n+1,i,h1,h2=>by
  by_cases hi:i < N
  ·rw[hs n i hi,show N-i=(N-(i+1))+1 by omega];show(if f i=0 then _ else _)=if(if f i=0 then _ else _)=0 then k else some (if f i=0 then _ else _)
   by_cases hf:f i=0
   ·simp only[if_pos hf];exact aHx hs he n (i+1) (by omega) (by omega)
   ·simp only[if_neg hf]
  ·rw[show i=N by omega,he,qH]
   rfl
theorem mQ {N:Nat}{f:Nat->Int}{l:Nat->Int->Option Int->Option Int}{k:Option Int}(hs:∀ n (i:Nat),i < N->l (n+1) (i:Int) k=if f i=0 then l n ((i+1:Nat):Int) k else some (f i))(he:∀ n,l (n+1) ((N:Nat):Int) k=k){n:Nat}(hn:N < n):l n 0 k=if ff f N 0=0 then k else some (ff f N 0):=aHx hs he n 0 (eF _) hn
def fN (a:List Nd)(i:Nat):Int:=if ndF (a.getD i dN)=0 then(if(a.getD i dN).1=(i:Int)then(if(a.getD i dN).2.1=(a.length:Int)then 0 else 1)else 1)else ndF (a.getD i dN)
def uC (n:Nat)(i:Int):Bool:=decide (0<=i/\i<=(n:Int)-1)
def toM (m:Ml):Int:=m.2.2.1
def fM (a:List Nd)(b:List Ml)(i:Nat):Int:=if uC a.length (toM (b.getD i dM))=true then mlB (a.getD (toM (b.getD i dM)).toNat dN) (b.getD i dM)else 3
def fW (n:Nat)(c:List Wn)(i:Nat):Int:=if qS (c.getD i (0,0)).1=true then(if uC n (c.getD i (0,0)).2=true then 0 else 3)else 3
def fS (d:List Sl)(i:Nat):Int:=if qS (d.getD i dS).1=true then enF (d.getD i dS).2 else 3
def clF (c:Cl):Int:=
 if(c.1.length:Int) < 1 then 2 else if(c.1.length:Int) > 5 then 2 else if(c.2.1.length:Int) > 80 then 2 else
 if ff (fN c.1) c.1.length 0=0 then(if ff (fM c.1 c.2.1) c.2.1.length 0=0 then(if(c.2.2.1.length:Int) > 400 then 2 else if(c.2.2.2.length:Int) > 40 then 2 else
  if ff (fW c.1.length c.2.2.1) c.2.2.1.length 0=0 then ff (fS c.2.2.2) c.2.2.2.length 0 else ff (fW c.1.length c.2.2.1) c.2.2.1.length 0)else ff (fM c.1 c.2.1) c.2.1.length 0)else ff (fN c.1) c.1.length 0
def qW (c:Cl):Option Int:=if cOk c then some (clF c)else none
def eE (x:Cl×Int):Option Bool:=if x.1.1.length<=mH then some (uC x.1.1.length x.2)else none
theorem aOY:Sat prog cxT 86 (c86 eE):=s86 bI mK eE λx t h=>by
 obtain⟨c,i⟩:=x;unfold eE at h;split at h
 ·rename_i hc;cases h;have hc:c.1.length<=1000000000:=hc;refine⟨0,?_⟩;show dL (bI (i,0,wrap .i64 ((c.1.length:Int)-1))) false (λq=>some q)=_;rw[wi (by omega) (by omega)]
  rfl
 ·cases h
theorem aNE {a:List Nd}(h:eL wD a<=900000000)(i:Nat):pA (a.getD i dN) mH:=by
 by_cases hi:i < a.length
 ·exact aGy (by have:=sY (w:=wD) (λy _=>aFZ y) _ (mE dN hi);unfold mH;omega)
 ·rw[show a.getD i dN=dN by simp[List.getD,hi]];exact⟨eF _,eF _,eF _,eF _⟩
theorem aSz {b:List Ml}(h:aDJ b)(i:Nat):(enM (b.getD i dM)).length<=mH:=by
 by_cases hi:i < b.length
 ·exact h _ (mE dM hi)
 ·rw[show b.getD i dM=dM by simp[List.getD,hi]];exact eF _
theorem neC {x:Int}{o o':Option Int}:(bif x != 0 then o else o')=if x=0 then o' else o:=by
 by_cases h:x=0
 ·rw[if_pos h,aCO h];rfl
 ·rw[if_neg h,uN h];rfl
theorem neB {x y:Int}{o o':Option Int}:(bif x != y then o else o')=if x=y then o' else o:=by
 by_cases h:x=y
 ·rw[if_pos h,aCO h];rfl
 ·rw[if_neg h,uN h];rfl
theorem nB {b:Bool}{o o':Option Int}:(bif !b then o else o')=if b=true then o' else o:=by cases b<;>rfl
theorem plP {n:Nat}{i:Int}(h:uC n i=true):0<=i/\i < (n:Int):=by
 have:=of_decide_eq_true h;omega
section
variable (c : Cl) (hc : cOk c) (L : Nat)
include hc
theorem aL5 (n:Nat)(i:Nat)(hi:i < c.1.length)(k:Option Int):pN dX eE eH bI qV L c (n+1) (i:Int) k=if fN c.1 i=0 then pN dX eE eH bI qV L c n ((i+1:Nat):Int) k else some (fN c.1 i):=by
 obtain⟨a,b,w,d⟩:=c;obtain⟨h1,h2,h3,h4,h5,h6⟩:=oK hc;have hi:i < a.length:=hi
 conv=>lhs;unfold pN B39_0;dsimp only[fB]
 have hd:(a.getD i (0,0,0,0,[],0,0,[],[],[]):Nd)=a.getD i dN:=rfl;simp(disch:=omega) only[dt,wi,cond_true,cI,cD,hd];rw[show dX (a.getD i dN)=some (ndF (a.getD i dN)) from if_pos (aNE (by omega) i),aV,neC,neB,neB];unfold fN;by_cases q1:ndF (a.getD i dN)=0
 ·by_cases q2:(a.getD i dN).1=(i:Int)
  ·by_cases q3:(a.getD i dN).2.1=(a.length:Int)
   ·simp only[if_pos q1,if_pos q2,if_pos q3];rfl
   ·simp only[if_pos q1,if_pos q2,if_neg q3];rfl
  ·simp only[if_pos q1,if_neg q2];rfl
 ·simp only[if_neg q1]
theorem aL4 (n:Nat)(i:Nat)(hi:i < c.2.1.length)(k:Option Int):nI dX eE eH bI qV L c (n+1) (i:Int) k=if fM c.1 c.2.1 i=0 then nI dX eE eH bI qV L c n ((i+1:Nat):Int) k else some (fM c.1 c.2.1 i):=by
 obtain⟨a,b,w,d⟩:=c;obtain⟨h1,h2,h3,h4,h5,h6⟩:=oK hc;have hi:i < b.length:=hi
 conv=>lhs;unfold nI B39_2;dsimp only[fB]
 have hd:(b.getD i (0,0,0,0,0,0,0,false,[]):Ml)=b.getD i dM:=rfl;simp(disch:=omega) only[dt,wi,cond_true,cI,cD,hd];rw[show eE ((a,b,w,d),(b.getD i dM).2.2.1)=some (uC a.length (toM (b.getD i dM))) from if_pos (by show a.length<=1000000000;omega),aV,nB];unfold fM;by_cases q1:uC a.length (toM (b.getD i dM))=true
 ·have hp:0<=(b.getD i dM).2.2.1/\(b.getD i dM).2.2.1 < (a.length:Int):=plP q1;rw[if_pos q1,if_pos q1,dt hp.1,dt hp.2,cI,cond_true];have e:eH (a.getD (toM (b.getD i dM)).toNat dN,b.getD i dM)=some (mlB (a.getD (toM (b.getD i dM)).toNat dN) (b.getD i dM)):=if_pos (aSz h6 i);show dL (eH (a.getD (toM (b.getD i dM)).toNat dN,b.getD i dM)) 0 (λq7=>bif q7 != 0 then some q7 else nI dX eE eH bI qV L (a,b,w,d) n ((i:Int)+1) k)=_;rw[e,aV,neC]
  rfl
 ·rw[if_neg q1,if_neg q1];rfl
theorem aL3 (n:Nat)(i:Nat)(hi:i < c.2.2.1.length)(k:Option Int):nH dX eE eH bI qV L c (n+1) (i:Int) k=if fW c.1.length c.2.2.1 i=0 then nH dX eE eH bI qV L c n ((i+1:Nat):Int) k else some (fW c.1.length c.2.2.1 i):=by
 obtain⟨a,b,w,d⟩:=c;obtain⟨h1,h2,h3,h4,h5,h6⟩:=oK hc;have hi:i < w.length:=hi
 conv=>lhs;unfold nH B39_4;dsimp only[fB]
 simp(disch:=omega) only[dt,wi,cond_true,cI,cD];rw[show bI ((w.getD i (0,0)).1,1,100000)=some (qS (w.getD i (0,0)).1) from rfl,aV,nB,show eE ((a,b,w,d),(w.getD i (0,0)).2)=some (uC a.length (w.getD i (0,0)).2) from if_pos (by show a.length<=1000000000;omega),aV,nB];unfold fW;by_cases q1:qS (w.getD i (0,0)).1=true
 ·by_cases q2:uC a.length (w.getD i (0,0)).2=true
  ·simp only[if_pos q1,if_pos q2];rfl
  ·simp only[if_pos q1,if_neg q2];rfl
 ·simp only[if_neg q1];rfl
theorem aL2 (n:Nat)(i:Nat)(hi:i < c.2.2.2.length)(k:Option Int):mN dX eE eH bI qV L c (n+1) (i:Int) k=if fS c.2.2.2 i=0 then mN dX eE eH bI qV L c n ((i+1:Nat):Int) k else some (fS c.2.2.2 i):=by
 obtain⟨a,b,w,d⟩:=c;obtain⟨h1,h2,h3,h4,h5,h6⟩:=oK hc;have hi:i < d.length:=hi
 conv=>lhs;unfold mN B39_6;dsimp only[fB]
 have hd:(d.getD i (0,0,0,0,0,0,0,0,0,0):Sl)=d.getD i dS:=rfl;simp(disch:=omega) only[dt,wi,cond_true,cI,cD,hd];rw[show bI ((d.getD i dS).1,1,100000)=some (qS (d.getD i dS).1) from rfl,aV,nB,show qV _=some (enF (d.getD i dS).2) from rfl,aV,neC];unfold fS;by_cases q1:qS (d.getD i dS).1=true
 ·simp only[if_pos q1];rfl
 ·simp only[if_neg q1];rfl
end
theorem aPd:Sat prog cxT 39 (c39 qW):=s39 dX eE eH bI qV aOZ aOY aOX mK aJl qW λc t h=>by
 unfold qW at h;split at h
 ·rename_i hc;cases h;refine⟨c.1.length+c.2.1.length+c.2.2.1.length+c.2.2.2.length+1,?_⟩
  generalize hL:c.1.length+c.2.1.length+c.2.2.1.length+c.2.2.2.length+1=L
  show g39 dX eE eH bI qV L c=_;unfold g39 G39 A39_0 A39_2 A39_4 A39_6;dsimp only;rw[mQ (l:=λn i k=>pN dX eE eH bI qV L c n i k) (aL5 c hc L · · · _) (λn=>by
    show pN _ _ _ _ _ _ _ (n+1) _ _=_
    conv=>lhs;unfold pN B39_0;dsimp only[fB]
    rw[df (by omega),cond_false]) (by omega)]
  rw[mQ (l:=λn i k=>nI dX eE eH bI qV L c n i k) (aL4 c hc L · · · _) (λn=>by
    show nI _ _ _ _ _ _ _ (n+1) _ _=_
    conv=>lhs;unfold nI B39_2;dsimp only[fB]
    rw[df (by omega),cond_false]) (by omega)]
  rw[mQ (l:=λn i k=>nH dX eE eH bI qV L c n i k) (aL3 c hc L · · · _) (λn=>by
    show nH _ _ _ _ _ _ _ (n+1) _ _=_
    conv=>lhs;unfold nH B39_4;dsimp only[fB]
    rw[df (by omega),cond_false]) (by omega)]
  rw[mQ (l:=λn i k=>mN dX eE eH bI qV L c n i k) (aL2 c hc L · · · _) (λn=>by
    show mN _ _ _ _ _ _ _ (n+1) _ _=_
    conv=>lhs;unfold mN B39_6;dsimp only[fB]
    rw[df (by omega),cond_false]) (by omega)]
  unfold clF;simp only[cond_eq_ite,decide_eq_true_eq]
  repeat' split
  all_goals first | rfl | (rename_i h;rw[h]) | contradiction
 ·cases h
end Go.Proofs.Tryz
set_option maxHeartbeats 0
namespace Go.Proofs.Tryz
open Go.IntKind (wrap)
open Go Go.VM Go.RowKit
def gC (x:Int×Int):Option Bool:=if 0<=x.2/\x.2<=1000000000 then some (decide (0<=x.1/\x.1<=x.2-1))else none
theorem aJm:Sat prog cxT 48 (c48 gC):=s48 dY aAw gC λx t h=>by
 obtain⟨i,n⟩:=x;unfold gC at h;split at h
 ·rename_i hc;cases h;have hc:0<=n/\n<=1000000000:=hc;refine⟨0,?_⟩;show dL (dY (i,0,wrap .i64 (n-1))) false (λq=>some q)=_;rw[wi (by omega) (by omega)]
  rfl
 ·cases h
theorem aPt {n:Nat}(hn:n<=1000000000)(i:Int):gC (i,(n:Int))=some (uC n i):=if_pos ⟨by show 0<=(n:Int);omega,by show(n:Int)<=1000000000;omega⟩
def lN (a:List Nd):Option Int:=if eL wD a<=900000000 then some (ff (fN a) a.length 0)else none
theorem aO8:Sat prog cxT 45 (c45 lN):=s45 dX aJk lN λa t h=>by
 unfold lN at h;split at h
 ·rename_i hc;cases h;have hn:=nG aHZ a;refine⟨a.length+1,?_⟩;show g45 dX (a.length+1) a=_;unfold g45 G45 A45_0;dsimp only;rw[mQ (f:=fN a) (N:=a.length) (l:=λn i k=>rE dX (a.length+1) a n i k) (λn i hi=>?_) (λn=>by
    show rE _ _ _ (n+1) _ _=_
    conv=>lhs;unfold rE B45_0;dsimp only[fB]
    rw[df (by omega),cond_false]) (by omega)]
  ·split
   ·rename_i hz;rw[hz]
   ·rfl
  ·show rE _ _ _ (n+1) _ _=_
   conv=>lhs;unfold rE B45_0;dsimp only[fB]
   have hd:(a.getD i (0,0,0,0,[],0,0,[],[],[]):Nd)=a.getD i dN:=rfl;simp(disch:=omega) only[dt,wi,cond_true,cI,cD,hd];have e:dX (a.getD i dN)=some (ndF (a.getD i dN)):=if_pos (aNE (by omega) i);rw[show dX _=some _ from e,aV,neC,neB,neB];unfold fN;by_cases q1:ndF (a.getD i dN)=0
   ·by_cases q2:(a.getD i dN).1=(i:Int)
    ·by_cases q3:(a.getD i dN).2.1=(a.length:Int)
     ·simp only[if_pos q1,if_pos q2,if_pos q3];rfl
     ·simp only[if_pos q1,if_pos q2,if_neg q3];rfl
    ·simp only[if_pos q1,if_neg q2];rfl
   ·simp only[if_neg q1]
 ·cases h
def lM (x:List Nd×List Ml):Option Int:=if eL wD x.1<=900000000/\aDJ x.2/\x.2.length<=900000000/\ff (fN x.1) x.1.length 0=0 then some (ff (fM x.1 x.2) x.2.length 0)else none
theorem aEs {f:Nat->Int}:∀ (n i:Nat),ff f n i=0->∀ j,i<=j->j < i+n->f j=0
 | 0,i,_,j,h1,h2=>by omega
 | n+1,i,h,j,h1,h2=>by
  have h:(if f i=0 then ff f n (i+1)else f i)=0:=h;by_cases hf:f i=0
  ·rw[if_pos hf]at h;by_cases hj:j=i
   ·rw[hj];exact hf
   ·exact aEs n (i+1) h j (by omega) (by omega)
  ·rw[if_neg hf]at h;exact absurd h hf
theorem aQU {a:List Nd}(h:ff (fN a) a.length 0=0){i:Nat}(hi:i < a.length):ndF (a.getD i dN)=0:=by
 have:=aEs _ _ h i (eF _) (by omega);unfold fN at this;by_cases q:ndF (a.getD i dN)=0
 ·exact q
 ·rw[if_neg q]at this;exact absurd this q
theorem aO7:Sat prog cxT 46 (c46 lM):=s46 gC lB aJm aOS lM λx t h=>by
 obtain⟨a,b⟩:=x;unfold lM at h;split at h
 ·rename_i hc;cases h;obtain⟨c1,c2,c3,c4⟩:=hc;simp only at c1 c2 c3 c4;have hn:=nG aHZ a;refine⟨b.length+1,?_⟩;show g46 gC lB (b.length+1) a b=_;unfold g46 G46 A46_0;dsimp only;rw[mQ (f:=fM a b) (N:=b.length) (l:=λn i k=>pM gC lB (b.length+1) a b n i k) (λn i hi=>?_) (λn=>by
    show pM _ _ _ _ _ (n+1) _ _=_
    conv=>lhs;unfold pM B46_0;dsimp only[fB]
    rw[df (by omega),cond_false]) (by omega)]
  ·split
   ·rename_i hz;rw[hz]
   ·rfl
  ·show pM _ _ _ _ _ (n+1) _ _=_
   conv=>lhs;unfold pM B46_0;dsimp only[fB]
   have hd:(b.getD i (0,0,0,0,0,0,0,false,[]):Ml)=b.getD i dM:=rfl;simp(disch:=omega) only[dt,wi,cond_true,cI,cD,hd];rw[aPt (by omega),aV,nB];unfold fM;by_cases q1:uC a.length (toM (b.getD i dM))=true
   ·have hp:0<=(b.getD i dM).2.2.1/\(b.getD i dM).2.2.1 < (a.length:Int):=plP q1;rw[if_pos (show uC a.length (b.getD i dM).2.2.1=true from q1),if_pos q1,dt hp.1,dt hp.2,cI,cond_true];have e0:=aQU c4 (i:=(toM (b.getD i dM)).toNat) (by unfold toM;omega);have e:lB (a.getD (toM (b.getD i dM)).toNat dN,b.getD i dM)=some (mlB (a.getD (toM (b.getD i dM)).toNat dN) (b.getD i dM)):=(if_pos ⟨aNE (by omega) _,aSz c2 i⟩).trans (by
     unfold mlF;rw[e0];rfl)
    show dL (lB (a.getD (toM (b.getD i dM)).toNat dN,b.getD i dM)) 0 (λq7=>bif q7 != 0 then some q7 else pM gC lB (b.length+1) a b n ((i:Int)+1) _)=_;rw[e,aV,neC]
    rfl
   ·rw[if_neg (show ¬ uC a.length (b.getD i dM).2.2.1=true from q1),if_neg q1];rfl
 ·cases h
def lG (d:List Sl):Option Int:=if d.length<=900000000 then some (ff (fS d) d.length 0)else none
theorem aO6:Sat prog cxT 49 (c49 lG):=s49 dZ qV aB0 aJj lG λd t h=>by
 unfold lG at h;split at h
 ·rename_i hc;cases h;refine⟨d.length+1,?_⟩;show g49 dZ qV (d.length+1) d=_;unfold g49 G49 A49_0;dsimp only;rw[mQ (f:=fS d) (N:=d.length) (l:=λn i k=>rD dZ qV (d.length+1) d n i k) (λn i hi=>?_) (λn=>by
    show rD _ _ _ _ (n+1) _ _=_
    conv=>lhs;unfold rD B49_0;dsimp only[fB]
    rw[df (by omega),cond_false]) (by omega)]
  ·split
   ·rename_i hz;rw[hz]
   ·rfl
  ·show rD _ _ _ _ (n+1) _ _=_
   conv=>lhs;unfold rD B49_0;dsimp only[fB]
   have hd:(d.getD i (0,0,0,0,0,0,0,0,0,0):Sl)=d.getD i dS:=rfl;simp(disch:=omega) only[dt,wi,cond_true,cI,cD,hd];rw[show dZ (d.getD i dS).1=some (qS (d.getD i dS).1) from rfl,aV,nB,show qV _=some (enF (d.getD i dS).2) from rfl,aV,neC];unfold fS;by_cases q1:qS (d.getD i dS).1=true
   ·simp only[if_pos q1];rfl
   ·simp only[if_neg q1];rfl
 ·cases h
theorem aPk:Sat prog cxT 14 (c14 qW):=s14 iQ lN lM dZ gC lG aJn aO8 aO7 aB0 aJm aO6 qW λc t h=>by
 obtain⟨a,b,w,d⟩:=c;unfold qW at h;split at h
 ·rename_i hc;cases h;obtain⟨h1,h2,h3,h4,h5,h6⟩:=oK hc;refine⟨w.length+1,?_⟩;show g14 iQ lN lM dZ gC lG (w.length+1) a b w d=_;unfold g14 G14 A14_0 clF;dsimp only;rw[show iQ (a.length:Int)=some (decide (1<=(a.length:Int)/\(a.length:Int)<=5)) from rfl,aV];by_cases p1:(a.length:Int) < 1
  ·rw[if_pos p1,df (by omega)];rfl
  rw[if_neg p1];by_cases p2:(a.length:Int) > 5
  ·rw[if_pos p2,df (by omega)];rfl
  rw[if_neg p2,dt (by omega),cE,cond_false];by_cases p3:(b.length:Int) > 80
  ·rw[if_pos p3,dt p3];rfl
  rw[if_neg p3,df p3,cond_false,show lN a=some (ff (fN a) a.length 0) from if_pos (by omega),aV,neC];by_cases p4:ff (fN a) a.length 0=0
  ·rw[if_pos p4,if_pos p4,show lM (a,b)=some (ff (fM a b) b.length 0) from if_pos ⟨by show eL wD a<=_;omega,h6,by show b.length<=_;omega,p4⟩,aV,neC];by_cases p5:ff (fM a b) b.length 0=0
   ·rw[if_pos p5,if_pos p5];by_cases p6:(w.length:Int) > 400
    ·rw[if_pos p6,dt p6];rfl
    rw[if_neg p6,df p6,cond_false];by_cases p7:(d.length:Int) > 40
    ·rw[if_pos p7,dt p7];rfl
    rw[if_neg p7,df p7,cond_false];refine(mQ (f:=fW a.length w) (N:=w.length) (k:=some (ff (fS d) d.length 0)) (l:=λn i _=>rF iQ lN lM dZ gC lG (w.length+1) a b w d n a b w d i λw1 w2 w3 w4=>dL (lG w4) 0 λq1=>some q1) (λn i hi=>?_) (λn=>?_) (Nat.lt_succ_self _)).trans ?_
    ·show rF _ _ _ _ _ _ _ _ _ _ _ (n+1) _ _ _ _ _ _=_
     conv=>lhs;unfold rF B14_0;dsimp only[fB]
     simp(disch:=omega) only[dt,wi,cond_true,cI,cD];rw[show dZ (w.getD i (0,0)).1=some (qS (w.getD i (0,0)).1) from rfl,aV,nB,aPt (by omega),aV,nB];unfold fW;by_cases q1:qS (w.getD i (0,0)).1=true
     ·by_cases q2:uC a.length (w.getD i (0,0)).2=true
      ·simp only[if_pos q1,if_pos q2];rfl
      ·simp only[if_pos q1,if_neg q2];rfl
     ·simp only[if_neg q1];rfl
    ·show rF _ _ _ _ _ _ _ _ _ _ _ (n+1) _ _ _ _ _ _=_
     conv=>lhs;unfold rF B14_0;dsimp only[fB]
     rw[df (by omega),cond_false,show lG d=some (ff (fS d) d.length 0) from if_pos (by omega)];rfl
    ·split<;>rfl
   ·rw[if_neg p5,if_neg p5]
  ·rw[if_neg p4,if_neg p4]
 ·cases h
end Go.Proofs.Tryz
set_option maxHeartbeats 0
namespace Go.Proofs.Tryz
open Go.IntKind (wrap)
open Go Go.VM Go.RowKit
def kM (x:Ml):Int:=((enM x).length:Int)
theorem aC0 (x:Nd):0<=wN x:=by unfold wN;omega
theorem aDm (x:Ml):0<=kM x:=by unfold kM;omega
def aBj (a:List Nd):Prop:=a.length<=top/\∀ x∈a,pA x top
def aBk (a:List Ml):Prop:=a.length<=top/\∀ x∈a,(enM x).length<=top
instance (a:List Nd):Decidable (aBj a):=by unfold aBj;infer_instance
instance (a:List Ml):Decidable (aBk a):=by unfold aBk;infer_instance
def wG (x:List Nd×Int):Option Int:=if 0<=x.2/\x.2<=1048576/\aBj x.1 then some (pC x.2 ((x.1.length:Int)+eL wN x.1))else none
theorem aRv (L:Nat)(a:List Nd)(v0:Int):∀ (n:Nat) (v i:Int) (k:Int->Option Int),yC lY L a v0 n v i k=szL dN lY a n v i k
 | 0,_,_,_=>rfl
 | n+1,v,i,k=>by
  unfold yC B35_0 szL;simp only[fB,aRv L a v0 n]
  rfl
theorem aF3 {α:Type}{d:α}{f:α×Int->Option Int}{w:α->Int}{a:List α}{v:Int}{L:Nat}{l:Nat->Int->Int->(Int->Option Int)->Option Int}(hl:∀ n v i k,l n v i k=szL d f a n v i k)(hL:a.length < L)(h0:0<=v)(h1:v<=1048576)(ha:a.length<=top)(hw:∀ x∈a,0<=w x)(hf:∀ x∈a,∀ v:Int,0<=v->v<=1048576->f (x,v)=some (pC v (w x))) :
  (bif decide (wrap .i64 (v-(a.length:Int)) < 0)then some (-1)else l L (wrap .i64 (v-(a.length:Int))) 0 some)=some (pC v ((a.length:Int)+eL w a)):=by
 unfold top at ha;rw[wi (by omega) (by omega)];have hs:=gW (w:=w) (l:=a) hw;by_cases h:v-(a.length:Int) < 0
 ·rw[dt h,cond_true];exact congrArg some (if_pos (by omega)).symm
 ·rw[df h,cond_false,hl];refine(aF4 d f a w 1048576 (by omega) hw hf some L 0 _ (by omega) (by omega) (eF _) (by omega)).trans ?_;rw[eS];unfold pC;rw[show v-((a.length:Int)+eL w a)=v-(a.length:Int)-eL w a by omega];split<;>rfl
theorem aPh:Sat prog cxT 35 (c35 wG):=s35 lY aO1 wG λx t h=>by
 obtain⟨a,v⟩:=x;unfold wG at h;split at h
 ·rename_i hc;cases h;obtain⟨h1,h2,h3,h4⟩:=hc;exact⟨a.length+1,aF3 (aRv _ a v) (Nat.lt_succ_self _) h1 h2 h3 (λx _=>aC0 x) λx hx v k1 k2=>if_pos ⟨k1,k2,h4 x hx⟩⟩
 ·cases h
def wF (x:List Ml×Int):Option Int:=if 0<=x.2/\x.2<=1048576/\aBk x.1 then some (pC x.2 ((x.1.length:Int)+eL kM x.1))else none
theorem aRu (L:Nat)(a:List Ml)(v0:Int):∀ (n:Nat) (v i:Int) (k:Int->Option Int),yB lX L a v0 n v i k=szL dM lX a n v i k
 | 0,_,_,_=>rfl
 | n+1,v,i,k=>by
  unfold yB B36_0 szL;simp only[fB,aRu L a v0 n]
  rfl
theorem aPg:Sat prog cxT 36 (c36 wF):=s36 lX aO0 wF λx t h=>by
 obtain⟨a,v⟩:=x;unfold wF at h;split at h
 ·rename_i hc;cases h;obtain⟨h1,h2,h3,h4⟩:=hc;exact⟨a.length+1,aF3 (aRu _ a v) (Nat.lt_succ_self _) h1 h2 h3 (λx _=>aDm x) λx hx v k1 k2=>if_pos ⟨k1,k2,h4 x hx⟩⟩
 ·cases h
def wE (x:List Wn×Int):Option Int:=if 0<=x.2/\x.2<=1048576/\x.1.length<=top then some (pC x.2 x.1.length)else none
theorem aPf:Sat prog cxT 37 (c37 wE):=s37 wE λx t h=>by
 obtain⟨a,v⟩:=x;unfold wE at h;split at h
 ·rename_i hc;cases h;exact⟨0,aA6 hc.1 hc.2.1 hc.2.2⟩
 ·cases h
def wB (x:List Sl×Int):Option Int:=if 0<=x.2/\x.2<=1048576/\x.1.length<=top then some (pC x.2 x.1.length)else none
theorem aPe:Sat prog cxT 38 (c38 wB):=s38 wB λx t h=>by
 obtain⟨a,v⟩:=x;unfold wB at h;split at h
 ·rename_i hc;cases h;exact⟨0,aA6 hc.1 hc.2.1 hc.2.2⟩
 ·cases h
def aCE (c:Cl):Prop:=aBj c.1/\aBk c.2.1/\c.2.2.1.length<=top/\c.2.2.2.length<=top
instance (c:Cl):Decidable (aCE c):=by unfold aCE;infer_instance
def szC (c:Cl):Int:=(c.1.length:Int)+eL wN c.1+((c.2.1.length:Int)+eL kM c.2.1)+c.2.2.1.length+c.2.2.2.length
def vL (x:Cl×Int):Option Int:=if x.2=1048576/\aCE x.1 then some (pC 1048576 (szC x.1))else none
theorem aPn:Sat prog cxT 11 (c11 vL):=s11 wG wF wE wB aPh aPg aPf aPe vL λx t h=>by
 obtain⟨⟨a,b,w,d⟩,v⟩:=x;unfold vL at h;split at h
 ·rename_i hc;cases h;obtain⟨rfl,h1,h2,h3,h4⟩:=hc;have k1:=gW (w:=wN) (l:=a) λx _=>aC0 x
  have k2:=gW (w:=kM) (l:=b) λx _=>aDm x
  refine⟨0,?_⟩;show g11 wG wF wE wB 0 a b w d 1048576=some (pC 1048576 ((a.length:Int)+eL wN a+((b.length:Int)+eL kM b)+w.length+d.length));unfold g11 G11;dsimp only
  generalize hA:(a.length:Int)+eL wN a=A
  generalize hB:(b.length:Int)+eL kM b=B
  rw[show wG (a,1048576)=some (pC 1048576 A) from by rw[<-hA];exact if_pos ⟨by show(0:Int)<=1048576;omega,jA _,h1⟩,aV];by_cases q1:(1048576:Int)-A < 0
  ·rw[gT q1,gT (by omega)];rfl
  rw[kF q1,df q1,cond_false,show wF (b,1048576-A)=some (pC (1048576-A) B) from by rw[<-hB];exact if_pos ⟨by show 0<=1048576-A;omega,by show 1048576-A<=1048576;omega,h2⟩,aV];by_cases q2:(1048576:Int)-A-B < 0
  ·rw[gT q2,gT (by omega)];rfl
  rw[kF q2,df q2,cond_false,show wE (w,1048576-A-B)=some (pC (1048576-A-B) w.length) from if_pos ⟨by show 0<=1048576-A-B;omega,by show 1048576-A-B<=1048576;omega,h3⟩,aV];by_cases q3:(1048576:Int)-A-B-w.length < 0
  ·rw[gT q3,gT (by omega)];rfl
  rw[kF q3,df q3,cond_false,show wB (d,1048576-A-B-w.length)=some (pC (1048576-A-B-w.length) d.length) from if_pos ⟨by show 0<=1048576-A-B-(w.length:Int);omega,by show 1048576-A-B-(w.length:Int)<=1048576;omega,h4⟩,aV];by_cases q4:(1048576:Int)-A-B-w.length-d.length < 0
  ·rw[gT q4,gT (by omega)];rfl
  rw[kF q4,df q4,cond_false,kF (by omega)];congr 1;omega
 ·cases h
theorem aOM {c:Cl}(h:¬ pC 1048576 (szC c) < 0):cOk c:=by
 obtain⟨a,b,w,d⟩:=c;have h:¬ pC 1048576 ((a.length:Int)+eL wN a+((b.length:Int)+eL kM b)+w.length+d.length) < 0:=h;have h2:(a.length:Int)+eL wN a+((b.length:Int)+eL kM b)+w.length+d.length<=1048576:=by
  unfold pC at h;split at h<;>omega
 have e1:∀ l:List Nd,eL wD l<=9 * ((l.length:Int)+eL wN l):=by
  intro l
  induction l with
  | nil=>exact jA _
  | cons x r ih=>
   show wD x+eL wD r<=9 * (((r.length+1:Nat):Int)+(wN x+eL wN r));have:wD x<=9 * (1+wN x):=by unfold wD wN;omega
   omega
 have e2:∀ l:List Ml,eL wM l<=9 * ((l.length:Int)+eL kM l):=by
  intro l
  induction l with
  | nil=>exact jA _
  | cons x r ih=>
   show wM x+eL wM r<=9 * (((r.length+1:Nat):Int)+(kM x+eL kM r));have:wM x<=9 * (1+kM x):=by unfold wM kM;omega
   omega
 have k1:=e1 a;have k2:=e2 b;have k3:=gW (w:=wN) (l:=a) λx _=>aC0 x
 have k4:=gW (w:=kM) (l:=b) λx _=>aDm x
 show eL wD a+eL wM b+2 * (w.length:Int)+10 * (d.length:Int)<=900000000;omega
theorem aA4 {α:Type}{d:α}{f:α->Option α}{a:List α}{L:Nat}{l:Nat->List α->Int->(List α->Option (List α))->Option (List α)}(hl:∀ n o i k,l n o i k=toL d f a n o i k)(hL:a.length < L)(ha:a.length<=900000000)(hf:∀ x∈a,f x=some x) :
  (bif ((decide ((0:Int)<=(a.length:Int))&&decide ((a.length:Int)<=(a.length:Int)))&&decide ((a.length:Int)<=(1000000000:Int)))then l L (List.replicate (Int.toNat (a.length:Int)) d) 0 some else none)=some a:=by
 rw[aCf (by unfold mH;omega),cond_true,hl,cD];exact aA5 d f a (by omega) hf some L 0 _ (by simp) (eF _) (by omega) rfl
def wA (a:List Nd):Option (List Nd):=if a.length<=900000000/\∀ x∈a,pA x mH then some a else none
theorem aRt (L:Nat)(a:List Nd):∀ (n:Nat) (o:List Nd) (i:Int) (k:List Nd->Option (List Nd)),yA lW L a n o i k=toL dN lW a n o i k
 | 0,_,_,_=>rfl
 | n+1,o,i,k=>by unfold yA B40_0 toL;simp only[fB,aRt L a n];rfl
theorem aPc:Sat prog cxT 40 (c40 wA):=s40 lW aOW wA λa t h=>by
 unfold wA at h;split at h
 ·rename_i hc;cases h;exact⟨a.length+1,aA4 (aRt _ a) (Nat.lt_succ_self _) hc.1 λx hx=>if_pos (hc.2 x hx)⟩
 ·cases h
def vZ (a:List Ml):Option (List Ml):=if a.length<=900000000/\aDJ a then some a else none
theorem aRs (L:Nat)(a:List Ml):∀ (n:Nat) (o:List Ml) (i:Int) (k:List Ml->Option (List Ml)),xZ lV L a n o i k=toL dM lV a n o i k
 | 0,_,_,_=>rfl
 | n+1,o,i,k=>by unfold xZ B41_0 toL;simp only[fB,aRs L a n];rfl
theorem aPb:Sat prog cxT 41 (c41 vZ):=s41 lV aOV vZ λa t h=>by
 unfold vZ at h;split at h
 ·rename_i hc;cases h;exact⟨a.length+1,aA4 (aRs _ a) (Nat.lt_succ_self _) hc.1 λx hx=>if_pos (hc.2 x hx)⟩
 ·cases h
def mJ (x:Wn):Option Wn:=some x
theorem aOU:Sat prog cxT 92 (c92 mJ):=s92 mJ λx t h=>by cases h;exact⟨0,rfl⟩
def vY (a:List Wn):Option (List Wn):=if a.length<=900000000 then some a else none
theorem aRr (L:Nat)(a:List Wn):∀ (n:Nat) (o:List Wn) (i:Int) (k:List Wn->Option (List Wn)),xY mJ L a n o i k=toL (0,0) mJ a n o i k
 | 0,_,_,_=>rfl
 | n+1,o,i,k=>by unfold xY B42_0 toL;simp only[fB,aRr L a n]
theorem aPa:Sat prog cxT 42 (c42 vY):=s42 mJ aOU vY λa t h=>by
 unfold vY at h;split at h
 ·rename_i hc;cases h;exact⟨a.length+1,aA4 (aRr _ a) (Nat.lt_succ_self _) hc λx hx=>rfl⟩
 ·cases h
def mI (x:Sl):Option Sl:=some x
theorem aOT:Sat prog cxT 93 (c93 mI):=s93 _ aGf mI λx t h=>by cases h;exact⟨0,rfl⟩
def vX (a:List Sl):Option (List Sl):=if a.length<=900000000 then some a else none
theorem aRq (L:Nat)(a:List Sl):∀ (n:Nat) (o:List Sl) (i:Int) (k:List Sl->Option (List Sl)),xX mI L a n o i k=toL dS mI a n o i k
 | 0,_,_,_=>rfl
 | n+1,o,i,k=>by unfold xX B43_0 toL;simp only[fB,aRq L a n];rfl
theorem aO9:Sat prog cxT 43 (c43 vX):=s43 mI aOT vX λa t h=>by
 unfold vX at h;split at h
 ·rename_i hc;cases h;exact⟨a.length+1,aA4 (aRq _ a) (Nat.lt_succ_self _) hc λx hx=>rfl⟩
 ·cases h
def uV (c:Cl):Option Cl:=if cOk c then some c else none
theorem aPl:Sat prog cxT 13 (c13 uV):=s13 wA vZ vY vX aPc aPb aPa aO9 uV λc t h=>by
 obtain⟨a,b,w,d⟩:=c;unfold uV at h;split at h
 ·rename_i hc;cases h;obtain⟨h1,h2,h3,h4,h5,h6⟩:=oK hc;refine⟨0,?_⟩;show g13 wA vZ vY vX 0 a b w d=_;unfold g13 G13;dsimp only;rw[show wA a=some a from if_pos ⟨by omega,aEj (by unfold mH;omega)⟩,aV,show vZ b=some b from if_pos ⟨by omega,h6⟩,aV,show vY w=some w from if_pos (by omega),aV,show vX d=some d from if_pos (by omega),aV]
 ·cases h
theorem aPm:Sat prog cxT 12 (c12 qW):=s12 qW aPd qW λc t h=>by
 refine⟨0,?_⟩;show dL (qW c) 0 (λq=>some q)=_;rw[h,aV]
def mL3 (c:Cl):Option Bool:=if aCE c then some true else none
theorem sat3:Sat prog cxT 3 (c3 mL3):=s3 vL uV qW qW wH aPn aPl aPm aPk aPj mL3 λc t h=>by
 unfold mL3 at h;split at h
 ·rename_i hc;cases h;refine⟨0,?_⟩;have e1:vL (c,1048576)=some (pC 1048576 (szC c)):=if_pos ⟨rfl,hc⟩;obtain⟨a,b,w,d⟩:=c;show g3 vL uV qW qW wH 0 a b w d=_;unfold g3 G3;dsimp only;rw[show vL _=some _ from e1,aV];by_cases hz:pC 1048576 (szC (a,b,w,d)) < 0
  ·rw[dt hz];rfl
  have ho:=aOM hz;rw[df hz,cond_false,show uV (a,b,w,d)=some (a,b,w,d) from if_pos ho];simp only[aV];rw[show qW (a,b,w,d)=some (clF (a,b,w,d)) from if_pos ho];simp only[aV];rw[aCO rfl,cond_false,show wH ((a,b,w,d),(a,b,w,d))=some (decide ((a,b,w,d)=(a,b,w,d))) from if_pos ho,aV,dt rfl]
  rfl
 ·cases h
end Go.Proofs.Tryz
set_option maxHeartbeats 0
namespace Go.Proofs.Tryz
open Go.IntKind (wrap)
open Go Go.VM Go.RowKit
theorem fI:prog.cellsOf 2=1:=by kernel_rfl
theorem aNC:prog.cellsOf 4=1:=by kernel_rfl
theorem aCJ:prog.cellsOf 106=1:=by kernel_rfl
theorem aBN:prog.cellsOf 94=1:=by kernel_rfl
theorem aEz:prog.cellsOf 47=6:=by kernel_rfl
theorem zJ:prog.cellsOf 126=9:=by kernel_rfl
theorem aCI:prog.cellsOf 108=10:=by kernel_rfl
theorem aCH:prog.cellsOf 111=9:=by kernel_rfl
theorem aCG:prog.cellsOf 123=2:=by kernel_rfl
theorem aCF:prog.cellsOf 128=10:=by kernel_rfl
theorem aIK:prog.cellsOf 22=1:=by kernel_rfl
theorem aIJ:prog.cellsOf 23=1:=by kernel_rfl
theorem aII:prog.cellsOf 24=1:=by kernel_rfl
theorem aIH:prog.cellsOf 25=1:=by kernel_rfl
theorem aIG:prog.cellsOf 27=4:=by kernel_rfl
def fU (x:Int):Prop:=(Lit.int .i64 x).wf=true
def xF (f:Cm):Prop:=fU f.1/\fU f.2.1/\fU f.2.2.1/\fU f.2.2.2.1/\fU f.2.2.2.2.1/\fU f.2.2.2.2.2
def aNA (f:Cm):List (L cxT.ty):=[lv (.int .i64 f.1),lv (.int .i64 f.2.1),lv (.int .i64 f.2.2.1),lv (.int .i64 f.2.2.2.1),lv (.int .i64 f.2.2.2.2.1),lv (.int .i64 f.2.2.2.2.2)]
set_option maxRecDepth 100000 in
theorem opM:Opens prog cxT 47 aNA xF:=
 jL underlying47 aEz (cL (dQ underlying2) rfl fI (cL (dQ underlying2) rfl fI (cL (dQ underlying2) rfl fI (cL (dQ underlying2) rfl fI (cL (dQ underlying2) rfl fI (jY (l:=λx:Int=>lv (.int .i64 x)) (dQ underlying2) rfl fI))))))
def nF (x:En):Prop:=fU x.1/\fU x.2.1/\fU x.2.2.1/\xF x.2.2.2
def aIC (x:En):List (L cxT.ty):=[lv (.int .i64 x.1),lv (.int .i64 x.2.1),lv (.int .i64 x.2.2.1),lv (.int .i64 x.2.2.2.1),lv (.int .i64 x.2.2.2.2.1),lv (.int .i64 x.2.2.2.2.2.1),lv (.int .i64 x.2.2.2.2.2.2.1),lv (.int .i64 x.2.2.2.2.2.2.2.1),lv (.int .i64 x.2.2.2.2.2.2.2.2)]
def i1 (x:Int):List (L cxT.ty):=[lv (.int .i64 x)]
theorem aIf:Opens prog cxT 2 i1 fU:=dQ underlying2
set_option maxRecDepth 100000 in
theorem opE:Opens prog cxT 126 aIC nF:=
 rA (T:=En) (k:=1+(1+(1+6))) (enc:=λx=>i1 x.1++(i1 x.2.1++(i1 x.2.2.1++aNA x.2.2.2))) (good:=nF) underlying126 zJ
  (mM (enc1:=i1) (good:=fU) aIf rfl fI (mM (enc1:=i1) (good:=fU) aIf rfl fI (mM (enc1:=i1) (good:=fU) aIf rfl fI (rZ (enc:=aNA) (good:=xF) opM rfl aEz))))
def uF (x:List En):Prop:=x.length<=maxLen/\∀ y∈x,nF y
def wU (xs:List En):L cxT.ty:=some (.inr (ro 126 xs))
set_option maxRecDepth 100000 in
theorem aPw:Opens prog cxT 106 (λx:List En=>[wU x]) uF:=
 jB (cx:=cxT) (e:=126) (good:=nF) underlying106 zJ (by decide) bD opE
def qP (x:List Int):Prop:=x.length<=maxLen/\∀ y∈x,fU y
def aC8 (xs:List Int):L cxT.ty:=some (.inr (ro 2 xs))
set_option maxRecDepth 100000 in
theorem aMN:Opens prog cxT 94 (λx:List Int=>[aC8 x]) qP:=
 jB (cx:=cxT) (e:=2) (good:=fU) underlying94 fI (by decide) bD (dQ (cx:=cxT) underlying2)
def aWW (x:Nd):List (L cxT.ty):=[lv (.int .i64 x.1),lv (.int .i64 x.2.1),lv (.int .i64 x.2.2.1),lv (.int .i64 x.2.2.2.1),wU x.2.2.2.2.1,lv (.int .i64 x.2.2.2.2.2.1),lv (.int .i64 x.2.2.2.2.2.2.1),aC8 x.2.2.2.2.2.2.2.1,aC8 x.2.2.2.2.2.2.2.2.1,aC8 x.2.2.2.2.2.2.2.2.2]
def pH (x:Nd):Prop:=fU x.1/\fU x.2.1/\fU x.2.2.1/\fU x.2.2.2.1/\uF x.2.2.2.2.1/\fU x.2.2.2.2.2.1/\fU x.2.2.2.2.2.2.1/\qP x.2.2.2.2.2.2.2.1/\qP x.2.2.2.2.2.2.2.2.1/\qP x.2.2.2.2.2.2.2.2.2
set_option maxRecDepth 100000 in
theorem opN:Opens prog cxT 108 aWW pH:=
 jL underlying108 aCI (cL (dQ underlying2) rfl fI (cL (dQ underlying2) rfl fI (cL (dQ underlying2) rfl fI (cL (dQ underlying2) rfl fI (cL (l:=wU) aPw rfl aCJ
  (cL (dQ underlying2) rfl fI (cL (dQ underlying2) rfl fI (cL (l:=aC8) aMN rfl aBN (cL (l:=aC8) aMN rfl aBN (jY (l:=aC8) aMN rfl aBN))))))))))
def aWX (x:Ml):List (L cxT.ty):=[lv (.int .i64 x.1),lv (.int .i64 x.2.1),lv (.int .i64 x.2.2.1),lv (.int .i64 x.2.2.2.1),lv (.int .i64 x.2.2.2.2.1),lv (.int .i64 x.2.2.2.2.2.1),lv (.int .i64 x.2.2.2.2.2.2.1),lv (.bool x.2.2.2.2.2.2.2.1),wU x.2.2.2.2.2.2.2.2]
def tH (x:Ml):Prop:=fU x.1/\fU x.2.1/\fU x.2.2.1/\fU x.2.2.2.1/\fU x.2.2.2.2.1/\fU x.2.2.2.2.2.1/\fU x.2.2.2.2.2.2.1/\True/\uF x.2.2.2.2.2.2.2.2
set_option maxRecDepth 100000 in
theorem opL:Opens prog cxT 111 aWX tH:=
 jL underlying111 aCH (cL (dQ underlying2) rfl fI (cL (dQ underlying2) rfl fI (cL (dQ underlying2) rfl fI (cL (dQ underlying2) rfl fI (cL (dQ underlying2) rfl fI
  (cL (dQ underlying2) rfl fI (cL (dQ underlying2) rfl fI (cL (l:=λx:Bool=>lv (.bool x)) (aDg underlying4) rfl aNC (jY (l:=wU) aPw rfl aCJ)))))))))
def aWU (x:Wn):List (L cxT.ty):=[lv (.int .i64 x.1),lv (.int .i64 x.2)]
def tG (x:Wn):Prop:=fU x.1/\fU x.2
set_option maxRecDepth 100000 in
theorem opW:Opens prog cxT 123 aWU tG:=jL underlying123 aCG (cL (dQ underlying2) rfl fI (jY (l:=λx:Int=>lv (.int .i64 x)) (dQ underlying2) rfl fI))
def aWV (x:Sl):List (L cxT.ty):=lv (.int .i64 x.1)::aIC x.2
def pG (x:Sl):Prop:=fU x.1/\nF x.2
set_option maxRecDepth 100000 in
theorem opS:Opens prog cxT 128 aWV pG:=
 rA (T:=Sl) (k:=1+9) (enc:=λx=>i1 x.1++aIC x.2) (good:=pG) underlying128 aCF (mM (enc1:=i1) (good:=fU) aIf rfl fI (rZ (enc:=aIC) (good:=nF) opE rfl zJ))
def pF {α:Type}(p:α->Prop)(x:List α):Prop:=x.length<=maxLen/\∀ y∈x,p y
def aDc (xs:List Nd):L cxT.ty:=some (.inr (ro 108 xs))
def aDb (xs:List Ml):L cxT.ty:=some (.inr (ro 111 xs))
def aDa (xs:List Wn):L cxT.ty:=some (.inr (ro 123 xs))
def aC9 (xs:List Sl):L cxT.ty:=some (.inr (ro 128 xs))
set_option maxRecDepth 100000 in
theorem aVG:Opens prog cxT 22 (λx:List Nd=>[aDc x]) (pF pH):=jB (cx:=cxT) (e:=108) (good:=pH) underlying22 aCI (by decide) bD opN
set_option maxRecDepth 100000 in
theorem aVH:Opens prog cxT 23 (λx:List Ml=>[aDb x]) (pF tH):=jB (cx:=cxT) (e:=111) (good:=tH) underlying23 aCH (by decide) bD opL
set_option maxRecDepth 100000 in
theorem aVE:Opens prog cxT 24 (λx:List Wn=>[aDa x]) (pF tG):=jB (cx:=cxT) (e:=123) (good:=tG) underlying24 aCG (by decide) bD opW
set_option maxRecDepth 100000 in
theorem aVF:Opens prog cxT 25 (λx:List Sl=>[aC9 x]) (pF pG):=jB (cx:=cxT) (e:=128) (good:=pG) underlying25 aCF (by decide) bD opS
def encC (c:Cl):List (L cxT.ty):=[aDc c.1,aDb c.2.1,aDa c.2.2.1,aC9 c.2.2.2]
def opC_good (c:Cl):Prop:=pF pH c.1/\pF tH c.2.1/\pF tG c.2.2.1/\pF pG c.2.2.2
set_option maxRecDepth 100000 in
theorem opC:Opens prog cxT 27 encC opC_good:=
 jL underlying27 aIG (cL (l:=aDc) aVG rfl aIK (cL (l:=aDb) aVH rfl aIJ (cL (l:=aDa) aVE rfl aII (jY (l:=aC9) aVF rfl aIH))))
theorem nU {α:Type}{x:List α}{p:α->Prop}(h:x.length<=maxLen/\∀ y∈x,p y):x.length<=top:=dI h.1 (by decide)
theorem aMQ {x:Nd}(h:pH x):pA x top:=⟨nU h.2.2.2.2.1,nU h.2.2.2.2.2.2.2.1,nU h.2.2.2.2.2.2.2.2.1,nU h.2.2.2.2.2.2.2.2.2⟩
theorem cl_top {c:Cl}(h:opC_good c):aCE c:=⟨⟨nU h.1,λx hx=>aMQ (h.1.2 x hx)⟩,⟨nU h.2.1,λx hx=>nU (h.2.1.2 x hx).2.2.2.2.2.2.2.2⟩,nU h.2.2.1,nU h.2.2.2⟩
end Go.Proofs.Tryz
