/- A part of the proof of FnExactLeaderOf: LmWa, LmWb, LmWc. -/
import Derived.Test.YtnmbggfkmkcmkaaGreatLmRa
import Derived.Test.YtnmbggfkmkcmkaaGreatLmVa
set_option linter.unusedSimpArgs false
set_option linter.unusedVariables false
set_option maxHeartbeats 0
namespace Go.Proofs.Tryz
open Go.IntKind (wrap)
open Go Go.VM Go.RowKit
def gG (x:Nd×Ml):Option Int:=if nK x.1 lN/\(wI x.2).length<=lN then some (mlF x.1 x.2)else none
theorem aOu:Sat prog cxT 107 (aKS gG):=aYA eF cE dD eG qH lV mN jD aHF vT aCz aDs aHD aOd aOc aOb gG λx t h=>by
 obtain⟨⟨a,b,c,d,lg,e,f,vt,nx,mt⟩,m⟩:=x;obtain⟨ma,mb,mc,md,me,mf,mg,mo,ml⟩:=m;unfold gG at h;split at h
 ·rename_i hm;cases h;refine⟨0,?_⟩;show aIV eF cE dD eG qH lV mN jD 0 a b c d lg e f vt nx mt ma mb mc md me mf mg mo ml=_;unfold aIV G107 mlF mlB;rw[show eF (a,b,c,d,lg,e,f,vt,nx,mt)=some (ndF (a,b,c,d,lg,e,f,vt,nx,mt)) from if_pos hm.1,show lV (ma,mb,mc,md,me,mf,mg,mo,ml)=some (heK (ma,mb,mc,md,me,mf,mg,mo,ml)) from if_pos hm.2];simp only[cE,dD,eG,mN,jD,aP,show qH ml=some (tL ml) from rfl,sC];by_cases hn:ndF (a,b,c,d,lg,e,f,vt,nx,mt)=0
  ·rw[hn];have hp:=aHY hn;rw[uV hp];simp only[bqi]
   rfl
  ·rw[aPu,df hn];rfl
 ·cases h
def ff (f:Nat->Int):Nat->Nat->Int
 | 0,_=>0
 | n+1,i=>if f i=0 then ff f n (i+1)else f i
theorem aI2 {N:Nat}{f:Nat->Int}{l:Nat->Int->Option Int->Option Int}{k:Option Int}(hs:∀ n (i:Nat),i < N->l (n+1) (i:Int) k=if f i=0 then l n ((i+1:Nat):Int) k else some (f i))(he:∀ n,l (n+1) ((N:Nat):Int) k=k) :
  ∀ n (i:Nat),i<=N->N < n+i->l n (i:Int) k=if ff f (N-i) i=0 then k else some (ff f (N-i) i)
 | 0,i,h1,h2=>by omega
 | n+1,i,h1,h2=>by
  by_cases hi:i < N
  ·rw[hs n i hi,show N-i=(N-(i+1))+1 by omega];show(if f i=0 then _ else _)=if(if f i=0 then _ else _)=0 then k else some (if f i=0 then _ else _)
   by_cases hf:f i=0
   ·simp only[if_pos hf];exact aI2 hs he n (i+1) (by omega) (by omega)
   ·simp only[if_neg hf]
  ·rw[show i=N by omega,he,rN]
   rfl
theorem nH {N:Nat}{f:Nat->Int}{l:Nat->Int->Option Int->Option Int}{k:Option Int}(hs:∀ n (i:Nat),i < N->l (n+1) (i:Int) k=if f i=0 then l n ((i+1:Nat):Int) k else some (f i))(he:∀ n,l (n+1) ((N:Nat):Int) k=k){n:Nat}(hn:N < n):l n 0 k=if ff f N 0=0 then k else some (ff f N 0):=aI2 hs he n 0 (dI _) hn
def fN (a:List Nd)(i:Nat):Int:=if ndF (a.getD i dN)=0 then(if(a.getD i dN).1=(i:Int)then(if(a.getD i dN).2.1=(a.length:Int)then 0 else 1)else 1)else ndF (a.getD i dN)
def vY (n:Nat)(i:Int):Bool:=decide (0<=i/\i<=(n:Int)-1)
def toM (m:Ml):Int:=m.2.2.1
def fM (a:List Nd)(b:List Ml)(i:Nat):Int:=if vY a.length (toM (b.getD i dM))=true then mlB (a.getD (toM (b.getD i dM)).toNat dN) (b.getD i dM)else 3
def fW (n:Nat)(c:List Wn)(i:Nat):Int:=if sC (c.getD i (0,0)).1=true then(if vY n (c.getD i (0,0)).2=true then 0 else 3)else 3
def fS (d:List Sl)(i:Nat):Int:=if sC (d.getD i dS).1=true then enF (d.getD i dS).2 else 3
def clF (c:Cl):Int:=
 if(c.1.length:Int) < 1 then 2 else if(c.1.length:Int) > 5 then 2 else if(c.2.1.length:Int) > 80 then 2 else
 if ff (fN c.1) c.1.length 0=0 then(if ff (fM c.1 c.2.1) c.2.1.length 0=0 then(if(c.2.2.1.length:Int) > 400 then 2 else if(c.2.2.2.length:Int) > 40 then 2 else
  if ff (fW c.1.length c.2.2.1) c.2.2.1.length 0=0 then ff (fS c.2.2.2) c.2.2.2.length 0 else ff (fW c.1.length c.2.2.1) c.2.2.1.length 0)else ff (fM c.1 c.2.1) c.2.1.length 0)else ff (fN c.1) c.1.length 0
def hM (c:Cl):Option Int:=if cOk c then some (clF c)else none
def eJ (x:Cl×Int):Option Bool:=if x.1.1.length<=lN then some (vY x.1.1.length x.2)else none
theorem aQ4:Sat prog cxT 68 (c68 eJ):=s68 bN nA eJ λx t h=>by
 obtain⟨c,i⟩:=x;unfold eJ at h;split at h
 ·rename_i hc;cases h;have hc:c.1.length<=1000000000:=hc;refine⟨0,?_⟩;show cU (bN (i,0,wrap .i64 ((c.1.length:Int)-1))) false (λq=>some q)=_;rw[wi (by omega) (by omega)]
  rfl
 ·cases h
theorem aPq {a:List Nd}(h:dF wD a<=900000000)(i:Nat):nK (a.getD i dN) lN:=by
 by_cases hi:i < a.length
 ·exact aEB (by have:=nS (w:=wD) (λy _=>aCq y) _ (mT dN hi);unfold lN;omega)
 ·rw[show a.getD i dN=dN by simp[List.getD,hi]];exact⟨dI _,dI _,dI _,dI _⟩
theorem aVw {b:List Ml}(h:aE2 b)(i:Nat):(wI (b.getD i dM)).length<=lN:=by
 by_cases hi:i < b.length
 ·exact h _ (mT dM hi)
 ·rw[show b.getD i dM=dM by simp[List.getD,hi]];exact dI _
theorem neC {x:Int}{o o':Option Int}:(bif x != 0 then o else o')=if x=0 then o' else o:=by
 by_cases h:x=0
 ·rw[if_pos h,wO h];rfl
 ·rw[if_neg h,rI h];rfl
theorem neB {x y:Int}{o o':Option Int}:(bif x != y then o else o')=if x=y then o' else o:=by
 by_cases h:x=y
 ·rw[if_pos h,wO h];rfl
 ·rw[if_neg h,rI h];rfl
theorem nB {b:Bool}{o o':Option Int}:(bif !b then o else o')=if b=true then o' else o:=by cases b<;>rfl
theorem plP {n:Nat}{i:Int}(h:vY n i=true):0<=i/\i < (n:Int):=by
 have:=of_decide_eq_true h;omega
section
variable (c : Cl) (hc : cOk c) (L : Nat)
include hc
theorem aNW (n:Nat)(i:Nat)(hi:i < c.1.length)(k:Option Int):qR eF eJ eL bN sF L c (n+1) (i:Int) k=if fN c.1 i=0 then qR eF eJ eL bN sF L c n ((i+1:Nat):Int) k else some (fN c.1 i):=by
 obtain⟨a,b,w,d⟩:=c;obtain⟨h1,h2,h3,h4,h5,h6⟩:=kV hc;have hi:i < a.length:=hi
 conv=>lhs;unfold qR B36_0;dsimp only[dX]
 have hd:(a.getD i (0,0,0,0,[],0,0,[],[],[]):Nd)=a.getD i dN:=rfl;simp(disch:=omega) only[dt,wi,cond_true,bM,bB,hd];rw[show eF (a.getD i dN)=some (ndF (a.getD i dN)) from if_pos (aPq (by omega) i),aP,neC,neB,neB];unfold fN;by_cases q1:ndF (a.getD i dN)=0
 ·by_cases q2:(a.getD i dN).1=(i:Int)
  ·by_cases q3:(a.getD i dN).2.1=(a.length:Int)
   ·simp only[if_pos q1,if_pos q2,if_pos q3];rfl
   ·simp only[if_pos q1,if_pos q2,if_neg q3];rfl
  ·simp only[if_pos q1,if_neg q2];rfl
 ·simp only[if_neg q1]
theorem aNV (n:Nat)(i:Nat)(hi:i < c.2.1.length)(k:Option Int):oD eF eJ eL bN sF L c (n+1) (i:Int) k=if fM c.1 c.2.1 i=0 then oD eF eJ eL bN sF L c n ((i+1:Nat):Int) k else some (fM c.1 c.2.1 i):=by
 obtain⟨a,b,w,d⟩:=c;obtain⟨h1,h2,h3,h4,h5,h6⟩:=kV hc;have hi:i < b.length:=hi
 conv=>lhs;unfold oD B36_2;dsimp only[dX]
 have hd:(b.getD i (0,0,0,0,0,0,0,false,[]):Ml)=b.getD i dM:=rfl;simp(disch:=omega) only[dt,wi,cond_true,bM,bB,hd];rw[show eJ ((a,b,w,d),(b.getD i dM).2.2.1)=some (vY a.length (toM (b.getD i dM))) from if_pos (by show a.length<=1000000000;omega),aP,nB];unfold fM;by_cases q1:vY a.length (toM (b.getD i dM))=true
 ·have hp:0<=(b.getD i dM).2.2.1/\(b.getD i dM).2.2.1 < (a.length:Int):=plP q1;rw[if_pos q1,if_pos q1,dt hp.1,dt hp.2,bM,cond_true];have e:eL (a.getD (toM (b.getD i dM)).toNat dN,b.getD i dM)=some (mlB (a.getD (toM (b.getD i dM)).toNat dN) (b.getD i dM)):=if_pos (aVw h6 i);show cU (eL (a.getD (toM (b.getD i dM)).toNat dN,b.getD i dM)) 0 (λq7=>bif q7 != 0 then some q7 else oD eF eJ eL bN sF L (a,b,w,d) n ((i:Int)+1) k)=_;rw[e,aP,neC]
  rfl
 ·rw[if_neg q1,if_neg q1];rfl
theorem aNU (n:Nat)(i:Nat)(hi:i < c.2.2.1.length)(k:Option Int):oC eF eJ eL bN sF L c (n+1) (i:Int) k=if fW c.1.length c.2.2.1 i=0 then oC eF eJ eL bN sF L c n ((i+1:Nat):Int) k else some (fW c.1.length c.2.2.1 i):=by
 obtain⟨a,b,w,d⟩:=c;obtain⟨h1,h2,h3,h4,h5,h6⟩:=kV hc;have hi:i < w.length:=hi
 conv=>lhs;unfold oC B36_4;dsimp only[dX]
 simp(disch:=omega) only[dt,wi,cond_true,bM,bB];rw[show bN ((w.getD i (0,0)).1,1,100000)=some (sC (w.getD i (0,0)).1) from rfl,aP,nB,show eJ ((a,b,w,d),(w.getD i (0,0)).2)=some (vY a.length (w.getD i (0,0)).2) from if_pos (by show a.length<=1000000000;omega),aP,nB];unfold fW;by_cases q1:sC (w.getD i (0,0)).1=true
 ·by_cases q2:vY a.length (w.getD i (0,0)).2=true
  ·simp only[if_pos q1,if_pos q2];rfl
  ·simp only[if_pos q1,if_neg q2];rfl
 ·simp only[if_neg q1];rfl
theorem aNT (n:Nat)(i:Nat)(hi:i < c.2.2.2.length)(k:Option Int):nE eF eJ eL bN sF L c (n+1) (i:Int) k=if fS c.2.2.2 i=0 then nE eF eJ eL bN sF L c n ((i+1:Nat):Int) k else some (fS c.2.2.2 i):=by
 obtain⟨a,b,w,d⟩:=c;obtain⟨h1,h2,h3,h4,h5,h6⟩:=kV hc;have hi:i < d.length:=hi
 conv=>lhs;unfold nE B36_6;dsimp only[dX]
 have hd:(d.getD i (0,0,0,0,0,0,0,0,0,0):Sl)=d.getD i dS:=rfl;simp(disch:=omega) only[dt,wi,cond_true,bM,bB,hd];rw[show bN ((d.getD i dS).1,1,100000)=some (sC (d.getD i dS).1) from rfl,aP,nB,show sF _=some (enF (d.getD i dS).2) from rfl,aP,neC];unfold fS;by_cases q1:sC (d.getD i dS).1=true
 ·simp only[if_pos q1];rfl
 ·simp only[if_neg q1];rfl
end
theorem aLf:Sat prog cxT 36 (c36 hM):=s36 eF eJ eL bN sF aQ5 aQ4 aQ3 nA aLd hM λc t h=>by
 unfold hM at h;split at h
 ·rename_i hc;cases h;refine⟨c.1.length+c.2.1.length+c.2.2.1.length+c.2.2.2.length+1,?_⟩
  generalize hL:c.1.length+c.2.1.length+c.2.2.1.length+c.2.2.2.length+1=L
  show g36 eF eJ eL bN sF L c=_;unfold g36 G36 A36_0 A36_2 A36_4 A36_6;dsimp only;rw[nH (l:=λn i k=>qR eF eJ eL bN sF L c n i k) (aNW c hc L · · · _) (λn=>by
    show qR _ _ _ _ _ _ _ (n+1) _ _=_
    conv=>lhs;unfold qR B36_0;dsimp only[dX]
    rw[df (by omega),cond_false]) (by omega)]
  rw[nH (l:=λn i k=>oD eF eJ eL bN sF L c n i k) (aNV c hc L · · · _) (λn=>by
    show oD _ _ _ _ _ _ _ (n+1) _ _=_
    conv=>lhs;unfold oD B36_2;dsimp only[dX]
    rw[df (by omega),cond_false]) (by omega)]
  rw[nH (l:=λn i k=>oC eF eJ eL bN sF L c n i k) (aNU c hc L · · · _) (λn=>by
    show oC _ _ _ _ _ _ _ (n+1) _ _=_
    conv=>lhs;unfold oC B36_4;dsimp only[dX]
    rw[df (by omega),cond_false]) (by omega)]
  rw[nH (l:=λn i k=>nE eF eJ eL bN sF L c n i k) (aNT c hc L · · · _) (λn=>by
    show nE _ _ _ _ _ _ _ (n+1) _ _=_
    conv=>lhs;unfold nE B36_6;dsimp only[dX]
    rw[df (by omega),cond_false]) (by omega)]
  unfold clF;simp only[cond_eq_ite,decide_eq_true_eq]
  repeat' split
  all_goals first | rfl | (rename_i h;rw[h]) | contradiction
 ·cases h
end Go.Proofs.Tryz
set_option maxHeartbeats 0
namespace Go.Proofs.Tryz
open Go.IntKind (wrap)
open Go Go.VM Go.RowKit
def gR (x:Int×Int):Option Bool:=if 0<=x.2/\x.2<=1000000000 then some (decide (0<=x.1/\x.1<=x.2-1))else none
theorem aLb:Sat prog cxT 80 (c80 gR):=s80 cE vT gR λx t h=>by
 obtain⟨i,n⟩:=x;unfold gR at h;split at h
 ·rename_i hc;cases h;have hc:0<=n/\n<=1000000000:=hc;refine⟨0,?_⟩;show cU (cE (i,0,wrap .i64 (n-1))) false (λq=>some q)=_;rw[wi (by omega) (by omega)]
  rfl
 ·cases h
theorem aRF {n:Nat}(hn:n<=1000000000)(i:Int):gR (i,(n:Int))=some (vY n i):=if_pos ⟨by show 0<=(n:Int);omega,by show(n:Int)<=1000000000;omega⟩
def mB (a:List Nd):Option Int:=if dF wD a<=900000000 then some (ff (fN a) a.length 0)else none
theorem aQY:Sat prog cxT 77 (c77 mB):=s77 eF aHF mB λa t h=>by
 unfold mB at h;split at h
 ·rename_i hc;cases h;have hn:=oB aJQ a;refine⟨a.length+1,?_⟩;show g77 eF (a.length+1) a=_;unfold g77 G77 A77_0;dsimp only;rw[nH (f:=fN a) (N:=a.length) (l:=λn i k=>sO eF (a.length+1) a n i k) (λn i hi=>?_) (λn=>by
    show sO _ _ _ (n+1) _ _=_
    conv=>lhs;unfold sO B77_0;dsimp only[dX]
    rw[df (by omega),cond_false]) (by omega)]
  ·split
   ·rename_i hz;rw[hz]
   ·rfl
  ·show sO _ _ _ (n+1) _ _=_
   conv=>lhs;unfold sO B77_0;dsimp only[dX]
   have hd:(a.getD i (0,0,0,0,[],0,0,[],[],[]):Nd)=a.getD i dN:=rfl;simp(disch:=omega) only[dt,wi,cond_true,bM,bB,hd];have e:eF (a.getD i dN)=some (ndF (a.getD i dN)):=if_pos (aPq (by omega) i);rw[show eF _=some _ from e,aP,neC,neB,neB];unfold fN;by_cases q1:ndF (a.getD i dN)=0
   ·by_cases q2:(a.getD i dN).1=(i:Int)
    ·by_cases q3:(a.getD i dN).2.1=(a.length:Int)
     ·simp only[if_pos q1,if_pos q2,if_pos q3];rfl
     ·simp only[if_pos q1,if_pos q2,if_neg q3];rfl
    ·simp only[if_pos q1,if_neg q2];rfl
   ·simp only[if_neg q1]
 ·cases h
def mA (x:List Nd×List Ml):Option Int:=if dF wD x.1<=900000000/\aE2 x.2/\x.2.length<=900000000/\ff (fN x.1) x.1.length 0=0 then some (ff (fM x.1 x.2) x.2.length 0)else none
theorem yV {f:Nat->Int}:∀ (n i:Nat),ff f n i=0->∀ j,i<=j->j < i+n->f j=0
 | 0,i,_,j,h1,h2=>by omega
 | n+1,i,h,j,h1,h2=>by
  have h:(if f i=0 then ff f n (i+1)else f i)=0:=h;by_cases hf:f i=0
  ·rw[if_pos hf]at h;by_cases hj:j=i
   ·rw[hj];exact hf
   ·exact yV n (i+1) h j (by omega) (by omega)
  ·rw[if_neg hf]at h;exact absurd h hf
theorem aTh {a:List Nd}(h:ff (fN a) a.length 0=0){i:Nat}(hi:i < a.length):ndF (a.getD i dN)=0:=by
 have:=yV _ _ h i (dI _) (by omega);unfold fN at this;by_cases q:ndF (a.getD i dN)=0
 ·exact q
 ·rw[if_neg q]at this;exact absurd this q
theorem aQX:Sat prog cxT 78 (c78 mA):=s78 gR gG aLb aOu mA λx t h=>by
 obtain⟨a,b⟩:=x;unfold mA at h;split at h
 ·rename_i hc;cases h;obtain⟨c1,c2,c3,c4⟩:=hc;simp only at c1 c2 c3 c4;have hn:=oB aJQ a;refine⟨b.length+1,?_⟩;show g78 gR gG (b.length+1) a b=_;unfold g78 G78 A78_0;dsimp only;rw[nH (f:=fM a b) (N:=b.length) (l:=λn i k=>qK gR gG (b.length+1) a b n i k) (λn i hi=>?_) (λn=>by
    show qK _ _ _ _ _ (n+1) _ _=_
    conv=>lhs;unfold qK B78_0;dsimp only[dX]
    rw[df (by omega),cond_false]) (by omega)]
  ·split
   ·rename_i hz;rw[hz]
   ·rfl
  ·show qK _ _ _ _ _ (n+1) _ _=_
   conv=>lhs;unfold qK B78_0;dsimp only[dX]
   have hd:(b.getD i (0,0,0,0,0,0,0,false,[]):Ml)=b.getD i dM:=rfl;simp(disch:=omega) only[dt,wi,cond_true,bM,bB,hd];rw[aRF (by omega),aP,nB];unfold fM;by_cases q1:vY a.length (toM (b.getD i dM))=true
   ·have hp:0<=(b.getD i dM).2.2.1/\(b.getD i dM).2.2.1 < (a.length:Int):=plP q1;rw[if_pos (show vY a.length (b.getD i dM).2.2.1=true from q1),if_pos q1,dt hp.1,dt hp.2,bM,cond_true];have e0:=aTh c4 (i:=(toM (b.getD i dM)).toNat) (by unfold toM;omega);have e:gG (a.getD (toM (b.getD i dM)).toNat dN,b.getD i dM)=some (mlB (a.getD (toM (b.getD i dM)).toNat dN) (b.getD i dM)):=(if_pos ⟨aPq (by omega) _,aVw c2 i⟩).trans (by
     unfold mlF;rw[e0];rfl)
    show cU (gG (a.getD (toM (b.getD i dM)).toNat dN,b.getD i dM)) 0 (λq7=>bif q7 != 0 then some q7 else qK gR gG (b.length+1) a b n ((i:Int)+1) _)=_;rw[e,aP,neC]
    rfl
   ·rw[if_neg (show ¬ vY a.length (b.getD i dM).2.2.1=true from q1),if_neg q1];rfl
 ·cases h
def lU (d:List Sl):Option Int:=if d.length<=900000000 then some (ff (fS d) d.length 0)else none
theorem aQW:Sat prog cxT 81 (c81 lU):=s81 eG sF aDs aHE lU λd t h=>by
 unfold lU at h;split at h
 ·rename_i hc;cases h;refine⟨d.length+1,?_⟩;show g81 eG sF (d.length+1) d=_;unfold g81 G81 A81_0;dsimp only;rw[nH (f:=fS d) (N:=d.length) (l:=λn i k=>sN eG sF (d.length+1) d n i k) (λn i hi=>?_) (λn=>by
    show sN _ _ _ _ (n+1) _ _=_
    conv=>lhs;unfold sN B81_0;dsimp only[dX]
    rw[df (by omega),cond_false]) (by omega)]
  ·split
   ·rename_i hz;rw[hz]
   ·rfl
  ·show sN _ _ _ _ (n+1) _ _=_
   conv=>lhs;unfold sN B81_0;dsimp only[dX]
   have hd:(d.getD i (0,0,0,0,0,0,0,0,0,0):Sl)=d.getD i dS:=rfl;simp(disch:=omega) only[dt,wi,cond_true,bM,bB,hd];rw[show eG (d.getD i dS).1=some (sC (d.getD i dS).1) from rfl,aP,nB,show sF _=some (enF (d.getD i dS).2) from rfl,aP,neC];unfold fS;by_cases q1:sC (d.getD i dS).1=true
   ·simp only[if_pos q1];rfl
   ·simp only[if_neg q1];rfl
 ·cases h
theorem aLe:Sat prog cxT 42 (c42 hM):=s42 jC mB mA eG gR lU aLc aQY aQX aDs aLb aQW hM λc t h=>by
 obtain⟨a,b,w,d⟩:=c;unfold hM at h;split at h
 ·rename_i hc;cases h;obtain⟨h1,h2,h3,h4,h5,h6⟩:=kV hc;refine⟨w.length+1,?_⟩;show g42 jC mB mA eG gR lU (w.length+1) a b w d=_;unfold g42 G42 A42_0 clF;dsimp only;rw[show jC (a.length:Int)=some (decide (1<=(a.length:Int)/\(a.length:Int)<=5)) from rfl,aP];by_cases p1:(a.length:Int) < 1
  ·rw[if_pos p1,df (by omega)];rfl
  rw[if_neg p1];by_cases p2:(a.length:Int) > 5
  ·rw[if_pos p2,df (by omega)];rfl
  rw[if_neg p2,dt (by omega),cC,cond_false];by_cases p3:(b.length:Int) > 80
  ·rw[if_pos p3,dt p3];rfl
  rw[if_neg p3,df p3,cond_false,show mB a=some (ff (fN a) a.length 0) from if_pos (by omega),aP,neC];by_cases p4:ff (fN a) a.length 0=0
  ·rw[if_pos p4,if_pos p4,show mA (a,b)=some (ff (fM a b) b.length 0) from if_pos ⟨by show dF wD a<=_;omega,h6,by show b.length<=_;omega,p4⟩,aP,neC];by_cases p5:ff (fM a b) b.length 0=0
   ·rw[if_pos p5,if_pos p5];by_cases p6:(w.length:Int) > 400
    ·rw[if_pos p6,dt p6];rfl
    rw[if_neg p6,df p6,cond_false];by_cases p7:(d.length:Int) > 40
    ·rw[if_pos p7,dt p7];rfl
    rw[if_neg p7,df p7,cond_false];refine(nH (f:=fW a.length w) (N:=w.length) (k:=some (ff (fS d) d.length 0)) (l:=λn i _=>sP jC mB mA eG gR lU (w.length+1) a b w d n a b w d i λw1 w2 w3 w4=>cU (lU w4) 0 λq1=>some q1) (λn i hi=>?_) (λn=>?_) (Nat.lt_succ_self _)).trans ?_
    ·show sP _ _ _ _ _ _ _ _ _ _ _ (n+1) _ _ _ _ _ _=_
     conv=>lhs;unfold sP B42_0;dsimp only[dX]
     simp(disch:=omega) only[dt,wi,cond_true,bM,bB];rw[show eG (w.getD i (0,0)).1=some (sC (w.getD i (0,0)).1) from rfl,aP,nB,aRF (by omega),aP,nB];unfold fW;by_cases q1:sC (w.getD i (0,0)).1=true
     ·by_cases q2:vY a.length (w.getD i (0,0)).2=true
      ·simp only[if_pos q1,if_pos q2];rfl
      ·simp only[if_pos q1,if_neg q2];rfl
     ·simp only[if_neg q1];rfl
    ·show sP _ _ _ _ _ _ _ _ _ _ _ (n+1) _ _ _ _ _ _=_
     conv=>lhs;unfold sP B42_0;dsimp only[dX]
     rw[df (by omega),cond_false,show lU d=some (ff (fS d) d.length 0) from if_pos (by omega)];rfl
    ·split<;>rfl
   ·rw[if_neg p5,if_neg p5]
  ·rw[if_neg p4,if_neg p4]
 ·cases h
end Go.Proofs.Tryz
set_option maxHeartbeats 0
namespace Go.Proofs.Tryz
open Go.IntKind (wrap)
open Go Go.VM Go.RowKit
def kM (x:Ml):Int:=((wI x).length:Int)
theorem aEj (x:Nd):0<=wN x:=by unfold wN;omega
theorem aEE (x:Ml):0<=kM x:=by unfold kM;omega
def aCJ (a:List Nd):Prop:=a.length<=top/\∀ x∈a,nK x top
def aCL (a:List Ml):Prop:=a.length<=top/\∀ x∈a,(wI x).length<=top
instance (a:List Nd):Decidable (aCJ a):=by unfold aCJ;infer_instance
instance (a:List Ml):Decidable (aCL a):=by unfold aCL;infer_instance
def yS (x:List Nd×Int):Option Int:=if 0<=x.2/\x.2<=1048576/\aCJ x.1 then some (pM x.2 ((x.1.length:Int)+dF wN x.1))else none
theorem aT7 (L:Nat)(a:List Nd)(v0:Int):∀ (n:Nat) (v i:Int) (k:Int->Option Int),aAp mM L a v0 n v i k=szL dN mM a n v i k
 | 0,_,_,_=>rfl
 | n+1,v,i,k=>by
  unfold aAp B32_0 szL;simp only[dX,aT7 L a v0 n]
  rfl
theorem aHq {α:Type}{d:α}{f:α×Int->Option Int}{w:α->Int}{a:List α}{v:Int}{L:Nat}{l:Nat->Int->Int->(Int->Option Int)->Option Int}(hl:∀ n v i k,l n v i k=szL d f a n v i k)(hL:a.length < L)(h0:0<=v)(h1:v<=1048576)(ha:a.length<=top)(hw:∀ x∈a,0<=w x)(hf:∀ x∈a,∀ v:Int,0<=v->v<=1048576->f (x,v)=some (pM v (w x))) :
  (bif decide (wrap .i64 (v-(a.length:Int)) < 0)then some (-1)else l L (wrap .i64 (v-(a.length:Int))) 0 some)=some (pM v ((a.length:Int)+dF w a)):=by
 unfold top at ha;rw[wi (by omega) (by omega)];have hs:=gU (w:=w) (l:=a) hw;by_cases h:v-(a.length:Int) < 0
 ·rw[dt h,cond_true];exact congrArg some (if_pos (by omega)).symm
 ·rw[df h,cond_false,hl];refine(aHr d f a w 1048576 (by omega) hw hf some L 0 _ (by omega) (by omega) (dI _) (by omega)).trans ?_;rw[fC];unfold pM;rw[show v-((a.length:Int)+dF w a)=v-(a.length:Int)-dF w a by omega];split<;>rfl
theorem aRq:Sat prog cxT 32 (c32 yS):=s32 mM aQ7 yS λx t h=>by
 obtain⟨a,v⟩:=x;unfold yS at h;split at h
 ·rename_i hc;cases h;obtain⟨h1,h2,h3,h4⟩:=hc;exact⟨a.length+1,aHq (aT7 _ a v) (Nat.lt_succ_self _) h1 h2 h3 (λx _=>aEj x) λx hx v k1 k2=>if_pos ⟨k1,k2,h4 x hx⟩⟩
 ·cases h
def yR (x:List Ml×Int):Option Int:=if 0<=x.2/\x.2<=1048576/\aCL x.1 then some (pM x.2 ((x.1.length:Int)+dF kM x.1))else none
theorem aT6 (L:Nat)(a:List Ml)(v0:Int):∀ (n:Nat) (v i:Int) (k:Int->Option Int),aAo mK L a v0 n v i k=szL dM mK a n v i k
 | 0,_,_,_=>rfl
 | n+1,v,i,k=>by
  unfold aAo B33_0 szL;simp only[dX,aT6 L a v0 n]
  rfl
theorem aRp:Sat prog cxT 33 (c33 yR):=s33 mK aQ6 yR λx t h=>by
 obtain⟨a,v⟩:=x;unfold yR at h;split at h
 ·rename_i hc;cases h;obtain⟨h1,h2,h3,h4⟩:=hc;exact⟨a.length+1,aHq (aT6 _ a v) (Nat.lt_succ_self _) h1 h2 h3 (λx _=>aEE x) λx hx v k1 k2=>if_pos ⟨k1,k2,h4 x hx⟩⟩
 ·cases h
def yQ (x:List Wn×Int):Option Int:=if 0<=x.2/\x.2<=1048576/\x.1.length<=top then some (pM x.2 x.1.length)else none
theorem aRo:Sat prog cxT 34 (c34 yQ):=s34 yQ λx t h=>by
 obtain⟨a,v⟩:=x;unfold yQ at h;split at h
 ·rename_i hc;cases h;exact⟨0,aCv hc.1 hc.2.1 hc.2.2⟩
 ·cases h
def yP (x:List Sl×Int):Option Int:=if 0<=x.2/\x.2<=1048576/\x.1.length<=top then some (pM x.2 x.1.length)else none
theorem aRn:Sat prog cxT 35 (c35 yP):=s35 yP λx t h=>by
 obtain⟨a,v⟩:=x;unfold yP at h;split at h
 ·rename_i hc;cases h;exact⟨0,aCv hc.1 hc.2.1 hc.2.2⟩
 ·cases h
def aD3 (c:Cl):Prop:=aCJ c.1/\aCL c.2.1/\c.2.2.1.length<=top/\c.2.2.2.length<=top
instance (c:Cl):Decidable (aD3 c):=by unfold aD3;infer_instance
def szC (c:Cl):Int:=(c.1.length:Int)+dF wN c.1+((c.2.1.length:Int)+dF kM c.2.1)+c.2.2.1.length+c.2.2.2.length
def gH (x:Cl×Int):Option Int:=if x.2=1048576/\aD3 x.1 then some (pM 1048576 (szC x.1))else none
theorem aLi:Sat prog cxT 10 (c10 gH):=s10 yS yR yQ yP aRq aRp aRo aRn gH λx t h=>by
 obtain⟨⟨a,b,w,d⟩,v⟩:=x;unfold gH at h;split at h
 ·rename_i hc;cases h;obtain⟨rfl,h1,h2,h3,h4⟩:=hc;have k1:=gU (w:=wN) (l:=a) λx _=>aEj x
  have k2:=gU (w:=kM) (l:=b) λx _=>aEE x
  refine⟨0,?_⟩;show g10 yS yR yQ yP 0 a b w d 1048576=some (pM 1048576 ((a.length:Int)+dF wN a+((b.length:Int)+dF kM b)+w.length+d.length));unfold g10 G10;dsimp only
  generalize hA:(a.length:Int)+dF wN a=A
  generalize hB:(b.length:Int)+dF kM b=B
  rw[show yS (a,1048576)=some (pM 1048576 A) from by rw[<-hA];exact if_pos ⟨by show(0:Int)<=1048576;omega,iH _,h1⟩,aP];by_cases q1:(1048576:Int)-A < 0
  ·rw[hJ q1,hJ (by omega)];rfl
  rw[kS q1,df q1,cond_false,show yR (b,1048576-A)=some (pM (1048576-A) B) from by rw[<-hB];exact if_pos ⟨by show 0<=1048576-A;omega,by show 1048576-A<=1048576;omega,h2⟩,aP];by_cases q2:(1048576:Int)-A-B < 0
  ·rw[hJ q2,hJ (by omega)];rfl
  rw[kS q2,df q2,cond_false,show yQ (w,1048576-A-B)=some (pM (1048576-A-B) w.length) from if_pos ⟨by show 0<=1048576-A-B;omega,by show 1048576-A-B<=1048576;omega,h3⟩,aP];by_cases q3:(1048576:Int)-A-B-w.length < 0
  ·rw[hJ q3,hJ (by omega)];rfl
  rw[kS q3,df q3,cond_false,show yP (d,1048576-A-B-w.length)=some (pM (1048576-A-B-w.length) d.length) from if_pos ⟨by show 0<=1048576-A-B-(w.length:Int);omega,by show 1048576-A-B-(w.length:Int)<=1048576;omega,h4⟩,aP];by_cases q4:(1048576:Int)-A-B-w.length-d.length < 0
  ·rw[hJ q4,hJ (by omega)];rfl
  rw[kS q4,df q4,cond_false,kS (by omega)];congr 1;omega
 ·cases h
theorem aK4 {c:Cl}(h:¬ pM 1048576 (szC c) < 0):cOk c:=by
 obtain⟨a,b,w,d⟩:=c;have h:¬ pM 1048576 ((a.length:Int)+dF wN a+((b.length:Int)+dF kM b)+w.length+d.length) < 0:=h;have h2:(a.length:Int)+dF wN a+((b.length:Int)+dF kM b)+w.length+d.length<=1048576:=by
  unfold pM at h;split at h<;>omega
 have e1:∀ l:List Nd,dF wD l<=9 * ((l.length:Int)+dF wN l):=by
  intro l
  induction l with
  | nil=>exact iH _
  | cons x r ih=>
   show wD x+dF wD r<=9 * (((r.length+1:Nat):Int)+(wN x+dF wN r));have:wD x<=9 * (1+wN x):=by unfold wD wN;omega
   omega
 have e2:∀ l:List Ml,dF wM l<=9 * ((l.length:Int)+dF kM l):=by
  intro l
  induction l with
  | nil=>exact iH _
  | cons x r ih=>
   show wM x+dF wM r<=9 * (((r.length+1:Nat):Int)+(kM x+dF kM r));have:wM x<=9 * (1+kM x):=by unfold wM kM;omega
   omega
 have k1:=e1 a;have k2:=e2 b;have k3:=gU (w:=wN) (l:=a) λx _=>aEj x
 have k4:=gU (w:=kM) (l:=b) λx _=>aEE x
 show dF wD a+dF wM b+2 * (w.length:Int)+10 * (d.length:Int)<=900000000;omega
theorem aCt {α:Type}{d:α}{f:α->Option α}{a:List α}{L:Nat}{l:Nat->List α->Int->(List α->Option (List α))->Option (List α)}(hl:∀ n o i k,l n o i k=toL d f a n o i k)(hL:a.length < L)(ha:a.length<=900000000)(hf:∀ x∈a,f x=some x) :
  (bif ((decide ((0:Int)<=(a.length:Int))&&decide ((a.length:Int)<=(a.length:Int)))&&decide ((a.length:Int)<=(1000000000:Int)))then l L (List.replicate (Int.toNat (a.length:Int)) d) 0 some else none)=some a:=by
 rw[aDG (by unfold lN;omega),cond_true,hl,bB];exact aCu d f a (by omega) hf some L 0 _ (by simp) (dI _) (by omega) rfl
def yO (a:List Nd):Option (List Nd):=if a.length<=900000000/\∀ x∈a,nK x lN then some a else none
theorem aT5 (L:Nat)(a:List Nd):∀ (n:Nat) (o:List Nd) (i:Int) (k:List Nd->Option (List Nd)),aAn mJ L a n o i k=toL dN mJ a n o i k
 | 0,_,_,_=>rfl
 | n+1,o,i,k=>by unfold aAn B38_0 toL;simp only[dX,aT5 L a n];rfl
theorem aRm:Sat prog cxT 38 (c38 yO):=s38 mJ aQ2 yO λa t h=>by
 unfold yO at h;split at h
 ·rename_i hc;cases h;exact⟨a.length+1,aCt (aT5 _ a) (Nat.lt_succ_self _) hc.1 λx hx=>if_pos (hc.2 x hx)⟩
 ·cases h
def yN (a:List Ml):Option (List Ml):=if a.length<=900000000/\aE2 a then some a else none
theorem aT4 (L:Nat)(a:List Ml):∀ (n:Nat) (o:List Ml) (i:Int) (k:List Ml->Option (List Ml)),aAm mI L a n o i k=toL dM mI a n o i k
 | 0,_,_,_=>rfl
 | n+1,o,i,k=>by unfold aAm B39_0 toL;simp only[dX,aT4 L a n];rfl
theorem aRl:Sat prog cxT 39 (c39 yN):=s39 mI aQ1 yN λa t h=>by
 unfold yN at h;split at h
 ·rename_i hc;cases h;exact⟨a.length+1,aCt (aT4 _ a) (Nat.lt_succ_self _) hc.1 λx hx=>if_pos (hc.2 x hx)⟩
 ·cases h
def mY (x:Wn):Option Wn:=some x
theorem aQ0:Sat prog cxT 74 (c74 mY):=s74 mY λx t h=>by cases h;exact⟨0,rfl⟩
def yM (a:List Wn):Option (List Wn):=if a.length<=900000000 then some a else none
theorem aT3 (L:Nat)(a:List Wn):∀ (n:Nat) (o:List Wn) (i:Int) (k:List Wn->Option (List Wn)),aAl mY L a n o i k=toL (0,0) mY a n o i k
 | 0,_,_,_=>rfl
 | n+1,o,i,k=>by unfold aAl B40_0 toL;simp only[dX,aT3 L a n]
theorem aRk:Sat prog cxT 40 (c40 yM):=s40 mY aQ0 yM λa t h=>by
 unfold yM at h;split at h
 ·rename_i hc;cases h;exact⟨a.length+1,aCt (aT3 _ a) (Nat.lt_succ_self _) hc λx hx=>rfl⟩
 ·cases h
def mX (x:Sl):Option Sl:=some x
theorem aQZ:Sat prog cxT 75 (c75 mX):=s75 _ aHG mX λx t h=>by cases h;exact⟨0,rfl⟩
def yL (a:List Sl):Option (List Sl):=if a.length<=900000000 then some a else none
theorem aT2 (L:Nat)(a:List Sl):∀ (n:Nat) (o:List Sl) (i:Int) (k:List Sl->Option (List Sl)),aAk mX L a n o i k=toL dS mX a n o i k
 | 0,_,_,_=>rfl
 | n+1,o,i,k=>by unfold aAk B41_0 toL;simp only[dX,aT2 L a n];rfl
theorem aRj:Sat prog cxT 41 (c41 yL):=s41 mX aQZ yL λa t h=>by
 unfold yL at h;split at h
 ·rename_i hc;cases h;exact⟨a.length+1,aCt (aT2 _ a) (Nat.lt_succ_self _) hc λx hx=>rfl⟩
 ·cases h
def fK (c:Cl):Option Cl:=if cOk c then some c else none
theorem aLh:Sat prog cxT 12 (c12 fK):=s12 yO yN yM yL aRm aRl aRk aRj fK λc t h=>by
 obtain⟨a,b,w,d⟩:=c;unfold fK at h;split at h
 ·rename_i hc;cases h;obtain⟨h1,h2,h3,h4,h5,h6⟩:=kV hc;refine⟨0,?_⟩;show g12 yO yN yM yL 0 a b w d=_;unfold g12 G12;dsimp only;rw[show yO a=some a from if_pos ⟨by omega,aCK (by unfold lN;omega)⟩,aP,show yN b=some b from if_pos ⟨by omega,h6⟩,aP,show yM w=some w from if_pos (by omega),aP,show yL d=some d from if_pos (by omega),aP]
 ·cases h
end Go.Proofs.Tryz
