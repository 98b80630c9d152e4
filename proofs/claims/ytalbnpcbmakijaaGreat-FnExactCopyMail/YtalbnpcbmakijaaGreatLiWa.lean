/- A part of the proof of FnExactCopyMail: LiWa, LiWb, LiWc, LiTop. -/
import Derived.Test.YtalbnpcbmakijaaGreatLiRa
import Derived.Test.YtalbnpcbmakijaaGreatLiVa
import Derived.Test.YtalbnpcbmakijaaGreatLiFi
import Derived.Test.YtalbnpcbmakijaaGreatVmOpen
set_option linter.unusedSimpArgs false
set_option linter.unusedVariables false
set_option maxHeartbeats 0
namespace Go.Proofs.Tryz
open Go.IntKind (wrap)
open Go Go.VM Go.RowKit
def mN (x:Nd×Ml):Option Int:=if oS x.1 oP/\(tL x.2).length<=oP then some (mlF x.1 x.2)else none
theorem aTW:Sat prog cxT 96 (c96 mN):=s96 eJ eM dH eN rU mU nW jV aNd aCM aDq aEh aI3 aQW aQV aQU mN λx t h=>by
 obtain⟨⟨a,b,c,d,lg,e,f,vt,nx,mt⟩,m⟩:=x;obtain⟨ma,mb,mc,md,me,mf,mg,mo,ml⟩:=m;unfold mN at h;split at h
 ·rename_i hm;cases h;refine⟨0,?_⟩;show g96 eJ eM dH eN rU mU nW jV 0 a b c d lg e f vt nx mt ma mb mc md me mf mg mo ml=_;unfold g96 G96 mlF mlB;rw[show eJ (a,b,c,d,lg,e,f,vt,nx,mt)=some (ndF (a,b,c,d,lg,e,f,vt,nx,mt)) from if_pos hm.1,show mU (ma,mb,mc,md,me,mf,mg,mo,ml)=some (heK (ma,mb,mc,md,me,mf,mg,mo,ml)) from if_pos hm.2];simp only[eM,dH,eN,nW,jV,aO,show rU ml=some (vB ml) from rfl,tH];by_cases hn:ndF (a,b,c,d,lg,e,f,vt,nx,mt)=0
  ·rw[hn];have hp:=aJr hn;rw[wY hp];simp only[bqi]
   rfl
  ·rw[aSu,df hn];rfl
 ·cases h
def ff (f:Nat->Int):Nat->Nat->Int
 | 0,_=>0
 | n+1,i=>if f i=0 then ff f n (i+1)else f i
theorem aKO {N:Nat}{f:Nat->Int}{l:Nat->Int->Option Int->Option Int}{k:Option Int}(hs:∀ n (i:Nat),i < N->l (n+1) (i:Int) k=if f i=0 then l n ((i+1:Nat):Int) k else some (f i))(he:∀ n,l (n+1) ((N:Nat):Int) k=k) :
  ∀ n (i:Nat),i<=N->N < n+i->l n (i:Int) k=if ff f (N-i) i=0 then k else some (ff f (N-i) i)
 | 0,i,h1,h2=>by omega
 | n+1,i,h1,h2=>by
  by_cases hi:i < N
  ·rw[hs n i hi,show N-i=(N-(i+1))+1 by omega];show(if f i=0 then _ else _)=if(if f i=0 then _ else _)=0 then k else some (if f i=0 then _ else _)
   by_cases hf:f i=0
   ·simp only[if_pos hf];exact aKO hs he n (i+1) (by omega) (by omega)
   ·simp only[if_neg hf]
  ·rw[show i=N by omega,he,mE]
   rfl
theorem pB {N:Nat}{f:Nat->Int}{l:Nat->Int->Option Int->Option Int}{k:Option Int}(hs:∀ n (i:Nat),i < N->l (n+1) (i:Int) k=if f i=0 then l n ((i+1:Nat):Int) k else some (f i))(he:∀ n,l (n+1) ((N:Nat):Int) k=k){n:Nat}(hn:N < n):l n 0 k=if ff f N 0=0 then k else some (ff f N 0):=aKO hs he n 0 (dZ _) hn
def fN (a:List Nd)(i:Nat):Int:=if ndF (a.getD i dN)=0 then(if(a.getD i dN).1=(i:Int)then(if(a.getD i dN).2.1=(a.length:Int)then 0 else 1)else 1)else ndF (a.getD i dN)
def xZ (n:Nat)(i:Int):Bool:=decide (0<=i/\i<=(n:Int)-1)
def toM (m:Ml):Int:=m.2.2.1
def fM (a:List Nd)(b:List Ml)(i:Nat):Int:=if xZ a.length (toM (b.getD i dM))=true then mlB (a.getD (toM (b.getD i dM)).toNat dN) (b.getD i dM)else 3
def fW (n:Nat)(c:List Wn)(i:Nat):Int:=if tH (c.getD i (0,0)).1=true then(if xZ n (c.getD i (0,0)).2=true then 0 else 3)else 3
def fS (d:List Sl)(i:Nat):Int:=if tH (d.getD i dS).1=true then enF (d.getD i dS).2 else 3
def clF (c:Cl):Int:=
 if(c.1.length:Int) < 1 then 2 else if(c.1.length:Int) > 5 then 2 else if(c.2.1.length:Int) > 80 then 2 else
 if ff (fN c.1) c.1.length 0=0 then(if ff (fM c.1 c.2.1) c.2.1.length 0=0 then(if(c.2.2.1.length:Int) > 400 then 2 else if(c.2.2.2.length:Int) > 40 then 2 else
  if ff (fW c.1.length c.2.2.1) c.2.2.1.length 0=0 then ff (fS c.2.2.2) c.2.2.2.length 0 else ff (fW c.1.length c.2.2.1) c.2.2.1.length 0)else ff (fM c.1 c.2.1) c.2.1.length 0)else ff (fN c.1) c.1.length 0
def vX (c:Cl):Option Int:=if cOk c then some (clF c)else none
def eR (x:Cl×Int):Option Bool:=if x.1.1.length<=oP then some (xZ x.1.1.length x.2)else none
theorem aT2:Sat prog cxT 86 (c86 eR):=s86 bM nN eR λx t h=>by
 obtain⟨c,i⟩:=x;unfold eR at h;split at h
 ·rename_i hc;cases h;have hc:c.1.length<=1000000000:=hc;refine⟨0,?_⟩;show dB (bM (i,0,wrap .i64 ((c.1.length:Int)-1))) false (λq=>some q)=_;rw[wi (by omega) (by omega)]
  rfl
 ·cases h
theorem aSp {a:List Nd}(h:bZ wD a<=900000000)(i:Nat):oS (a.getD i dN) oP:=by
 by_cases hi:i < a.length
 ·exact aDC (by have:=lV (w:=wD) (λy _=>aAA y) _ (oK dN hi);unfold oP;omega)
 ·rw[show a.getD i dN=dN by simp[List.getD,hi]];exact⟨dZ _,dZ _,dZ _,dZ _⟩
theorem aYM {b:List Ml}(h:aGb b)(i:Nat):(tL (b.getD i dM)).length<=oP:=by
 by_cases hi:i < b.length
 ·exact h _ (oK dM hi)
 ·rw[show b.getD i dM=dM by simp[List.getD,hi]];exact dZ _
theorem neC {x:Int}{o o':Option Int}:(bif x != 0 then o else o')=if x=0 then o' else o:=by
 by_cases h:x=0
 ·rw[if_pos h,rM h];rfl
 ·rw[if_neg h,yM h];rfl
theorem neB {x y:Int}{o o':Option Int}:(bif x != y then o else o')=if x=y then o' else o:=by
 by_cases h:x=y
 ·rw[if_pos h,rM h];rfl
 ·rw[if_neg h,yM h];rfl
theorem nB {b:Bool}{o o':Option Int}:(bif !b then o else o')=if b=true then o' else o:=by cases b<;>rfl
theorem plP {n:Nat}{i:Int}(h:xZ n i=true):0<=i/\i < (n:Int):=by
 have:=of_decide_eq_true h;omega
section
variable (c : Cl) (hc : cOk c) (L : Nat)
include hc
theorem aQv (n:Nat)(i:Nat)(hi:i < c.1.length)(k:Option Int):sB eJ eR eV bM tK L c (n+1) (i:Int) k=if fN c.1 i=0 then sB eJ eR eV bM tK L c n ((i+1:Nat):Int) k else some (fN c.1 i):=by
 obtain⟨a,b,w,d⟩:=c;obtain⟨h1,h2,h3,h4,h5,h6⟩:=kE hc;have hi:i < a.length:=hi
 conv=>lhs;unfold sB B39_0;dsimp only[dY]
 have hd:(a.getD i (0,0,0,0,[],0,0,[],[],[]):Nd)=a.getD i dN:=rfl;simp(disch:=omega) only[dt,wi,cond_true,bL,bF,hd];rw[show eJ (a.getD i dN)=some (ndF (a.getD i dN)) from if_pos (aSp (by omega) i),aO,neC,neB,neB];unfold fN;by_cases q1:ndF (a.getD i dN)=0
 ·by_cases q2:(a.getD i dN).1=(i:Int)
  ·by_cases q3:(a.getD i dN).2.1=(a.length:Int)
   ·simp only[if_pos q1,if_pos q2,if_pos q3];rfl
   ·simp only[if_pos q1,if_pos q2,if_neg q3];rfl
  ·simp only[if_pos q1,if_neg q2];rfl
 ·simp only[if_neg q1]
theorem aQu (n:Nat)(i:Nat)(hi:i < c.2.1.length)(k:Option Int):pW eJ eR eV bM tK L c (n+1) (i:Int) k=if fM c.1 c.2.1 i=0 then pW eJ eR eV bM tK L c n ((i+1:Nat):Int) k else some (fM c.1 c.2.1 i):=by
 obtain⟨a,b,w,d⟩:=c;obtain⟨h1,h2,h3,h4,h5,h6⟩:=kE hc;have hi:i < b.length:=hi
 conv=>lhs;unfold pW B39_2;dsimp only[dY]
 have hd:(b.getD i (0,0,0,0,0,0,0,false,[]):Ml)=b.getD i dM:=rfl;simp(disch:=omega) only[dt,wi,cond_true,bL,bF,hd];rw[show eR ((a,b,w,d),(b.getD i dM).2.2.1)=some (xZ a.length (toM (b.getD i dM))) from if_pos (by show a.length<=1000000000;omega),aO,nB];unfold fM;by_cases q1:xZ a.length (toM (b.getD i dM))=true
 ·have hp:0<=(b.getD i dM).2.2.1/\(b.getD i dM).2.2.1 < (a.length:Int):=plP q1;rw[if_pos q1,if_pos q1,dt hp.1,dt hp.2,bL,cond_true];have e:eV (a.getD (toM (b.getD i dM)).toNat dN,b.getD i dM)=some (mlB (a.getD (toM (b.getD i dM)).toNat dN) (b.getD i dM)):=if_pos (aYM h6 i);show dB (eV (a.getD (toM (b.getD i dM)).toNat dN,b.getD i dM)) 0 (λq7=>bif q7 != 0 then some q7 else pW eJ eR eV bM tK L (a,b,w,d) n ((i:Int)+1) k)=_;rw[e,aO,neC]
  rfl
 ·rw[if_neg q1,if_neg q1];rfl
theorem aQt (n:Nat)(i:Nat)(hi:i < c.2.2.1.length)(k:Option Int):pV eJ eR eV bM tK L c (n+1) (i:Int) k=if fW c.1.length c.2.2.1 i=0 then pV eJ eR eV bM tK L c n ((i+1:Nat):Int) k else some (fW c.1.length c.2.2.1 i):=by
 obtain⟨a,b,w,d⟩:=c;obtain⟨h1,h2,h3,h4,h5,h6⟩:=kE hc;have hi:i < w.length:=hi
 conv=>lhs;unfold pV B39_4;dsimp only[dY]
 simp(disch:=omega) only[dt,wi,cond_true,bL,bF];rw[show bM ((w.getD i (0,0)).1,1,100000)=some (tH (w.getD i (0,0)).1) from rfl,aO,nB,show eR ((a,b,w,d),(w.getD i (0,0)).2)=some (xZ a.length (w.getD i (0,0)).2) from if_pos (by show a.length<=1000000000;omega),aO,nB];unfold fW;by_cases q1:tH (w.getD i (0,0)).1=true
 ·by_cases q2:xZ a.length (w.getD i (0,0)).2=true
  ·simp only[if_pos q1,if_pos q2];rfl
  ·simp only[if_pos q1,if_neg q2];rfl
 ·simp only[if_neg q1];rfl
theorem aQs (n:Nat)(i:Nat)(hi:i < c.2.2.2.length)(k:Option Int):oW eJ eR eV bM tK L c (n+1) (i:Int) k=if fS c.2.2.2 i=0 then oW eJ eR eV bM tK L c n ((i+1:Nat):Int) k else some (fS c.2.2.2 i):=by
 obtain⟨a,b,w,d⟩:=c;obtain⟨h1,h2,h3,h4,h5,h6⟩:=kE hc;have hi:i < d.length:=hi
 conv=>lhs;unfold oW B39_6;dsimp only[dY]
 have hd:(d.getD i (0,0,0,0,0,0,0,0,0,0):Sl)=d.getD i dS:=rfl;simp(disch:=omega) only[dt,wi,cond_true,bL,bF,hd];rw[show bM ((d.getD i dS).1,1,100000)=some (tH (d.getD i dS).1) from rfl,aO,nB,show tK _=some (enF (d.getD i dS).2) from rfl,aO,neC];unfold fS;by_cases q1:tH (d.getD i dS).1=true
 ·simp only[if_pos q1];rfl
 ·simp only[if_neg q1];rfl
end
theorem aUs:Sat prog cxT 39 (c39 vX):=s39 eJ eR eV bM tK aT3 aT2 aT1 nN aNe vX λc t h=>by
 unfold vX at h;split at h
 ·rename_i hc;cases h;refine⟨c.1.length+c.2.1.length+c.2.2.1.length+c.2.2.2.length+1,?_⟩
  generalize hL:c.1.length+c.2.1.length+c.2.2.1.length+c.2.2.2.length+1=L
  show g39 eJ eR eV bM tK L c=_;unfold g39 G39 A39_0 A39_2 A39_4 A39_6;dsimp only;rw[pB (l:=λn i k=>sB eJ eR eV bM tK L c n i k) (aQv c hc L · · · _) (λn=>by
    show sB _ _ _ _ _ _ _ (n+1) _ _=_
    conv=>lhs;unfold sB B39_0;dsimp only[dY]
    rw[df (by omega),cond_false]) (by omega)]
  rw[pB (l:=λn i k=>pW eJ eR eV bM tK L c n i k) (aQu c hc L · · · _) (λn=>by
    show pW _ _ _ _ _ _ _ (n+1) _ _=_
    conv=>lhs;unfold pW B39_2;dsimp only[dY]
    rw[df (by omega),cond_false]) (by omega)]
  rw[pB (l:=λn i k=>pV eJ eR eV bM tK L c n i k) (aQt c hc L · · · _) (λn=>by
    show pV _ _ _ _ _ _ _ (n+1) _ _=_
    conv=>lhs;unfold pV B39_4;dsimp only[dY]
    rw[df (by omega),cond_false]) (by omega)]
  rw[pB (l:=λn i k=>oW eJ eR eV bM tK L c n i k) (aQs c hc L · · · _) (λn=>by
    show oW _ _ _ _ _ _ _ (n+1) _ _=_
    conv=>lhs;unfold oW B39_6;dsimp only[dY]
    rw[df (by omega),cond_false]) (by omega)]
  unfold clF;simp only[cond_eq_ite,decide_eq_true_eq]
  repeat' split
  all_goals first | rfl | (rename_i h;rw[h]) | contradiction
 ·cases h
end Go.Proofs.Tryz
set_option maxHeartbeats 0
namespace Go.Proofs.Tryz
open Go.IntKind (wrap)
open Go Go.VM Go.RowKit
def fY (x:Int×Int):Option Bool:=if 0<=x.2/\x.2<=1000000000 then some (decide (0<=x.1/\x.1<=x.2-1))else none
theorem aIY:Sat prog cxT 48 (c48 fY):=s48 eM aCM fY λx t h=>by
 obtain⟨i,n⟩:=x;unfold fY at h;split at h
 ·rename_i hc;cases h;have hc:0<=n/\n<=1000000000:=hc;refine⟨0,?_⟩;show dB (eM (i,0,wrap .i64 (n-1))) false (λq=>some q)=_;rw[wi (by omega) (by omega)]
  rfl
 ·cases h
theorem aUM {n:Nat}(hn:n<=1000000000)(i:Int):fY (i,(n:Int))=some (xZ n i):=if_pos ⟨by show 0<=(n:Int);omega,by show(n:Int)<=1000000000;omega⟩
def nI (a:List Nd):Option Int:=if bZ wD a<=900000000 then some (ff (fN a) a.length 0)else none
theorem aUn:Sat prog cxT 45 (c45 nI):=s45 eJ aNd nI λa t h=>by
 unfold nI at h;split at h
 ·rename_i hc;cases h;have hn:=kW aHm a;refine⟨a.length+1,?_⟩;show g45 eJ (a.length+1) a=_;unfold g45 G45 A45_0;dsimp only;rw[pB (f:=fN a) (N:=a.length) (l:=λn i k=>tU eJ (a.length+1) a n i k) (λn i hi=>?_) (λn=>by
    show tU _ _ _ (n+1) _ _=_
    conv=>lhs;unfold tU B45_0;dsimp only[dY]
    rw[df (by omega),cond_false]) (by omega)]
  ·split
   ·rename_i hz;rw[hz]
   ·rfl
  ·show tU _ _ _ (n+1) _ _=_
   conv=>lhs;unfold tU B45_0;dsimp only[dY]
   have hd:(a.getD i (0,0,0,0,[],0,0,[],[],[]):Nd)=a.getD i dN:=rfl;simp(disch:=omega) only[dt,wi,cond_true,bL,bF,hd];have e:eJ (a.getD i dN)=some (ndF (a.getD i dN)):=if_pos (aSp (by omega) i);rw[show eJ _=some _ from e,aO,neC,neB,neB];unfold fN;by_cases q1:ndF (a.getD i dN)=0
   ·by_cases q2:(a.getD i dN).1=(i:Int)
    ·by_cases q3:(a.getD i dN).2.1=(a.length:Int)
     ·simp only[if_pos q1,if_pos q2,if_pos q3];rfl
     ·simp only[if_pos q1,if_pos q2,if_neg q3];rfl
    ·simp only[if_pos q1,if_neg q2];rfl
   ·simp only[if_neg q1]
 ·cases h
def nH (x:List Nd×List Ml):Option Int:=if bZ wD x.1<=900000000/\aGb x.2/\x.2.length<=900000000/\ff (fN x.1) x.1.length 0=0 then some (ff (fM x.1 x.2) x.2.length 0)else none
theorem aG1 {f:Nat->Int}:∀ (n i:Nat),ff f n i=0->∀ j,i<=j->j < i+n->f j=0
 | 0,i,_,j,h1,h2=>by omega
 | n+1,i,h,j,h1,h2=>by
  have h:(if f i=0 then ff f n (i+1)else f i)=0:=h;by_cases hf:f i=0
  ·rw[if_pos hf]at h;by_cases hj:j=i
   ·rw[hj];exact hf
   ·exact aG1 n (i+1) h j (by omega) (by omega)
  ·rw[if_neg hf]at h;exact absurd h hf
theorem aWF {a:List Nd}(h:ff (fN a) a.length 0=0){i:Nat}(hi:i < a.length):ndF (a.getD i dN)=0:=by
 have:=aG1 _ _ h i (dZ _) (by omega);unfold fN at this;by_cases q:ndF (a.getD i dN)=0
 ·exact q
 ·rw[if_neg q]at this;exact absurd this q
theorem aUm:Sat prog cxT 46 (c46 nH):=s46 fY mN aIY aTW nH λx t h=>by
 obtain⟨a,b⟩:=x;unfold nH at h;split at h
 ·rename_i hc;cases h;obtain⟨c1,c2,c3,c4⟩:=hc;simp only at c1 c2 c3 c4;have hn:=kW aHm a;refine⟨b.length+1,?_⟩;show g46 fY mN (b.length+1) a b=_;unfold g46 G46 A46_0;dsimp only;rw[pB (f:=fM a b) (N:=b.length) (l:=λn i k=>sA fY mN (b.length+1) a b n i k) (λn i hi=>?_) (λn=>by
    show sA _ _ _ _ _ (n+1) _ _=_
    conv=>lhs;unfold sA B46_0;dsimp only[dY]
    rw[df (by omega),cond_false]) (by omega)]
  ·split
   ·rename_i hz;rw[hz]
   ·rfl
  ·show sA _ _ _ _ _ (n+1) _ _=_
   conv=>lhs;unfold sA B46_0;dsimp only[dY]
   have hd:(b.getD i (0,0,0,0,0,0,0,false,[]):Ml)=b.getD i dM:=rfl;simp(disch:=omega) only[dt,wi,cond_true,bL,bF,hd];rw[aUM (by omega),aO,nB];unfold fM;by_cases q1:xZ a.length (toM (b.getD i dM))=true
   ·have hp:0<=(b.getD i dM).2.2.1/\(b.getD i dM).2.2.1 < (a.length:Int):=plP q1;rw[if_pos (show xZ a.length (b.getD i dM).2.2.1=true from q1),if_pos q1,dt hp.1,dt hp.2,bL,cond_true];have e0:=aWF c4 (i:=(toM (b.getD i dM)).toNat) (by unfold toM;omega);have e:mN (a.getD (toM (b.getD i dM)).toNat dN,b.getD i dM)=some (mlB (a.getD (toM (b.getD i dM)).toNat dN) (b.getD i dM)):=(if_pos ⟨aSp (by omega) _,aYM c2 i⟩).trans (by
     unfold mlF;rw[e0];rfl)
    show dB (mN (a.getD (toM (b.getD i dM)).toNat dN,b.getD i dM)) 0 (λq7=>bif q7 != 0 then some q7 else sA fY mN (b.length+1) a b n ((i:Int)+1) _)=_;rw[e,aO,neC]
    rfl
   ·rw[if_neg (show ¬ xZ a.length (b.getD i dM).2.2.1=true from q1),if_neg q1];rfl
 ·cases h
def mS (d:List Sl):Option Int:=if d.length<=900000000 then some (ff (fS d) d.length 0)else none
theorem aUl:Sat prog cxT 49 (c49 mS):=s49 eN tK aEh aNc mS λd t h=>by
 unfold mS at h;split at h
 ·rename_i hc;cases h;refine⟨d.length+1,?_⟩;show g49 eN tK (d.length+1) d=_;unfold g49 G49 A49_0;dsimp only;rw[pB (f:=fS d) (N:=d.length) (l:=λn i k=>tT eN tK (d.length+1) d n i k) (λn i hi=>?_) (λn=>by
    show tT _ _ _ _ (n+1) _ _=_
    conv=>lhs;unfold tT B49_0;dsimp only[dY]
    rw[df (by omega),cond_false]) (by omega)]
  ·split
   ·rename_i hz;rw[hz]
   ·rfl
  ·show tT _ _ _ _ (n+1) _ _=_
   conv=>lhs;unfold tT B49_0;dsimp only[dY]
   have hd:(d.getD i (0,0,0,0,0,0,0,0,0,0):Sl)=d.getD i dS:=rfl;simp(disch:=omega) only[dt,wi,cond_true,bL,bF,hd];rw[show eN (d.getD i dS).1=some (tH (d.getD i dS).1) from rfl,aO,nB,show tK _=some (enF (d.getD i dS).2) from rfl,aO,neC];unfold fS;by_cases q1:tH (d.getD i dS).1=true
   ·simp only[if_pos q1];rfl
   ·simp only[if_neg q1];rfl
 ·cases h
theorem aUD:Sat prog cxT 14 (c14 vX):=s14 jU nI nH eN fY mS aNh aUn aUm aEh aIY aUl vX λc t h=>by
 obtain⟨a,b,w,d⟩:=c;unfold vX at h;split at h
 ·rename_i hc;cases h;obtain⟨h1,h2,h3,h4,h5,h6⟩:=kE hc;refine⟨w.length+1,?_⟩;show g14 jU nI nH eN fY mS (w.length+1) a b w d=_;unfold g14 G14 A14_0 clF;dsimp only;rw[show jU (a.length:Int)=some (decide (1<=(a.length:Int)/\(a.length:Int)<=5)) from rfl,aO];by_cases p1:(a.length:Int) < 1
  ·rw[if_pos p1,df (by omega)];rfl
  rw[if_neg p1];by_cases p2:(a.length:Int) > 5
  ·rw[if_pos p2,df (by omega)];rfl
  rw[if_neg p2,dt (by omega),cI,cond_false];by_cases p3:(b.length:Int) > 80
  ·rw[if_pos p3,dt p3];rfl
  rw[if_neg p3,df p3,cond_false,show nI a=some (ff (fN a) a.length 0) from if_pos (by omega),aO,neC];by_cases p4:ff (fN a) a.length 0=0
  ·rw[if_pos p4,if_pos p4,show nH (a,b)=some (ff (fM a b) b.length 0) from if_pos ⟨by show bZ wD a<=_;omega,h6,by show b.length<=_;omega,p4⟩,aO,neC];by_cases p5:ff (fM a b) b.length 0=0
   ·rw[if_pos p5,if_pos p5];by_cases p6:(w.length:Int) > 400
    ·rw[if_pos p6,dt p6];rfl
    rw[if_neg p6,df p6,cond_false];by_cases p7:(d.length:Int) > 40
    ·rw[if_pos p7,dt p7];rfl
    rw[if_neg p7,df p7,cond_false];refine(pB (f:=fW a.length w) (N:=w.length) (k:=some (ff (fS d) d.length 0)) (l:=λn i _=>tV jU nI nH eN fY mS (w.length+1) a b w d n a b w d i λw1 w2 w3 w4=>dB (mS w4) 0 λq1=>some q1) (λn i hi=>?_) (λn=>?_) (Nat.lt_succ_self _)).trans ?_
    ·show tV _ _ _ _ _ _ _ _ _ _ _ (n+1) _ _ _ _ _ _=_
     conv=>lhs;unfold tV B14_0;dsimp only[dY]
     simp(disch:=omega) only[dt,wi,cond_true,bL,bF];rw[show eN (w.getD i (0,0)).1=some (tH (w.getD i (0,0)).1) from rfl,aO,nB,aUM (by omega),aO,nB];unfold fW;by_cases q1:tH (w.getD i (0,0)).1=true
     ·by_cases q2:xZ a.length (w.getD i (0,0)).2=true
      ·simp only[if_pos q1,if_pos q2];rfl
      ·simp only[if_pos q1,if_neg q2];rfl
     ·simp only[if_neg q1];rfl
    ·show tV _ _ _ _ _ _ _ _ _ _ _ (n+1) _ _ _ _ _ _=_
     conv=>lhs;unfold tV B14_0;dsimp only[dY]
     rw[df (by omega),cond_false,show mS d=some (ff (fS d) d.length 0) from if_pos (by omega)];rfl
    ·split<;>rfl
   ·rw[if_neg p5,if_neg p5]
  ·rw[if_neg p4,if_neg p4]
 ·cases h
end Go.Proofs.Tryz
set_option maxHeartbeats 0
namespace Go.Proofs.Tryz
open Go.IntKind (wrap)
open Go Go.VM Go.RowKit
def kM (x:Ml):Int:=((tL x).length:Int)
theorem aAy (x:Nd):0<=wN x:=by unfold wN;omega
theorem aBm (x:Ml):0<=kM x:=by unfold kM;omega
def aDB (a:List Nd):Prop:=a.length<=top/\∀ x∈a,oS x top
def aDD (a:List Ml):Prop:=a.length<=top/\∀ x∈a,(tL x).length<=top
instance (a:List Nd):Decidable (aDB a):=by unfold aDB;infer_instance
instance (a:List Ml):Decidable (aDD a):=by unfold aDD;infer_instance
def m35 (x:List Nd×Int):Option Int:=if 0<=x.2/\x.2<=1048576/\aDB x.1 then some (qJ x.2 ((x.1.length:Int)+bZ wN x.1))else none
theorem aXq (L:Nat)(a:List Nd)(v0:Int):∀ (n:Nat) (v i:Int) (k:Int->Option Int),aBk nV L a v0 n v i k=szL dN nV a n v i k
 | 0,_,_,_=>rfl
 | n+1,v,i,k=>by
  unfold aBk B35_0 szL;simp only[dY,aXq L a v0 n]
  rfl
theorem aIQ {α:Type}{d:α}{f:α×Int->Option Int}{w:α->Int}{a:List α}{v:Int}{L:Nat}{l:Nat->Int->Int->(Int->Option Int)->Option Int}(hl:∀ n v i k,l n v i k=szL d f a n v i k)(hL:a.length < L)(h0:0<=v)(h1:v<=1048576)(ha:a.length<=top)(hw:∀ x∈a,0<=w x)(hf:∀ x∈a,∀ v:Int,0<=v->v<=1048576->f (x,v)=some (qJ v (w x))) :
  (bif decide (wrap .i64 (v-(a.length:Int)) < 0)then some (-1)else l L (wrap .i64 (v-(a.length:Int))) 0 some)=some (qJ v ((a.length:Int)+bZ w a)):=by
 unfold top at ha;rw[wi (by omega) (by omega)];have hs:=fG (w:=w) (l:=a) hw;by_cases h:v-(a.length:Int) < 0
 ·rw[dt h,cond_true];exact congrArg some (if_pos (by omega)).symm
 ·rw[df h,cond_false,hl];refine(aIR d f a w 1048576 (by omega) hw hf some L 0 _ (by omega) (by omega) (dZ _) (by omega)).trans ?_;rw[gH];unfold qJ;rw[show v-((a.length:Int)+bZ w a)=v-(a.length:Int)-bZ w a by omega];split<;>rfl
theorem aUw:Sat prog cxT 35 (c35 m35):=s35 nV aT5 m35 λx t h=>by
 obtain⟨a,v⟩:=x;unfold m35 at h;split at h
 ·rename_i hc;cases h;obtain⟨h1,h2,h3,h4⟩:=hc;exact⟨a.length+1,aIQ (aXq _ a v) (Nat.lt_succ_self _) h1 h2 h3 (λx _=>aAy x) λx hx v k1 k2=>if_pos ⟨k1,k2,h4 x hx⟩⟩
 ·cases h
def m36 (x:List Ml×Int):Option Int:=if 0<=x.2/\x.2<=1048576/\aDD x.1 then some (qJ x.2 ((x.1.length:Int)+bZ kM x.1))else none
theorem aXp (L:Nat)(a:List Ml)(v0:Int):∀ (n:Nat) (v i:Int) (k:Int->Option Int),aBj nU L a v0 n v i k=szL dM nU a n v i k
 | 0,_,_,_=>rfl
 | n+1,v,i,k=>by
  unfold aBj B36_0 szL;simp only[dY,aXp L a v0 n]
  rfl
theorem aUv:Sat prog cxT 36 (c36 m36):=s36 nU aT4 m36 λx t h=>by
 obtain⟨a,v⟩:=x;unfold m36 at h;split at h
 ·rename_i hc;cases h;obtain⟨h1,h2,h3,h4⟩:=hc;exact⟨a.length+1,aIQ (aXp _ a v) (Nat.lt_succ_self _) h1 h2 h3 (λx _=>aBm x) λx hx v k1 k2=>if_pos ⟨k1,k2,h4 x hx⟩⟩
 ·cases h
def m37 (x:List Wn×Int):Option Int:=if 0<=x.2/\x.2<=1048576/\x.1.length<=top then some (qJ x.2 x.1.length)else none
theorem aUu:Sat prog cxT 37 (c37 m37):=s37 m37 λx t h=>by
 obtain⟨a,v⟩:=x;unfold m37 at h;split at h
 ·rename_i hc;cases h;exact⟨0,aDm hc.1 hc.2.1 hc.2.2⟩
 ·cases h
def m38 (x:List Sl×Int):Option Int:=if 0<=x.2/\x.2<=1048576/\x.1.length<=top then some (qJ x.2 x.1.length)else none
theorem aUt:Sat prog cxT 38 (c38 m38):=s38 m38 λx t h=>by
 obtain⟨a,v⟩:=x;unfold m38 at h;split at h
 ·rename_i hc;cases h;exact⟨0,aDm hc.1 hc.2.1 hc.2.2⟩
 ·cases h
def aEY (c:Cl):Prop:=aDB c.1/\aDD c.2.1/\c.2.2.1.length<=top/\c.2.2.2.length<=top
instance (c:Cl):Decidable (aEY c):=by unfold aEY;infer_instance
def szC (c:Cl):Int:=(c.1.length:Int)+bZ wN c.1+((c.2.1.length:Int)+bZ kM c.2.1)+c.2.2.1.length+c.2.2.2.length
def pH (x:Cl×Int):Option Int:=if x.2=1048576/\aEY x.1 then some (qJ 1048576 (szC x.1))else none
theorem aUF:Sat prog cxT 11 (c11 pH):=s11 m35 m36 m37 m38 aUw aUv aUu aUt pH λx t h=>by
 obtain⟨⟨a,b,w,d⟩,v⟩:=x;unfold pH at h;split at h
 ·rename_i hc;cases h;obtain⟨rfl,h1,h2,h3,h4⟩:=hc;have k1:=fG (w:=wN) (l:=a) λx _=>aAy x
  have k2:=fG (w:=kM) (l:=b) λx _=>aBm x
  refine⟨0,?_⟩;show g11 m35 m36 m37 m38 0 a b w d 1048576=some (qJ 1048576 ((a.length:Int)+bZ wN a+((b.length:Int)+bZ kM b)+w.length+d.length));unfold g11 G11;dsimp only
  generalize hA:(a.length:Int)+bZ wN a=A
  generalize hB:(b.length:Int)+bZ kM b=B
  rw[show m35 (a,1048576)=some (qJ 1048576 A) from by rw[<-hA];exact if_pos ⟨by show(0:Int)<=1048576;omega,iJ _,h1⟩,aO];by_cases q1:(1048576:Int)-A < 0
  ·rw[iL q1,iL (by omega)];rfl
  rw[lP q1,df q1,cond_false,show m36 (b,1048576-A)=some (qJ (1048576-A) B) from by rw[<-hB];exact if_pos ⟨by show 0<=1048576-A;omega,by show 1048576-A<=1048576;omega,h2⟩,aO];by_cases q2:(1048576:Int)-A-B < 0
  ·rw[iL q2,iL (by omega)];rfl
  rw[lP q2,df q2,cond_false,show m37 (w,1048576-A-B)=some (qJ (1048576-A-B) w.length) from if_pos ⟨by show 0<=1048576-A-B;omega,by show 1048576-A-B<=1048576;omega,h3⟩,aO];by_cases q3:(1048576:Int)-A-B-w.length < 0
  ·rw[iL q3,iL (by omega)];rfl
  rw[lP q3,df q3,cond_false,show m38 (d,1048576-A-B-w.length)=some (qJ (1048576-A-B-w.length) d.length) from if_pos ⟨by show 0<=1048576-A-B-(w.length:Int);omega,by show 1048576-A-B-(w.length:Int)<=1048576;omega,h4⟩,aO];by_cases q4:(1048576:Int)-A-B-w.length-d.length < 0
  ·rw[iL q4,iL (by omega)];rfl
  rw[lP q4,df q4,cond_false,lP (by omega)];congr 1;omega
 ·cases h
theorem aTO {c:Cl}(h:¬ qJ 1048576 (szC c) < 0):cOk c:=by
 obtain⟨a,b,w,d⟩:=c;have h:¬ qJ 1048576 ((a.length:Int)+bZ wN a+((b.length:Int)+bZ kM b)+w.length+d.length) < 0:=h;have h2:(a.length:Int)+bZ wN a+((b.length:Int)+bZ kM b)+w.length+d.length<=1048576:=by
  unfold qJ at h;split at h<;>omega
 have e1:∀ l:List Nd,bZ wD l<=9 * ((l.length:Int)+bZ wN l):=by
  intro l
  induction l with
  | nil=>exact iJ _
  | cons x r ih=>
   show wD x+bZ wD r<=9 * (((r.length+1:Nat):Int)+(wN x+bZ wN r));have:wD x<=9 * (1+wN x):=by unfold wD wN;omega
   omega
 have e2:∀ l:List Ml,bZ wM l<=9 * ((l.length:Int)+bZ kM l):=by
  intro l
  induction l with
  | nil=>exact iJ _
  | cons x r ih=>
   show wM x+bZ wM r<=9 * (((r.length+1:Nat):Int)+(kM x+bZ kM r));have:wM x<=9 * (1+kM x):=by unfold wM kM;omega
   omega
 have k1:=e1 a;have k2:=e2 b;have k3:=fG (w:=wN) (l:=a) λx _=>aAy x
 have k4:=fG (w:=kM) (l:=b) λx _=>aBm x
 show bZ wD a+bZ wM b+2 * (w.length:Int)+10 * (d.length:Int)<=900000000;omega
theorem aDk {α:Type}{d:α}{f:α->Option α}{a:List α}{L:Nat}{l:Nat->List α->Int->(List α->Option (List α))->Option (List α)}(hl:∀ n o i k,l n o i k=toL d f a n o i k)(hL:a.length < L)(ha:a.length<=900000000)(hf:∀ x∈a,f x=some x) :
  (bif ((decide ((0:Int)<=(a.length:Int))&&decide ((a.length:Int)<=(a.length:Int)))&&decide ((a.length:Int)<=(1000000000:Int)))then l L (List.replicate (Int.toNat (a.length:Int)) d) 0 some else none)=some a:=by
 rw[aEA (by unfold oP;omega),cond_true,hl,bF];exact aDl d f a (by omega) hf some L 0 _ (by simp) (dZ _) (by omega) rfl
def m40 (a:List Nd):Option (List Nd):=if a.length<=900000000/\∀ x∈a,oS x oP then some a else none
theorem aXo (L:Nat)(a:List Nd):∀ (n:Nat) (o:List Nd) (i:Int) (k:List Nd->Option (List Nd)),aBi nT L a n o i k=toL dN nT a n o i k
 | 0,_,_,_=>rfl
 | n+1,o,i,k=>by unfold aBi B40_0 toL;simp only[dY,aXo L a n];rfl
theorem aUr:Sat prog cxT 40 (c40 m40):=s40 nT aT0 m40 λa t h=>by
 unfold m40 at h;split at h
 ·rename_i hc;cases h;exact⟨a.length+1,aDk (aXo _ a) (Nat.lt_succ_self _) hc.1 λx hx=>if_pos (hc.2 x hx)⟩
 ·cases h
def m41 (a:List Ml):Option (List Ml):=if a.length<=900000000/\aGb a then some a else none
theorem aXn (L:Nat)(a:List Ml):∀ (n:Nat) (o:List Ml) (i:Int) (k:List Ml->Option (List Ml)),aBh nS L a n o i k=toL dM nS a n o i k
 | 0,_,_,_=>rfl
 | n+1,o,i,k=>by unfold aBh B41_0 toL;simp only[dY,aXn L a n];rfl
theorem aUq:Sat prog cxT 41 (c41 m41):=s41 nS aTZ m41 λa t h=>by
 unfold m41 at h;split at h
 ·rename_i hc;cases h;exact⟨a.length+1,aDk (aXn _ a) (Nat.lt_succ_self _) hc.1 λx hx=>if_pos (hc.2 x hx)⟩
 ·cases h
def oR (x:Wn):Option Wn:=some x
theorem aTY:Sat prog cxT 92 (c92 oR):=s92 oR λx t h=>by cases h;exact⟨0,rfl⟩
def m42 (a:List Wn):Option (List Wn):=if a.length<=900000000 then some a else none
theorem aXm (L:Nat)(a:List Wn):∀ (n:Nat) (o:List Wn) (i:Int) (k:List Wn->Option (List Wn)),aBg oR L a n o i k=toL (0,0) oR a n o i k
 | 0,_,_,_=>rfl
 | n+1,o,i,k=>by unfold aBg B42_0 toL;simp only[dY,aXm L a n]
theorem aUp:Sat prog cxT 42 (c42 m42):=s42 oR aTY m42 λa t h=>by
 unfold m42 at h;split at h
 ·rename_i hc;cases h;exact⟨a.length+1,aDk (aXm _ a) (Nat.lt_succ_self _) hc λx hx=>rfl⟩
 ·cases h
def oQ (x:Sl):Option Sl:=some x
theorem aTX:Sat prog cxT 93 (c93 oQ):=s93 _ aI4 oQ λx t h=>by cases h;exact⟨0,rfl⟩
def m43 (a:List Sl):Option (List Sl):=if a.length<=900000000 then some a else none
theorem aXl (L:Nat)(a:List Sl):∀ (n:Nat) (o:List Sl) (i:Int) (k:List Sl->Option (List Sl)),aBf oQ L a n o i k=toL dS oQ a n o i k
 | 0,_,_,_=>rfl
 | n+1,o,i,k=>by unfold aBf B43_0 toL;simp only[dY,aXl L a n];rfl
theorem aUo:Sat prog cxT 43 (c43 m43):=s43 oQ aTX m43 λa t h=>by
 unfold m43 at h;split at h
 ·rename_i hc;cases h;exact⟨a.length+1,aDk (aXl _ a) (Nat.lt_succ_self _) hc λx hx=>rfl⟩
 ·cases h
def oB (c:Cl):Option Cl:=if cOk c then some c else none
theorem aUE:Sat prog cxT 13 (c13 oB):=s13 m40 m41 m42 m43 aUr aUq aUp aUo oB λc t h=>by
 obtain⟨a,b,w,d⟩:=c;unfold oB at h;split at h
 ·rename_i hc;cases h;obtain⟨h1,h2,h3,h4,h5,h6⟩:=kE hc;refine⟨0,?_⟩;show g13 m40 m41 m42 m43 0 a b w d=_;unfold g13 G13;dsimp only;rw[show m40 a=some a from if_pos ⟨by omega,aGQ (by unfold oP;omega)⟩,aO,show m41 b=some b from if_pos ⟨by omega,h6⟩,aO,show m42 w=some w from if_pos (by omega),aO,show m43 d=some d from if_pos (by omega),aO]
 ·cases h
end Go.Proofs.Tryz
set_option maxHeartbeats 0
namespace Go.Proofs.Tryz
open Go.IntKind (wrap)
open Go Go.VM Go.RowKit
theorem gK:prog.cellsOf 2=1:=by kernel_rfl
theorem aSn:prog.cellsOf 4=1:=by kernel_rfl
theorem aE3:prog.cellsOf 106=1:=by kernel_rfl
theorem aD4:prog.cellsOf 94=1:=by kernel_rfl
theorem aG8:prog.cellsOf 47=6:=by kernel_rfl
theorem aBW:prog.cellsOf 126=9:=by kernel_rfl
theorem aE2:prog.cellsOf 108=10:=by kernel_rfl
theorem aE1:prog.cellsOf 111=9:=by kernel_rfl
theorem aE0:prog.cellsOf 123=2:=by kernel_rfl
theorem aEZ:prog.cellsOf 128=10:=by kernel_rfl
theorem aMy:prog.cellsOf 22=1:=by kernel_rfl
theorem aMx:prog.cellsOf 23=1:=by kernel_rfl
theorem aMw:prog.cellsOf 24=1:=by kernel_rfl
theorem aMv:prog.cellsOf 25=1:=by kernel_rfl
theorem aMu:prog.cellsOf 27=4:=by kernel_rfl
def gS (x:Int):Prop:=(Lit.int .i64 x).wf=true
def aAP (f:Cm):Prop:=gS f.1/\gS f.2.1/\gS f.2.2.1/\gS f.2.2.2.1/\gS f.2.2.2.2.1/\gS f.2.2.2.2.2
def aSj (f:Cm):List (L cxT.ty):=[lv (.int .i64 f.1),lv (.int .i64 f.2.1),lv (.int .i64 f.2.2.1),lv (.int .i64 f.2.2.2.1),lv (.int .i64 f.2.2.2.2.1),lv (.int .i64 f.2.2.2.2.2)]
set_option maxRecDepth 100000 in
theorem opM:Opens prog cxT 47 aSj aAP:=
 kU underlying47 aG8 (cZ (eG underlying2) rfl gK (cZ (eG underlying2) rfl gK (cZ (eG underlying2) rfl gK (cZ (eG underlying2) rfl gK (cZ (eG underlying2) rfl gK (lI (l:=λx:Int=>lv (.int .i64 x)) (eG underlying2) rfl gK))))))
def pU (x:En):Prop:=gS x.1/\gS x.2.1/\gS x.2.2.1/\aAP x.2.2.2
def aMq (x:En):List (L cxT.ty):=[lv (.int .i64 x.1),lv (.int .i64 x.2.1),lv (.int .i64 x.2.2.1),lv (.int .i64 x.2.2.2.1),lv (.int .i64 x.2.2.2.2.1),lv (.int .i64 x.2.2.2.2.2.1),lv (.int .i64 x.2.2.2.2.2.2.1),lv (.int .i64 x.2.2.2.2.2.2.2.1),lv (.int .i64 x.2.2.2.2.2.2.2.2)]
def i1 (x:Int):List (L cxT.ty):=[lv (.int .i64 x)]
theorem aLQ:Opens prog cxT 2 i1 gS:=eG underlying2
set_option maxRecDepth 100000 in
theorem opE:Opens prog cxT 126 aMq pU:=
 tQ (T:=En) (k:=1+(1+(1+6))) (enc:=λx=>i1 x.1++(i1 x.2.1++(i1 x.2.2.1++aSj x.2.2.2))) (good:=pU) underlying126 aBW
  (oV (enc1:=i1) (good:=gS) aLQ rfl gK (oV (enc1:=i1) (good:=gS) aLQ rfl gK (oV (enc1:=i1) (good:=gS) aLQ rfl gK (vA (enc:=aSj) (good:=aAP) opM rfl aG8))))
def yB (x:List En):Prop:=x.length<=maxLen/\∀ y∈x,pU y
def aAG (xs:List En):L cxT.ty:=some (.inr (ro 126 xs))
set_option maxRecDepth 100000 in
theorem aUP:Opens prog cxT 106 (λx:List En=>[aAG x]) yB:=
 kH (cx:=cxT) (e:=126) (good:=pU) underlying106 aBW (by decide) bA opE
def tC (x:List Int):Prop:=x.length<=maxLen/\∀ y∈x,gS y
def aFv (xs:List Int):L cxT.ty:=some (.inr (ro 2 xs))
set_option maxRecDepth 100000 in
theorem aRm:Opens prog cxT 94 (λx:List Int=>[aFv x]) tC:=
 kH (cx:=cxT) (e:=2) (good:=gS) underlying94 gK (by decide) bA (eG (cx:=cxT) underlying2)
def bEg (x:Nd):List (L cxT.ty):=[lv (.int .i64 x.1),lv (.int .i64 x.2.1),lv (.int .i64 x.2.2.1),lv (.int .i64 x.2.2.2.1),aAG x.2.2.2.2.1,lv (.int .i64 x.2.2.2.2.2.1),lv (.int .i64 x.2.2.2.2.2.2.1),aFv x.2.2.2.2.2.2.2.1,aFv x.2.2.2.2.2.2.2.2.1,aFv x.2.2.2.2.2.2.2.2.2]
def rR (x:Nd):Prop:=gS x.1/\gS x.2.1/\gS x.2.2.1/\gS x.2.2.2.1/\yB x.2.2.2.2.1/\gS x.2.2.2.2.2.1/\gS x.2.2.2.2.2.2.1/\tC x.2.2.2.2.2.2.2.1/\tC x.2.2.2.2.2.2.2.2.1/\tC x.2.2.2.2.2.2.2.2.2
set_option maxRecDepth 100000 in
theorem opN:Opens prog cxT 108 bEg rR:=
 kU underlying108 aE2 (cZ (eG underlying2) rfl gK (cZ (eG underlying2) rfl gK (cZ (eG underlying2) rfl gK (cZ (eG underlying2) rfl gK (cZ (l:=aAG) aUP rfl aE3
  (cZ (eG underlying2) rfl gK (cZ (eG underlying2) rfl gK (cZ (l:=aFv) aRm rfl aD4 (cZ (l:=aFv) aRm rfl aD4 (lI (l:=aFv) aRm rfl aD4))))))))))
def bEh (x:Ml):List (L cxT.ty):=[lv (.int .i64 x.1),lv (.int .i64 x.2.1),lv (.int .i64 x.2.2.1),lv (.int .i64 x.2.2.2.1),lv (.int .i64 x.2.2.2.2.1),lv (.int .i64 x.2.2.2.2.2.1),lv (.int .i64 x.2.2.2.2.2.2.1),lv (.bool x.2.2.2.2.2.2.2.1),aAG x.2.2.2.2.2.2.2.2]
def wO (x:Ml):Prop:=gS x.1/\gS x.2.1/\gS x.2.2.1/\gS x.2.2.2.1/\gS x.2.2.2.2.1/\gS x.2.2.2.2.2.1/\gS x.2.2.2.2.2.2.1/\True/\yB x.2.2.2.2.2.2.2.2
set_option maxRecDepth 100000 in
theorem opL:Opens prog cxT 111 bEh wO:=
 kU underlying111 aE1 (cZ (eG underlying2) rfl gK (cZ (eG underlying2) rfl gK (cZ (eG underlying2) rfl gK (cZ (eG underlying2) rfl gK (cZ (eG underlying2) rfl gK
  (cZ (eG underlying2) rfl gK (cZ (eG underlying2) rfl gK (cZ (l:=λx:Bool=>lv (.bool x)) (aFD underlying4) rfl aSn (lI (l:=aAG) aUP rfl aE3)))))))))
def bEe (x:Wn):List (L cxT.ty):=[lv (.int .i64 x.1),lv (.int .i64 x.2)]
def wL (x:Wn):Prop:=gS x.1/\gS x.2
set_option maxRecDepth 100000 in
theorem opW:Opens prog cxT 123 bEe wL:=kU underlying123 aE0 (cZ (eG underlying2) rfl gK (lI (l:=λx:Int=>lv (.int .i64 x)) (eG underlying2) rfl gK))
def bEf (x:Sl):List (L cxT.ty):=lv (.int .i64 x.1)::aMq x.2
def rQ (x:Sl):Prop:=gS x.1/\pU x.2
set_option maxRecDepth 100000 in
theorem opS:Opens prog cxT 128 bEf rQ:=
 tQ (T:=Sl) (k:=1+9) (enc:=λx=>i1 x.1++aMq x.2) (good:=rQ) underlying128 aEZ (oV (enc1:=i1) (good:=gS) aLQ rfl gK (vA (enc:=aMq) (good:=pU) opE rfl aBW))
def rP {α:Type}(p:α->Prop)(x:List α):Prop:=x.length<=maxLen/\∀ y∈x,p y
def aFz (xs:List Nd):L cxT.ty:=some (.inr (ro 108 xs))
def aFy (xs:List Ml):L cxT.ty:=some (.inr (ro 111 xs))
def aFx (xs:List Wn):L cxT.ty:=some (.inr (ro 123 xs))
def aFw (xs:List Sl):L cxT.ty:=some (.inr (ro 128 xs))
set_option maxRecDepth 100000 in
theorem bCv:Opens prog cxT 22 (λx:List Nd=>[aFz x]) (rP rR):=kH (cx:=cxT) (e:=108) (good:=rR) underlying22 aE2 (by decide) bA opN
set_option maxRecDepth 100000 in
theorem bCw:Opens prog cxT 23 (λx:List Ml=>[aFy x]) (rP wO):=kH (cx:=cxT) (e:=111) (good:=wO) underlying23 aE1 (by decide) bA opL
set_option maxRecDepth 100000 in
theorem bCt:Opens prog cxT 24 (λx:List Wn=>[aFx x]) (rP wL):=kH (cx:=cxT) (e:=123) (good:=wL) underlying24 aE0 (by decide) bA opW
set_option maxRecDepth 100000 in
theorem bCu:Opens prog cxT 25 (λx:List Sl=>[aFw x]) (rP rQ):=kH (cx:=cxT) (e:=128) (good:=rQ) underlying25 aEZ (by decide) bA opS
def encC (c:Cl):List (L cxT.ty):=[aFz c.1,aFy c.2.1,aFx c.2.2.1,aFw c.2.2.2]
def opC_good (c:Cl):Prop:=rP rR c.1/\rP wO c.2.1/\rP wL c.2.2.1/\rP rQ c.2.2.2
set_option maxRecDepth 100000 in
theorem opC:Opens prog cxT 27 encC opC_good:=
 kU underlying27 aMu (cZ (l:=aFz) bCv rfl aMy (cZ (l:=aFy) bCw rfl aMx (cZ (l:=aFx) bCt rfl aMw (lI (l:=aFw) bCu rfl aMv))))
theorem qI {α:Type}{x:List α}{p:α->Prop}(h:x.length<=maxLen/\∀ y∈x,p y):x.length<=top:=eD h.1 (by decide)
theorem aRp {x:Nd}(h:rR x):oS x top:=⟨qI h.2.2.2.2.1,qI h.2.2.2.2.2.2.2.1,qI h.2.2.2.2.2.2.2.2.1,qI h.2.2.2.2.2.2.2.2.2⟩
theorem cl_top {c:Cl}(h:opC_good c):aEY c:=⟨⟨qI h.1,λx hx=>aRp (h.1.2 x hx)⟩,⟨qI h.2.1,λx hx=>qI (h.2.1.2 x hx).2.2.2.2.2.2.2.2⟩,qI h.2.2.1,qI h.2.2.2⟩
end Go.Proofs.Tryz
