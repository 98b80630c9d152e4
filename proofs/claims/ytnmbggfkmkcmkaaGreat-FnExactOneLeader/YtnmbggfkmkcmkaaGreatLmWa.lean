/- A part of the proof of FnExactSafeCluster: LmWa, LmWb, LmWc. -/
import Derived.Test.YtnmbggfkmkcmkaaGreatLmRa
import Derived.Test.YtnmbggfkmkcmkaaGreatLmVa
set_option linter.unusedSimpArgs false
set_option linter.unusedVariables false
set_option maxHeartbeats 0
namespace Go.Proofs.Tryz
open Go.IntKind (wrap)
open Go Go.VM Go.RowKit
def gH (x:Nd×Ml):Option Int:=if mM x.1 jL/\(enM x.2).length<=jL then some (mlF x.1 x.2)else none
theorem aOW:Sat prog cxT 107 (aKZ gH):=aZH eH cE dH eI rD lZ mT jJ aHX wE aCz aDv aHV aOD aOC aOB gH λx t h=>by
 obtain⟨⟨a,b,c,d,lg,e,f,vt,nx,mt⟩,m⟩:=x;obtain⟨ma,mb,mc,md,me,mf,mg,mo,ml⟩:=m;unfold gH at h;split at h
 ·rename_i hm;cases h;refine⟨0,?_⟩;show aJk eH cE dH eI rD lZ mT jJ 0 a b c d lg e f vt nx mt ma mb mc md me mf mg mo ml=_;unfold aJk G107 mlF mlB;rw[show eH (a,b,c,d,lg,e,f,vt,nx,mt)=some (ndF (a,b,c,d,lg,e,f,vt,nx,mt)) from if_pos hm.1,show lZ (ma,mb,mc,md,me,mf,mg,mo,ml)=some (heK (ma,mb,mc,md,me,mf,mg,mo,ml)) from if_pos hm.2];simp only[cE,dH,eI,mT,jJ,aR,show rD ml=some (uA ml) from rfl,sS];by_cases hn:ndF (a,b,c,d,lg,e,f,vt,nx,mt)=0
  ·rw[hn];have hp:=aIg hn;rw[vN hp];simp only[bqi]
   rfl
  ·rw[aP1,df hn];rfl
 ·cases h
def ff (f:Nat->Int):Nat->Nat->Int
 | 0,_=>0
 | n+1,i=>if f i=0 then ff f n (i+1)else f i
theorem aJq {N:Nat}{f:Nat->Int}{l:Nat->Int->Option Int->Option Int}{k:Option Int}(hs:∀ n (i:Nat),i < N->l (n+1) (i:Int) k=if f i=0 then l n ((i+1:Nat):Int) k else some (f i))(he:∀ n,l (n+1) ((N:Nat):Int) k=k) :
  ∀ n (i:Nat),i<=N->N < n+i->l n (i:Int) k=if ff f (N-i) i=0 then k else some (ff f (N-i) i)
 | 0,i,h1,h2=>by omega
 | n+1,i,h1,h2=>by
  by_cases hi:i < N
  ·rw[hs n i hi,show N-i=(N-(i+1))+1 by omega];show(if f i=0 then _ else _)=if(if f i=0 then _ else _)=0 then k else some (if f i=0 then _ else _)
   by_cases hf:f i=0
   ·simp only[if_pos hf];exact aJq hs he n (i+1) (by omega) (by omega)
   ·simp only[if_neg hf]
  ·rw[show i=N by omega,he,sE]
   rfl
theorem nX {N:Nat}{f:Nat->Int}{l:Nat->Int->Option Int->Option Int}{k:Option Int}(hs:∀ n (i:Nat),i < N->l (n+1) (i:Int) k=if f i=0 then l n ((i+1:Nat):Int) k else some (f i))(he:∀ n,l (n+1) ((N:Nat):Int) k=k){n:Nat}(hn:N < n):l n 0 k=if ff f N 0=0 then k else some (ff f N 0):=aJq hs he n 0 (dQ _) hn
def fN (a:List Nd)(i:Nat):Int:=if ndF (a.getD i dN)=0 then(if(a.getD i dN).1=(i:Int)then(if(a.getD i dN).2.1=(a.length:Int)then 0 else 1)else 1)else ndF (a.getD i dN)
def wI (n:Nat)(i:Int):Bool:=decide (0<=i/\i<=(n:Int)-1)
def toM (m:Ml):Int:=m.2.2.1
def fM (a:List Nd)(b:List Ml)(i:Nat):Int:=if wI a.length (toM (b.getD i dM))=true then mlB (a.getD (toM (b.getD i dM)).toNat dN) (b.getD i dM)else 3
def fW (n:Nat)(c:List Wn)(i:Nat):Int:=if sS (c.getD i (0,0)).1=true then(if wI n (c.getD i (0,0)).2=true then 0 else 3)else 3
def fS (d:List Sl)(i:Nat):Int:=if sS (d.getD i dS).1=true then enF (d.getD i dS).2 else 3
def uU (c:Cl):Int:=
 if(c.1.length:Int) < 1 then 2 else if(c.1.length:Int) > 5 then 2 else if(c.2.1.length:Int) > 80 then 2 else
 if ff (fN c.1) c.1.length 0=0 then(if ff (fM c.1 c.2.1) c.2.1.length 0=0 then(if(c.2.2.1.length:Int) > 400 then 2 else if(c.2.2.2.length:Int) > 40 then 2 else
  if ff (fW c.1.length c.2.2.1) c.2.2.1.length 0=0 then ff (fS c.2.2.2) c.2.2.2.length 0 else ff (fW c.1.length c.2.2.1) c.2.2.1.length 0)else ff (fM c.1 c.2.1) c.2.1.length 0)else ff (fN c.1) c.1.length 0
def eQ (c:Cl):Option Int:=if cOk c then some (uU c)else none
def eM (x:Cl×Int):Option Bool:=if x.1.1.length<=jL then some (wI x.1.1.length x.2)else none
theorem aRU:Sat prog cxT 68 (c68 eM):=s68 bP nN eM λx t h=>by
 obtain⟨c,i⟩:=x;unfold eM at h;split at h
 ·rename_i hc;cases h;have hc:c.1.length<=1000000000:=hc;refine⟨0,?_⟩;show cM (bP (i,0,wrap .i64 ((c.1.length:Int)-1))) false (λq=>some q)=_;rw[wi (by omega) (by omega)]
  rfl
 ·cases h
theorem aPX {a:List Nd}(h:eS wD a<=900000000)(i:Nat):mM (a.getD i dN) jL:=by
 by_cases hi:i < a.length
 ·exact aIi (by have:=uW (w:=wD) (λy _=>aHD y) _ (iC dN hi);unfold jL;omega)
 ·rw[show a.getD i dN=dN by simp[List.getD,hi]];exact⟨dQ _,dQ _,dQ _,dQ _⟩
theorem aWC {b:List Ml}(h:aFm b)(i:Nat):(enM (b.getD i dM)).length<=jL:=by
 by_cases hi:i < b.length
 ·exact h _ (iC dM hi)
 ·rw[show b.getD i dM=dM by simp[List.getD,hi]];exact dQ _
theorem neC {x:Int}{o o':Option Int}:(bif x != 0 then o else o')=if x=0 then o' else o:=by
 by_cases h:x=0
 ·rw[if_pos h,aA4 h];rfl
 ·rw[if_neg h,qU h];rfl
theorem neB {x y:Int}{o o':Option Int}:(bif x != y then o else o')=if x=y then o' else o:=by
 by_cases h:x=y
 ·rw[if_pos h,aA4 h];rfl
 ·rw[if_neg h,qU h];rfl
theorem nB {b:Bool}{o o':Option Int}:(bif !b then o else o')=if b=true then o' else o:=by cases b<;>rfl
theorem plP {n:Nat}{i:Int}(h:wI n i=true):0<=i/\i < (n:Int):=by
 have:=of_decide_eq_true h;omega
section
variable (c : Cl) (hc : cOk c) (L : Nat)
include hc
theorem aOn (n:Nat)(i:Nat)(hi:i < c.1.length)(k:Option Int):rK eH eM eO bP sW L c (n+1) (i:Int) k=if fN c.1 i=0 then rK eH eM eO bP sW L c n ((i+1:Nat):Int) k else some (fN c.1 i):=by
 obtain⟨a,b,w,d⟩:=c;obtain⟨h1,h2,h3,h4,h5,h6⟩:=mC hc;have hi:i < a.length:=hi
 conv=>lhs;unfold rK B36_0;dsimp only[eF]
 have hd:(a.getD i (0,0,0,0,[],0,0,[],[],[]):Nd)=a.getD i dN:=rfl;simp(disch:=omega) only[dt,wi,cond_true,bK,aY,hd];rw[show eH (a.getD i dN)=some (ndF (a.getD i dN)) from if_pos (aPX (by omega) i),aR,neC,neB,neB];unfold fN;by_cases q1:ndF (a.getD i dN)=0
 ·by_cases q2:(a.getD i dN).1=(i:Int)
  ·by_cases q3:(a.getD i dN).2.1=(a.length:Int)
   ·simp only[if_pos q1,if_pos q2,if_pos q3];rfl
   ·simp only[if_pos q1,if_pos q2,if_neg q3];rfl
  ·simp only[if_pos q1,if_neg q2];rfl
 ·simp only[if_neg q1]
theorem aOm (n:Nat)(i:Nat)(hi:i < c.2.1.length)(k:Option Int):oP eH eM eO bP sW L c (n+1) (i:Int) k=if fM c.1 c.2.1 i=0 then oP eH eM eO bP sW L c n ((i+1:Nat):Int) k else some (fM c.1 c.2.1 i):=by
 obtain⟨a,b,w,d⟩:=c;obtain⟨h1,h2,h3,h4,h5,h6⟩:=mC hc;have hi:i < b.length:=hi
 conv=>lhs;unfold oP B36_2;dsimp only[eF]
 have hd:(b.getD i (0,0,0,0,0,0,0,false,[]):Ml)=b.getD i dM:=rfl;simp(disch:=omega) only[dt,wi,cond_true,bK,aY,hd];rw[show eM ((a,b,w,d),(b.getD i dM).2.2.1)=some (wI a.length (toM (b.getD i dM))) from if_pos (by show a.length<=1000000000;omega),aR,nB];unfold fM;by_cases q1:wI a.length (toM (b.getD i dM))=true
 ·have hp:0<=(b.getD i dM).2.2.1/\(b.getD i dM).2.2.1 < (a.length:Int):=plP q1;rw[if_pos q1,if_pos q1,dt hp.1,dt hp.2,bK,cond_true];have e:eO (a.getD (toM (b.getD i dM)).toNat dN,b.getD i dM)=some (mlB (a.getD (toM (b.getD i dM)).toNat dN) (b.getD i dM)):=if_pos (aWC h6 i);show cM (eO (a.getD (toM (b.getD i dM)).toNat dN,b.getD i dM)) 0 (λq7=>bif q7 != 0 then some q7 else oP eH eM eO bP sW L (a,b,w,d) n ((i:Int)+1) k)=_;rw[e,aR,neC]
  rfl
 ·rw[if_neg q1,if_neg q1];rfl
theorem aOl (n:Nat)(i:Nat)(hi:i < c.2.2.1.length)(k:Option Int):oO eH eM eO bP sW L c (n+1) (i:Int) k=if fW c.1.length c.2.2.1 i=0 then oO eH eM eO bP sW L c n ((i+1:Nat):Int) k else some (fW c.1.length c.2.2.1 i):=by
 obtain⟨a,b,w,d⟩:=c;obtain⟨h1,h2,h3,h4,h5,h6⟩:=mC hc;have hi:i < w.length:=hi
 conv=>lhs;unfold oO B36_4;dsimp only[eF]
 simp(disch:=omega) only[dt,wi,cond_true,bK,aY];rw[show bP ((w.getD i (0,0)).1,1,100000)=some (sS (w.getD i (0,0)).1) from rfl,aR,nB,show eM ((a,b,w,d),(w.getD i (0,0)).2)=some (wI a.length (w.getD i (0,0)).2) from if_pos (by show a.length<=1000000000;omega),aR,nB];unfold fW;by_cases q1:sS (w.getD i (0,0)).1=true
 ·by_cases q2:wI a.length (w.getD i (0,0)).2=true
  ·simp only[if_pos q1,if_pos q2];rfl
  ·simp only[if_pos q1,if_neg q2];rfl
 ·simp only[if_neg q1];rfl
theorem aOk (n:Nat)(i:Nat)(hi:i < c.2.2.2.length)(k:Option Int):nU eH eM eO bP sW L c (n+1) (i:Int) k=if fS c.2.2.2 i=0 then nU eH eM eO bP sW L c n ((i+1:Nat):Int) k else some (fS c.2.2.2 i):=by
 obtain⟨a,b,w,d⟩:=c;obtain⟨h1,h2,h3,h4,h5,h6⟩:=mC hc;have hi:i < d.length:=hi
 conv=>lhs;unfold nU B36_6;dsimp only[eF]
 have hd:(d.getD i (0,0,0,0,0,0,0,0,0,0):Sl)=d.getD i dS:=rfl;simp(disch:=omega) only[dt,wi,cond_true,bK,aY,hd];rw[show bP ((d.getD i dS).1,1,100000)=some (sS (d.getD i dS).1) from rfl,aR,nB,show sW _=some (enF (d.getD i dS).2) from rfl,aR,neC];unfold fS;by_cases q1:sS (d.getD i dS).1=true
 ·simp only[if_pos q1];rfl
 ·simp only[if_neg q1];rfl
end
theorem aDw:Sat prog cxT 36 (c36 eQ):=s36 eH eM eO bP sW aRV aRU aRT nN aLl eQ λc t h=>by
 unfold eQ at h;split at h
 ·rename_i hc;cases h;refine⟨c.1.length+c.2.1.length+c.2.2.1.length+c.2.2.2.length+1,?_⟩
  generalize hL:c.1.length+c.2.1.length+c.2.2.1.length+c.2.2.2.length+1=L
  show g36 eH eM eO bP sW L c=_;unfold g36 G36 A36_0 A36_2 A36_4 A36_6;dsimp only;rw[nX (l:=λn i k=>rK eH eM eO bP sW L c n i k) (aOn c hc L · · · _) (λn=>by
    show rK _ _ _ _ _ _ _ (n+1) _ _=_
    conv=>lhs;unfold rK B36_0;dsimp only[eF]
    rw[df (by omega),cond_false]) (by omega)]
  rw[nX (l:=λn i k=>oP eH eM eO bP sW L c n i k) (aOm c hc L · · · _) (λn=>by
    show oP _ _ _ _ _ _ _ (n+1) _ _=_
    conv=>lhs;unfold oP B36_2;dsimp only[eF]
    rw[df (by omega),cond_false]) (by omega)]
  rw[nX (l:=λn i k=>oO eH eM eO bP sW L c n i k) (aOl c hc L · · · _) (λn=>by
    show oO _ _ _ _ _ _ _ (n+1) _ _=_
    conv=>lhs;unfold oO B36_4;dsimp only[eF]
    rw[df (by omega),cond_false]) (by omega)]
  rw[nX (l:=λn i k=>nU eH eM eO bP sW L c n i k) (aOk c hc L · · · _) (λn=>by
    show nU _ _ _ _ _ _ _ (n+1) _ _=_
    conv=>lhs;unfold nU B36_6;dsimp only[eF]
    rw[df (by omega),cond_false]) (by omega)]
  unfold uU;simp only[cond_eq_ite,decide_eq_true_eq]
  repeat' split
  all_goals first | rfl | (rename_i h;rw[h]) | contradiction
 ·cases h
end Go.Proofs.Tryz
set_option maxHeartbeats 0
namespace Go.Proofs.Tryz
open Go.IntKind (wrap)
open Go Go.VM Go.RowKit
def gP (x:Int×Int):Option Bool:=if 0<=x.2/\x.2<=1000000000 then some (decide (0<=x.1/\x.1<=x.2-1))else none
theorem aLj:Sat prog cxT 80 (c80 gP):=s80 cE wE gP λx t h=>by
 obtain⟨i,n⟩:=x;unfold gP at h;split at h
 ·rename_i hc;cases h;have hc:0<=n/\n<=1000000000:=hc;refine⟨0,?_⟩;show cM (cE (i,0,wrap .i64 (n-1))) false (λq=>some q)=_;rw[wi (by omega) (by omega)]
  rfl
 ·cases h
theorem aSr {n:Nat}(hn:n<=1000000000)(i:Int):gP (i,(n:Int))=some (wI n i):=if_pos ⟨by show 0<=(n:Int);omega,by show(n:Int)<=1000000000;omega⟩
def mG (a:List Nd):Option Int:=if eS wD a<=900000000 then some (ff (fN a) a.length 0)else none
theorem aRO:Sat prog cxT 77 (c77 mG):=s77 eH aHX mG λa t h=>by
 unfold mG at h;split at h
 ·rename_i hc;cases h;have hn:=oN aJW a;refine⟨a.length+1,?_⟩;show g77 eH (a.length+1) a=_;unfold g77 G77 A77_0;dsimp only;rw[nX (f:=fN a) (N:=a.length) (l:=λn i k=>tF eH (a.length+1) a n i k) (λn i hi=>?_) (λn=>by
    show tF _ _ _ (n+1) _ _=_
    conv=>lhs;unfold tF B77_0;dsimp only[eF]
    rw[df (by omega),cond_false]) (by omega)]
  ·split
   ·rename_i hz;rw[hz]
   ·rfl
  ·show tF _ _ _ (n+1) _ _=_
   conv=>lhs;unfold tF B77_0;dsimp only[eF]
   have hd:(a.getD i (0,0,0,0,[],0,0,[],[],[]):Nd)=a.getD i dN:=rfl;simp(disch:=omega) only[dt,wi,cond_true,bK,aY,hd];have e:eH (a.getD i dN)=some (ndF (a.getD i dN)):=if_pos (aPX (by omega) i);rw[show eH _=some _ from e,aR,neC,neB,neB];unfold fN;by_cases q1:ndF (a.getD i dN)=0
   ·by_cases q2:(a.getD i dN).1=(i:Int)
    ·by_cases q3:(a.getD i dN).2.1=(a.length:Int)
     ·simp only[if_pos q1,if_pos q2,if_pos q3];rfl
     ·simp only[if_pos q1,if_pos q2,if_neg q3];rfl
    ·simp only[if_pos q1,if_neg q2];rfl
   ·simp only[if_neg q1]
 ·cases h
def mF (x:List Nd×List Ml):Option Int:=if eS wD x.1<=900000000/\aFm x.2/\x.2.length<=900000000/\ff (fN x.1) x.1.length 0=0 then some (ff (fM x.1 x.2) x.2.length 0)else none
theorem yX {f:Nat->Int}:∀ (n i:Nat),ff f n i=0->∀ j,i<=j->j < i+n->f j=0
 | 0,i,_,j,h1,h2=>by omega
 | n+1,i,h,j,h1,h2=>by
  have h:(if f i=0 then ff f n (i+1)else f i)=0:=h;by_cases hf:f i=0
  ·rw[if_pos hf]at h;by_cases hj:j=i
   ·rw[hj];exact hf
   ·exact yX n (i+1) h j (by omega) (by omega)
  ·rw[if_neg hf]at h;exact absurd h hf
theorem aUa {a:List Nd}(h:ff (fN a) a.length 0=0){i:Nat}(hi:i < a.length):ndF (a.getD i dN)=0:=by
 have:=yX _ _ h i (dQ _) (by omega);unfold fN at this;by_cases q:ndF (a.getD i dN)=0
 ·exact q
 ·rw[if_neg q]at this;exact absurd this q
theorem aRN:Sat prog cxT 78 (c78 mF):=s78 gP gH aLj aOW mF λx t h=>by
 obtain⟨a,b⟩:=x;unfold mF at h;split at h
 ·rename_i hc;cases h;obtain⟨c1,c2,c3,c4⟩:=hc;simp only at c1 c2 c3 c4;have hn:=oN aJW a;refine⟨b.length+1,?_⟩;show g78 gP gH (b.length+1) a b=_;unfold g78 G78 A78_0;dsimp only;rw[nX (f:=fM a b) (N:=b.length) (l:=λn i k=>rF gP gH (b.length+1) a b n i k) (λn i hi=>?_) (λn=>by
    show rF _ _ _ _ _ (n+1) _ _=_
    conv=>lhs;unfold rF B78_0;dsimp only[eF]
    rw[df (by omega),cond_false]) (by omega)]
  ·split
   ·rename_i hz;rw[hz]
   ·rfl
  ·show rF _ _ _ _ _ (n+1) _ _=_
   conv=>lhs;unfold rF B78_0;dsimp only[eF]
   have hd:(b.getD i (0,0,0,0,0,0,0,false,[]):Ml)=b.getD i dM:=rfl;simp(disch:=omega) only[dt,wi,cond_true,bK,aY,hd];rw[aSr (by omega),aR,nB];unfold fM;by_cases q1:wI a.length (toM (b.getD i dM))=true
   ·have hp:0<=(b.getD i dM).2.2.1/\(b.getD i dM).2.2.1 < (a.length:Int):=plP q1;rw[if_pos (show wI a.length (b.getD i dM).2.2.1=true from q1),if_pos q1,dt hp.1,dt hp.2,bK,cond_true];have e0:=aUa c4 (i:=(toM (b.getD i dM)).toNat) (by unfold toM;omega);have e:gH (a.getD (toM (b.getD i dM)).toNat dN,b.getD i dM)=some (mlB (a.getD (toM (b.getD i dM)).toNat dN) (b.getD i dM)):=(if_pos ⟨aPX (by omega) _,aWC c2 i⟩).trans (by
     unfold mlF;rw[e0];rfl)
    show cM (gH (a.getD (toM (b.getD i dM)).toNat dN,b.getD i dM)) 0 (λq7=>bif q7 != 0 then some q7 else rF gP gH (b.length+1) a b n ((i:Int)+1) _)=_;rw[e,aR,neC]
    rfl
   ·rw[if_neg (show ¬ wI a.length (b.getD i dM).2.2.1=true from q1),if_neg q1];rfl
 ·cases h
def lY (d:List Sl):Option Int:=if d.length<=900000000 then some (ff (fS d) d.length 0)else none
theorem aRM:Sat prog cxT 81 (c81 lY):=s81 eI sW aDv aHW lY λd t h=>by
 unfold lY at h;split at h
 ·rename_i hc;cases h;refine⟨d.length+1,?_⟩;show g81 eI sW (d.length+1) d=_;unfold g81 G81 A81_0;dsimp only;rw[nX (f:=fS d) (N:=d.length) (l:=λn i k=>tE eI sW (d.length+1) d n i k) (λn i hi=>?_) (λn=>by
    show tE _ _ _ _ (n+1) _ _=_
    conv=>lhs;unfold tE B81_0;dsimp only[eF]
    rw[df (by omega),cond_false]) (by omega)]
  ·split
   ·rename_i hz;rw[hz]
   ·rfl
  ·show tE _ _ _ _ (n+1) _ _=_
   conv=>lhs;unfold tE B81_0;dsimp only[eF]
   have hd:(d.getD i (0,0,0,0,0,0,0,0,0,0):Sl)=d.getD i dS:=rfl;simp(disch:=omega) only[dt,wi,cond_true,bK,aY,hd];rw[show eI (d.getD i dS).1=some (sS (d.getD i dS).1) from rfl,aR,nB,show sW _=some (enF (d.getD i dS).2) from rfl,aR,neC];unfold fS;by_cases q1:sS (d.getD i dS).1=true
   ·simp only[if_pos q1];rfl
   ·simp only[if_neg q1];rfl
 ·cases h
theorem aFF:Sat prog cxT 42 (c42 eQ):=s42 jI mG mF eI gP lY aLk aRO aRN aDv aLj aRM eQ λc t h=>by
 obtain⟨a,b,w,d⟩:=c;unfold eQ at h;split at h
 ·rename_i hc;cases h;obtain⟨h1,h2,h3,h4,h5,h6⟩:=mC hc;refine⟨w.length+1,?_⟩;show g42 jI mG mF eI gP lY (w.length+1) a b w d=_;unfold g42 G42 A42_0 uU;dsimp only;rw[show jI (a.length:Int)=some (decide (1<=(a.length:Int)/\(a.length:Int)<=5)) from rfl,aR];by_cases p1:(a.length:Int) < 1
  ·rw[if_pos p1,df (by omega)];rfl
  rw[if_neg p1];by_cases p2:(a.length:Int) > 5
  ·rw[if_pos p2,df (by omega)];rfl
  rw[if_neg p2,dt (by omega),cI,cond_false];by_cases p3:(b.length:Int) > 80
  ·rw[if_pos p3,dt p3];rfl
  rw[if_neg p3,df p3,cond_false,show mG a=some (ff (fN a) a.length 0) from if_pos (by omega),aR,neC];by_cases p4:ff (fN a) a.length 0=0
  ·rw[if_pos p4,if_pos p4,show mF (a,b)=some (ff (fM a b) b.length 0) from if_pos ⟨by show eS wD a<=_;omega,h6,by show b.length<=_;omega,p4⟩,aR,neC];by_cases p5:ff (fM a b) b.length 0=0
   ·rw[if_pos p5,if_pos p5];by_cases p6:(w.length:Int) > 400
    ·rw[if_pos p6,dt p6];rfl
    rw[if_neg p6,df p6,cond_false];by_cases p7:(d.length:Int) > 40
    ·rw[if_pos p7,dt p7];rfl
    rw[if_neg p7,df p7,cond_false];refine(nX (f:=fW a.length w) (N:=w.length) (k:=some (ff (fS d) d.length 0)) (l:=λn i _=>tG jI mG mF eI gP lY (w.length+1) a b w d n a b w d i λw1 w2 w3 w4=>cM (lY w4) 0 λq1=>some q1) (λn i hi=>?_) (λn=>?_) (Nat.lt_succ_self _)).trans ?_
    ·show tG _ _ _ _ _ _ _ _ _ _ _ (n+1) _ _ _ _ _ _=_
     conv=>lhs;unfold tG B42_0;dsimp only[eF]
     simp(disch:=omega) only[dt,wi,cond_true,bK,aY];rw[show eI (w.getD i (0,0)).1=some (sS (w.getD i (0,0)).1) from rfl,aR,nB,aSr (by omega),aR,nB];unfold fW;by_cases q1:sS (w.getD i (0,0)).1=true
     ·by_cases q2:wI a.length (w.getD i (0,0)).2=true
      ·simp only[if_pos q1,if_pos q2];rfl
      ·simp only[if_pos q1,if_neg q2];rfl
     ·simp only[if_neg q1];rfl
    ·show tG _ _ _ _ _ _ _ _ _ _ _ (n+1) _ _ _ _ _ _=_
     conv=>lhs;unfold tG B42_0;dsimp only[eF]
     rw[df (by omega),cond_false,show lY d=some (ff (fS d) d.length 0) from if_pos (by omega)];rfl
    ·split<;>rfl
   ·rw[if_neg p5,if_neg p5]
  ·rw[if_neg p4,if_neg p4]
 ·cases h
end Go.Proofs.Tryz
set_option maxHeartbeats 0
namespace Go.Proofs.Tryz
open Go.IntKind (wrap)
open Go Go.VM Go.RowKit
def kM (x:Ml):Int:=((enM x).length:Int)
theorem aEB (x:Nd):0<=wN x:=by unfold wN;omega
theorem aEY (x:Ml):0<=kM x:=by unfold kM;omega
def aCK (a:List Nd):Prop:=a.length<=top/\∀ x∈a,mM x top
def aCM (a:List Ml):Prop:=a.length<=top/\∀ x∈a,(enM x).length<=top
instance (a:List Nd):Decidable (aCK a):=by unfold aCK;infer_instance
instance (a:List Ml):Decidable (aCM a):=by unfold aCM;infer_instance
def yT (x:List Nd×Int):Option Int:=if 0<=x.2/\x.2<=1048576/\aCK x.1 then some (qV x.2 ((x.1.length:Int)+eS wN x.1))else none
theorem aU6 (L:Nat)(a:List Nd)(v0:Int):∀ (n:Nat) (v i:Int) (k:Int->Option Int),aAs mS L a v0 n v i k=szL dN mS a n v i k
 | 0,_,_,_=>rfl
 | n+1,v,i,k=>by
  unfold aAs B32_0 szL;simp only[eF,aU6 L a v0 n]
  rfl
theorem aHJ {α:Type}{d:α}{f:α×Int->Option Int}{w:α->Int}{a:List α}{v:Int}{L:Nat}{l:Nat->Int->Int->(Int->Option Int)->Option Int}(hl:∀ n v i k,l n v i k=szL d f a n v i k)(hL:a.length < L)(h0:0<=v)(h1:v<=1048576)(ha:a.length<=top)(hw:∀ x∈a,0<=w x)(hf:∀ x∈a,∀ v:Int,0<=v->v<=1048576->f (x,v)=some (qV v (w x))) :
  (bif decide (wrap .i64 (v-(a.length:Int)) < 0)then some (-1)else l L (wrap .i64 (v-(a.length:Int))) 0 some)=some (qV v ((a.length:Int)+eS w a)):=by
 unfold top at ha;rw[wi (by omega) (by omega)];have hs:=iE (w:=w) (l:=a) hw;by_cases h:v-(a.length:Int) < 0
 ·rw[dt h,cond_true];exact congrArg some (if_pos (by omega)).symm
 ·rw[df h,cond_false,hl];refine(aHK d f a w 1048576 (by omega) hw hf some L 0 _ (by omega) (by omega) (dQ _) (by omega)).trans ?_;rw[fC];unfold qV;rw[show v-((a.length:Int)+eS w a)=v-(a.length:Int)-eS w a by omega];split<;>rfl
theorem aSf:Sat prog cxT 32 (c32 yT):=s32 mS aRX yT λx t h=>by
 obtain⟨a,v⟩:=x;unfold yT at h;split at h
 ·rename_i hc;cases h;obtain⟨h1,h2,h3,h4⟩:=hc;exact⟨a.length+1,aHJ (aU6 _ a v) (Nat.lt_succ_self _) h1 h2 h3 (λx _=>aEB x) λx hx v k1 k2=>if_pos ⟨k1,k2,h4 x hx⟩⟩
 ·cases h
def yS (x:List Ml×Int):Option Int:=if 0<=x.2/\x.2<=1048576/\aCM x.1 then some (qV x.2 ((x.1.length:Int)+eS kM x.1))else none
theorem aU5 (L:Nat)(a:List Ml)(v0:Int):∀ (n:Nat) (v i:Int) (k:Int->Option Int),aAr mR L a v0 n v i k=szL dM mR a n v i k
 | 0,_,_,_=>rfl
 | n+1,v,i,k=>by
  unfold aAr B33_0 szL;simp only[eF,aU5 L a v0 n]
  rfl
theorem aSe:Sat prog cxT 33 (c33 yS):=s33 mR aRW yS λx t h=>by
 obtain⟨a,v⟩:=x;unfold yS at h;split at h
 ·rename_i hc;cases h;obtain⟨h1,h2,h3,h4⟩:=hc;exact⟨a.length+1,aHJ (aU5 _ a v) (Nat.lt_succ_self _) h1 h2 h3 (λx _=>aEY x) λx hx v k1 k2=>if_pos ⟨k1,k2,h4 x hx⟩⟩
 ·cases h
def yR (x:List Wn×Int):Option Int:=if 0<=x.2/\x.2<=1048576/\x.1.length<=top then some (qV x.2 x.1.length)else none
theorem aSd:Sat prog cxT 34 (c34 yR):=s34 yR λx t h=>by
 obtain⟨a,v⟩:=x;unfold yR at h;split at h
 ·rename_i hc;cases h;exact⟨0,aCv hc.1 hc.2.1 hc.2.2⟩
 ·cases h
def yQ (x:List Sl×Int):Option Int:=if 0<=x.2/\x.2<=1048576/\x.1.length<=top then some (qV x.2 x.1.length)else none
theorem aSc:Sat prog cxT 35 (c35 yQ):=s35 yQ λx t h=>by
 obtain⟨a,v⟩:=x;unfold yQ at h;split at h
 ·rename_i hc;cases h;exact⟨0,aCv hc.1 hc.2.1 hc.2.2⟩
 ·cases h
def aCm (c:Cl):Prop:=aCK c.1/\aCM c.2.1/\c.2.2.1.length<=top/\c.2.2.2.length<=top
instance (c:Cl):Decidable (aCm c):=by unfold aCm;infer_instance
def szC (c:Cl):Int:=(c.1.length:Int)+eS wN c.1+((c.2.1.length:Int)+eS kM c.2.1)+c.2.2.1.length+c.2.2.2.length
def fA (x:Cl×Int):Option Int:=if x.2=1048576/\aCm x.1 then some (qV 1048576 (szC x.1))else none
theorem aDz:Sat prog cxT 10 (c10 fA):=s10 yT yS yR yQ aSf aSe aSd aSc fA λx t h=>by
 obtain⟨⟨a,b,w,d⟩,v⟩:=x;unfold fA at h;split at h
 ·rename_i hc;cases h;obtain⟨rfl,h1,h2,h3,h4⟩:=hc;have k1:=iE (w:=wN) (l:=a) λx _=>aEB x
  have k2:=iE (w:=kM) (l:=b) λx _=>aEY x
  refine⟨0,?_⟩;show g10 yT yS yR yQ 0 a b w d 1048576=some (qV 1048576 ((a.length:Int)+eS wN a+((b.length:Int)+eS kM b)+w.length+d.length));unfold g10 G10;dsimp only
  generalize hA:(a.length:Int)+eS wN a=A
  generalize hB:(b.length:Int)+eS kM b=B
  rw[show yT (a,1048576)=some (qV 1048576 A) from by rw[<-hA];exact if_pos ⟨by show(0:Int)<=1048576;omega,jD _,h1⟩,aR];by_cases q1:(1048576:Int)-A < 0
  ·rw[hU q1,hU (by omega)];rfl
  rw[kX q1,df q1,cond_false,show yS (b,1048576-A)=some (qV (1048576-A) B) from by rw[<-hB];exact if_pos ⟨by show 0<=1048576-A;omega,by show 1048576-A<=1048576;omega,h2⟩,aR];by_cases q2:(1048576:Int)-A-B < 0
  ·rw[hU q2,hU (by omega)];rfl
  rw[kX q2,df q2,cond_false,show yR (w,1048576-A-B)=some (qV (1048576-A-B) w.length) from if_pos ⟨by show 0<=1048576-A-B;omega,by show 1048576-A-B<=1048576;omega,h3⟩,aR];by_cases q3:(1048576:Int)-A-B-w.length < 0
  ·rw[hU q3,hU (by omega)];rfl
  rw[kX q3,df q3,cond_false,show yQ (d,1048576-A-B-w.length)=some (qV (1048576-A-B-w.length) d.length) from if_pos ⟨by show 0<=1048576-A-B-(w.length:Int);omega,by show 1048576-A-B-(w.length:Int)<=1048576;omega,h4⟩,aR];by_cases q4:(1048576:Int)-A-B-w.length-d.length < 0
  ·rw[hU q4,hU (by omega)];rfl
  rw[kX q4,df q4,cond_false,kX (by omega)];congr 1;omega
 ·cases h
theorem aRz {c:Cl}(h:¬ qV 1048576 (szC c) < 0):cOk c:=by
 obtain⟨a,b,w,d⟩:=c;have h:¬ qV 1048576 ((a.length:Int)+eS wN a+((b.length:Int)+eS kM b)+w.length+d.length) < 0:=h;have h2:(a.length:Int)+eS wN a+((b.length:Int)+eS kM b)+w.length+d.length<=1048576:=by
  unfold qV at h;split at h<;>omega
 have e1:∀ l:List Nd,eS wD l<=9 * ((l.length:Int)+eS wN l):=by
  intro l
  induction l with
  | nil=>exact jD _
  | cons x r ih=>
   show wD x+eS wD r<=9 * (((r.length+1:Nat):Int)+(wN x+eS wN r));have:wD x<=9 * (1+wN x):=by unfold wD wN;omega
   omega
 have e2:∀ l:List Ml,eS wM l<=9 * ((l.length:Int)+eS kM l):=by
  intro l
  induction l with
  | nil=>exact jD _
  | cons x r ih=>
   show wM x+eS wM r<=9 * (((r.length+1:Nat):Int)+(kM x+eS kM r));have:wM x<=9 * (1+kM x):=by unfold wM kM;omega
   omega
 have k1:=e1 a;have k2:=e2 b;have k3:=iE (w:=wN) (l:=a) λx _=>aEB x
 have k4:=iE (w:=kM) (l:=b) λx _=>aEY x
 show eS wD a+eS wM b+2 * (w.length:Int)+10 * (d.length:Int)<=900000000;omega
theorem aCt {α:Type}{d:α}{f:α->Option α}{a:List α}{L:Nat}{l:Nat->List α->Int->(List α->Option (List α))->Option (List α)}(hl:∀ n o i k,l n o i k=toL d f a n o i k)(hL:a.length < L)(ha:a.length<=900000000)(hf:∀ x∈a,f x=some x) :
  (bif ((decide ((0:Int)<=(a.length:Int))&&decide ((a.length:Int)<=(a.length:Int)))&&decide ((a.length:Int)<=(1000000000:Int)))then l L (List.replicate (Int.toNat (a.length:Int)) d) 0 some else none)=some a:=by
 rw[aDO (by unfold jL;omega),cond_true,hl,aY];exact aCu d f a (by omega) hf some L 0 _ (by simp) (dQ _) (by omega) rfl
def yP (a:List Nd):Option (List Nd):=if a.length<=900000000/\∀ x∈a,mM x jL then some a else none
theorem aU4 (L:Nat)(a:List Nd):∀ (n:Nat) (o:List Nd) (i:Int) (k:List Nd->Option (List Nd)),aAq mQ L a n o i k=toL dN mQ a n o i k
 | 0,_,_,_=>rfl
 | n+1,o,i,k=>by unfold aAq B38_0 toL;simp only[eF,aU4 L a n];rfl
theorem aSb:Sat prog cxT 38 (c38 yP):=s38 mQ aRS yP λa t h=>by
 unfold yP at h;split at h
 ·rename_i hc;cases h;exact⟨a.length+1,aCt (aU4 _ a) (Nat.lt_succ_self _) hc.1 λx hx=>if_pos (hc.2 x hx)⟩
 ·cases h
def yO (a:List Ml):Option (List Ml):=if a.length<=900000000/\aFm a then some a else none
theorem aU3 (L:Nat)(a:List Ml):∀ (n:Nat) (o:List Ml) (i:Int) (k:List Ml->Option (List Ml)),aAp mP L a n o i k=toL dM mP a n o i k
 | 0,_,_,_=>rfl
 | n+1,o,i,k=>by unfold aAp B39_0 toL;simp only[eF,aU3 L a n];rfl
theorem aSa:Sat prog cxT 39 (c39 yO):=s39 mP aRR yO λa t h=>by
 unfold yO at h;split at h
 ·rename_i hc;cases h;exact⟨a.length+1,aCt (aU3 _ a) (Nat.lt_succ_self _) hc.1 λx hx=>if_pos (hc.2 x hx)⟩
 ·cases h
def nK (x:Wn):Option Wn:=some x
theorem aRQ:Sat prog cxT 74 (c74 nK):=s74 nK λx t h=>by cases h;exact⟨0,rfl⟩
def yN (a:List Wn):Option (List Wn):=if a.length<=900000000 then some a else none
theorem aU2 (L:Nat)(a:List Wn):∀ (n:Nat) (o:List Wn) (i:Int) (k:List Wn->Option (List Wn)),aAo nK L a n o i k=toL (0,0) nK a n o i k
 | 0,_,_,_=>rfl
 | n+1,o,i,k=>by unfold aAo B40_0 toL;simp only[eF,aU2 L a n]
theorem aR9:Sat prog cxT 40 (c40 yN):=s40 nK aRQ yN λa t h=>by
 unfold yN at h;split at h
 ·rename_i hc;cases h;exact⟨a.length+1,aCt (aU2 _ a) (Nat.lt_succ_self _) hc λx hx=>rfl⟩
 ·cases h
def nJ (x:Sl):Option Sl:=some x
theorem aRP:Sat prog cxT 75 (c75 nJ):=s75 _ aHY nJ λx t h=>by cases h;exact⟨0,rfl⟩
def yM (a:List Sl):Option (List Sl):=if a.length<=900000000 then some a else none
theorem aU1 (L:Nat)(a:List Sl):∀ (n:Nat) (o:List Sl) (i:Int) (k:List Sl->Option (List Sl)),aAn nJ L a n o i k=toL dS nJ a n o i k
 | 0,_,_,_=>rfl
 | n+1,o,i,k=>by unfold aAn B41_0 toL;simp only[eF,aU1 L a n];rfl
theorem aR8:Sat prog cxT 41 (c41 yM):=s41 nJ aRP yM λa t h=>by
 unfold yM at h;split at h
 ·rename_i hc;cases h;exact⟨a.length+1,aCt (aU1 _ a) (Nat.lt_succ_self _) hc λx hx=>rfl⟩
 ·cases h
def eR (c:Cl):Option Cl:=if cOk c then some c else none
theorem aDy:Sat prog cxT 12 (c12 eR):=s12 yP yO yN yM aSb aSa aR9 aR8 eR λc t h=>by
 obtain⟨a,b,w,d⟩:=c;unfold eR at h;split at h
 ·rename_i hc;cases h;obtain⟨h1,h2,h3,h4,h5,h6⟩:=mC hc;refine⟨0,?_⟩;show g12 yP yO yN yM 0 a b w d=_;unfold g12 G12;dsimp only;rw[show yP a=some a from if_pos ⟨by omega,aCL (by unfold jL;omega)⟩,aR,show yO b=some b from if_pos ⟨by omega,h6⟩,aR,show yN w=some w from if_pos (by omega),aR,show yM d=some d from if_pos (by omega),aR]
 ·cases h
end Go.Proofs.Tryz
