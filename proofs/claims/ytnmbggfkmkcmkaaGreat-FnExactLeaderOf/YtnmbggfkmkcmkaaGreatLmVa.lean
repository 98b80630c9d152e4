/- A part of the proof of FnExactLeaderOf: LmVa, LmVb, LmVc. -/
import Derived.Test.YtnmbggfkmkcmkaaGreatLmPq
set_option linter.unusedSimpArgs false
set_option linter.unusedVariables false
set_option maxHeartbeats 0
namespace Go.Proofs.Tryz
open Go Go.VM Go.RowKit
def dN:Nd:=(0,0,0,0,[],0,0,[],[],[])
def j1 (x:Nd)(v:Int):Int:=v+4+9 * (x.2.2.2.2.1.length:Int)
def j2 (x:Nd)(v:Int):Int:=j1 x v+2+1 * (x.2.2.2.2.2.2.2.1.length:Int)
def j3 (x:Nd)(v:Int):Int:=j2 x v+1 * (x.2.2.2.2.2.2.2.2.1.length:Int)
def wD (x:Nd):Int:=6+9 * (x.2.2.2.2.1.length:Int)+(x.2.2.2.2.2.2.2.1.length:Int)+(x.2.2.2.2.2.2.2.2.1.length:Int)+(x.2.2.2.2.2.2.2.2.2.length:Int)
def mkD (x:Nd)(v:Int):Nd:=(v,v+1,v+2,v+3,oA mkE 9 x.2.2.2.2.1.length (v+4),j1 x v,j1 x v+1,oA mkI 1 x.2.2.2.2.2.2.2.1.length (j1 x v+2),oA mkI 1 x.2.2.2.2.2.2.2.2.1.length (j2 x v),oA mkI 1 x.2.2.2.2.2.2.2.2.2.length (j3 x v))
theorem aCq (x:Nd):0<=wD x:=by unfold wD;omega
def vO (x:List Nd×Int):Option (Int×List Nd):=if x.1.length<=1000000000/\0<=x.2/\x.2+dF wD x.1<=1000000000 then some (x.2+dF wD x.1,mkV mkD wD x.1 x.2)else none
theorem aXY (L:Nat)(a0:List Nd)(a1:Int)(n:Nat)(o:List Nd)(v:Int)(i:Nat)(K:List Nd->Int->Option (Int×List Nd))(ho:o.length<=1000000000)(hi:i < o.length)(h0:0<=v)(h1:v<=10000000000)(hq:nK (o.getD i dN) 1000000000) :
  qQ eT kD L a0 a1 (n+1) o v i K=qQ eT kD L a0 a1 n (o.set i (mkD (o.getD i dN) v)) (v+wD (o.getD i dN)) ((i+1:Nat):Int) K:=by
 conv=>lhs;unfold qQ B59_0;dsimp only
 have hd:(o.getD i (0,0,0,0,[],0,0,[],[],[]):Nd)=o.getD i dN:=rfl;obtain⟨x,hx⟩:∃ x,x=o.getD i dN:=⟨_,rfl⟩
 obtain⟨q1,q2,q3,q4⟩:=hq;rw[<-hx]at q1 q2 q3 q4 hd ⊢;simp(disch:=omega) only[dX,List.length_modify,dt,wi,cond_true,bM,bB,gN,lE,hd];rw[show v+1+1+1+1=v+4 by omega,show eT (x.2.2.2.2.1,v+4)=some (v+4+9 * (x.2.2.2.2.1.length:Int),oA mkE 9 x.2.2.2.2.1.length (v+4)) from if_pos ⟨q1,by(try simp only);omega,by(try simp only);omega⟩,aP];simp(disch:=omega) only[dX,List.length_modify,dt,wi,cond_true,bM,bB,gN,lE,hd];rw[show kD (x.2.2.2.2.2.2.2.1,v+4+9 * (x.2.2.2.2.1.length:Int)+1+1)=some (j2 x v,oA mkI 1 x.2.2.2.2.2.2.2.1.length (j1 x v+2)) from(if_pos ⟨q2,by(try simp only);omega,by(try simp only);omega⟩).trans (by unfold j2 j1;simp only[vJ,Int.reduceAdd]),aP];simp(disch:=omega) only[dX,List.length_modify,dt,wi,cond_true,bM,bB,gN,lE,hd];have e1:j1 x v=v+4+9 * (x.2.2.2.2.1.length:Int):=rfl;have e2:j2 x v=j1 x v+2+1 * (x.2.2.2.2.2.2.2.1.length:Int):=rfl;have e3:j3 x v=j2 x v+1 * (x.2.2.2.2.2.2.2.2.1.length:Int):=rfl;rw[show kD (x.2.2.2.2.2.2.2.2.1,j2 x v)=some (j3 x v,oA mkI 1 x.2.2.2.2.2.2.2.2.1.length (j2 x v)) from if_pos ⟨q3,by(try simp only);omega,by(try simp only);omega⟩,aP];simp(disch:=omega) only[dX,List.length_modify,dt,wi,cond_true,bM,bB,gN,lE,hd];rw[show kD (x.2.2.2.2.2.2.2.2.2,j3 x v)=some (j3 x v+1 * (x.2.2.2.2.2.2.2.2.2.length:Int),oA mkI 1 x.2.2.2.2.2.2.2.2.2.length (j3 x v)) from if_pos ⟨q4,by(try simp only);omega,by(try simp only);omega⟩,aP];rw[<-e1,lT,show v+1+1=v+2 by omega,show v+2+1=v+3 by omega,show j3 x v+1 * (x.2.2.2.2.2.2.2.2.2.length:Int)=v+wD x by unfold wD;omega]
 rfl
theorem aJV {l:List Nd}{v B:Int}(h0:0<=v)(h:v+dF wD l<=B):∀ x∈l,wD x<=B:=λx hx=>by
 have:=nS (w:=wD) (λy _=>aCq y) x hx;omega
theorem aEB {x:Nd}{B:Nat}(h:wD x<=(B:Int)):nK x B:=by
 unfold wD at h;unfold nK;omega
theorem aRc:SatW prog cxT 59 (c59 vO).nres (c59 vO).n (c59 vO).F:=s59 eT kD aHA aQP vO λx t h=>by
 obtain⟨o,v⟩:=x;unfold vO at h;split at h
 ·rename_i hc;cases h;simp only at hc;obtain⟨h1,h2,h3⟩:=hc;refine⟨o.length+1,?_⟩;show g59 eT kD (o.length+1) o v=_;unfold g59 G59 A59_0;dsimp only;refine(zY dN mkD wD 1000000000 aCq (λx=>nK x 1000000000) o.length (λn o' v' i' K=>qQ eT kD (o.length+1) o v n o' v' i' K)
   (λn o' v' i K hl k1 k2 k3 k4=>?_) (λn o' v' i K hl k1=>?_) (λw0_0 w0_1=>some (w0_1,w0_0)) o [] v (o.length+1) rfl (by omega) h2 h3 (λx hx=>aEB (by have:=aJV h2 h3 x hx;omega))).trans ?_
  ·exact aXY _ _ _ _ _ _ _ _ (by omega) k1 k2 (by omega) k4
  ·show qQ _ _ _ _ _ (n+1) o' v' i K=_
   conv=>lhs;unfold qQ B59_0;dsimp only
   simp(disch:=omega) only[dX,df,cond_false]
  ·simp
 ·cases h
def hdD (x:List Nd×Int):Prop:=x.1.length<=1000000000/\0<=x.2/\x.2+dF wD x.1<=1000000000/\x.1=mkV mkD wD x.1 x.2
instance (x:List Nd×Int):Decidable (hdD x):=by unfold hdD;infer_instance
end Go.Proofs.Tryz
set_option maxHeartbeats 0
namespace Go.Proofs.Tryz
open Go Go.VM Go.RowKit
theorem oB {α:Type}{w:α->Int}(h:∀ x,1<=w x):∀ l:List α,(l.length:Int)<=dF w l
 | []=>iH _
 | x::r=>by
  have h1:=h x;have h2:=oB h r;show((r.length+1:Nat):Int)<=w x+dF w r;omega
theorem aJQ (x:Nd):1<=wD x:=by unfold wD;omega
theorem aXs (x:Ml):1<=wM x:=by unfold wM;omega
theorem aCK {l:List Nd}{B:Nat}(h:dF wD l<=(B:Int)):∀ x∈l,nK x B:=λx hx=>aEB (by
 have:=nS (w:=wD) (λy _=>aCq y) x hx;omega)
def yK (x:List Nd×List Nd):Option Bool:=if dF wD x.1<=1000000000 then some (decide (x.1=x.2))else none
theorem aT1 (L:Nat)(a b:List Nd):∀ (n:Nat) (i:Int) (k:Option Bool),aAj mH L a b n i k=eqL dN mH a b n i k
 | 0,_,_=>rfl
 | n+1,i,k=>by
  unfold aAj B45_0 eqL;simp only[dX,aT1 L a b n]
  rfl
theorem aE1 {α:Type}[DecidableEq α]{d:α}{m:α×α->Option Bool}{a b:List α}{L:Nat}{l:Nat->Int->Option Bool->Option Bool}(hl:∀ n i k,l n i k=eqL d m a b n i k)(hL:a.length < L)(ha:a.length<=1000000000000)(hm:∀ x∈a,∀ y∈b,m (x,y)=some (decide (x=y))) :
  (bif ((a.length:Nat):Int) != ((b.length:Nat):Int)then some false else l L 0 (some true))=some (decide (a=b)):=by
 refine gO (λe=>?_) λe h=>e (by rw[h])
 rw[hl];refine(aAR d m a b (by omega) (by omega) hm _ _ 0 (by omega) (by omega)).trans ?_;simp only[fC];split<;>rename_i hh<;>simp[hh]
theorem aRi:Sat prog cxT 45 (c45 yK):=s45 mH aQV yK λx t h=>by
 obtain⟨a,b⟩:=x;unfold yK at h;split at h
 ·rename_i hc;cases h;have hc:dF wD a<=1000000000:=hc;have hn:=oB aJQ a;exact⟨a.length+1,aE1 (aT1 _ a b) (Nat.lt_succ_self _) (by show a.length<=1000000000000;omega) λx hx y _=>if_pos (aCK hc x hx)⟩
 ·cases h
abbrev Wn:=Int×Int
abbrev Sl:=Int×En
instance decSl:DecidableEq Sl:=instDecidableEqProd
theorem aQT:Sat prog cxT 84 (c84 λx=>some (decide (x.1=x.2))):=s84 _ λx t h=>by
 obtain⟨⟨a,b⟩,a',b'⟩:=x;cases h;refine⟨0,gO (λe1=>gO (λe2=>?_) ?_) ?_⟩
 ·simp at e1 e2;simp[e1,e2]
 ·intro e h;simp at h;exact e h.2
 ·intro e h;simp at h;exact e h.1
theorem aQS:Sat prog cxT 85 (c85 λx=>some (decide (x.1=x.2))):=s85 _ aLa _ λx t h=>by
 obtain⟨⟨a,b⟩,a',b'⟩:=x;cases h;refine⟨0,?_⟩;show(bif a != a' then some false else bif !decide (b=b')then some false else some true)=some (decide ((a,b)=(a',b')));refine gO (λe1=>?_) ?_
 ·subst e1;rw[aVO];simp
 ·intro e h;simp at h;exact e h.1
def yI (x:List Wn×List Wn):Option Bool:=if x.1.length<=1000000000 then some (decide (x.1=x.2))else none
theorem aTZ (L:Nat)(a b:List Wn):∀ (n:Nat) (i:Int) (k:Option Bool),aAh (λx=>some (decide (x.1=x.2))) L a b n i k=eqL (0,0) (λx=>some (decide (x.1=x.2))) a b n i k
 | 0,_,_=>rfl
 | n+1,i,k=>by
  unfold aAh B47_0 eqL;simp only[dX,aTZ L a b n]
theorem aRg:Sat prog cxT 47 (c47 yI):=s47 _ aQT yI λx t h=>by
 obtain⟨a,b⟩:=x;unfold yI at h;split at h
 ·rename_i hc;cases h;have hc:a.length<=1000000000:=hc;exact⟨a.length+1,aE1 (aTZ _ a b) (Nat.lt_succ_self _) (by show a.length<=1000000000000;omega) λx hx y _=>rfl⟩
 ·cases h
def dS:Sl:=(0,jG)
def yH (x:List Sl×List Sl):Option Bool:=if x.1.length<=1000000000 then some (decide (x.1=x.2))else none
theorem aTY (L:Nat)(a b:List Sl):∀ (n:Nat) (i:Int) (k:Option Bool),aAg (λx=>some (decide (x.1=x.2))) L a b n i k=eqL dS (λx=>some (decide (x.1=x.2))) a b n i k
 | 0,_,_=>rfl
 | n+1,i,k=>by
  unfold aAg B48_0 eqL;simp only[dX,aTY L a b n]
  rfl
theorem aRf:Sat prog cxT 48 (c48 yH):=s48 _ aQS yH λx t h=>by
 obtain⟨a,b⟩:=x;unfold yH at h;split at h
 ·rename_i hc;cases h;have hc:a.length<=1000000000:=hc;exact⟨a.length+1,aE1 (aTY _ a b) (Nat.lt_succ_self _) (by show a.length<=1000000000000;omega) λx hx y _=>rfl⟩
 ·cases h
def mkW (v:Int):Wn:=(v,v+1)
def mkS (v:Int):Sl:=(v,mkE (v+1))
def vM (x:List Wn×Int):Option (Int×List Wn):=if x.1.length<=1000000000/\0<=x.2/\x.2<=100000000000 then some (x.2+2 * (x.1.length:Int),oA mkW 2 x.1.length x.2)else none
theorem aXX (L:Nat)(a0:List Wn)(a1:Int)(n:Nat)(o:List Wn)(v:Int)(i:Nat)(K:List Wn->Int->Option (Int×List Wn))(ho:o.length<=1000000000)(hi:i < o.length)(h0:0<=v)(h1:v<=1000000000000000) :
  qO L a0 a1 (n+1) o v i K=qO L a0 a1 n (o.set i (mkW v)) (v+2) ((i+1:Nat):Int) K:=by
 conv=>lhs;unfold qO B61_0;dsimp only
 simp(disch:=omega) only[dX,cM,dt,wi,cond_true,bM,bB,List.set_set];rw[show v+1+1=v+2 by omega,show(i:Int)+1=((i+1:Nat):Int)by omega];congr 2;simp[mkW,hi]
theorem aRa:SatW prog cxT 61 (c61 vM).nres (c61 vM).n (c61 vM).F:=s61 vM λx t h=>by
 obtain⟨o,v⟩:=x;unfold vM at h;split at h
 ·rename_i hc;cases h;simp only at hc;refine⟨o.length+1,?_⟩;show g61 (o.length+1) o v=_;unfold g61 G61 A61_0;dsimp only;refine(uS mkW 2 1000000000000000 o.length (by omega) (λn o' v' i' K=>qO (o.length+1) o v n o' v' i' K) (λn o' v' i' K hl h1 h2 h3=>aXX _ _ _ _ _ _ _ _ (by omega) h1 h2 h3)
   (λn o' v' i' K hl h1=>?_) (λw0_0 w0_1=>some (w0_1,w0_0)) (o.length+1) 0 o v rfl (by omega) (by omega) hc.2.1 (by omega)).trans ?_
  ·show qO _ _ _ (n+1) o' v' i' K=_
   conv=>lhs;unfold qO B61_0;dsimp only
   rw[df (by omega),cond_false]
  ·simp
 ·cases h
def vL (x:List Sl×Int):Option (Int×List Sl):=if x.1.length<=1000000000/\0<=x.2/\x.2<=100000000000 then some (x.2+10 * (x.1.length:Int),oA mkS 10 x.1.length x.2)else none
theorem aXW (L:Nat)(a0:List Sl)(a1:Int)(n:Nat)(o:List Sl)(v:Int)(i:Nat)(K:List Sl->Int->Option (Int×List Sl))(ho:o.length<=1000000000)(hi:i < o.length)(h0:0<=v)(h1:v<=1000000000000000) :
  qN L a0 a1 (n+1) o v i K=qN L a0 a1 n (o.set i (mkS v)) (v+10) ((i+1:Nat):Int) K:=by
 conv=>lhs;unfold qN B62_0;dsimp only
 simp(disch:=omega) only[dX,List.length_modify,dt,wi,cond_true,bM,bB,gN,lT];rw[show v+1+1+1+1+1+1+1+1+1+1=v+10 by omega,show(i:Int)+1=((i+1:Nat):Int)by omega];congr 2;unfold mkS mkE;simp only[aM,true_and];omega
theorem aQ9:SatW prog cxT 62 (c62 vL).nres (c62 vL).n (c62 vL).F:=s62 vL λx t h=>by
 obtain⟨o,v⟩:=x;unfold vL at h;split at h
 ·rename_i hc;cases h;simp only at hc;refine⟨o.length+1,?_⟩;show g62 (o.length+1) o v=_;unfold g62 G62 A62_0;dsimp only;refine(uS mkS 10 1000000000000000 o.length (by omega) (λn o' v' i' K=>qN (o.length+1) o v n o' v' i' K) (λn o' v' i' K hl h1 h2 h3=>aXW _ _ _ _ _ _ _ _ (by omega) h1 h2 h3)
   (λn o' v' i' K hl h1=>?_) (λw0_0 w0_1=>some (w0_1,w0_0)) (o.length+1) 0 o v rfl (by omega) (by omega) hc.2.1 (by omega)).trans ?_
  ·show qN _ _ _ (n+1) o' v' i' K=_
   conv=>lhs;unfold qN B62_0;dsimp only
   simp(disch:=omega) only[dX,df,cond_false]
  ·simp
 ·cases h
def hdW (x:List Wn×Int):Prop:=x.1.length<=1000000000/\0<=x.2/\x.2<=100000000000/\x.1=oA mkW 2 x.1.length x.2
instance (x:List Wn×Int):Decidable (hdW x):=by unfold hdW;infer_instance
def hdS (x:List Sl×Int):Prop:=x.1.length<=1000000000/\0<=x.2/\x.2<=100000000000/\x.1=oA mkS 10 x.1.length x.2
instance (x:List Sl×Int):Decidable (hdS x):=by unfold hdS;infer_instance
end Go.Proofs.Tryz
set_option maxHeartbeats 0
namespace Go.Proofs.Tryz
open Go Go.VM Go.RowKit
abbrev Cl:=List Nd×List Ml×List Wn×List Sl
def wC (c:Cl):Int:=dF wD c.1+dF wM c.2.1+2 * (c.2.2.1.length:Int)+10 * (c.2.2.2.length:Int)
def cOk (c:Cl):Prop:=wC c<=900000000
instance (c:Cl):Decidable (cOk c):=by unfold cOk;infer_instance
theorem kV {a:List Nd}{b:List Ml}{c:List Wn}{d:List Sl}(h:cOk (a,b,c,d)):0<=dF wD a/\0<=dF wM b/\dF wD a+dF wM b+2 * (c.length:Int)+10 * (d.length:Int)<=900000000/\(a.length:Int)<=900000000/\(b.length:Int)<=900000000/\aE2 b:=by
 have h:dF wD a+dF wM b+2 * (c.length:Int)+10 * (d.length:Int)<=900000000:=h;have h1:=oB aJQ a;have h2:=oB aXs b;refine⟨by omega,by omega,h,by omega,by omega,λx hx=>?_⟩;have:=nS (w:=wM) (λy _=>aEk y) x hx;have h9:wM x=8+9 * ((wI x).length:Int):=rfl;unfold lN;omega
instance decC1:DecidableEq (List Wn×List Sl):=instDecidableEqProd
instance decC2:DecidableEq (List Ml×List Wn×List Sl):=instDecidableEqProd
instance decCl:DecidableEq Cl:=instDecidableEqProd
def gI (x:Cl×Cl):Option Bool:=if cOk x.1 then some (decide (x.1=x.2))else none
theorem aLg:Sat prog cxT 14 (c14 gI):=s14 yK yJ yI yH aRi aRh aRg aRf gI λx t h=>by
 obtain⟨⟨a,b,c,d⟩,a',b',c',d'⟩:=x;unfold gI at h;split at h
 ·rename_i hc;cases h;obtain⟨h1,h2,h3,h4,h5,h6⟩:=kV hc;refine⟨0,?_⟩;show g14 yK yJ yI yH 0 a b c d a' b' c' d'=_;unfold g14 G14;dsimp only;rw[show yK (a,a')=some (decide (a=a')) from if_pos (by show dF wD a<=_;omega),aP,show yJ (b,b')=some (decide (b=b')) from if_pos ⟨by show b.length<=_;omega,h6⟩,aP,
   show yI (c,c')=some (decide (c=c')) from if_pos (by show c.length<=_;omega),aP,show yH (d,d')=some (decide (d=d')) from if_pos (by show d.length<=_;omega),aP]
  refine pG (λe1=>pG (λe2=>pG (λe3=>pG (λe4=>?_) ?_) ?_) ?_) ?_
  ·subst e1 e2 e3 e4;simp
  all_goals intro e h;simp only[aM]at h;obtain⟨q1,q2,q3,q4⟩:=h;first | exact e q1 | exact e q2 | exact e q3 | exact e q4
 ·cases h
def mkC (c:Cl)(v:Int):Cl:=(mkV mkD wD c.1 v,mkV mkM wM c.2.1 (v+dF wD c.1),oA mkW 2 c.2.2.1.length (v+dF wD c.1+dF wM c.2.1),oA mkS 10 c.2.2.2.length (v+dF wD c.1+dF wM c.2.1+2 * (c.2.2.1.length:Int)))
def vQ (x:Cl×Int):Option (Int×Cl):=if cOk x.1/\0<=x.2/\x.2<=50000000 then some (x.2+wC x.1,mkC x.1 x.2)else none
theorem aRw:SatW prog cxT 26 (c26 vQ).nres (c26 vQ).n (c26 vQ).F:=s26 vO vN vM vL aRc aRb aRa aQ9 vQ λx t h=>by
 obtain⟨⟨a,b,c,d⟩,v⟩:=x;unfold vQ at h;split at h
 ·rename_i hc;cases h;obtain⟨hc,k1,k2⟩:=hc;obtain⟨h1,h2,h3,h4,h5,h6⟩:=kV hc;simp only at k1 k2;refine⟨0,?_⟩;show g26 vO vN vM vL 0 a b c d v=_;unfold g26 G26;dsimp only;rw[show vO (a,v)=some (v+dF wD a,mkV mkD wD a v) from if_pos ⟨by show a.length<=_;omega,k1,by show v+dF wD a<=_;omega⟩,aP];simp only;rw[show vN (b,v+dF wD a)=some (v+dF wD a+dF wM b,mkV mkM wM b (v+dF wD a)) from if_pos ⟨by show b.length<=_;omega,by show 0<=v+dF wD a;omega,by show v+dF wD a+dF wM b<=_;omega⟩,aP];simp only;rw[show vM (c,v+dF wD a+dF wM b)=some (v+dF wD a+dF wM b+2 * (c.length:Int),oA mkW 2 c.length (v+dF wD a+dF wM b)) from if_pos ⟨by show c.length<=_;omega,by show 0<=v+dF wD a+dF wM b;omega,by show v+dF wD a+dF wM b<=_;omega⟩,aP];simp only;rw[show vL (d,v+dF wD a+dF wM b+2 * (c.length:Int))=some (v+dF wD a+dF wM b+2 * (c.length:Int)+10 * (d.length:Int),oA mkS 10 d.length (v+dF wD a+dF wM b+2 * (c.length:Int))) from if_pos ⟨by show d.length<=_;omega,by show 0<=v+dF wD a+dF wM b+2 * (c.length:Int);omega,by show v+dF wD a+dF wM b+2 * (c.length:Int)<=_;omega⟩,aP];unfold wC mkC;simp only[vJ]
 ·cases h
def hdC (x:Cl×Int):Prop:=cOk x.1/\0<=x.2/\x.2<=50000000/\x.1=mkC x.1 x.2
instance (x:Cl×Int):Decidable (hdC x):=by unfold hdC;infer_instance
abbrev Cr:=Int×Cl
instance decCr:DecidableEq Cr:=instDecidableEqProd
end Go.Proofs.Tryz
