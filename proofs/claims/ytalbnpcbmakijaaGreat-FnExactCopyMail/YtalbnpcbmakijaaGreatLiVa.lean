/- A part of the proof of FnExactCopyMail: LiVa, LiVb, LiVc. -/
import Derived.Test.YtalbnpcbmakijaaGreatLiPq
import Derived.Test.YtalbnpcbmakijaaGreatLiFc
set_option linter.unusedSimpArgs false
set_option linter.unusedVariables false
set_option maxHeartbeats 0
namespace Go.Proofs.Tryz
open Go Go.VM Go.RowKit
theorem aRf:Sat prog cxT 112 (aMY mY):=bCi dR aIZ mY λx t h=>by
 obtain⟨a,v⟩:=x;unfold mY at h;split at h
 ·rename_i hc;cases h;obtain⟨h1,h2,h3,h4⟩:=hc;simp only at h1 h2 h3 h4;refine⟨a.length+1,?_⟩;show aKG dR (a.length+1) a v=_;unfold aKG A112_0 G112;dsimp only;exact aBq dM mkM wM 1000000000 aAz aGm (λx=>(tL x).length<=1000000000) a (λn v' i' K=>oF dR (a.length+1) a v n v' i' K)
   (λn v' i K k1 k2 k3 k4 k5=>bBg _ _ _ _ _ _ _ h1 k1 k2 k3 k4 k5)
   (λn v' i K k1=>by
    show oF _ _ _ _ (n+1) v' i K=_
    conv=>lhs;unfold oF B112_0;dsimp only
    rw[df (by omega),cond_false]) (λw0_1=>some w0_1) a [] v (a.length+1) rfl (by omega) h2 h3 (λx hx=>by have:=aGr h2 h3 x hx;omega) h4
 ·cases h
def dN:Nd:=(0,0,0,0,[],0,0,[],[],[])
def j1 (x:Nd)(v:Int):Int:=v+4+9 * (x.2.2.2.2.1.length:Int)
def j2 (x:Nd)(v:Int):Int:=j1 x v+2+1 * (x.2.2.2.2.2.2.2.1.length:Int)
def j3 (x:Nd)(v:Int):Int:=j2 x v+1 * (x.2.2.2.2.2.2.2.2.1.length:Int)
def wD (x:Nd):Int:=6+9 * (x.2.2.2.2.1.length:Int)+(x.2.2.2.2.2.2.2.1.length:Int)+(x.2.2.2.2.2.2.2.2.1.length:Int)+(x.2.2.2.2.2.2.2.2.2.length:Int)
def mkD (x:Nd)(v:Int):Nd:=(v,v+1,v+2,v+3,qE mkE 9 x.2.2.2.2.1.length (v+4),j1 x v,j1 x v+1,qE mkI 1 x.2.2.2.2.2.2.2.1.length (j1 x v+2),qE mkI 1 x.2.2.2.2.2.2.2.2.1.length (j2 x v),qE mkI 1 x.2.2.2.2.2.2.2.2.2.length (j3 x v))
theorem aAA (x:Nd):0<=wD x:=by unfold wD;omega
theorem aGn (x:Nd)(v:Int):wD (mkD x v)=wD x:=by unfold wD mkD;simp only[lR]
theorem aRu (x:Nd)(v:Int):mkD (mkD x v) v=mkD x v:=by unfold mkD j3 j2 j1;simp only[lR]
def xP (x:List Nd×Int):Option (Int×List Nd):=if x.1.length<=1000000000/\0<=x.2/\x.2+bZ wD x.1<=1000000000 then some (x.2+bZ wD x.1,mkV mkD wD x.1 x.2)else none
theorem bBo (L:Nat)(a0:List Nd)(a1:Int)(n:Nat)(o:List Nd)(v:Int)(i:Nat)(K:List Nd->Int->Option (Int×List Nd))(ho:o.length<=1000000000)(hi:i < o.length)(h0:0<=v)(h1:v<=10000000000)(hq:oS (o.getD i dN) 1000000000) :
  rZ dK fU L a0 a1 (n+1) o v i K=rZ dK fU L a0 a1 n (o.set i (mkD (o.getD i dN) v)) (v+wD (o.getD i dN)) ((i+1:Nat):Int) K:=by
 conv=>lhs;unfold rZ B61_0;dsimp only
 have hd:(o.getD i (0,0,0,0,[],0,0,[],[],[]):Nd)=o.getD i dN:=rfl;obtain⟨x,hx⟩:∃ x,x=o.getD i dN:=⟨_,rfl⟩
 obtain⟨q1,q2,q3,q4⟩:=hq;rw[<-hx]at q1 q2 q3 q4 hd ⊢;simp(disch:=omega) only[dY,List.length_modify,dt,wi,cond_true,bL,bF,gW,mB,hd];rw[show v+1+1+1+1=v+4 by omega,show dK (x.2.2.2.2.1,v+4)=some (v+4+9 * (x.2.2.2.2.1.length:Int),qE mkE 9 x.2.2.2.2.1.length (v+4)) from if_pos ⟨q1,by(try simp only);omega,by(try simp only);omega⟩,aO];simp(disch:=omega) only[dY,List.length_modify,dt,wi,cond_true,bL,bF,gW,mB,hd];rw[show fU (x.2.2.2.2.2.2.2.1,v+4+9 * (x.2.2.2.2.1.length:Int)+1+1)=some (j2 x v,qE mkI 1 x.2.2.2.2.2.2.2.1.length (j1 x v+2)) from(if_pos ⟨q2,by(try simp only);omega,by(try simp only);omega⟩).trans (by unfold j2 j1;simp only[nD,Int.reduceAdd]),aO];simp(disch:=omega) only[dY,List.length_modify,dt,wi,cond_true,bL,bF,gW,mB,hd];have e1:j1 x v=v+4+9 * (x.2.2.2.2.1.length:Int):=rfl;have e2:j2 x v=j1 x v+2+1 * (x.2.2.2.2.2.2.2.1.length:Int):=rfl;have e3:j3 x v=j2 x v+1 * (x.2.2.2.2.2.2.2.2.1.length:Int):=rfl;rw[show fU (x.2.2.2.2.2.2.2.2.1,j2 x v)=some (j3 x v,qE mkI 1 x.2.2.2.2.2.2.2.2.1.length (j2 x v)) from if_pos ⟨q3,by(try simp only);omega,by(try simp only);omega⟩,aO];simp(disch:=omega) only[dY,List.length_modify,dt,wi,cond_true,bL,bF,gW,mB,hd];rw[show fU (x.2.2.2.2.2.2.2.2.2,j3 x v)=some (j3 x v+1 * (x.2.2.2.2.2.2.2.2.2.length:Int),qE mkI 1 x.2.2.2.2.2.2.2.2.2.length (j3 x v)) from if_pos ⟨q4,by(try simp only);omega,by(try simp only);omega⟩,aO];rw[<-e1,mR,show v+1+1=v+2 by omega,show v+2+1=v+3 by omega,show j3 x v+1 * (x.2.2.2.2.2.2.2.2.2.length:Int)=v+wD x by unfold wD;omega]
 rfl
theorem aGs {l:List Nd}{v B:Int}(h0:0<=v)(h:v+bZ wD l<=B):∀ x∈l,wD x<=B:=λx hx=>by
 have:=lV (w:=wD) (λy _=>aAA y) x hx;omega
theorem aDC {x:Nd}{B:Nat}(h:wD x<=(B:Int)):oS x B:=by
 unfold wD at h;unfold oS;omega
theorem aUd:SatW prog cxT 61 (c61 xP).nres (c61 xP).n (c61 xP).F:=s61 dK fU aJa aRh xP λx t h=>by
 obtain⟨o,v⟩:=x;unfold xP at h;split at h
 ·rename_i hc;cases h;simp only at hc;obtain⟨h1,h2,h3⟩:=hc;refine⟨o.length+1,?_⟩;show g61 dK fU (o.length+1) o v=_;unfold g61 G61 A61_0;dsimp only;refine(aA6 dN mkD wD 1000000000 aAA (λx=>oS x 1000000000) o.length (λn o' v' i' K=>rZ dK fU (o.length+1) o v n o' v' i' K)
   (λn o' v' i K hl k1 k2 k3 k4=>?_) (λn o' v' i K hl k1=>?_) (λw0_0 w0_1=>some (w0_1,w0_0)) o [] v (o.length+1) rfl (by omega) h2 h3 (λx hx=>aDC (by have:=aGs h2 h3 x hx;omega))).trans ?_
  ·exact bBo _ _ _ _ _ _ _ _ (by omega) k1 k2 (by omega) k4
  ·show rZ _ _ _ _ _ (n+1) o' v' i K=_
   conv=>lhs;unfold rZ B61_0;dsimp only
   simp(disch:=omega) only[dY,df,cond_false]
  ·simp
 ·cases h
def hdD (x:List Nd×Int):Prop:=x.1.length<=1000000000/\0<=x.2/\x.2+bZ wD x.1<=1000000000/\x.1=mkV mkD wD x.1 x.2
instance (x:List Nd×Int):Decidable (hdD x):=by unfold hdD;infer_instance
def mZ (x:List Nd×Int):Option Int:=if hdD x then some (x.2+bZ wD x.1)else none
theorem bBl (L:Nat)(a0:List Nd)(a1:Int)(n:Nat)(v:Int)(i:Nat)(K:Int->Option Int)(ho:a0.length<=1000000000)(hi:i < a0.length)(h0:0<=v)(h1:v<=1000000000)(hq:oS (a0.getD i dN) 1000000000)(hm:a0.getD i dN=mkD (a0.getD i dN) v) :
  oG dR gE L a0 a1 (n+1) v i K=oG dR gE L a0 a1 n (v+wD (a0.getD i dN)) ((i+1:Nat):Int) K:=by
 conv=>lhs;unfold oG B111_0;dsimp only
 have hd:(a0.getD i (0,0,0,0,[],0,0,[],[],[]):Nd)=a0.getD i dN:=rfl;obtain⟨x,hx⟩:∃ x,x=a0.getD i dN:=⟨_,rfl⟩
 rw[<-hx]at hm hq hd ⊢;simp(disch:=omega) only[dY,dt,wi,cond_true,bL,bF,hd];obtain⟨a,b,c,d,lg,e,f,vt,nx,mt⟩:=x;obtain⟨q1,q2,q3,q4⟩:=hq;simp only at q1 q2 q3 q4;have e1:j1 (a,b,c,d,lg,e,f,vt,nx,mt) v=v+4+9 * (lg.length:Int):=rfl;have e2:j2 (a,b,c,d,lg,e,f,vt,nx,mt) v=v+4+9 * (lg.length:Int)+2+1 * (vt.length:Int):=rfl;have e3:j3 (a,b,c,d,lg,e,f,vt,nx,mt) v=v+4+9 * (lg.length:Int)+2+1 * (vt.length:Int)+1 * (nx.length:Int):=rfl;simp only[mkD,aM,e1,e2,e3]at hm;obtain⟨r1,r2,r3,r4,r5,r6,r7,r8,r9,r10⟩:=hm;have e4:wD (a,b,c,d,lg,e,f,vt,nx,mt)=6+9 * (lg.length:Int)+(vt.length:Int)+(nx.length:Int)+(mt.length:Int):=rfl;rw[e4,r1,r2,r3,r4,r6,r7];simp(disch:=omega) only[rM,cond_false];rw[show v+1+1+1+1=v+4 by omega,show dR (lg,v+4)=some (v+4+9 * (lg.length:Int)) from if_pos ⟨q1,by(try simp only);omega,by(try simp only);omega,r5⟩,aO];simp(disch:=omega) only[rM,df,wi,cond_false];rw[show gE (vt,v+4+9 * (lg.length:Int)+1+1)=some (v+4+9 * (lg.length:Int)+2+1 * (vt.length:Int)) from(if_pos ⟨q2,by(try simp only);omega,by(try simp only);omega,by rw[show v+4+9 * (lg.length:Int)+1+1=v+4+9 * (lg.length:Int)+2 by omega];exact r8⟩).trans (by congr 1;simp only;omega),aO];simp(disch:=omega) only[rM,df,wi,cond_false];rw[show gE (nx,v+4+9 * (lg.length:Int)+2+1 * (vt.length:Int))=some (v+4+9 * (lg.length:Int)+2+1 * (vt.length:Int)+1 * (nx.length:Int)) from if_pos ⟨q3,by(try simp only);omega,by(try simp only);omega,r9⟩,aO];simp(disch:=omega) only[rM,df,wi,cond_false];rw[show gE (mt,v+4+9 * (lg.length:Int)+2+1 * (vt.length:Int)+1 * (nx.length:Int))=some (v+4+9 * (lg.length:Int)+2+1 * (vt.length:Int)+1 * (nx.length:Int)+1 * (mt.length:Int)) from if_pos ⟨q4,by(try simp only);omega,by(try simp only);omega,r10⟩,aO];simp(disch:=omega) only[rM,df,wi,cond_false];congr 1;omega
theorem aRg:Sat prog cxT 111 (aMZ mZ):=bCj dR gE aIZ aQP mZ λx t h=>by
 obtain⟨a,v⟩:=x;unfold mZ at h;split at h
 ·rename_i hc;cases h;obtain⟨h1,h2,h3,h4⟩:=hc;simp only at h1 h2 h3 h4;refine⟨a.length+1,?_⟩;show aKH dR gE (a.length+1) a v=_;unfold aKH G111 A111_0;dsimp only;exact aBq dN mkD wD 1000000000 aAA aGn (λx=>oS x 1000000000) a (λn v' i' K=>oG dR gE (a.length+1) a v n v' i' K)
   (λn v' i K k1 k2 k3 k4 k5=>bBl _ _ _ _ _ _ _ h1 k1 k2 k3 k4 k5)
   (λn v' i K k1=>by
    show oG _ _ _ _ _ (n+1) v' i K=_
    conv=>lhs;unfold oG B111_0;dsimp only
    simp(disch:=omega) only[dY,df,cond_false]) (λw0_1=>some w0_1) a [] v (a.length+1) rfl (by omega) h2 h3 (λx hx=>aDC (by have:=aGs h2 h3 x hx;omega)) h4
 ·cases h
end Go.Proofs.Tryz
set_option maxHeartbeats 0
namespace Go.Proofs.Tryz
open Go Go.VM Go.RowKit
theorem kW {α:Type}{w:α->Int}(h:∀ x,1<=w x):∀ l:List α,(l.length:Int)<=bZ w l
 | []=>iJ _
 | x::r=>by
  have h1:=h x;have h2:=kW h r;show((r.length+1:Nat):Int)<=w x+bZ w r;omega
theorem aHm (x:Nd):1<=wD x:=by unfold wD;omega
theorem aTh (x:Ml):1<=wM x:=by unfold wM;omega
theorem aGQ {l:List Nd}{B:Nat}(h:bZ wD l<=(B:Int)):∀ x∈l,oS x B:=λx hx=>aDC (by
 have:=lV (w:=wD) (λy _=>aAA y) x hx;omega)
def m50 (x:List Nd×List Nd):Option Bool:=if bZ wD x.1<=1000000000 then some (decide (x.1=x.2))else none
theorem aXk (L:Nat)(a b:List Nd):∀ (n:Nat) (i:Int) (k:Option Bool),aBe nR L a b n i k=eqL dN nR a b n i k
 | 0,_,_=>rfl
 | n+1,i,k=>by
  unfold aBe B50_0 eqL;simp only[dY,aXk L a b n]
  rfl
theorem aGa {α:Type}[DecidableEq α]{d:α}{m:α×α->Option Bool}{a b:List α}{L:Nat}{l:Nat->Int->Option Bool->Option Bool}(hl:∀ n i k,l n i k=eqL d m a b n i k)(hL:a.length < L)(ha:a.length<=1000000000000)(hm:∀ x∈a,∀ y∈b,m (x,y)=some (decide (x=y))) :
  (bif ((a.length:Nat):Int) != ((b.length:Nat):Int)then some false else l L 0 (some true))=some (decide (a=b)):=by
 refine iA (λe=>?_) λe h=>e (by rw[h])
 rw[hl];refine(aBP d m a b (by omega) (by omega) hm _ _ 0 (by omega) (by omega)).trans ?_;simp only[gH];split<;>rename_i hh<;>simp[hh]
theorem aUk:Sat prog cxT 50 (c50 m50):=s50 nR aTV m50 λx t h=>by
 obtain⟨a,b⟩:=x;unfold m50 at h;split at h
 ·rename_i hc;cases h;have hc:bZ wD a<=1000000000:=hc;have hn:=kW aHm a;exact⟨a.length+1,aGa (aXk _ a b) (Nat.lt_succ_self _) (by show a.length<=1000000000000;omega) λx hx y _=>if_pos (aGQ hc x hx)⟩
 ·cases h
abbrev Wn:=Int×Int
abbrev Sl:=Int×En
instance decSl:DecidableEq Sl:=instDecidableEqProd
theorem aRj:Sat prog cxT 100 (aM1 λx=>some (decide (x.1=x.2))):=bCn _ λx t h=>by
 obtain⟨⟨a,b⟩,a',b'⟩:=x;cases h;refine⟨0,iA (λe1=>iA (λe2=>?_) ?_) ?_⟩
 ·simp at e1 e2;simp[e1,e2]
 ·intro e h;simp at h;exact e h.2
 ·intro e h;simp at h;exact e h.1
theorem aRi:Sat prog cxT 101 (aM0 λx=>some (decide (x.1=x.2))):=bCm _ aI0 _ λx t h=>by
 obtain⟨⟨a,b⟩,a',b'⟩:=x;cases h;refine⟨0,?_⟩;show(bif a != a' then some false else bif !decide (b=b')then some false else some true)=some (decide ((a,b)=(a',b')));refine iA (λe1=>?_) ?_
 ·subst e1;rw[aY4];simp
 ·intro e h;simp at h;exact e h.1
def m52 (x:List Wn×List Wn):Option Bool:=if x.1.length<=1000000000 then some (decide (x.1=x.2))else none
theorem aXi (L:Nat)(a b:List Wn):∀ (n:Nat) (i:Int) (k:Option Bool),aBc (λx=>some (decide (x.1=x.2))) L a b n i k=eqL (0,0) (λx=>some (decide (x.1=x.2))) a b n i k
 | 0,_,_=>rfl
 | n+1,i,k=>by
  unfold aBc B52_0 eqL;simp only[dY,aXi L a b n]
theorem aUi:Sat prog cxT 52 (c52 m52):=s52 _ aRj m52 λx t h=>by
 obtain⟨a,b⟩:=x;unfold m52 at h;split at h
 ·rename_i hc;cases h;have hc:a.length<=1000000000:=hc;exact⟨a.length+1,aGa (aXi _ a b) (Nat.lt_succ_self _) (by show a.length<=1000000000000;omega) λx hx y _=>rfl⟩
 ·cases h
def dS:Sl:=(0,jY)
def m53 (x:List Sl×List Sl):Option Bool:=if x.1.length<=1000000000 then some (decide (x.1=x.2))else none
theorem aXh (L:Nat)(a b:List Sl):∀ (n:Nat) (i:Int) (k:Option Bool),aBb (λx=>some (decide (x.1=x.2))) L a b n i k=eqL dS (λx=>some (decide (x.1=x.2))) a b n i k
 | 0,_,_=>rfl
 | n+1,i,k=>by
  unfold aBb B53_0 eqL;simp only[dY,aXh L a b n]
  rfl
theorem aUh:Sat prog cxT 53 (c53 m53):=s53 _ aRi m53 λx t h=>by
 obtain⟨a,b⟩:=x;unfold m53 at h;split at h
 ·rename_i hc;cases h;have hc:a.length<=1000000000:=hc;exact⟨a.length+1,aGa (aXh _ a b) (Nat.lt_succ_self _) (by show a.length<=1000000000000;omega) λx hx y _=>rfl⟩
 ·cases h
def mkW (v:Int):Wn:=(v,v+1)
def mkS (v:Int):Sl:=(v,mkE (v+1))
def xN (x:List Wn×Int):Option (Int×List Wn):=if x.1.length<=1000000000/\0<=x.2/\x.2<=100000000000 then some (x.2+2 * (x.1.length:Int),qE mkW 2 x.1.length x.2)else none
theorem bBn (L:Nat)(a0:List Wn)(a1:Int)(n:Nat)(o:List Wn)(v:Int)(i:Nat)(K:List Wn->Int->Option (Int×List Wn))(ho:o.length<=1000000000)(hi:i < o.length)(h0:0<=v)(h1:v<=1000000000000000) :
  rX L a0 a1 (n+1) o v i K=rX L a0 a1 n (o.set i (mkW v)) (v+2) ((i+1:Nat):Int) K:=by
 conv=>lhs;unfold rX B63_0;dsimp only
 simp(disch:=omega) only[dY,cO,dt,wi,cond_true,bL,bF,List.set_set];rw[show v+1+1=v+2 by omega,show(i:Int)+1=((i+1:Nat):Int)by omega];congr 2;simp[mkW,hi]
theorem aUb:SatW prog cxT 63 (c63 xN).nres (c63 xN).n (c63 xN).F:=s63 xN λx t h=>by
 obtain⟨o,v⟩:=x;unfold xN at h;split at h
 ·rename_i hc;cases h;simp only at hc;refine⟨o.length+1,?_⟩;show g63 (o.length+1) o v=_;unfold g63 G63 A63_0;dsimp only;refine(wT mkW 2 1000000000000000 o.length (by omega) (λn o' v' i' K=>rX (o.length+1) o v n o' v' i' K) (λn o' v' i' K hl h1 h2 h3=>bBn _ _ _ _ _ _ _ _ (by omega) h1 h2 h3)
   (λn o' v' i' K hl h1=>?_) (λw0_0 w0_1=>some (w0_1,w0_0)) (o.length+1) 0 o v rfl (by omega) (by omega) hc.2.1 (by omega)).trans ?_
  ·show rX _ _ _ (n+1) o' v' i' K=_
   conv=>lhs;unfold rX B63_0;dsimp only
   rw[df (by omega),cond_false]
  ·simp
 ·cases h
def xM (x:List Sl×Int):Option (Int×List Sl):=if x.1.length<=1000000000/\0<=x.2/\x.2<=100000000000 then some (x.2+10 * (x.1.length:Int),qE mkS 10 x.1.length x.2)else none
theorem bBm (L:Nat)(a0:List Sl)(a1:Int)(n:Nat)(o:List Sl)(v:Int)(i:Nat)(K:List Sl->Int->Option (Int×List Sl))(ho:o.length<=1000000000)(hi:i < o.length)(h0:0<=v)(h1:v<=1000000000000000) :
  rW L a0 a1 (n+1) o v i K=rW L a0 a1 n (o.set i (mkS v)) (v+10) ((i+1:Nat):Int) K:=by
 conv=>lhs;unfold rW B64_0;dsimp only
 simp(disch:=omega) only[dY,List.length_modify,dt,wi,cond_true,bL,bF,gW,mR];rw[show v+1+1+1+1+1+1+1+1+1+1=v+10 by omega,show(i:Int)+1=((i+1:Nat):Int)by omega];congr 2;unfold mkS mkE;simp only[aM,true_and];omega
theorem aUa:SatW prog cxT 64 (c64 xM).nres (c64 xM).n (c64 xM).F:=s64 xM λx t h=>by
 obtain⟨o,v⟩:=x;unfold xM at h;split at h
 ·rename_i hc;cases h;simp only at hc;refine⟨o.length+1,?_⟩;show g64 (o.length+1) o v=_;unfold g64 G64 A64_0;dsimp only;refine(wT mkS 10 1000000000000000 o.length (by omega) (λn o' v' i' K=>rW (o.length+1) o v n o' v' i' K) (λn o' v' i' K hl h1 h2 h3=>bBm _ _ _ _ _ _ _ _ (by omega) h1 h2 h3)
   (λn o' v' i' K hl h1=>?_) (λw0_0 w0_1=>some (w0_1,w0_0)) (o.length+1) 0 o v rfl (by omega) (by omega) hc.2.1 (by omega)).trans ?_
  ·show rW _ _ _ (n+1) o' v' i' K=_
   conv=>lhs;unfold rW B64_0;dsimp only
   simp(disch:=omega) only[dY,df,cond_false]
  ·simp
 ·cases h
def hdW (x:List Wn×Int):Prop:=x.1.length<=1000000000/\0<=x.2/\x.2<=100000000000/\x.1=qE mkW 2 x.1.length x.2
instance (x:List Wn×Int):Decidable (hdW x):=by unfold hdW;infer_instance
def mX (x:List Wn×Int):Option Int:=if hdW x then some (x.2+2 * (x.1.length:Int))else none
theorem bBj (L:Nat)(a0:List Wn)(a1:Int)(n:Nat)(v:Int)(i:Nat)(K:Int->Option Int)(ho:a0.length<=1000000000)(hi:i < a0.length)(h0:0<=v)(h1:v<=1000000000000000)(hm:a0.getD i (0,0)=mkW v) :
  pK L a0 a1 (n+1) v i K=pK L a0 a1 n (v+2) ((i+1:Nat):Int) K:=by
 conv=>lhs;unfold pK B113_0;dsimp only
 simp(disch:=omega) only[dY,dt,wi,cond_true,bL,bF,hm];unfold mkW;simp(disch:=omega) only[rM,cond_false];rw[show v+1+1=v+2 by omega,show(i:Int)+1=((i+1:Nat):Int)by omega]
theorem aEF {α:Type}{d:α}{f:Int->α}{s:Int}{l:Nat->Int->Int->(Int->Option Int)->Option Int}{a:List α}{v:Int}(hs:0<=s)(hv:0<=v)(hB:v+s * (a.length:Int)<=1000000000000000)(hm:a=qE f s a.length v)
  (h1:∀ n (v:Int) (i:Nat) K,i < a.length->0<=v->v<=1000000000000000->a.getD i d=f v->l (n+1) v i K=l n (v+s) ((i+1:Nat):Int) K) (h2:∀ n (v:Int) (i:Nat) K,¬ i < a.length->l (n+1) v i K=K v):l (a.length+1) v 0 some=some (v+s * (a.length:Int)):=by
 have:=aAs d f s 1000000000000000 hs a.length v l hv (λn v' i' K k1 k2 k3 k4=>h1 n v' i' K k1 k2 k3 (by rw[<-hm]at k4;exact k4)) h2 hB some (a.length+1) 0 (by omega) (by omega);simp only[hM,Int.mul_zero,pG]at this;exact this
theorem aRe:Sat prog cxT 113 (aMX mX):=bCh mX λx t h=>by
 obtain⟨a,v⟩:=x;unfold mX at h;split at h
 ·rename_i hc;cases h;obtain⟨h1,h2,h3,h4⟩:=hc;simp only at h1 h2 h3 h4;refine⟨a.length+1,aEF (d:=((0,0):Wn)) (by omega) h2 (by omega) h4 (λn v' i' K k1 k2 k3 k4=>bBj _ _ _ _ _ _ _ h1 k1 k2 k3 k4) λn v' i' K k1=>?_⟩;show pK _ _ _ (n+1) v' i' K=_
  conv=>lhs;unfold pK B113_0;dsimp only
  simp(disch:=omega) only[dY,df,cond_false]
 ·cases h
def hdS (x:List Sl×Int):Prop:=x.1.length<=1000000000/\0<=x.2/\x.2<=100000000000/\x.1=qE mkS 10 x.1.length x.2
instance (x:List Sl×Int):Decidable (hdS x):=by unfold hdS;infer_instance
def mW (x:List Sl×Int):Option Int:=if hdS x then some (x.2+10 * (x.1.length:Int))else none
theorem bBi (L:Nat)(a0:List Sl)(a1:Int)(n:Nat)(v:Int)(i:Nat)(K:Int->Option Int)(ho:a0.length<=1000000000)(hi:i < a0.length)(h0:0<=v)(h1:v<=1000000000000000)(hm:a0.getD i dS=mkS v) :
  pJ L a0 a1 (n+1) v i K=pJ L a0 a1 n (v+10) ((i+1:Nat):Int) K:=by
 conv=>lhs;unfold pJ B114_0;dsimp only
 have hm':a0.getD i (0,0,0,0,0,0,0,0,0,0)=mkS v:=hm;simp(disch:=omega) only[dY,dt,wi,cond_true,bL,bF,hm'];unfold mkS mkE;simp(disch:=omega) only[rM,cond_false];rw[show v+1+1+1+1+1+1+1+1+1+1=v+10 by omega,show(i:Int)+1=((i+1:Nat):Int)by omega]
theorem aRd:Sat prog cxT 114 (aMW mW):=bCg mW λx t h=>by
 obtain⟨a,v⟩:=x;unfold mW at h;split at h
 ·rename_i hc;cases h;obtain⟨h1,h2,h3,h4⟩:=hc;simp only at h1 h2 h3 h4;refine⟨a.length+1,aEF (d:=dS) (by omega) h2 (by omega) h4 (λn v' i' K k1 k2 k3 k4=>bBi _ _ _ _ _ _ _ h1 k1 k2 k3 k4) λn v' i' K k1=>?_⟩;show pJ _ _ _ (n+1) v' i' K=_
  conv=>lhs;unfold pJ B114_0;dsimp only
  simp(disch:=omega) only[dY,df,cond_false]
 ·cases h
end Go.Proofs.Tryz
set_option maxHeartbeats 0
namespace Go.Proofs.Tryz
open Go Go.VM Go.RowKit
abbrev Cl:=List Nd×List Ml×List Wn×List Sl
def wC (c:Cl):Int:=bZ wD c.1+bZ wM c.2.1+2 * (c.2.2.1.length:Int)+10 * (c.2.2.2.length:Int)
def cOk (c:Cl):Prop:=wC c<=900000000
instance (c:Cl):Decidable (cOk c):=by unfold cOk;infer_instance
theorem kE {a:List Nd}{b:List Ml}{c:List Wn}{d:List Sl}(h:cOk (a,b,c,d)):0<=bZ wD a/\0<=bZ wM b/\bZ wD a+bZ wM b+2 * (c.length:Int)+10 * (d.length:Int)<=900000000/\(a.length:Int)<=900000000/\(b.length:Int)<=900000000/\aGb b:=by
 have h:bZ wD a+bZ wM b+2 * (c.length:Int)+10 * (d.length:Int)<=900000000:=h;have h1:=kW aHm a;have h2:=kW aTh b;refine⟨by omega,by omega,h,by omega,by omega,λx hx=>?_⟩;have:=lV (w:=wM) (λy _=>aAz y) x hx;have h9:wM x=8+9 * ((tL x).length:Int):=rfl;unfold oP;omega
instance decC1:DecidableEq (List Wn×List Sl):=instDecidableEqProd
instance decC2:DecidableEq (List Ml×List Wn×List Sl):=instDecidableEqProd
instance decCl:DecidableEq Cl:=instDecidableEqProd
def kG (x:Cl×Cl):Option Bool:=if cOk x.1 then some (decide (x.1=x.2))else none
theorem aNj:Sat prog cxT 15 (c15 kG):=s15 m50 m51 m52 m53 aUk aUj aUi aUh kG λx t h=>by
 obtain⟨⟨a,b,c,d⟩,a',b',c',d'⟩:=x;unfold kG at h;split at h
 ·rename_i hc;cases h;obtain⟨h1,h2,h3,h4,h5,h6⟩:=kE hc;refine⟨0,?_⟩;show g15 m50 m51 m52 m53 0 a b c d a' b' c' d'=_;unfold g15 G15;dsimp only;rw[show m50 (a,a')=some (decide (a=a')) from if_pos (by show bZ wD a<=_;omega),aO,show m51 (b,b')=some (decide (b=b')) from if_pos ⟨by show b.length<=_;omega,h6⟩,aO,
   show m52 (c,c')=some (decide (c=c')) from if_pos (by show c.length<=_;omega),aO,show m53 (d,d')=some (decide (d=d')) from if_pos (by show d.length<=_;omega),aO]
  refine pM (λe1=>pM (λe2=>pM (λe3=>pM (λe4=>?_) ?_) ?_) ?_) ?_
  ·subst e1 e2 e3 e4;simp
  all_goals intro e h;simp only[aM]at h;obtain⟨q1,q2,q3,q4⟩:=h;first | exact e q1 | exact e q2 | exact e q3 | exact e q4
 ·cases h
def mkC (c:Cl)(v:Int):Cl:=(mkV mkD wD c.1 v,mkV mkM wM c.2.1 (v+bZ wD c.1),qE mkW 2 c.2.2.1.length (v+bZ wD c.1+bZ wM c.2.1),qE mkS 10 c.2.2.2.length (v+bZ wD c.1+bZ wM c.2.1+2 * (c.2.2.1.length:Int)))
theorem aM9 (c:Cl)(v:Int):wC (mkC c v)=wC c:=by unfold wC mkC;simp only[lR,wR aGn,wR aGm]
theorem aRv (c:Cl)(v:Int):mkC (mkC c v) v=mkC c v:=by unfold mkC;simp only[lR,wR aGn,wR aGm,aFH aGn aRu,aFH aGm aRt]
def mH (x:Cl×Int):Option (Int×Cl):=if cOk x.1/\0<=x.2/\x.2<=50000000 then some (x.2+wC x.1,mkC x.1 x.2)else none
theorem aNi:SatW prog cxT 19 (c19 mH).nres (c19 mH).n (c19 mH).F:=s19 xP xO xN xM aUd aUc aUb aUa mH λx t h=>by
 obtain⟨⟨a,b,c,d⟩,v⟩:=x;unfold mH at h;split at h
 ·rename_i hc;cases h;obtain⟨hc,k1,k2⟩:=hc;obtain⟨h1,h2,h3,h4,h5,h6⟩:=kE hc;simp only at k1 k2;refine⟨0,?_⟩;show g19 xP xO xN xM 0 a b c d v=_;unfold g19 G19;dsimp only;rw[show xP (a,v)=some (v+bZ wD a,mkV mkD wD a v) from if_pos ⟨by show a.length<=_;omega,k1,by show v+bZ wD a<=_;omega⟩,aO];simp only;rw[show xO (b,v+bZ wD a)=some (v+bZ wD a+bZ wM b,mkV mkM wM b (v+bZ wD a)) from if_pos ⟨by show b.length<=_;omega,by show 0<=v+bZ wD a;omega,by show v+bZ wD a+bZ wM b<=_;omega⟩,aO];simp only;rw[show xN (c,v+bZ wD a+bZ wM b)=some (v+bZ wD a+bZ wM b+2 * (c.length:Int),qE mkW 2 c.length (v+bZ wD a+bZ wM b)) from if_pos ⟨by show c.length<=_;omega,by show 0<=v+bZ wD a+bZ wM b;omega,by show v+bZ wD a+bZ wM b<=_;omega⟩,aO];simp only;rw[show xM (d,v+bZ wD a+bZ wM b+2 * (c.length:Int))=some (v+bZ wD a+bZ wM b+2 * (c.length:Int)+10 * (d.length:Int),qE mkS 10 d.length (v+bZ wD a+bZ wM b+2 * (c.length:Int))) from if_pos ⟨by show d.length<=_;omega,by show 0<=v+bZ wD a+bZ wM b+2 * (c.length:Int);omega,by show v+bZ wD a+bZ wM b+2 * (c.length:Int)<=_;omega⟩,aO];unfold wC mkC;simp only[nD]
 ·cases h
def hdC (x:Cl×Int):Prop:=cOk x.1/\0<=x.2/\x.2<=50000000/\x.1=mkC x.1 x.2
instance (x:Cl×Int):Decidable (hdC x):=by unfold hdC;infer_instance
def m65 (x:Cl×Int):Option Int:=if hdC x then some (x.2+wC x.1)else none
theorem aT9:Sat prog cxT 65 (c65 m65):=s65 mZ mY mX mW aRg aRf aRe aRd m65 λx t h=>by
 obtain⟨⟨a,b,c,d⟩,v⟩:=x;unfold m65 at h;split at h
 ·rename_i hc;cases h;obtain⟨hc,k1,k2,k3⟩:=hc;obtain⟨h1,h2,h3,h4,h5,h6⟩:=kE hc;simp only[mkC,aM]at k1 k2 k3;obtain⟨r1,r2,r3,r4⟩:=k3;refine⟨0,?_⟩;show g65 mZ mY mX mW 0 a b c d v=_;unfold g65 G65;dsimp only;rw[show mZ (a,v)=some (v+bZ wD a) from if_pos ⟨by show a.length<=_;omega,k1,by show v+bZ wD a<=_;omega,r1⟩,aO,df (by omega),cond_false,
   show mY (b,v+bZ wD a)=some (v+bZ wD a+bZ wM b) from if_pos ⟨by show b.length<=_;omega,by show 0<=v+bZ wD a;omega,by show v+bZ wD a+bZ wM b<=_;omega,r2⟩,aO,df (by omega),cond_false,
   show mX (c,v+bZ wD a+bZ wM b)=some (v+bZ wD a+bZ wM b+2 * (c.length:Int)) from if_pos ⟨by show c.length<=_;omega,by show 0<=v+bZ wD a+bZ wM b;omega,by show v+bZ wD a+bZ wM b<=_;omega,r3⟩,aO,df (by omega),cond_false,
   show mW (d,v+bZ wD a+bZ wM b+2 * (c.length:Int))=some (v+bZ wD a+bZ wM b+2 * (c.length:Int)+10 * (d.length:Int)) from if_pos ⟨by show d.length<=_;omega,by show 0<=v+bZ wD a+bZ wM b+2 * (c.length:Int);omega,by show v+bZ wD a+bZ wM b+2 * (c.length:Int)<=_;omega,r4⟩,aO,df (by omega),cond_false]
  unfold wC;simp only[nD]
 ·cases h
theorem aRO {c:Cl}{v:Int}(h:cOk c)(h0:0<=v)(h1:v<=50000000):hdC (mkC c v,v):=⟨by unfold cOk at h ⊢;simp only[aM9];exact h,h0,h1,(aRv c v).symm⟩
abbrev Cr:=Int×Cl
instance decCr:DecidableEq Cr:=instDecidableEqProd
def yC (x:Cr×Cr):Option Bool:=if cOk x.1.2 then some (decide (x.1=x.2))else none
theorem aUC:Sat prog cxT 18 (c18 yC):=s18 kG aNj yC λx t h=>by
 obtain⟨⟨q,a⟩,q',a'⟩:=x;unfold yC at h;split at h
 ·rename_i hc;cases h;refine⟨0,?_⟩;show(bif q != q' then some false else dB (kG (a,a')) false λq1=>bif !q1 then some false else some true)=_;rw[show kG (a,a')=some (decide (a=a')) from if_pos hc,aO];refine iA (λe1=>pM (λe2=>?_) ?_) ?_
  ·subst e1 e2;simp
  all_goals intro e h;simp only[aM]at h;obtain⟨q1,q2⟩:=h;first | exact e q1 | exact e q2
 ·cases h
def wV (x:Cr×Int):Option (Int×Cr):=if cOk x.1.2/\x.2=1 then some (1+wC x.1.2,(x.1.1,mkC x.1.2 1))else none
theorem aUB:SatW prog cxT 20 (c20 wV).nres (c20 wV).n (c20 wV).F:=s20 mH aNi wV λx t h=>by
 obtain⟨⟨q,a⟩,v⟩:=x;unfold wV at h;split at h
 ·rename_i hc;cases h;obtain⟨hc,rfl⟩:=hc;refine⟨0,?_⟩;show dB (mH (a,1)) _ (λq1=>some (q1.1,q,q1.2))=_;rw[show mH (a,1)=some (1+wC a,mkC a 1) from if_pos ⟨hc,by(try simp only);omega,by(try simp only);omega⟩,aO]
 ·cases h
def yV (x:Cr×Int):Option Int:=if hdC (x.1.2,1)/\x.2=1 then some (1+wC x.1.2)else none
theorem aPN (c:Cl):0<=wC c:=by
 have h1:=kW aHm c.1;have h2:=kW aTh c.2.1;unfold wC;omega
theorem aUA:Sat prog cxT 21 (c21 yV):=s21 m65 aT9 yV λx t h=>by
 obtain⟨⟨q,a⟩,v⟩:=x;unfold yV at h;split at h
 ·rename_i hc;cases h;obtain⟨hc,rfl⟩:=hc;refine⟨0,?_⟩;show dB (m65 (a,1)) _ (λq1=>bif decide (q1 < 0)then some (-1)else some q1)=some (1+wC a);have:=aPN a;rw[show m65 (a,1)=some (1+wC a) from if_pos hc,aO,df (by omega),cond_false]
 ·cases h
theorem aSk {r:Cr}(h:cOk r.2):yC (r,r)=some true/\wV (r,1)=some (1+wC r.2,(r.1,mkC r.2 1))/\yV ((r.1,mkC r.2 1),1)=some (1+wC r.2)/\0<=wC r.2:=
 ⟨(if_pos h).trans (by rw[dt rfl]),if_pos ⟨h,rfl⟩,(if_pos ⟨aRO h (by omega) (by omega),rfl⟩).trans (by rw[aM9]),aPN _⟩
end Go.Proofs.Tryz
