/- A part of the proof of FnExactClusterFault: LiVa, LiVb, LiVc. -/
import Derived.Test.YtalbnpcbmakijaaGreatLiPq
import Derived.Test.YtalbnpcbmakijaaGreatLiFc
set_option linter.unusedSimpArgs false
set_option linter.unusedVariables false
set_option maxHeartbeats 0
namespace Go.Proofs.Tryz
open Go Go.VM Go.RowKit
def dN:Nd:=(0,0,0,0,[],0,0,[],[],[])
def j1 (x:Nd)(v:Int):Int:=v+4+9 * (x.2.2.2.2.1.length:Int)
def j2 (x:Nd)(v:Int):Int:=j1 x v+2+1 * (x.2.2.2.2.2.2.2.1.length:Int)
def j3 (x:Nd)(v:Int):Int:=j2 x v+1 * (x.2.2.2.2.2.2.2.2.1.length:Int)
def wD (x:Nd):Int:=6+9 * (x.2.2.2.2.1.length:Int)+(x.2.2.2.2.2.2.2.1.length:Int)+(x.2.2.2.2.2.2.2.2.1.length:Int)+(x.2.2.2.2.2.2.2.2.2.length:Int)
def mkD (x:Nd)(v:Int):Nd:=(v,v+1,v+2,v+3,mkR mkE 9 x.2.2.2.2.1.length (v+4),j1 x v,j1 x v+1,mkR mkI 1 x.2.2.2.2.2.2.2.1.length (j1 x v+2),mkR mkI 1 x.2.2.2.2.2.2.2.2.1.length (j2 x v),mkR mkI 1 x.2.2.2.2.2.2.2.2.2.length (j3 x v))
theorem aFZ (x:Nd):0<=wD x:=by unfold wD;omega
theorem aGy {x:Nd}{B:Nat}(h:wD x<=(B:Int)):pA x B:=by
 unfold wD at h;unfold pA;omega
def hdD (x:List Nd×Int):Prop:=x.1.length<=1000000000/\0<=x.2/\x.2+eL wD x.1<=1000000000/\x.1=mkV mkD wD x.1 x.2
instance (x:List Nd×Int):Decidable (hdD x):=by unfold hdD;infer_instance
end Go.Proofs.Tryz
set_option maxHeartbeats 0
namespace Go.Proofs.Tryz
open Go Go.VM Go.RowKit
theorem nG {α:Type}{w:α->Int}(h:∀ x,1<=w x):∀ l:List α,(l.length:Int)<=eL w l
 | []=>jA _
 | x::r=>by
  have h1:=h x;have h2:=nG h r;show((r.length+1:Nat):Int)<=w x+eL w r;omega
theorem aHZ (x:Nd):1<=wD x:=by unfold wD;omega
theorem aUu (x:Ml):1<=wM x:=by unfold wM;omega
theorem aEj {l:List Nd}{B:Nat}(h:eL wD l<=(B:Int)):∀ x∈l,pA x B:=λx hx=>aGy (by
 have:=sY (w:=wD) (λy _=>aFZ y) x hx;omega)
def vW (x:List Nd×List Nd):Option Bool:=if eL wD x.1<=1000000000 then some (decide (x.1=x.2))else none
theorem aRp (L:Nat)(a b:List Nd):∀ (n:Nat) (i:Int) (k:Option Bool),xW lU L a b n i k=eqL dN lU a b n i k
 | 0,_,_=>rfl
 | n+1,i,k=>by
  unfold xW B50_0 eqL;simp only[fB,aRp L a b n]
  rfl
theorem aDI {α:Type}[DecidableEq α]{d:α}{m:α×α->Option Bool}{a b:List α}{L:Nat}{l:Nat->Int->Option Bool->Option Bool}(hl:∀ n i k,l n i k=eqL d m a b n i k)(hL:a.length < L)(ha:a.length<=1000000000000)(hm:∀ x∈a,∀ y∈b,m (x,y)=some (decide (x=y))) :
  (bif ((a.length:Nat):Int) != ((b.length:Nat):Int)then some false else l L 0 (some true))=some (decide (a=b)):=by
 refine gS (λe=>?_) λe h=>e (by rw[h])
 rw[hl];refine(zC d m a b (by omega) (by omega) hm _ _ 0 (by omega) (by omega)).trans ?_;simp only[eS];split<;>rename_i hh<;>simp[hh]
theorem aO5:Sat prog cxT 50 (c50 vW):=s50 lU aOR vW λx t h=>by
 obtain⟨a,b⟩:=x;unfold vW at h;split at h
 ·rename_i hc;cases h;have hc:eL wD a<=1000000000:=hc;have hn:=nG aHZ a;exact⟨a.length+1,aDI (aRp _ a b) (Nat.lt_succ_self _) (by show a.length<=1000000000000;omega) λx hx y _=>if_pos (aEj hc x hx)⟩
 ·cases h
abbrev Wn:=Int×Int
abbrev Sl:=Int×En
instance decSl:DecidableEq Sl:=instDecidableEqProd
theorem aMJ:Sat prog cxT 100 (aI8 λx=>some (decide (x.1=x.2))):=aVy _ λx t h=>by
 obtain⟨⟨a,b⟩,a',b'⟩:=x;cases h;refine⟨0,gS (λe1=>gS (λe2=>?_) ?_) ?_⟩
 ·simp at e1 e2;simp[e1,e2]
 ·intro e h;simp at h;exact e h.2
 ·intro e h;simp at h;exact e h.1
theorem aMI:Sat prog cxT 101 (aI7 λx=>some (decide (x.1=x.2))):=aVx _ aGb _ λx t h=>by
 obtain⟨⟨a,b⟩,a',b'⟩:=x;cases h;refine⟨0,?_⟩;show(bif a != a' then some false else bif !decide (b=b')then some false else some true)=some (decide ((a,b)=(a',b')));refine gS (λe1=>?_) ?_
 ·subst e1;rw[aSR];simp
 ·intro e h;simp at h;exact e h.1
def vU (x:List Wn×List Wn):Option Bool:=if x.1.length<=1000000000 then some (decide (x.1=x.2))else none
theorem aRn (L:Nat)(a b:List Wn):∀ (n:Nat) (i:Int) (k:Option Bool),xU (λx=>some (decide (x.1=x.2))) L a b n i k=eqL (0,0) (λx=>some (decide (x.1=x.2))) a b n i k
 | 0,_,_=>rfl
 | n+1,i,k=>by
  unfold xU B52_0 eqL;simp only[fB,aRn L a b n]
theorem aO3:Sat prog cxT 52 (c52 vU):=s52 _ aMJ vU λx t h=>by
 obtain⟨a,b⟩:=x;unfold vU at h;split at h
 ·rename_i hc;cases h;have hc:a.length<=1000000000:=hc;exact⟨a.length+1,aDI (aRn _ a b) (Nat.lt_succ_self _) (by show a.length<=1000000000000;omega) λx hx y _=>rfl⟩
 ·cases h
def dS:Sl:=(0,iZ)
def vT (x:List Sl×List Sl):Option Bool:=if x.1.length<=1000000000 then some (decide (x.1=x.2))else none
theorem aRm (L:Nat)(a b:List Sl):∀ (n:Nat) (i:Int) (k:Option Bool),xT (λx=>some (decide (x.1=x.2))) L a b n i k=eqL dS (λx=>some (decide (x.1=x.2))) a b n i k
 | 0,_,_=>rfl
 | n+1,i,k=>by
  unfold xT B53_0 eqL;simp only[fB,aRm L a b n]
  rfl
theorem aO2:Sat prog cxT 53 (c53 vT):=s53 _ aMI vT λx t h=>by
 obtain⟨a,b⟩:=x;unfold vT at h;split at h
 ·rename_i hc;cases h;have hc:a.length<=1000000000:=hc;exact⟨a.length+1,aDI (aRm _ a b) (Nat.lt_succ_self _) (by show a.length<=1000000000000;omega) λx hx y _=>rfl⟩
 ·cases h
def mkW (v:Int):Wn:=(v,v+1)
def mkS (v:Int):Sl:=(v,mkE (v+1))
def hdW (x:List Wn×Int):Prop:=x.1.length<=1000000000/\0<=x.2/\x.2<=100000000000/\x.1=mkR mkW 2 x.1.length x.2
instance (x:List Wn×Int):Decidable (hdW x):=by unfold hdW;infer_instance
def hdS (x:List Sl×Int):Prop:=x.1.length<=1000000000/\0<=x.2/\x.2<=100000000000/\x.1=mkR mkS 10 x.1.length x.2
instance (x:List Sl×Int):Decidable (hdS x):=by unfold hdS;infer_instance
end Go.Proofs.Tryz
set_option maxHeartbeats 0
namespace Go.Proofs.Tryz
open Go Go.VM Go.RowKit
abbrev Cl:=List Nd×List Ml×List Wn×List Sl
def wC (c:Cl):Int:=eL wD c.1+eL wM c.2.1+2 * (c.2.2.1.length:Int)+10 * (c.2.2.2.length:Int)
def cOk (c:Cl):Prop:=wC c<=900000000
instance (c:Cl):Decidable (cOk c):=by unfold cOk;infer_instance
theorem oK {a:List Nd}{b:List Ml}{c:List Wn}{d:List Sl}(h:cOk (a,b,c,d)):0<=eL wD a/\0<=eL wM b/\eL wD a+eL wM b+2 * (c.length:Int)+10 * (d.length:Int)<=900000000/\(a.length:Int)<=900000000/\(b.length:Int)<=900000000/\aDJ b:=by
 have h:eL wD a+eL wM b+2 * (c.length:Int)+10 * (d.length:Int)<=900000000:=h;have h1:=nG aHZ a;have h2:=nG aUu b;refine⟨by omega,by omega,h,by omega,by omega,λx hx=>?_⟩;have:=sY (w:=wM) (λy _=>aLu y) x hx;have h9:wM x=8+9 * ((enM x).length:Int):=rfl;unfold mH;omega
instance decC1:DecidableEq (List Wn×List Sl):=instDecidableEqProd
instance decC2:DecidableEq (List Ml×List Wn×List Sl):=instDecidableEqProd
instance decCl:DecidableEq Cl:=instDecidableEqProd
def wH (x:Cl×Cl):Option Bool:=if cOk x.1 then some (decide (x.1=x.2))else none
theorem aPj:Sat prog cxT 15 (c15 wH):=s15 vW vV vU vT aO5 aO4 aO3 aO2 wH λx t h=>by
 obtain⟨⟨a,b,c,d⟩,a',b',c',d'⟩:=x;unfold wH at h;split at h
 ·rename_i hc;cases h;obtain⟨h1,h2,h3,h4,h5,h6⟩:=oK hc;refine⟨0,?_⟩;show g15 vW vV vU vT 0 a b c d a' b' c' d'=_;unfold g15 G15;dsimp only;rw[show vW (a,a')=some (decide (a=a')) from if_pos (by show eL wD a<=_;omega),aV,show vV (b,b')=some (decide (b=b')) from if_pos ⟨by show b.length<=_;omega,h6⟩,aV,
   show vU (c,c')=some (decide (c=c')) from if_pos (by show c.length<=_;omega),aV,show vT (d,d')=some (decide (d=d')) from if_pos (by show d.length<=_;omega),aV]
  refine oL (λe1=>oL (λe2=>oL (λe3=>oL (λe4=>?_) ?_) ?_) ?_) ?_
  ·subst e1 e2 e3 e4;simp
  all_goals intro e h;simp only[aM]at h;obtain⟨q1,q2,q3,q4⟩:=h;first | exact e q1 | exact e q2 | exact e q3 | exact e q4
 ·cases h
def mkC (c:Cl)(v:Int):Cl:=(mkV mkD wD c.1 v,mkV mkM wM c.2.1 (v+eL wD c.1),mkR mkW 2 c.2.2.1.length (v+eL wD c.1+eL wM c.2.1),mkR mkS 10 c.2.2.2.length (v+eL wD c.1+eL wM c.2.1+2 * (c.2.2.1.length:Int)))
def hdC (x:Cl×Int):Prop:=cOk x.1/\0<=x.2/\x.2<=50000000/\x.1=mkC x.1 x.2
instance (x:Cl×Int):Decidable (hdC x):=by unfold hdC;infer_instance
abbrev Cr:=Int×Cl
instance decCr:DecidableEq Cr:=instDecidableEqProd
end Go.Proofs.Tryz
