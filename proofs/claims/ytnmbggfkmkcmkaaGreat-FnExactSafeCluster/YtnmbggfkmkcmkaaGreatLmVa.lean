/- A part of the proof of FnExactSafeCluster: LmVa, LmVb, LmVc. -/
import Derived.Test.YtnmbggfkmkcmkaaGreatLmPq
set_option linter.unusedSimpArgs false
set_option linter.unusedVariables false
set_option maxHeartbeats 0
namespace Go.Proofs.Tryz
open Go Go.VM Go.RowKit
def dN:Nd:=(0,0,0,0,[],0,0,[],[],[])
def j1 (x:Nd)(v:Int):Int:=v+4+9 * (x.2.2.2.2.1.length:Int)
def j2 (x:Nd)(v:Int):Int:=j1 x v+2+1 * (x.2.2.2.2.2.2.2.1.length:Int)
def j3 (x:Nd)(v:Int):Int:=j2 x v+1 * (x.2.2.2.2.2.2.2.2.1.length:Int)
def wD (x:Nd):Int:=6+9 * (x.2.2.2.2.1.length:Int)+(x.2.2.2.2.2.2.2.1.length:Int)+(x.2.2.2.2.2.2.2.2.1.length:Int)+(x.2.2.2.2.2.2.2.2.2.length:Int)
def mkD (x:Nd)(v:Int):Nd:=(v,v+1,v+2,v+3,mkR mkE 9 x.2.2.2.2.1.length (v+4),j1 x v,j1 x v+1,mkR mkI 1 x.2.2.2.2.2.2.2.1.length (j1 x v+2),mkR mkI 1 x.2.2.2.2.2.2.2.2.1.length (j2 x v),mkR mkI 1 x.2.2.2.2.2.2.2.2.2.length (j3 x v))
theorem aHD (x:Nd):0<=wD x:=by unfold wD;omega
theorem aIi {x:Nd}{B:Nat}(h:wD x<=(B:Int)):mM x B:=by
 unfold wD at h;unfold mM;omega
def hdD (x:List Nd×Int):Prop:=x.1.length<=1000000000/\0<=x.2/\x.2+eS wD x.1<=1000000000/\x.1=mkV mkD wD x.1 x.2
instance (x:List Nd×Int):Decidable (hdD x):=by unfold hdD;infer_instance
end Go.Proofs.Tryz
set_option maxHeartbeats 0
namespace Go.Proofs.Tryz
open Go Go.VM Go.RowKit
theorem oN {α:Type}{w:α->Int}(h:∀ x,1<=w x):∀ l:List α,(l.length:Int)<=eS w l
 | []=>jD _
 | x::r=>by
  have h1:=h x;have h2:=oN h r;show((r.length+1:Nat):Int)<=w x+eS w r;omega
theorem aJW (x:Nd):1<=wD x:=by unfold wD;omega
theorem aYD (x:Ml):1<=wM x:=by unfold wM;omega
theorem aCL {l:List Nd}{B:Nat}(h:eS wD l<=(B:Int)):∀ x∈l,mM x B:=λx hx=>aIi (by
 have:=uW (w:=wD) (λy _=>aHD y) x hx;omega)
def yL (x:List Nd×List Nd):Option Bool:=if eS wD x.1<=1000000000 then some (decide (x.1=x.2))else none
theorem aU0 (L:Nat)(a b:List Nd):∀ (n:Nat) (i:Int) (k:Option Bool),aAm mO L a b n i k=eqL dN mO a b n i k
 | 0,_,_=>rfl
 | n+1,i,k=>by
  unfold aAm B45_0 eqL;simp only[eF,aU0 L a b n]
  rfl
theorem aFl {α:Type}[DecidableEq α]{d:α}{m:α×α->Option Bool}{a b:List α}{L:Nat}{l:Nat->Int->Option Bool->Option Bool}(hl:∀ n i k,l n i k=eqL d m a b n i k)(hL:a.length < L)(ha:a.length<=1000000000000)(hm:∀ x∈a,∀ y∈b,m (x,y)=some (decide (x=y))) :
  (bif ((a.length:Nat):Int) != ((b.length:Nat):Int)then some false else l L 0 (some true))=some (decide (a=b)):=by
 refine hM (λe=>?_) λe h=>e (by rw[h])
 rw[hl];refine(aAU d m a b (by omega) (by omega) hm _ _ 0 (by omega) (by omega)).trans ?_;simp only[fC];split<;>rename_i hh<;>simp[hh]
theorem aR5:Sat prog cxT 45 (c45 yL):=s45 mO aRL yL λx t h=>by
 obtain⟨a,b⟩:=x;unfold yL at h;split at h
 ·rename_i hc;cases h;have hc:eS wD a<=1000000000:=hc;have hn:=oN aJW a;exact⟨a.length+1,aFl (aU0 _ a b) (Nat.lt_succ_self _) (by show a.length<=1000000000000;omega) λx hx y _=>if_pos (aCL hc x hx)⟩
 ·cases h
abbrev Wn:=Int×Int
abbrev Sl:=Int×En
instance decSl:DecidableEq Sl:=instDecidableEqProd
theorem aRJ:Sat prog cxT 84 (c84 λx=>some (decide (x.1=x.2))):=s84 _ λx t h=>by
 obtain⟨⟨a,b⟩,a',b'⟩:=x;cases h;refine⟨0,hM (λe1=>hM (λe2=>?_) ?_) ?_⟩
 ·simp at e1 e2;simp[e1,e2]
 ·intro e h;simp at h;exact e h.2
 ·intro e h;simp at h;exact e h.1
theorem aRI:Sat prog cxT 85 (c85 λx=>some (decide (x.1=x.2))):=s85 _ aLg _ λx t h=>by
 obtain⟨⟨a,b⟩,a',b'⟩:=x;cases h;refine⟨0,?_⟩;show(bif a != a' then some false else bif !decide (b=b')then some false else some true)=some (decide ((a,b)=(a',b')));refine hM (λe1=>?_) ?_
 ·subst e1;rw[aWT];simp
 ·intro e h;simp at h;exact e h.1
def yJ (x:List Wn×List Wn):Option Bool:=if x.1.length<=1000000000 then some (decide (x.1=x.2))else none
theorem aUY (L:Nat)(a b:List Wn):∀ (n:Nat) (i:Int) (k:Option Bool),aAk (λx=>some (decide (x.1=x.2))) L a b n i k=eqL (0,0) (λx=>some (decide (x.1=x.2))) a b n i k
 | 0,_,_=>rfl
 | n+1,i,k=>by
  unfold aAk B47_0 eqL;simp only[eF,aUY L a b n]
theorem aR3:Sat prog cxT 47 (c47 yJ):=s47 _ aRJ yJ λx t h=>by
 obtain⟨a,b⟩:=x;unfold yJ at h;split at h
 ·rename_i hc;cases h;have hc:a.length<=1000000000:=hc;exact⟨a.length+1,aFl (aUY _ a b) (Nat.lt_succ_self _) (by show a.length<=1000000000000;omega) λx hx y _=>rfl⟩
 ·cases h
def dS:Sl:=(0,gB)
def yI (x:List Sl×List Sl):Option Bool:=if x.1.length<=1000000000 then some (decide (x.1=x.2))else none
theorem aUX (L:Nat)(a b:List Sl):∀ (n:Nat) (i:Int) (k:Option Bool),aAj (λx=>some (decide (x.1=x.2))) L a b n i k=eqL dS (λx=>some (decide (x.1=x.2))) a b n i k
 | 0,_,_=>rfl
 | n+1,i,k=>by
  unfold aAj B48_0 eqL;simp only[eF,aUX L a b n]
  rfl
theorem aR2:Sat prog cxT 48 (c48 yI):=s48 _ aRI yI λx t h=>by
 obtain⟨a,b⟩:=x;unfold yI at h;split at h
 ·rename_i hc;cases h;have hc:a.length<=1000000000:=hc;exact⟨a.length+1,aFl (aUX _ a b) (Nat.lt_succ_self _) (by show a.length<=1000000000000;omega) λx hx y _=>rfl⟩
 ·cases h
def mkW (v:Int):Wn:=(v,v+1)
def mkS (v:Int):Sl:=(v,mkE (v+1))
def hdW (x:List Wn×Int):Prop:=x.1.length<=1000000000/\0<=x.2/\x.2<=100000000000/\x.1=mkR mkW 2 x.1.length x.2
instance (x:List Wn×Int):Decidable (hdW x):=by unfold hdW;infer_instance
def hdS (x:List Sl×Int):Prop:=x.1.length<=1000000000/\0<=x.2/\x.2<=100000000000/\x.1=mkR mkS 10 x.1.length x.2
instance (x:List Sl×Int):Decidable (hdS x):=by unfold hdS;infer_instance
end Go.Proofs.Tryz
set_option maxHeartbeats 0
namespace Go.Proofs.Tryz
open Go Go.VM Go.RowKit
abbrev Cl:=List Nd×List Ml×List Wn×List Sl
def wC (c:Cl):Int:=eS wD c.1+eS wM c.2.1+2 * (c.2.2.1.length:Int)+10 * (c.2.2.2.length:Int)
def cOk (c:Cl):Prop:=wC c<=900000000
instance (c:Cl):Decidable (cOk c):=by unfold cOk;infer_instance
theorem mC {a:List Nd}{b:List Ml}{c:List Wn}{d:List Sl}(h:cOk (a,b,c,d)):0<=eS wD a/\0<=eS wM b/\eS wD a+eS wM b+2 * (c.length:Int)+10 * (d.length:Int)<=900000000/\(a.length:Int)<=900000000/\(b.length:Int)<=900000000/\aFm b:=by
 have h:eS wD a+eS wM b+2 * (c.length:Int)+10 * (d.length:Int)<=900000000:=h;have h1:=oN aJW a;have h2:=oN aYD b;refine⟨by omega,by omega,h,by omega,by omega,λx hx=>?_⟩;have:=uW (w:=wM) (λy _=>aNR y) x hx;have h9:wM x=8+9 * ((enM x).length:Int):=rfl;unfold jL;omega
instance decC1:DecidableEq (List Wn×List Sl):=instDecidableEqProd
instance decC2:DecidableEq (List Ml×List Wn×List Sl):=instDecidableEqProd
instance decCl:DecidableEq Cl:=instDecidableEqProd
def fB (x:Cl×Cl):Option Bool:=if cOk x.1 then some (decide (x.1=x.2))else none
theorem aDx:Sat prog cxT 14 (c14 fB):=s14 yL yK yJ yI aR5 aR4 aR3 aR2 fB λx t h=>by
 obtain⟨⟨a,b,c,d⟩,a',b',c',d'⟩:=x;unfold fB at h;split at h
 ·rename_i hc;cases h;obtain⟨h1,h2,h3,h4,h5,h6⟩:=mC hc;refine⟨0,?_⟩;show g14 yL yK yJ yI 0 a b c d a' b' c' d'=_;unfold g14 G14;dsimp only;rw[show yL (a,a')=some (decide (a=a')) from if_pos (by show eS wD a<=_;omega),aR,show yK (b,b')=some (decide (b=b')) from if_pos ⟨by show b.length<=_;omega,h6⟩,aR,
   show yJ (c,c')=some (decide (c=c')) from if_pos (by show c.length<=_;omega),aR,show yI (d,d')=some (decide (d=d')) from if_pos (by show d.length<=_;omega),aR]
  refine pQ (λe1=>pQ (λe2=>pQ (λe3=>pQ (λe4=>?_) ?_) ?_) ?_) ?_
  ·subst e1 e2 e3 e4;simp
  all_goals intro e h;simp only[aN]at h;obtain⟨q1,q2,q3,q4⟩:=h;first | exact e q1 | exact e q2 | exact e q3 | exact e q4
 ·cases h
def mkC (c:Cl)(v:Int):Cl:=(mkV mkD wD c.1 v,mkV mkM wM c.2.1 (v+eS wD c.1),mkR mkW 2 c.2.2.1.length (v+eS wD c.1+eS wM c.2.1),mkR mkS 10 c.2.2.2.length (v+eS wD c.1+eS wM c.2.1+2 * (c.2.2.1.length:Int)))
def m26 (x:Cl×Int):Option (Int×Cl):=if cOk x.1/\0<=x.2/\x.2<=50000000 then some (x.2+wC x.1,mkC x.1 x.2)else none
def hdC (x:Cl×Int):Prop:=cOk x.1/\0<=x.2/\x.2<=50000000/\x.1=mkC x.1 x.2
instance (x:Cl×Int):Decidable (hdC x):=by unfold hdC;infer_instance
abbrev Cr:=Int×Cl
instance decCr:DecidableEq Cr:=instDecidableEqProd
end Go.Proofs.Tryz
