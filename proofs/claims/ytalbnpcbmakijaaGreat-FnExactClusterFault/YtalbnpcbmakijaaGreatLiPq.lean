/- A part of the proof of FnExactClusterFault: LiPq, LiPr, LiPt. -/
import Derived.Test.YtalbnpcbmakijaaGreatLiPc
import Derived.Test.YtalbnpcbmakijaaGreatVmPl
set_option linter.unusedSimpArgs false
set_option linter.unusedVariables false
set_option maxHeartbeats 0
namespace Go.Proofs.Tryz
open Go.IntKind (wrap)
open Go Go.VM Go.RowKit
def bI (x:Int×Int×Int):Option Bool:=some (decide (x.2.1<=x.1/\x.1<=x.2.2))
def tN (p i:Int):Bool:=decide (0<=i/\i<=wrap .i64 (p-1))
def cR (x:Nd×Int):Option Bool:=some (tN x.1.2.1 x.2)
theorem aC6:Sat prog cxT 135 (aCM cR):=aVt bI mK cR λx t h=>by cases h;exact⟨0,rfl⟩
def qE (p:Nat->Bool):Nat->Nat->Bool
 | 0,_=>true
 | n+1,i=>p i&&qE p n (i+1)
theorem wO {p:Nat->Bool}:∀ {n i:Nat},qE p n i=true↔∀ j,i<=j->j < i+n->p j=true
 | 0,i=>⟨λ_ j h1 h2=>by omega,λ_=>rfl⟩
 | n+1,i=>by
  show(p i&&qE p n (i+1))=true↔_;rw[aD,wO];refine⟨λ⟨h1,h2⟩ j h3 h4=>?_,λh=>⟨h i (aH _) (by omega),λj h3 h4=>h j (by omega) (by omega)⟩⟩;rcases iK i j with h5 | h5
  ·exact h2 j h5 (by omega)
  ·rw[show j=i by omega];exact h1
def uS (a:List Int):Bool:=qE (λi=>decide (a.getD (i-1) 0 < a.getD i 0)) (a.length-1) 1
theorem aKs (L:Nat)(a:List Int)(ha:a.length<=1000000000)(K:Option Bool):∀ (n i:Nat),1<=i->a.length < n+i->1<=n->sD L a n (i:Int) K=bif qE (λi=>decide (a.getD (i-1) 0 < a.getD i 0)) (a.length-i) i then K else some false
 | 0,i,h1,h,h9=>by omega
 | n+1,i,h1,h,h9=>by
  unfold sD B182_0;dsimp only[fB];by_cases hi:i < a.length
  ·simp(disch:=omega) only[fB,dt,wi,cond_true,cI,cD];rw[show((i:Int)-1).toNat=i-1 by omega,show a.length-i=a.length-(i+1)+1 by omega];unfold qE;by_cases hq:a.getD i 0<=a.getD (i-1) 0
   ·rw[dt hq,cond_true,df (by omega)];rfl
   ·rw[df hq,cond_false,show(i:Int)+1=((i+1:Nat):Int)by omega,aKs L a ha K n (i+1) (by omega) (by omega) (by omega),dt (by omega),eW]
  ·rw[df (by omega),cond_false,show a.length-i=0 by omega]
   rfl
def fV (a:List Int):Option Bool:=if a.length<=mH then some (uS a)else none
theorem aMo:Sat prog cxT 182 (aIP fV):=aU4 fV λa t h=>by
 unfold fV at h;split at h
 ·rename_i hm;cases h;refine⟨a.length+1,?_⟩
  (try unfold aLz);unfold aIr A182_0 G182;dsimp only[fB]
  refine(aKs (a.length+1) a hm (some true) (a.length+1) 1 (by omega) (by omega) (by omega)).trans ?_;unfold uS;cases qE (λi=>decide (a.getD (i-1) 0 < a.getD i 0)) (a.length-1) 1<;>rfl
 ·cases h
def ids (p:Int)(a:List Int):Bool:=qE (λi=>tN p (a.getD i 0)) a.length 0
theorem aKA (L:Nat)(x:Nd)(ha:x.2.2.2.2.2.2.2.1.length<=1000000000)(K:Option Bool):∀ (n i:Nat),i<=x.2.2.2.2.2.2.2.1.length->x.2.2.2.2.2.2.2.1.length < n+i->sK fV cR L x n (i:Int) K=bif qE (λi=>tN x.2.1 (x.2.2.2.2.2.2.2.1.getD i 0)) (x.2.2.2.2.2.2.2.1.length-i) i then K else some false
 | 0,i,h0,h=>by omega
 | n+1,i,h0,h=>by
  unfold sK B137_0;dsimp only[fB];by_cases hi:i < x.2.2.2.2.2.2.2.1.length
  ·simp(disch:=omega) only[fB,dt,wi,cond_true,cI,cD];rw[show cR (x,x.2.2.2.2.2.2.2.1.getD i 0)=some (tN x.2.1 (x.2.2.2.2.2.2.2.1.getD i 0)) from rfl,aV,show x.2.2.2.2.2.2.2.1.length-i=x.2.2.2.2.2.2.2.1.length-(i+1)+1 by omega];unfold qE;cases hq:tN x.2.1 (x.2.2.2.2.2.2.2.1.getD i 0)
   ·rfl
   ·rw[cE,cond_false,show(i:Int)+1=((i+1:Nat):Int)by omega,aKA L x ha K n (i+1) (by omega) (by omega),eW]
  ·rw[df (by omega),cond_false,show x.2.2.2.2.2.2.2.1.length-i=0 by omega]
   rfl
def uW (x:Nd):Bool:=uS x.2.2.2.2.2.2.2.1&&(decide (x.2.2.2.2.2.2.2.1=[]) || x.2.2.2.2.2.1 == 1)&&ids x.2.1 x.2.2.2.2.2.2.2.1 &&
 (decide ((x.2.2.2.2.2.2.2.2.1.length:Int)=if x.2.2.2.2.2.1=2 then x.2.1 else 0)&&decide ((x.2.2.2.2.2.2.2.2.2.length:Int)=if x.2.2.2.2.2.1=2 then x.2.1 else 0))
def fX (x:Nd):Option Bool:=if pA x mH then some (uW x)else none
theorem aLU (r p:Int)(a b:Nat):(bif r == 2 then bif ((a:Int) == p)then some ((b:Int) == p)else some false else bif ((a:Int) == 0)then some ((b:Int) == 0)else some false)=
  some (decide ((a:Int)=if r=2 then p else 0)&&decide ((b:Int)=if r=2 then p else 0)):=by
 have bq:∀ x y:Int,(x == y)=decide (x=y):=λx y=>by by_cases h:x=y<;>simp[h]
 rw[bq,bq,bq,bq,bq];by_cases hr:r=2
 ·rw[dt hr,cond_true,if_pos hr];cases decide ((a:Int)=p)<;>rfl
 ·rw[df hr,cond_false,if_neg hr];cases decide ((a:Int)=0)<;>rfl
theorem aMG:Sat prog cxT 137 (aI5 fX):=aVr fV cR aMo aC6 fX λx t h=>by
 unfold fX at h;split at h
 ·rename_i hm;cases h;obtain⟨h1,h2,h3,h4⟩:=hm;simp only[mH]at h1 h2 h3 h4;refine⟨x.2.2.2.2.2.2.2.1.length+1,?_⟩;have e0:=λK=>aKA (x.2.2.2.2.2.2.2.1.length+1) x h2 K (x.2.2.2.2.2.2.2.1.length+1) 0 (by omega) (by omega)
  simp only[lA,mR]at e0;show aHr fV cR _ x=_
  (try unfold aLP);unfold aHr A137_0 G137;dsimp only[fB]
  rw[show fV x.2.2.2.2.2.2.2.1=some (uS x.2.2.2.2.2.2.2.1) from if_pos h2,aV,aLU,e0];unfold uW;show _=some (_&&_&&qE _ _ _&&_);cases uS x.2.2.2.2.2.2.2.1
  ·rfl
  rw[cE,cond_false,eW];by_cases hv:x.2.2.2.2.2.2.2.1=[]
  ·rw[hv]
   rfl
  ·have hl:0 < x.2.2.2.2.2.2.2.1.length:=List.length_pos_iff.2 hv;rw[dt (show(x.2.2.2.2.2.2.2.1.length:Int) > 0 by omega),cond_true,df hv,oR];by_cases hr:x.2.2.2.2.2.1=1
   ·rw[aCO hr,cond_false,show(x.2.2.2.2.2.1 == 1)=true by simpa using hr,eW];cases qE (λi=>tN x.2.1 (x.2.2.2.2.2.2.2.1.getD i 0)) x.2.2.2.2.2.2.2.1.length 0<;>rfl
   ·rw[show(x.2.2.2.2.2.1 != 1)=true by simpa using hr,cond_true,show(x.2.2.2.2.2.1 == 1)=false by simpa using hr]
    rfl
 ·cases h
end Go.Proofs.Tryz
set_option maxHeartbeats 0
namespace Go.Proofs.Tryz
open Go.IntKind (wrap)
open Go Go.VM Go.RowKit
def aGw (x:Nd)(i:Nat):Bool:=decide (1<=x.2.2.2.2.2.2.2.2.1.getD i 0/\x.2.2.2.2.2.2.2.2.1.getD i 0<=(x.2.2.2.2.1.length:Int)+1)&&decide (0<=x.2.2.2.2.2.2.2.2.2.getD i 0/\x.2.2.2.2.2.2.2.2.2.getD i 0<=(x.2.2.2.2.1.length:Int))
theorem aRl (L:Nat)(x:Nd)(hl:pA x mH)(he:x.2.2.2.2.2.2.2.2.2.length=x.2.2.2.2.2.2.2.2.1.length)(K:Option Int):∀ (n i:Nat),i<=x.2.2.2.2.2.2.2.2.1.length->x.2.2.2.2.2.2.2.2.1.length < n+i->
  xS bI cR pK jM fX L x n (i:Int) K=bif qE (aGw x) (x.2.2.2.2.2.2.2.2.1.length-i) i then K else some 3
 | 0,i,h0,h=>by omega
 | n+1,i,h0,h=>by
  obtain⟨h1,h2,h3,h4⟩:=hl;simp only[mH]at h1 h2 h3 h4;unfold xS B85_0;dsimp only[fB];by_cases hi:i < x.2.2.2.2.2.2.2.2.1.length
  ·rw[dt (show(i:Int) < (x.2.2.2.2.2.2.2.2.1.length:Int)by omega),dt (show(0:Int)<=(i:Int)by omega),dt (show(i:Int) < (x.2.2.2.2.2.2.2.2.2.length:Int)by omega)];simp only[cI,cond_true,cD];rw[wi (show -9223372036854775808<=(x.2.2.2.2.1.length:Int)+1 by omega) (by omega),wi (show -9223372036854775808<=(i:Int)+1 by omega) (by omega)];rw[show bI (x.2.2.2.2.2.2.2.2.1.getD i 0,1,(x.2.2.2.2.1.length:Int)+1)=some (decide (1<=x.2.2.2.2.2.2.2.2.1.getD i 0/\x.2.2.2.2.2.2.2.2.1.getD i 0<=(x.2.2.2.2.1.length:Int)+1)) from rfl,aV,
    show bI (x.2.2.2.2.2.2.2.2.2.getD i 0,0,(x.2.2.2.2.1.length:Int))=some (decide (0<=x.2.2.2.2.2.2.2.2.2.getD i 0/\x.2.2.2.2.2.2.2.2.2.getD i 0<=(x.2.2.2.2.1.length:Int))) from rfl,aV,
    show x.2.2.2.2.2.2.2.2.1.length-i=x.2.2.2.2.2.2.2.2.1.length-(i+1)+1 by omega]
   show _=bif (decide _&&decide _)&&qE _ _ _ then K else some 3
   cases decide (1<=x.2.2.2.2.2.2.2.2.1.getD i 0/\x.2.2.2.2.2.2.2.2.1.getD i 0<=(x.2.2.2.2.1.length:Int)+1)
   ·rfl
   cases decide (0<=x.2.2.2.2.2.2.2.2.2.getD i 0/\x.2.2.2.2.2.2.2.2.2.getD i 0<=(x.2.2.2.2.1.length:Int))
   ·rfl
   simp only[cE,cond_false,eW];rw[show(i:Int)+1=((i+1:Nat):Int)by omega,aRl L x ⟨h1,h2,h3,h4⟩ he K n (i+1) (by omega) (by omega)]
  ·rw[df (by omega),cond_false,show x.2.2.2.2.2.2.2.2.1.length-i=0 by omega]
   rfl
def aNz (x:Nd):Int:=bif x.2.2.2.2.2.1 != 0 then bif x.2.2.2.1 != x.1 then 1 else bif x.2.2.1 == 0 then 1 else 0 else 0
def ndF (x:Nd):Int:=
 bif !decide (1<=x.2.1/\x.2.1<=5)then 3 else bif !tN x.2.1 x.1 then 3 else bif !decide (0<=x.2.2.1/\x.2.2.1<=100000)then 3 else bif !decide (-1<=x.2.2.2.1/\x.2.2.2.1<=wrap .i64 (x.2.1-1))then 3
 else bif !decide (0<=x.2.2.2.2.2.1/\x.2.2.2.2.2.1<=2)then 3 else bif sA x.2.2.2.2.1 != 0 then sA x.2.2.2.2.1 else bif decide ((lC x.2.2.2.2.1).1 > x.2.2.1)then 1
 else bif !decide (0<=x.2.2.2.2.2.2.1/\x.2.2.2.2.2.2.1<=(x.2.2.2.2.1.length:Int))then 3 else bif !uW x then 1 else bif qE (aGw x) x.2.2.2.2.2.2.2.2.1.length 0 then aNz x else 3
def dX (x:Nd):Option Int:=if pA x mH then some (ndF x)else none
theorem aAP {x:Nd}(h:uW x=true):x.2.2.2.2.2.2.2.2.2.length=x.2.2.2.2.2.2.2.2.1.length:=by
 unfold uW at h;simp only[aD,decide_eq_true_eq]at h;obtain⟨_,h1,h2⟩:=h;omega
theorem aOZ:Sat prog cxT 85 (c85 dX):=s85 bI cR pK jM fX mK aC6 aGh aGj aMG dX λx t h=>by
 unfold dX at h;split at h
 ·rename_i hm;cases h;refine⟨x.2.2.2.2.2.2.2.2.1.length+1,?_⟩;have hl:=hm;obtain⟨h1,h2,h3,h4⟩:=hm;show g85 bI cR pK jM fX _ x=_
  (try unfold w85);unfold g85 A85_0 G85;dsimp only[fB]
  rw[show pK x.2.2.2.2.1=some (sA x.2.2.2.2.1) from rfl,show jM x.2.2.2.2.1=some (lC x.2.2.2.2.1) from if_pos h1,show fX x=some (uW x) from if_pos hl];simp only[bI,cR,aV];unfold ndF;have bq:∀ (b:Bool) (u v:Int),(bif b then some u else some v)=some (bif b then u else v):=λb u v=>by cases b<;>rfl
  by_cases hL:uW x=true
  ·have e0:=λK=>aRl (x.2.2.2.2.2.2.2.2.1.length+1) x hl (aAP hL) K (x.2.2.2.2.2.2.2.2.1.length+1) 0 (by omega) (by omega)
   simp only[lA,mR]at e0;rw[e0];unfold aNz;simp only[bq]
  ·rw[oY]at hL;simp only[hL,kJ,cond_true,bq]
 ·cases h
end Go.Proofs.Tryz
set_option maxHeartbeats 0
namespace Go.Proofs.Tryz
open Go.IntKind (wrap)
open Go Go.VM Go.RowKit
abbrev Ml:=Int×Int×Int×Int×Int×Int×Int×Bool×List En
def dM:Ml:=(0,0,0,0,0,0,0,false,[])
instance decM1:DecidableEq (Bool×List En):=inferInstance
instance decM2:DecidableEq (Int×Bool×List En):=instDecidableEqProd
instance decM3:DecidableEq (Int×Int×Bool×List En):=instDecidableEqProd
instance decM4:DecidableEq (Int×Int×Int×Bool×List En):=instDecidableEqProd
instance decM5:DecidableEq (Int×Int×Int×Int×Bool×List En):=instDecidableEqProd
instance decM6:DecidableEq (Int×Int×Int×Int×Int×Bool×List En):=instDecidableEqProd
instance decM7:DecidableEq (Int×Int×Int×Int×Int×Int×Bool×List En):=instDecidableEqProd
instance decMl:DecidableEq Ml:=(instDecidableEqProd:DecidableEq (Int×Int×Int×Int×Int×Int×Int×Bool×List En))
def enM (x:Ml):List En:=x.2.2.2.2.2.2.2.2
def lT (x:Ml×Ml):Option Bool:=if(enM x.1).length<=mH then some (decide (x.1=x.2))else none
theorem aNJ {a b:Bool}{o:Option Bool}{p:Prop}[Decidable p](h:a=b->o=some (decide p))(h2:¬ a=b->¬ p):(bif !(a == b)then some false else o)=some (decide p):=by
 by_cases hp:a=b
 ·rw[show(a == b)=true by simpa using hp];exact h hp
 ·rw[show(a == b)=false by simpa using hp,df (h2 hp)];rfl
theorem aOQ:Sat prog cxT 99 (c99 lT):=s99 gE aGc lT λx t h=>by
 obtain⟨⟨a,b,c,d,e,f,g,o,l⟩,a',b',c',d',e',f',g',o',l'⟩:=x;unfold lT at h;split at h
 ·rename_i hc;cases h;have hc:l.length<=1000000000:=hc;refine⟨0,?_⟩;show g99 gE 0 a b c d e f g o l a' b' c' d' e' f' g' o' l'=_
  (try unfold w99);unfold g99 G99;dsimp only[fB]
  rw[show gE (l,l')=some (decide (l=l')) from if_pos (by(try simp only);omega),aV];refine gS (λe1=>gS (λe2=>gS (λe3=>gS (λe4=>gS (λe5=>gS (λe6=>gS (λe7=>aNJ (λe8=>oL (λe9=>?_) ?_) ?_) ?_) ?_) ?_) ?_) ?_) ?_) ?_
  ·subst e1 e2 e3 e4 e5 e6 e7 e8 e9;simp
  all_goals intro e h;simp only[aM]at h;obtain⟨q1,q2,q3,q4,q5,q6,q7,q8,q9⟩:=h;first | exact e q1 | exact e q2 | exact e q3 | exact e q4 | exact e q5 | exact e q6 | exact e q7 | exact e q8 | exact e q9
 ·cases h
theorem aRo (m:Ml×Ml->Option Bool)(L:Nat)(a b:List Ml):∀ (n:Nat) (i:Int) (k:Option Bool),xV m L a b n i k=eqL dM m a b n i k
 | 0,_,_=>rfl
 | n+1,i,k=>by
  unfold xV B51_0 eqL;dsimp only[fB];simp only[aRo m L a b n]
  rfl
def aDJ (l:List Ml):Prop:=∀ x∈l,(enM x).length<=mH
instance (l:List Ml):Decidable (aDJ l):=by unfold aDJ;infer_instance
def vV (x:List Ml×List Ml):Option Bool:=if x.1.length<=1000000000000/\aDJ x.1 then some (decide (x.1=x.2))else none
theorem aO4:Sat prog cxT 51 (c51 vV):=s51 lT aOQ vV λx t h=>by
 obtain⟨a,b⟩:=x;unfold vV at h;split at h
 ·rename_i hc;cases h;obtain⟨hc,hE⟩:=hc;have hc:a.length<=1000000000000:=hc;refine⟨a.length+1,?_⟩;show g51 lT (a.length+1) a b=some (decide (a=b))
  (try unfold w51);unfold g51 A51_0 G51;dsimp only[fB]
  refine gS (λe=>?_) λe h=>e (by rw[h])
  rw[aRo];refine(zC dM lT a b (by omega) (by omega) (λx hx y _=>if_pos (hE x hx)) _ _ 0 (by omega) (by omega)).trans ?_;simp only[eS];split<;>rename_i hh<;>simp[hh]
 ·cases h
def mkM (x:Ml)(v:Int):Ml:=(v,v+1,v+2,v+3,v+4,v+5,v+6,(Int.tmod (v+7) 3 == 0),mkR mkE 9 (enM x).length (v+8))
def wM (x:Ml):Int:=8+9 * ((enM x).length:Int)
theorem aLu (x:Ml):0<=wM x:=by unfold wM;omega
def hdM (x:List Ml×Int):Prop:=x.1.length<=1000000000/\0<=x.2/\x.2+eL wM x.1<=1000000000/\x.1=mkV mkM wM x.1 x.2
instance (x:List Ml×Int):Decidable (hdM x):=by unfold hdM;infer_instance
end Go.Proofs.Tryz
