/- A part of the proof of FnExactLeaderOf: LmPq, LmPr, LmPt. -/
import Derived.Test.YtnmbggfkmkcmkaaGreatLmPc
import Derived.Test.YtnmbggfkmkcmkaaGreatVmPl
set_option linter.unusedSimpArgs false
set_option linter.unusedVariables false
set_option maxHeartbeats 0
namespace Go.Proofs.Tryz
open Go.IntKind (wrap)
open Go Go.VM Go.RowKit
def bN (x:Int×Int×Int):Option Bool:=some (decide (x.2.1<=x.1/\x.1<=x.2.2))
def uW (p i:Int):Bool:=decide (0<=i/\i<=wrap .i64 (p-1))
def fL (x:Nd×Int):Option Bool:=some (uW x.1.2.1 x.2)
theorem aHz:Sat prog cxT 96 (c96 fL):=s96 bN nA fL λx t h=>by cases h;exact⟨0,rfl⟩
def pP (p:Nat->Bool):Nat->Nat->Bool
 | 0,_=>true
 | n+1,i=>p i&&pP p n (i+1)
theorem yZ {p:Nat->Bool}:∀ {n i:Nat},pP p n i=true↔∀ j,i<=j->j < i+n->p j=true
 | 0,i=>⟨λ_ j h1 h2=>by omega,λ_=>rfl⟩
 | n+1,i=>by
  show(p i&&pP p n (i+1))=true↔_;rw[aD,yZ];refine⟨λ⟨h1,h2⟩ j h3 h4=>?_,λh=>⟨h i (aH _) (by omega),λj h3 h4=>h j (by omega) (by omega)⟩⟩;rcases iU i j with h5 | h5
  ·exact h2 j h5 (by omega)
  ·rw[show j=i by omega];exact h1
def wV (a:List Int):Bool:=pP (λi=>decide (a.getD (i-1) 0 < a.getD i 0)) (a.length-1) 1
theorem aMA (L:Nat)(a:List Int)(ha:a.length<=1000000000)(K:Option Bool):∀ (n i:Nat),1<=i->a.length < n+i->1<=n->tQ L a n (i:Int) K=bif pP (λi=>decide (a.getD (i-1) 0 < a.getD i 0)) (a.length-i) i then K else some false
 | 0,i,h1,h,h9=>by omega
 | n+1,i,h1,h,h9=>by
  unfold tQ B114_0;dsimp only[dX];by_cases hi:i < a.length
  ·simp(disch:=omega) only[dX,dt,wi,cond_true,bM,bB];rw[show((i:Int)-1).toNat=i-1 by omega,show a.length-i=a.length-(i+1)+1 by omega];unfold pP;by_cases hq:a.getD i 0<=a.getD (i-1) 0
   ·rw[dt hq,cond_true,df (by omega)];rfl
   ·rw[df hq,cond_false,show(i:Int)+1=((i+1:Nat):Int)by omega,aMA L a ha K n (i+1) (by omega) (by omega) (by omega),dt (by omega),fF]
  ·rw[df (by omega),cond_false,show a.length-i=0 by omega]
   rfl
def gL (a:List Int):Option Bool:=if a.length<=lN then some (wV a)else none
theorem aOr:Sat prog cxT 114 (aKP gL):=aYv gL λa t h=>by
 unfold gL at h;split at h
 ·rename_i hm;cases h;refine⟨a.length+1,?_⟩
  (try unfold aNC);unfold aKk A114_0 G114;dsimp only[dX]
  refine(aMA (a.length+1) a hm (some true) (a.length+1) 1 (by omega) (by omega) (by omega)).trans ?_;unfold wV;cases pP (λi=>decide (a.getD (i-1) 0 < a.getD i 0)) (a.length-1) 1<;>rfl
 ·cases h
def ids (p:Int)(a:List Int):Bool:=pP (λi=>uW p (a.getD i 0)) a.length 0
theorem aTS (L:Nat)(x:Nd)(ha:x.2.2.2.2.2.2.2.1.length<=1000000000)(K:Option Bool):∀ (n i:Nat),i<=x.2.2.2.2.2.2.2.1.length->x.2.2.2.2.2.2.2.1.length < n+i->aAc gL fL L x n (i:Int) K=bif pP (λi=>uW x.2.1 (x.2.2.2.2.2.2.2.1.getD i 0)) (x.2.2.2.2.2.2.2.1.length-i) i then K else some false
 | 0,i,h0,h=>by omega
 | n+1,i,h0,h=>by
  unfold aAc B99_0;dsimp only[dX];by_cases hi:i < x.2.2.2.2.2.2.2.1.length
  ·simp(disch:=omega) only[dX,dt,wi,cond_true,bM,bB];rw[show fL (x,x.2.2.2.2.2.2.2.1.getD i 0)=some (uW x.2.1 (x.2.2.2.2.2.2.2.1.getD i 0)) from rfl,aP,show x.2.2.2.2.2.2.2.1.length-i=x.2.2.2.2.2.2.2.1.length-(i+1)+1 by omega];unfold pP;cases hq:uW x.2.1 (x.2.2.2.2.2.2.2.1.getD i 0)
   ·rfl
   ·rw[cC,cond_false,show(i:Int)+1=((i+1:Nat):Int)by omega,aTS L x ha K n (i+1) (by omega) (by omega),fF]
  ·rw[df (by omega),cond_false,show x.2.2.2.2.2.2.2.1.length-i=0 by omega]
   rfl
def xA (x:Nd):Bool:=wV x.2.2.2.2.2.2.2.1&&(decide (x.2.2.2.2.2.2.2.1=[]) || x.2.2.2.2.2.1 == 1)&&ids x.2.1 x.2.2.2.2.2.2.2.1 &&
 (decide ((x.2.2.2.2.2.2.2.2.1.length:Int)=if x.2.2.2.2.2.1=2 then x.2.1 else 0)&&decide ((x.2.2.2.2.2.2.2.2.2.length:Int)=if x.2.2.2.2.2.1=2 then x.2.1 else 0))
def lZ (x:Nd):Option Bool:=if nK x lN then some (xA x)else none
theorem aNL (r p:Int)(a b:Nat):(bif r == 2 then bif ((a:Int) == p)then some ((b:Int) == p)else some false else bif ((a:Int) == 0)then some ((b:Int) == 0)else some false)=
  some (decide ((a:Int)=if r=2 then p else 0)&&decide ((b:Int)=if r=2 then p else 0)):=by
 have bq:∀ x y:Int,(x == y)=decide (x=y):=λx y=>by by_cases h:x=y<;>simp[h]
 rw[bq,bq,bq,bq,bq];by_cases hr:r=2
 ·rw[dt hr,cond_true,if_pos hr];cases decide ((a:Int)=p)<;>rfl
 ·rw[df hr,cond_false,if_neg hr];cases decide ((a:Int)=0)<;>rfl
theorem aQN:Sat prog cxT 99 (c99 lZ):=s99 gL fL aOr aHz lZ λx t h=>by
 unfold lZ at h;split at h
 ·rename_i hm;cases h;obtain⟨h1,h2,h3,h4⟩:=hm;simp only[lN]at h1 h2 h3 h4;refine⟨x.2.2.2.2.2.2.2.1.length+1,?_⟩;have e0:=λK=>aTS (x.2.2.2.2.2.2.2.1.length+1) x h2 K (x.2.2.2.2.2.2.2.1.length+1) 0 (by omega) (by omega)
  simp only[jM,nI]at e0;show g99 gL fL _ x=_
  (try unfold w99);unfold g99 A99_0 G99;dsimp only[dX]
  rw[show gL x.2.2.2.2.2.2.2.1=some (wV x.2.2.2.2.2.2.2.1) from if_pos h2,aP,aNL,e0];unfold xA;show _=some (_&&_&&pP _ _ _&&_);cases wV x.2.2.2.2.2.2.2.1
  ·rfl
  rw[cC,cond_false,fF];by_cases hv:x.2.2.2.2.2.2.2.1=[]
  ·rw[hv]
   rfl
  ·have hl:0 < x.2.2.2.2.2.2.2.1.length:=List.length_pos_iff.2 hv;rw[dt (show(x.2.2.2.2.2.2.2.1.length:Int) > 0 by omega),cond_true,df hv,pL];by_cases hr:x.2.2.2.2.2.1=1
   ·rw[wO hr,cond_false,show(x.2.2.2.2.2.1 == 1)=true by simpa using hr,fF];cases pP (λi=>uW x.2.1 (x.2.2.2.2.2.2.2.1.getD i 0)) x.2.2.2.2.2.2.2.1.length 0<;>rfl
   ·rw[show(x.2.2.2.2.2.1 != 1)=true by simpa using hr,cond_true,show(x.2.2.2.2.2.1 == 1)=false by simpa using hr]
    rfl
 ·cases h
end Go.Proofs.Tryz
set_option maxHeartbeats 0
namespace Go.Proofs.Tryz
open Go.IntKind (wrap)
open Go Go.VM Go.RowKit
def aFG (x:Nd)(i:Nat):Bool:=decide (1<=x.2.2.2.2.2.2.2.2.1.getD i 0/\x.2.2.2.2.2.2.2.2.1.getD i 0<=(x.2.2.2.2.1.length:Int)+1)&&decide (0<=x.2.2.2.2.2.2.2.2.2.getD i 0/\x.2.2.2.2.2.2.2.2.2.getD i 0<=(x.2.2.2.2.1.length:Int))
theorem aTU (L:Nat)(x:Nd)(hl:nK x lN)(he:x.2.2.2.2.2.2.2.2.2.length=x.2.2.2.2.2.2.2.2.1.length)(K:Option Int):∀ (n i:Nat),i<=x.2.2.2.2.2.2.2.2.1.length->x.2.2.2.2.2.2.2.2.1.length < n+i->
  aAe bN fL qH jX lZ L x n (i:Int) K=bif pP (aFG x) (x.2.2.2.2.2.2.2.2.1.length-i) i then K else some 3
 | 0,i,h0,h=>by omega
 | n+1,i,h0,h=>by
  obtain⟨h1,h2,h3,h4⟩:=hl;simp only[lN]at h1 h2 h3 h4;unfold aAe B67_0;dsimp only[dX];by_cases hi:i < x.2.2.2.2.2.2.2.2.1.length
  ·rw[dt (show(i:Int) < (x.2.2.2.2.2.2.2.2.1.length:Int)by omega),dt (show(0:Int)<=(i:Int)by omega),dt (show(i:Int) < (x.2.2.2.2.2.2.2.2.2.length:Int)by omega)];simp only[bM,cond_true,bB];rw[wi (show -9223372036854775808<=(x.2.2.2.2.1.length:Int)+1 by omega) (by omega),wi (show -9223372036854775808<=(i:Int)+1 by omega) (by omega)];rw[show bN (x.2.2.2.2.2.2.2.2.1.getD i 0,1,(x.2.2.2.2.1.length:Int)+1)=some (decide (1<=x.2.2.2.2.2.2.2.2.1.getD i 0/\x.2.2.2.2.2.2.2.2.1.getD i 0<=(x.2.2.2.2.1.length:Int)+1)) from rfl,aP,
    show bN (x.2.2.2.2.2.2.2.2.2.getD i 0,0,(x.2.2.2.2.1.length:Int))=some (decide (0<=x.2.2.2.2.2.2.2.2.2.getD i 0/\x.2.2.2.2.2.2.2.2.2.getD i 0<=(x.2.2.2.2.1.length:Int))) from rfl,aP,
    show x.2.2.2.2.2.2.2.2.1.length-i=x.2.2.2.2.2.2.2.2.1.length-(i+1)+1 by omega]
   show _=bif (decide _&&decide _)&&pP _ _ _ then K else some 3
   cases decide (1<=x.2.2.2.2.2.2.2.2.1.getD i 0/\x.2.2.2.2.2.2.2.2.1.getD i 0<=(x.2.2.2.2.1.length:Int)+1)
   ·rfl
   cases decide (0<=x.2.2.2.2.2.2.2.2.2.getD i 0/\x.2.2.2.2.2.2.2.2.2.getD i 0<=(x.2.2.2.2.1.length:Int))
   ·rfl
   simp only[cC,cond_false,fF];rw[show(i:Int)+1=((i+1:Nat):Int)by omega,aTU L x ⟨h1,h2,h3,h4⟩ he K n (i+1) (by omega) (by omega)]
  ·rw[df (by omega),cond_false,show x.2.2.2.2.2.2.2.2.1.length-i=0 by omega]
   rfl
def aJa (x:Nd):Int:=bif x.2.2.2.2.2.1 != 0 then bif x.2.2.2.1 != x.1 then 1 else bif x.2.2.1 == 0 then 1 else 0 else 0
def ndF (x:Nd):Int:=
 bif !decide (1<=x.2.1/\x.2.1<=5)then 3 else bif !uW x.2.1 x.1 then 3 else bif !decide (0<=x.2.2.1/\x.2.2.1<=100000)then 3 else bif !decide (-1<=x.2.2.2.1/\x.2.2.2.1<=wrap .i64 (x.2.1-1))then 3
 else bif !decide (0<=x.2.2.2.2.2.1/\x.2.2.2.2.2.1<=2)then 3 else bif tL x.2.2.2.2.1 != 0 then tL x.2.2.2.2.1 else bif decide ((lO x.2.2.2.2.1).1 > x.2.2.1)then 1
 else bif !decide (0<=x.2.2.2.2.2.2.1/\x.2.2.2.2.2.2.1<=(x.2.2.2.2.1.length:Int))then 3 else bif !xA x then 1 else bif pP (aFG x) x.2.2.2.2.2.2.2.2.1.length 0 then aJa x else 3
def eF (x:Nd):Option Int:=if nK x lN then some (ndF x)else none
theorem aCb {x:Nd}(h:xA x=true):x.2.2.2.2.2.2.2.2.2.length=x.2.2.2.2.2.2.2.2.1.length:=by
 unfold xA at h;simp only[aD,decide_eq_true_eq]at h;obtain⟨_,h1,h2⟩:=h;omega
theorem aQ5:Sat prog cxT 67 (c67 eF):=s67 bN fL qH jX lZ nA aHz aK8 aK7 aQN eF λx t h=>by
 unfold eF at h;split at h
 ·rename_i hm;cases h;refine⟨x.2.2.2.2.2.2.2.2.1.length+1,?_⟩;have hl:=hm;obtain⟨h1,h2,h3,h4⟩:=hm;show g67 bN fL qH jX lZ _ x=_
  (try unfold w67);unfold g67 A67_0 G67;dsimp only[dX]
  rw[show qH x.2.2.2.2.1=some (tL x.2.2.2.2.1) from rfl,show jX x.2.2.2.2.1=some (lO x.2.2.2.2.1) from if_pos h1,show lZ x=some (xA x) from if_pos hl];simp only[bN,fL,aP];unfold ndF;have bq:∀ (b:Bool) (u v:Int),(bif b then some u else some v)=some (bif b then u else v):=λb u v=>by cases b<;>rfl
  by_cases hL:xA x=true
  ·have e0:=λK=>aTU (x.2.2.2.2.2.2.2.2.1.length+1) x hl (aCb hL) K (x.2.2.2.2.2.2.2.2.1.length+1) 0 (by omega) (by omega)
   simp only[jM,nI]at e0;rw[e0];unfold aJa;simp only[bq]
  ·rw[pW]at hL;simp only[hL,kY,cond_true,bq]
 ·cases h
end Go.Proofs.Tryz
set_option maxHeartbeats 0
namespace Go.Proofs.Tryz
open Go.IntKind (wrap)
open Go Go.VM Go.RowKit
abbrev Ml:=Int×Int×Int×Int×Int×Int×Int×Bool×List En
def dM:Ml:=(0,0,0,0,0,0,0,false,[])
instance decM1:DecidableEq (Bool×List En):=inferInstance
instance decM2:DecidableEq (Int×Bool×List En):=instDecidableEqProd
instance decM3:DecidableEq (Int×Int×Bool×List En):=instDecidableEqProd
instance decM4:DecidableEq (Int×Int×Int×Bool×List En):=instDecidableEqProd
instance decM5:DecidableEq (Int×Int×Int×Int×Bool×List En):=instDecidableEqProd
instance decM6:DecidableEq (Int×Int×Int×Int×Int×Bool×List En):=instDecidableEqProd
instance decM7:DecidableEq (Int×Int×Int×Int×Int×Int×Bool×List En):=instDecidableEqProd
instance decMl:DecidableEq Ml:=(instDecidableEqProd:DecidableEq (Int×Int×Int×Int×Int×Int×Int×Bool×List En))
def wI (x:Ml):List En:=x.2.2.2.2.2.2.2.2
def mG (x:Ml×Ml):Option Bool:=if(wI x.1).length<=lN then some (decide (x.1=x.2))else none
theorem aPw {a b:Bool}{o:Option Bool}{p:Prop}[Decidable p](h:a=b->o=some (decide p))(h2:¬ a=b->¬ p):(bif !(a == b)then some false else o)=some (decide p):=by
 by_cases hp:a=b
 ·rw[show(a == b)=true by simpa using hp];exact h hp
 ·rw[show(a == b)=false by simpa using hp,df (h2 hp)];rfl
theorem aQU:Sat prog cxT 83 (c83 mG):=s83 jF aHB mG λx t h=>by
 obtain⟨⟨a,b,c,d,e,f,g,o,l⟩,a',b',c',d',e',f',g',o',l'⟩:=x;unfold mG at h;split at h
 ·rename_i hc;cases h;have hc:l.length<=1000000000:=hc;refine⟨0,?_⟩;show g83 jF 0 a b c d e f g o l a' b' c' d' e' f' g' o' l'=_
  (try unfold w83);unfold g83 G83;dsimp only[dX]
  rw[show jF (l,l')=some (decide (l=l')) from if_pos (by(try simp only);omega),aP];refine gO (λe1=>gO (λe2=>gO (λe3=>gO (λe4=>gO (λe5=>gO (λe6=>gO (λe7=>aPw (λe8=>pG (λe9=>?_) ?_) ?_) ?_) ?_) ?_) ?_) ?_) ?_) ?_
  ·subst e1 e2 e3 e4 e5 e6 e7 e8 e9;simp
  all_goals intro e h;simp only[aM]at h;obtain⟨q1,q2,q3,q4,q5,q6,q7,q8,q9⟩:=h;first | exact e q1 | exact e q2 | exact e q3 | exact e q4 | exact e q5 | exact e q6 | exact e q7 | exact e q8 | exact e q9
 ·cases h
theorem aT0 (m:Ml×Ml->Option Bool)(L:Nat)(a b:List Ml):∀ (n:Nat) (i:Int) (k:Option Bool),aAi m L a b n i k=eqL dM m a b n i k
 | 0,_,_=>rfl
 | n+1,i,k=>by
  unfold aAi B46_0 eqL;dsimp only[dX];simp only[aT0 m L a b n]
  rfl
def aE2 (l:List Ml):Prop:=∀ x∈l,(wI x).length<=lN
instance (l:List Ml):Decidable (aE2 l):=by unfold aE2;infer_instance
def yJ (x:List Ml×List Ml):Option Bool:=if x.1.length<=1000000000000/\aE2 x.1 then some (decide (x.1=x.2))else none
theorem aRh:Sat prog cxT 46 (c46 yJ):=s46 mG aQU yJ λx t h=>by
 obtain⟨a,b⟩:=x;unfold yJ at h;split at h
 ·rename_i hc;cases h;obtain⟨hc,hE⟩:=hc;have hc:a.length<=1000000000000:=hc;refine⟨a.length+1,?_⟩;show g46 mG (a.length+1) a b=some (decide (a=b))
  (try unfold w46);unfold g46 A46_0 G46;dsimp only[dX]
  refine gO (λe=>?_) λe h=>e (by rw[h])
  rw[aT0];refine(aAR dM mG a b (by omega) (by omega) (λx hx y _=>if_pos (hE x hx)) _ _ 0 (by omega) (by omega)).trans ?_;simp only[fC];split<;>rename_i hh<;>simp[hh]
 ·cases h
def mkM (x:Ml)(v:Int):Ml:=(v,v+1,v+2,v+3,v+4,v+5,v+6,(Int.tmod (v+7) 3 == 0),oA mkE 9 (wI x).length (v+8))
def wM (x:Ml):Int:=8+9 * ((wI x).length:Int)
theorem aEk (x:Ml):0<=wM x:=by unfold wM;omega
def vN (x:List Ml×Int):Option (Int×List Ml):=if x.1.length<=1000000000/\0<=x.2/\x.2+dF wM x.1<=1000000000 then some (x.2+dF wM x.1,mkV mkM wM x.1 x.2)else none
theorem aXU (L:Nat)(a0:List Ml)(a1:Int)(n:Nat)(o:List Ml)(v:Int)(i:Nat)(K:List Ml->Int->Option (Int×List Ml))(ho:o.length<=1000000000)(hi:i < o.length)(h0:0<=v)(h1:v<=10000000000)(hq:(wI (o.getD i dM)).length<=1000000000) :
  qP eT L a0 a1 (n+1) o v i K=qP eT L a0 a1 n (o.set i (mkM (o.getD i dM) v)) (v+wM (o.getD i dM)) ((i+1:Nat):Int) K:=by
 conv=>lhs;unfold qP B60_0;dsimp only[dX]
 simp(disch:=omega) only[dX,List.length_modify,dt,wi,cond_true,bM,bB,gN,lE];have hd:(o.getD i (0,0,0,0,0,0,0,false,[]):Ml)=o.getD i dM:=rfl;simp only[hd];have e8:v+1+1+1+1+1+1+1+1=v+8:=by omega
 have e47:eT ((o.getD i dM).2.2.2.2.2.2.2.2,v+8)=some (v+8+9 * ((wI (o.getD i dM)).length:Int),oA mkE 9 (wI (o.getD i dM)).length (v+8)):=if_pos ⟨hq,by(try simp only);omega,by(try simp only);omega⟩;rw[e8,e47,aP,show(i:Int)+1=((i+1:Nat):Int)by omega,show v+8+9 * ((wI (o.getD i dM)).length:Int)=v+wM (o.getD i dM)by unfold wM;omega];congr 2;unfold mkM;rw[show v+1+1=v+2 by omega,show v+2+1=v+3 by omega,show v+3+1=v+4 by omega,show v+4+1=v+5 by omega,show v+5+1=v+6 by omega,show v+6+1=v+7 by omega];exact lT _ _ _
theorem aJU {l:List Ml}{v B:Int}(h0:0<=v)(h:v+dF wM l<=B):∀ x∈l,9 * ((wI x).length:Int)<=B:=λx hx=>by
 have:=nS (w:=wM) (λy _=>aEk y) x hx;have h9:wM x=8+9 * ((wI x).length:Int):=rfl;omega
theorem aRb:SatW prog cxT 60 (c60 vN).nres (c60 vN).n (c60 vN).F:=s60 eT aHA vN λx t h=>by
 obtain⟨o,v⟩:=x;unfold vN at h;split at h
 ·rename_i hc;cases h;simp only at hc;obtain⟨h1,h2,h3⟩:=hc;refine⟨o.length+1,?_⟩;show g60 eT (o.length+1) o v=_
  (try unfold w60);unfold g60 A60_0 G60;dsimp only[dX]
  refine(zY dM mkM wM 1000000000 aEk (λx=>(wI x).length<=1000000000) o.length (λn o' v' i' K=>qP eT (o.length+1) o v n o' v' i' K)
   (λn o' v' i K hl k1 k2 k3 k4=>?_) (λn o' v' i K hl k1=>?_) (λw0_0 w0_1=>some (w0_1,w0_0)) o [] v (o.length+1) rfl (by omega) h2 h3 (λx hx=>by have:=aJU h2 h3 x hx;omega)).trans ?_
  ·exact aXU _ _ _ _ _ _ _ _ (by omega) k1 k2 (by omega) k4
  ·show qP _ _ _ _ (n+1) o' v' i K=_
   conv=>lhs;unfold qP B60_0;dsimp only[dX]
   rw[df (by omega),cond_false]
  ·simp
 ·cases h
def hdM (x:List Ml×Int):Prop:=x.1.length<=1000000000/\0<=x.2/\x.2+dF wM x.1<=1000000000/\x.1=mkV mkM wM x.1 x.2
instance (x:List Ml×Int):Decidable (hdM x):=by unfold hdM;infer_instance
end Go.Proofs.Tryz
