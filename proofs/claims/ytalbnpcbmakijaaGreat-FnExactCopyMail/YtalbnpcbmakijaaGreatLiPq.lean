/- A part of the proof of FnExactCopyMail: LiPq, LiPr, LiPt. -/
import Derived.Test.YtalbnpcbmakijaaGreatLiPc
import Derived.Test.YtalbnpcbmakijaaGreatVmPl
set_option linter.unusedSimpArgs false
set_option linter.unusedVariables false
set_option maxHeartbeats 0
namespace Go.Proofs.Tryz
open Go.IntKind (wrap)
open Go Go.VM Go.RowKit
def bM (x:Int×Int×Int):Option Bool:=some (decide (x.2.1<=x.1/\x.1<=x.2.2))
def wZ (p i:Int):Bool:=decide (0<=i/\i<=wrap .i64 (p-1))
def dC (x:Nd×Int):Option Bool:=some (wZ x.1.2.1 x.2)
theorem aFt:Sat prog cxT 135 (aE6 dC):=bB9 bM nN dC λx t h=>by cases h;exact⟨0,rfl⟩
def sQ (p:Nat->Bool):Nat->Nat->Bool
 | 0,_=>true
 | n+1,i=>p i&&sQ p n (i+1)
theorem aAw {p:Nat->Bool}:∀ {n i:Nat},sQ p n i=true↔∀ j,i<=j->j < i+n->p j=true
 | 0,i=>⟨λ_ j h1 h2=>by omega,λ_=>rfl⟩
 | n+1,i=>by
  show(p i&&sQ p n (i+1))=true↔_;rw[aE,aAw];refine⟨λ⟨h1,h2⟩ j h3 h4=>?_,λh=>⟨h i (aG _) (by omega),λj h3 h4=>h j (by omega) (by omega)⟩⟩;rcases iC i j with h5 | h5
  ·exact h2 j h5 (by omega)
  ·rw[show j=i by omega];exact h1
def yS (a:List Int):Bool:=sQ (λi=>decide (a.getD (i-1) 0 < a.getD i 0)) (a.length-1) 1
theorem aOx (L:Nat)(a:List Int)(ha:a.length<=1000000000)(K:Option Bool):∀ (n i:Nat),1<=i->a.length < n+i->1<=n->vE L a n (i:Int) K=bif sQ (λi=>decide (a.getD (i-1) 0 < a.getD i 0)) (a.length-i) i then K else some false
 | 0,i,h1,h,h9=>by omega
 | n+1,i,h1,h,h9=>by
  unfold vE B182_0;dsimp only[dY];by_cases hi:i < a.length
  ·simp(disch:=omega) only[dY,dt,wi,cond_true,bL,bF];rw[show((i:Int)-1).toNat=i-1 by omega,show a.length-i=a.length-(i+1)+1 by omega];unfold sQ;by_cases hq:a.getD i 0<=a.getD (i-1) 0
   ·rw[dt hq,cond_true,df (by omega)];rfl
   ·rw[df hq,cond_false,show(i:Int)+1=((i+1:Nat):Int)by omega,aOx L a ha K n (i+1) (by omega) (by omega) (by omega),dt (by omega),eX]
  ·rw[df (by omega),cond_false,show a.length-i=0 by omega]
   rfl
def gT (a:List Int):Option Bool:=if a.length<=oP then some (yS a)else none
theorem aQO:Sat prog cxT 182 (aMC gT):=bBI gT λa t h=>by
 unfold gT at h;split at h
 ·rename_i hm;cases h;refine⟨a.length+1,?_⟩
  (try unfold aPS);unfold aMc A182_0 G182;dsimp only[dY]
  refine(aOx (a.length+1) a hm (some true) (a.length+1) 1 (by omega) (by omega) (by omega)).trans ?_;unfold yS;cases sQ (λi=>decide (a.getD (i-1) 0 < a.getD i 0)) (a.length-1) 1<;>rfl
 ·cases h
def ids (p:Int)(a:List Int):Bool:=sQ (λi=>wZ p (a.getD i 0)) a.length 0
theorem aOF (L:Nat)(x:Nd)(ha:x.2.2.2.2.2.2.2.1.length<=1000000000)(K:Option Bool):∀ (n i:Nat),i<=x.2.2.2.2.2.2.2.1.length->x.2.2.2.2.2.2.2.1.length < n+i->vL gT dC L x n (i:Int) K=bif sQ (λi=>wZ x.2.1 (x.2.2.2.2.2.2.2.1.getD i 0)) (x.2.2.2.2.2.2.2.1.length-i) i then K else some false
 | 0,i,h0,h=>by omega
 | n+1,i,h0,h=>by
  unfold vL B137_0;dsimp only[dY];by_cases hi:i < x.2.2.2.2.2.2.2.1.length
  ·simp(disch:=omega) only[dY,dt,wi,cond_true,bL,bF];rw[show dC (x,x.2.2.2.2.2.2.2.1.getD i 0)=some (wZ x.2.1 (x.2.2.2.2.2.2.2.1.getD i 0)) from rfl,aO,show x.2.2.2.2.2.2.2.1.length-i=x.2.2.2.2.2.2.2.1.length-(i+1)+1 by omega];unfold sQ;cases hq:wZ x.2.1 (x.2.2.2.2.2.2.2.1.getD i 0)
   ·rfl
   ·rw[cI,cond_false,show(i:Int)+1=((i+1:Nat):Int)by omega,aOF L x ha K n (i+1) (by omega) (by omega),eX]
  ·rw[df (by omega),cond_false,show x.2.2.2.2.2.2.2.1.length-i=0 by omega]
   rfl
def yW (x:Nd):Bool:=yS x.2.2.2.2.2.2.2.1&&(decide (x.2.2.2.2.2.2.2.1=[]) || x.2.2.2.2.2.1 == 1)&&ids x.2.1 x.2.2.2.2.2.2.2.1 &&
 (decide ((x.2.2.2.2.2.2.2.2.1.length:Int)=if x.2.2.2.2.2.1=2 then x.2.1 else 0)&&decide ((x.2.2.2.2.2.2.2.2.2.length:Int)=if x.2.2.2.2.2.1=2 then x.2.1 else 0))
def gU (x:Nd):Option Bool:=if oS x oP then some (yW x)else none
theorem aQk (r p:Int)(a b:Nat):(bif r == 2 then bif ((a:Int) == p)then some ((b:Int) == p)else some false else bif ((a:Int) == 0)then some ((b:Int) == 0)else some false)=
  some (decide ((a:Int)=if r=2 then p else 0)&&decide ((b:Int)=if r=2 then p else 0)):=by
 have bq:∀ x y:Int,(x == y)=decide (x=y):=λx y=>by by_cases h:x=y<;>simp[h]
 rw[bq,bq,bq,bq,bq];by_cases hr:r=2
 ·rw[dt hr,cond_true,if_pos hr];cases decide ((a:Int)=p)<;>rfl
 ·rw[df hr,cond_false,if_neg hr];cases decide ((a:Int)=0)<;>rfl
theorem aQ7:Sat prog cxT 137 (aMT gU):=bB7 gT dC aQO aFt gU λx t h=>by
 unfold gU at h;split at h
 ·rename_i hm;cases h;obtain⟨h1,h2,h3,h4⟩:=hm;simp only[oP]at h1 h2 h3 h4;refine⟨x.2.2.2.2.2.2.2.1.length+1,?_⟩;have e0:=λK=>aOF (x.2.2.2.2.2.2.2.1.length+1) x h2 K (x.2.2.2.2.2.2.2.1.length+1) 0 (by omega) (by omega)
  simp only[hM,pD]at e0;show aKE gT dC _ x=_
  (try unfold aQa);unfold aKE A137_0 G137;dsimp only[dY]
  rw[show gT x.2.2.2.2.2.2.2.1=some (yS x.2.2.2.2.2.2.2.1) from if_pos h2,aO,aQk,e0];unfold yW;show _=some (_&&_&&sQ _ _ _&&_);cases yS x.2.2.2.2.2.2.2.1
  ·rfl
  rw[cI,cond_false,eX];by_cases hv:x.2.2.2.2.2.2.2.1=[]
  ·rw[hv]
   rfl
  ·have hl:0 < x.2.2.2.2.2.2.2.1.length:=List.length_pos_iff.2 hv;rw[dt (show(x.2.2.2.2.2.2.2.1.length:Int) > 0 by omega),cond_true,df hv,rC];by_cases hr:x.2.2.2.2.2.1=1
   ·rw[rM hr,cond_false,show(x.2.2.2.2.2.1 == 1)=true by simpa using hr,eX];cases sQ (λi=>wZ x.2.1 (x.2.2.2.2.2.2.2.1.getD i 0)) x.2.2.2.2.2.2.2.1.length 0<;>rfl
   ·rw[show(x.2.2.2.2.2.1 != 1)=true by simpa using hr,cond_true,show(x.2.2.2.2.2.1 == 1)=false by simpa using hr]
    rfl
 ·cases h
end Go.Proofs.Tryz
set_option maxHeartbeats 0
namespace Go.Proofs.Tryz
open Go.IntKind (wrap)
open Go Go.VM Go.RowKit
def aJq (x:Nd)(i:Nat):Bool:=decide (1<=x.2.2.2.2.2.2.2.2.1.getD i 0/\x.2.2.2.2.2.2.2.2.1.getD i 0<=(x.2.2.2.2.1.length:Int)+1)&&decide (0<=x.2.2.2.2.2.2.2.2.2.getD i 0/\x.2.2.2.2.2.2.2.2.2.getD i 0<=(x.2.2.2.2.1.length:Int))
theorem aXg (L:Nat)(x:Nd)(hl:oS x oP)(he:x.2.2.2.2.2.2.2.2.2.length=x.2.2.2.2.2.2.2.2.1.length)(K:Option Int):∀ (n i:Nat),i<=x.2.2.2.2.2.2.2.2.1.length->x.2.2.2.2.2.2.2.2.1.length < n+i->
  aBa bM dC rU kV gU L x n (i:Int) K=bif sQ (aJq x) (x.2.2.2.2.2.2.2.2.1.length-i) i then K else some 3
 | 0,i,h0,h=>by omega
 | n+1,i,h0,h=>by
  obtain⟨h1,h2,h3,h4⟩:=hl;simp only[oP]at h1 h2 h3 h4;unfold aBa B85_0;dsimp only[dY];by_cases hi:i < x.2.2.2.2.2.2.2.2.1.length
  ·rw[dt (show(i:Int) < (x.2.2.2.2.2.2.2.2.1.length:Int)by omega),dt (show(0:Int)<=(i:Int)by omega),dt (show(i:Int) < (x.2.2.2.2.2.2.2.2.2.length:Int)by omega)];simp only[bL,cond_true,bF];rw[wi (show -9223372036854775808<=(x.2.2.2.2.1.length:Int)+1 by omega) (by omega),wi (show -9223372036854775808<=(i:Int)+1 by omega) (by omega)];rw[show bM (x.2.2.2.2.2.2.2.2.1.getD i 0,1,(x.2.2.2.2.1.length:Int)+1)=some (decide (1<=x.2.2.2.2.2.2.2.2.1.getD i 0/\x.2.2.2.2.2.2.2.2.1.getD i 0<=(x.2.2.2.2.1.length:Int)+1)) from rfl,aO,
    show bM (x.2.2.2.2.2.2.2.2.2.getD i 0,0,(x.2.2.2.2.1.length:Int))=some (decide (0<=x.2.2.2.2.2.2.2.2.2.getD i 0/\x.2.2.2.2.2.2.2.2.2.getD i 0<=(x.2.2.2.2.1.length:Int))) from rfl,aO,
    show x.2.2.2.2.2.2.2.2.1.length-i=x.2.2.2.2.2.2.2.2.1.length-(i+1)+1 by omega]
   show _=bif (decide _&&decide _)&&sQ _ _ _ then K else some 3
   cases decide (1<=x.2.2.2.2.2.2.2.2.1.getD i 0/\x.2.2.2.2.2.2.2.2.1.getD i 0<=(x.2.2.2.2.1.length:Int)+1)
   ·rfl
   cases decide (0<=x.2.2.2.2.2.2.2.2.2.getD i 0/\x.2.2.2.2.2.2.2.2.2.getD i 0<=(x.2.2.2.2.1.length:Int))
   ·rfl
   simp only[cI,cond_false,eX];rw[show(i:Int)+1=((i+1:Nat):Int)by omega,aXg L x ⟨h1,h2,h3,h4⟩ he K n (i+1) (by omega) (by omega)]
  ·rw[df (by omega),cond_false,show x.2.2.2.2.2.2.2.2.1.length-i=0 by omega]
   rfl
def aSi (x:Nd):Int:=bif x.2.2.2.2.2.1 != 0 then bif x.2.2.2.1 != x.1 then 1 else bif x.2.2.1 == 0 then 1 else 0 else 0
def ndF (x:Nd):Int:=
 bif !decide (1<=x.2.1/\x.2.1<=5)then 3 else bif !wZ x.2.1 x.1 then 3 else bif !decide (0<=x.2.2.1/\x.2.2.1<=100000)then 3 else bif !decide (-1<=x.2.2.2.1/\x.2.2.2.1<=wrap .i64 (x.2.1-1))then 3
 else bif !decide (0<=x.2.2.2.2.2.1/\x.2.2.2.2.2.1<=2)then 3 else bif vB x.2.2.2.2.1 != 0 then vB x.2.2.2.2.1 else bif decide ((mO x.2.2.2.2.1).1 > x.2.2.1)then 1
 else bif !decide (0<=x.2.2.2.2.2.2.1/\x.2.2.2.2.2.2.1<=(x.2.2.2.2.1.length:Int))then 3 else bif !yW x then 1 else bif sQ (aJq x) x.2.2.2.2.2.2.2.2.1.length 0 then aSi x else 3
def eJ (x:Nd):Option Int:=if oS x oP then some (ndF x)else none
theorem aC6 {x:Nd}(h:yW x=true):x.2.2.2.2.2.2.2.2.2.length=x.2.2.2.2.2.2.2.2.1.length:=by
 unfold yW at h;simp only[aE,decide_eq_true_eq]at h;obtain⟨_,h1,h2⟩:=h;omega
theorem aT3:Sat prog cxT 85 (c85 eJ):=s85 bM dC rU kV gU nN aFt aI6 aI8 aQ7 eJ λx t h=>by
 unfold eJ at h;split at h
 ·rename_i hm;cases h;refine⟨x.2.2.2.2.2.2.2.2.1.length+1,?_⟩;have hl:=hm;obtain⟨h1,h2,h3,h4⟩:=hm;show g85 bM dC rU kV gU _ x=_
  (try unfold w85);unfold g85 A85_0 G85;dsimp only[dY]
  rw[show rU x.2.2.2.2.1=some (vB x.2.2.2.2.1) from rfl,show kV x.2.2.2.2.1=some (mO x.2.2.2.2.1) from if_pos h1,show gU x=some (yW x) from if_pos hl];simp only[bM,dC,aO];unfold ndF;have bq:∀ (b:Bool) (u v:Int),(bif b then some u else some v)=some (bif b then u else v):=λb u v=>by cases b<;>rfl
  by_cases hL:yW x=true
  ·have e0:=λK=>aXg (x.2.2.2.2.2.2.2.2.1.length+1) x hl (aC6 hL) K (x.2.2.2.2.2.2.2.2.1.length+1) 0 (by omega) (by omega)
   simp only[hM,pD]at e0;rw[e0];unfold aSi;simp only[bq]
  ·rw[rJ]at hL;simp only[hL,lU,cond_true,bq]
 ·cases h
end Go.Proofs.Tryz
set_option maxHeartbeats 0
namespace Go.Proofs.Tryz
open Go.IntKind (wrap)
open Go Go.VM Go.RowKit
abbrev Ml:=Int×Int×Int×Int×Int×Int×Int×Bool×List En
def dM:Ml:=(0,0,0,0,0,0,0,false,[])
instance decM1:DecidableEq (Bool×List En):=inferInstance
instance decM2:DecidableEq (Int×Bool×List En):=instDecidableEqProd
instance decM3:DecidableEq (Int×Int×Bool×List En):=instDecidableEqProd
instance decM4:DecidableEq (Int×Int×Int×Bool×List En):=instDecidableEqProd
instance decM5:DecidableEq (Int×Int×Int×Int×Bool×List En):=instDecidableEqProd
instance decM6:DecidableEq (Int×Int×Int×Int×Int×Bool×List En):=instDecidableEqProd
instance decM7:DecidableEq (Int×Int×Int×Int×Int×Int×Bool×List En):=instDecidableEqProd
instance decMl:DecidableEq Ml:=(instDecidableEqProd:DecidableEq (Int×Int×Int×Int×Int×Int×Int×Bool×List En))
def tL (x:Ml):List En:=x.2.2.2.2.2.2.2.2
def nQ (x:Ml×Ml):Option Bool:=if(tL x.1).length<=oP then some (decide (x.1=x.2))else none
theorem aSw {a b:Bool}{o:Option Bool}{p:Prop}[Decidable p](h:a=b->o=some (decide p))(h2:¬ a=b->¬ p):(bif !(a == b)then some false else o)=some (decide p):=by
 by_cases hp:a=b
 ·rw[show(a == b)=true by simpa using hp];exact h hp
 ·rw[show(a == b)=false by simpa using hp,df (h2 hp)];rfl
theorem aTU:Sat prog cxT 99 (c99 nQ):=s99 gZ aI1 nQ λx t h=>by
 obtain⟨⟨a,b,c,d,e,f,g,o,l⟩,a',b',c',d',e',f',g',o',l'⟩:=x;unfold nQ at h;split at h
 ·rename_i hc;cases h;have hc:l.length<=1000000000:=hc;refine⟨0,?_⟩;show g99 gZ 0 a b c d e f g o l a' b' c' d' e' f' g' o' l'=_
  (try unfold w99);unfold g99 G99;dsimp only[dY]
  rw[show gZ (l,l')=some (decide (l=l')) from if_pos (by(try simp only);omega),aO];refine iA (λe1=>iA (λe2=>iA (λe3=>iA (λe4=>iA (λe5=>iA (λe6=>iA (λe7=>aSw (λe8=>pM (λe9=>?_) ?_) ?_) ?_) ?_) ?_) ?_) ?_) ?_) ?_
  ·subst e1 e2 e3 e4 e5 e6 e7 e8 e9;simp
  all_goals intro e h;simp only[aM]at h;obtain⟨q1,q2,q3,q4,q5,q6,q7,q8,q9⟩:=h;first | exact e q1 | exact e q2 | exact e q3 | exact e q4 | exact e q5 | exact e q6 | exact e q7 | exact e q8 | exact e q9
 ·cases h
theorem aXj (m:Ml×Ml->Option Bool)(L:Nat)(a b:List Ml):∀ (n:Nat) (i:Int) (k:Option Bool),aBd m L a b n i k=eqL dM m a b n i k
 | 0,_,_=>rfl
 | n+1,i,k=>by
  unfold aBd B51_0 eqL;dsimp only[dY];simp only[aXj m L a b n]
  rfl
def aGb (l:List Ml):Prop:=∀ x∈l,(tL x).length<=oP
instance (l:List Ml):Decidable (aGb l):=by unfold aGb;infer_instance
def m51 (x:List Ml×List Ml):Option Bool:=if x.1.length<=1000000000000/\aGb x.1 then some (decide (x.1=x.2))else none
theorem aUj:Sat prog cxT 51 (c51 m51):=s51 nQ aTU m51 λx t h=>by
 obtain⟨a,b⟩:=x;unfold m51 at h;split at h
 ·rename_i hc;cases h;obtain⟨hc,hE⟩:=hc;have hc:a.length<=1000000000000:=hc;refine⟨a.length+1,?_⟩;show g51 nQ (a.length+1) a b=some (decide (a=b))
  (try unfold w51);unfold g51 A51_0 G51;dsimp only[dY]
  refine iA (λe=>?_) λe h=>e (by rw[h])
  rw[aXj];refine(aBP dM nQ a b (by omega) (by omega) (λx hx y _=>if_pos (hE x hx)) _ _ 0 (by omega) (by omega)).trans ?_;simp only[gH];split<;>rename_i hh<;>simp[hh]
 ·cases h
def mkM (x:Ml)(v:Int):Ml:=(v,v+1,v+2,v+3,v+4,v+5,v+6,(Int.tmod (v+7) 3 == 0),qE mkE 9 (tL x).length (v+8))
def wM (x:Ml):Int:=8+9 * ((tL x).length:Int)
theorem aGm (x:Ml)(v:Int):wM (mkM x v)=wM x:=by unfold wM mkM tL;simp only[lR]
theorem aRt (x:Ml)(v:Int):mkM (mkM x v) v=mkM x v:=by unfold mkM tL;simp only[lR]
theorem aAz (x:Ml):0<=wM x:=by unfold wM;omega
def xO (x:List Ml×Int):Option (Int×List Ml):=if x.1.length<=1000000000/\0<=x.2/\x.2+bZ wM x.1<=1000000000 then some (x.2+bZ wM x.1,mkV mkM wM x.1 x.2)else none
theorem bBh (L:Nat)(a0:List Ml)(a1:Int)(n:Nat)(o:List Ml)(v:Int)(i:Nat)(K:List Ml->Int->Option (Int×List Ml))(ho:o.length<=1000000000)(hi:i < o.length)(h0:0<=v)(h1:v<=10000000000)(hq:(tL (o.getD i dM)).length<=1000000000) :
  rY dK L a0 a1 (n+1) o v i K=rY dK L a0 a1 n (o.set i (mkM (o.getD i dM) v)) (v+wM (o.getD i dM)) ((i+1:Nat):Int) K:=by
 conv=>lhs;unfold rY B62_0;dsimp only[dY]
 simp(disch:=omega) only[dY,List.length_modify,dt,wi,cond_true,bL,bF,gW,mB];have hd:(o.getD i (0,0,0,0,0,0,0,false,[]):Ml)=o.getD i dM:=rfl;simp only[hd];have e8:v+1+1+1+1+1+1+1+1=v+8:=by omega
 have e47:dK ((o.getD i dM).2.2.2.2.2.2.2.2,v+8)=some (v+8+9 * ((tL (o.getD i dM)).length:Int),qE mkE 9 (tL (o.getD i dM)).length (v+8)):=if_pos ⟨hq,by(try simp only);omega,by(try simp only);omega⟩;rw[e8,e47,aO,show(i:Int)+1=((i+1:Nat):Int)by omega,show v+8+9 * ((tL (o.getD i dM)).length:Int)=v+wM (o.getD i dM)by unfold wM;omega];congr 2;unfold mkM;rw[show v+1+1=v+2 by omega,show v+2+1=v+3 by omega,show v+3+1=v+4 by omega,show v+4+1=v+5 by omega,show v+5+1=v+6 by omega,show v+6+1=v+7 by omega];exact mR _ _ _
theorem aGr {l:List Ml}{v B:Int}(h0:0<=v)(h:v+bZ wM l<=B):∀ x∈l,9 * ((tL x).length:Int)<=B:=λx hx=>by
 have:=lV (w:=wM) (λy _=>aAz y) x hx;have h9:wM x=8+9 * ((tL x).length:Int):=rfl;omega
theorem aUc:SatW prog cxT 62 (c62 xO).nres (c62 xO).n (c62 xO).F:=s62 dK aJa xO λx t h=>by
 obtain⟨o,v⟩:=x;unfold xO at h;split at h
 ·rename_i hc;cases h;simp only at hc;obtain⟨h1,h2,h3⟩:=hc;refine⟨o.length+1,?_⟩;show g62 dK (o.length+1) o v=_
  (try unfold w62);unfold g62 A62_0 G62;dsimp only[dY]
  refine(aA6 dM mkM wM 1000000000 aAz (λx=>(tL x).length<=1000000000) o.length (λn o' v' i' K=>rY dK (o.length+1) o v n o' v' i' K)
   (λn o' v' i K hl k1 k2 k3 k4=>?_) (λn o' v' i K hl k1=>?_) (λw0_0 w0_1=>some (w0_1,w0_0)) o [] v (o.length+1) rfl (by omega) h2 h3 (λx hx=>by have:=aGr h2 h3 x hx;omega)).trans ?_
  ·exact bBh _ _ _ _ _ _ _ _ (by omega) k1 k2 (by omega) k4
  ·show rY _ _ _ _ (n+1) o' v' i K=_
   conv=>lhs;unfold rY B62_0;dsimp only[dY]
   rw[df (by omega),cond_false]
  ·simp
 ·cases h
def hdM (x:List Ml×Int):Prop:=x.1.length<=1000000000/\0<=x.2/\x.2+bZ wM x.1<=1000000000/\x.1=mkV mkM wM x.1 x.2
instance (x:List Ml×Int):Decidable (hdM x):=by unfold hdM;infer_instance
def mY (x:List Ml×Int):Option Int:=if hdM x then some (x.2+bZ wM x.1)else none
theorem bBg (L:Nat)(a0:List Ml)(a1:Int)(n:Nat)(v:Int)(i:Nat)(K:Int->Option Int)(ho:a0.length<=1000000000)(hi:i < a0.length)(h0:0<=v)(h1:v<=1000000000)(hq:(tL (a0.getD i dM)).length<=1000000000)(hm:a0.getD i dM=mkM (a0.getD i dM) v) :
  oF dR L a0 a1 (n+1) v i K=oF dR L a0 a1 n (v+wM (a0.getD i dM)) ((i+1:Nat):Int) K:=by
 conv=>lhs;unfold oF B112_0;dsimp only[dY]
 have hd:(a0.getD i (0,0,0,0,0,0,0,false,[]):Ml)=a0.getD i dM:=rfl;simp(disch:=omega) only[dY,dt,wi,cond_true,bL,bF,hd];have hw:wM (a0.getD i dM)=8+9 * ((tL (a0.getD i dM)).length:Int):=rfl;obtain⟨N,hN⟩:∃ N,N=(tL (a0.getD i dM)).length:=⟨_,rfl⟩
 have hm2:a0.getD i dM=(v,v+1,v+2,v+3,v+4,v+5,v+6,(Int.tmod (v+7) 3 == 0),qE mkE 9 N (v+8)):=by rw[hN];exact hm
 rw[<-hN]at hw hq;rw[hw,hm2];have e8:v+1+1+1+1+1+1+1+1=v+8:=by omega
 have e7:v+1+1+1+1+1+1+1=v+7:=by omega
 have e49:dR (qE mkE 9 N (v+8),v+8)=some (v+8+9 * (N:Int)):=by
  unfold dR;rw[if_pos (aV4 hq (by omega) (by omega))];simp only[lR]
 simp(disch:=omega) only[rM,cond_false];rw[e8,e7,e49];simp only[aO,beq_self_eq_true,cI,cond_false];rw[df (by omega),cond_false,show(i:Int)+1=((i+1:Nat):Int)by omega,show v+8+9 * (N:Int)=v+(8+9 * (N:Int))by omega]
end Go.Proofs.Tryz
