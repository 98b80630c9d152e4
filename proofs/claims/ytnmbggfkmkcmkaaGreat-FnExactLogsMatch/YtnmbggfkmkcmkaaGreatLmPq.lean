/- A part of the proof of FnExactSafeCluster: LmPq, LmPr, LmPt. -/
import Derived.Test.YtnmbggfkmkcmkaaGreatLmPc
import Derived.Test.YtnmbggfkmkcmkaaGreatVmPl
set_option linter.unusedSimpArgs false
set_option linter.unusedVariables false
set_option maxHeartbeats 0
namespace Go.Proofs.Tryz
open Go.IntKind (wrap)
open Go Go.VM Go.RowKit
def bP (x:Int×Int×Int):Option Bool:=some (decide (x.2.1<=x.1/\x.1<=x.2.2))
def vO (p i:Int):Bool:=decide (0<=i/\i<=wrap .i64 (p-1))
def fK (x:Nd×Int):Option Bool:=some (vO x.1.2.1 x.2)
theorem aHT:Sat prog cxT 96 (c96 fK):=s96 bP nN fK λx t h=>by cases h;exact⟨0,rfl⟩
def jW (p:Nat->Bool):Nat->Nat->Bool
 | 0,_=>true
 | n+1,i=>p i&&jW p n (i+1)
theorem pR {p:Nat->Bool}:∀ {n i:Nat},jW p n i=true↔∀ j,i<=j->j < i+n->p j=true
 | 0,i=>⟨λ_ j h1 h2=>by omega,λ_=>rfl⟩
 | n+1,i=>by
  show(p i&&jW p n (i+1))=true↔_;rw[aD,pR];refine⟨λ⟨h1,h2⟩ j h3 h4=>?_,λh=>⟨h i (aK _) (by omega),λj h3 h4=>h j (by omega) (by omega)⟩⟩;rcases gW i j with h5 | h5
  ·exact h2 j h5 (by omega)
  ·rw[show j=i by omega];exact h1
def xA (a:List Int):Bool:=jW (λi=>decide (a.getD (i-1) 0 < a.getD i 0)) (a.length-1) 1
theorem aMW (L:Nat)(a:List Int)(ha:a.length<=1000000000)(K:Option Bool):∀ (n i:Nat),1<=i->a.length < n+i->1<=n->uF L a n (i:Int) K=bif jW (λi=>decide (a.getD (i-1) 0 < a.getD i 0)) (a.length-i) i then K else some false
 | 0,i,h1,h,h9=>by omega
 | n+1,i,h1,h,h9=>by
  unfold uF B114_0;dsimp only[eF];by_cases hi:i < a.length
  ·simp(disch:=omega) only[eF,dt,wi,cond_true,bK,aY];rw[show((i:Int)-1).toNat=i-1 by omega,show a.length-i=a.length-(i+1)+1 by omega];unfold jW;by_cases hq:a.getD i 0<=a.getD (i-1) 0
   ·rw[dt hq,cond_true,df (by omega)];rfl
   ·rw[df hq,cond_false,show(i:Int)+1=((i+1:Nat):Int)by omega,aMW L a ha K n (i+1) (by omega) (by omega) (by omega),dt (by omega),dW]
  ·rw[df (by omega),cond_false,show a.length-i=0 by omega]
   rfl
def gK (a:List Int):Option Bool:=if a.length<=jL then some (xA a)else none
theorem aOR:Sat prog cxT 114 (aKU gK):=aZA gK λa t h=>by
 unfold gK at h;split at h
 ·rename_i hm;cases h;refine⟨a.length+1,?_⟩
  (try unfold aN2);unfold aKq A114_0 G114;dsimp only[eF]
  refine(aMW (a.length+1) a hm (some true) (a.length+1) 1 (by omega) (by omega) (by omega)).trans ?_;unfold xA;cases jW (λi=>decide (a.getD (i-1) 0 < a.getD i 0)) (a.length-1) 1<;>rfl
 ·cases h
def ids (p:Int)(a:List Int):Bool:=jW (λi=>vO p (a.getD i 0)) a.length 0
theorem aUR (L:Nat)(x:Nd)(ha:x.2.2.2.2.2.2.2.1.length<=1000000000)(K:Option Bool):∀ (n i:Nat),i<=x.2.2.2.2.2.2.2.1.length->x.2.2.2.2.2.2.2.1.length < n+i->aAe gK fK L x n (i:Int) K=bif jW (λi=>vO x.2.1 (x.2.2.2.2.2.2.2.1.getD i 0)) (x.2.2.2.2.2.2.2.1.length-i) i then K else some false
 | 0,i,h0,h=>by omega
 | n+1,i,h0,h=>by
  unfold aAe B99_0;dsimp only[eF];by_cases hi:i < x.2.2.2.2.2.2.2.1.length
  ·simp(disch:=omega) only[eF,dt,wi,cond_true,bK,aY];rw[show fK (x,x.2.2.2.2.2.2.2.1.getD i 0)=some (vO x.2.1 (x.2.2.2.2.2.2.2.1.getD i 0)) from rfl,aR,show x.2.2.2.2.2.2.2.1.length-i=x.2.2.2.2.2.2.2.1.length-(i+1)+1 by omega];unfold jW;cases hq:vO x.2.1 (x.2.2.2.2.2.2.2.1.getD i 0)
   ·rfl
   ·rw[cI,cond_false,show(i:Int)+1=((i+1:Nat):Int)by omega,aUR L x ha K n (i+1) (by omega) (by omega),dW]
  ·rw[df (by omega),cond_false,show x.2.2.2.2.2.2.2.1.length-i=0 by omega]
   rfl
def xD (x:Nd):Bool:=xA x.2.2.2.2.2.2.2.1&&(decide (x.2.2.2.2.2.2.2.1=[]) || x.2.2.2.2.2.1 == 1)&&ids x.2.1 x.2.2.2.2.2.2.2.1 &&
 (decide ((x.2.2.2.2.2.2.2.2.1.length:Int)=if x.2.2.2.2.2.1=2 then x.2.1 else 0)&&decide ((x.2.2.2.2.2.2.2.2.2.length:Int)=if x.2.2.2.2.2.1=2 then x.2.1 else 0))
def mE (x:Nd):Option Bool:=if mM x jL then some (xD x)else none
theorem aOc (r p:Int)(a b:Nat):(bif r == 2 then bif ((a:Int) == p)then some ((b:Int) == p)else some false else bif ((a:Int) == 0)then some ((b:Int) == 0)else some false)=
  some (decide ((a:Int)=if r=2 then p else 0)&&decide ((b:Int)=if r=2 then p else 0)):=by
 have bq:∀ x y:Int,(x == y)=decide (x=y):=λx y=>by by_cases h:x=y<;>simp[h]
 rw[bq,bq,bq,bq,bq];by_cases hr:r=2
 ·rw[dt hr,cond_true,if_pos hr];cases decide ((a:Int)=p)<;>rfl
 ·rw[df hr,cond_false,if_neg hr];cases decide ((a:Int)=0)<;>rfl
theorem aRC:Sat prog cxT 99 (c99 mE):=s99 gK fK aOR aHT mE λx t h=>by
 unfold mE at h;split at h
 ·rename_i hm;cases h;obtain⟨h1,h2,h3,h4⟩:=hm;simp only[jL]at h1 h2 h3 h4;refine⟨x.2.2.2.2.2.2.2.1.length+1,?_⟩;have e0:=λK=>aUR (x.2.2.2.2.2.2.2.1.length+1) x h2 K (x.2.2.2.2.2.2.2.1.length+1) 0 (by omega) (by omega)
  simp only[lS,nY]at e0;show g99 gK fK _ x=_
  (try unfold w99);unfold g99 A99_0 G99;dsimp only[eF]
  rw[show gK x.2.2.2.2.2.2.2.1=some (xA x.2.2.2.2.2.2.2.1) from if_pos h2,aR,aOc,e0];unfold xD;show _=some (_&&_&&jW _ _ _&&_);cases xA x.2.2.2.2.2.2.2.1
  ·rfl
  rw[cI,cond_false,dW];by_cases hv:x.2.2.2.2.2.2.2.1=[]
  ·rw[hv]
   rfl
  ·have hl:0 < x.2.2.2.2.2.2.2.1.length:=List.length_pos_iff.2 hv;rw[dt (show(x.2.2.2.2.2.2.2.1.length:Int) > 0 by omega),cond_true,df hv,pX];by_cases hr:x.2.2.2.2.2.1=1
   ·rw[aA4 hr,cond_false,show(x.2.2.2.2.2.1 == 1)=true by simpa using hr,dW];cases jW (λi=>vO x.2.1 (x.2.2.2.2.2.2.2.1.getD i 0)) x.2.2.2.2.2.2.2.1.length 0<;>rfl
   ·rw[show(x.2.2.2.2.2.1 != 1)=true by simpa using hr,cond_true,show(x.2.2.2.2.2.1 == 1)=false by simpa using hr]
    rfl
 ·cases h
end Go.Proofs.Tryz
set_option maxHeartbeats 0
namespace Go.Proofs.Tryz
open Go.IntKind (wrap)
open Go Go.VM Go.RowKit
def aIf (x:Nd)(i:Nat):Bool:=decide (1<=x.2.2.2.2.2.2.2.2.1.getD i 0/\x.2.2.2.2.2.2.2.2.1.getD i 0<=(x.2.2.2.2.1.length:Int)+1)&&decide (0<=x.2.2.2.2.2.2.2.2.2.getD i 0/\x.2.2.2.2.2.2.2.2.2.getD i 0<=(x.2.2.2.2.1.length:Int))
theorem aUU (L:Nat)(x:Nd)(hl:mM x jL)(he:x.2.2.2.2.2.2.2.2.2.length=x.2.2.2.2.2.2.2.2.1.length)(K:Option Int):∀ (n i:Nat),i<=x.2.2.2.2.2.2.2.2.1.length->x.2.2.2.2.2.2.2.2.1.length < n+i->
  aAh bP fK rD kD mE L x n (i:Int) K=bif jW (aIf x) (x.2.2.2.2.2.2.2.2.1.length-i) i then K else some 3
 | 0,i,h0,h=>by omega
 | n+1,i,h0,h=>by
  obtain⟨h1,h2,h3,h4⟩:=hl;simp only[jL]at h1 h2 h3 h4;unfold aAh B67_0;dsimp only[eF];by_cases hi:i < x.2.2.2.2.2.2.2.2.1.length
  ·rw[dt (show(i:Int) < (x.2.2.2.2.2.2.2.2.1.length:Int)by omega),dt (show(0:Int)<=(i:Int)by omega),dt (show(i:Int) < (x.2.2.2.2.2.2.2.2.2.length:Int)by omega)];simp only[bK,cond_true,aY];rw[wi (show -9223372036854775808<=(x.2.2.2.2.1.length:Int)+1 by omega) (by omega),wi (show -9223372036854775808<=(i:Int)+1 by omega) (by omega)];rw[show bP (x.2.2.2.2.2.2.2.2.1.getD i 0,1,(x.2.2.2.2.1.length:Int)+1)=some (decide (1<=x.2.2.2.2.2.2.2.2.1.getD i 0/\x.2.2.2.2.2.2.2.2.1.getD i 0<=(x.2.2.2.2.1.length:Int)+1)) from rfl,aR,
    show bP (x.2.2.2.2.2.2.2.2.2.getD i 0,0,(x.2.2.2.2.1.length:Int))=some (decide (0<=x.2.2.2.2.2.2.2.2.2.getD i 0/\x.2.2.2.2.2.2.2.2.2.getD i 0<=(x.2.2.2.2.1.length:Int))) from rfl,aR,
    show x.2.2.2.2.2.2.2.2.1.length-i=x.2.2.2.2.2.2.2.2.1.length-(i+1)+1 by omega]
   show _=bif (decide _&&decide _)&&jW _ _ _ then K else some 3
   cases decide (1<=x.2.2.2.2.2.2.2.2.1.getD i 0/\x.2.2.2.2.2.2.2.2.1.getD i 0<=(x.2.2.2.2.1.length:Int)+1)
   ·rfl
   cases decide (0<=x.2.2.2.2.2.2.2.2.2.getD i 0/\x.2.2.2.2.2.2.2.2.2.getD i 0<=(x.2.2.2.2.1.length:Int))
   ·rfl
   simp only[cI,cond_false,dW];rw[show(i:Int)+1=((i+1:Nat):Int)by omega,aUU L x ⟨h1,h2,h3,h4⟩ he K n (i+1) (by omega) (by omega)]
  ·rw[df (by omega),cond_false,show x.2.2.2.2.2.2.2.2.1.length-i=0 by omega]
   rfl
def aPM (x:Nd):Int:=bif x.2.2.2.2.2.1 != 0 then bif x.2.2.2.1 != x.1 then 1 else bif x.2.2.1 == 0 then 1 else 0 else 0
def ndF (x:Nd):Int:=
 bif !decide (1<=x.2.1/\x.2.1<=5)then 3 else bif !vO x.2.1 x.1 then 3 else bif !decide (0<=x.2.2.1/\x.2.2.1<=100000)then 3 else bif !decide (-1<=x.2.2.2.1/\x.2.2.2.1<=wrap .i64 (x.2.1-1))then 3
 else bif !decide (0<=x.2.2.2.2.2.1/\x.2.2.2.2.2.1<=2)then 3 else bif uA x.2.2.2.2.1 != 0 then uA x.2.2.2.2.1 else bif decide ((lT x.2.2.2.2.1).1 > x.2.2.1)then 1
 else bif !decide (0<=x.2.2.2.2.2.2.1/\x.2.2.2.2.2.2.1<=(x.2.2.2.2.1.length:Int))then 3 else bif !xD x then 1 else bif jW (aIf x) x.2.2.2.2.2.2.2.2.1.length 0 then aPM x else 3
def eH (x:Nd):Option Int:=if mM x jL then some (ndF x)else none
theorem aCd {x:Nd}(h:xD x=true):x.2.2.2.2.2.2.2.2.2.length=x.2.2.2.2.2.2.2.2.1.length:=by
 unfold xD at h;simp only[aD,decide_eq_true_eq]at h;obtain⟨_,h1,h2⟩:=h;omega
theorem aRV:Sat prog cxT 67 (c67 eH):=s67 bP fK rD kD mE nN aHT aLe aLd aRC eH λx t h=>by
 unfold eH at h;split at h
 ·rename_i hm;cases h;refine⟨x.2.2.2.2.2.2.2.2.1.length+1,?_⟩;have hl:=hm;obtain⟨h1,h2,h3,h4⟩:=hm;show g67 bP fK rD kD mE _ x=_
  (try unfold w67);unfold g67 A67_0 G67;dsimp only[eF]
  rw[show rD x.2.2.2.2.1=some (uA x.2.2.2.2.1) from rfl,show kD x.2.2.2.2.1=some (lT x.2.2.2.2.1) from if_pos h1,show mE x=some (xD x) from if_pos hl];simp only[bP,fK,aR];unfold ndF;have bq:∀ (b:Bool) (u v:Int),(bif b then some u else some v)=some (bif b then u else v):=λb u v=>by cases b<;>rfl
  by_cases hL:xD x=true
  ·have e0:=λK=>aUU (x.2.2.2.2.2.2.2.2.1.length+1) x hl (aCd hL) K (x.2.2.2.2.2.2.2.2.1.length+1) 0 (by omega) (by omega)
   simp only[lS,nY]at e0;rw[e0];unfold aPM;simp only[bq]
  ·rw[qR]at hL;simp only[hL,lB,cond_true,bq]
 ·cases h
end Go.Proofs.Tryz
set_option maxHeartbeats 0
namespace Go.Proofs.Tryz
open Go.IntKind (wrap)
open Go Go.VM Go.RowKit
abbrev Ml:=Int×Int×Int×Int×Int×Int×Int×Bool×List En
def dM:Ml:=(0,0,0,0,0,0,0,false,[])
instance decM1:DecidableEq (Bool×List En):=inferInstance
instance decM2:DecidableEq (Int×Bool×List En):=instDecidableEqProd
instance decM3:DecidableEq (Int×Int×Bool×List En):=instDecidableEqProd
instance decM4:DecidableEq (Int×Int×Int×Bool×List En):=instDecidableEqProd
instance decM5:DecidableEq (Int×Int×Int×Int×Bool×List En):=instDecidableEqProd
instance decM6:DecidableEq (Int×Int×Int×Int×Int×Bool×List En):=instDecidableEqProd
instance decM7:DecidableEq (Int×Int×Int×Int×Int×Int×Bool×List En):=instDecidableEqProd
instance decMl:DecidableEq Ml:=(instDecidableEqProd:DecidableEq (Int×Int×Int×Int×Int×Int×Int×Bool×List En))
def enM (x:Ml):List En:=x.2.2.2.2.2.2.2.2
def mN (x:Ml×Ml):Option Bool:=if(enM x.1).length<=jL then some (decide (x.1=x.2))else none
theorem aP3 {a b:Bool}{o:Option Bool}{p:Prop}[Decidable p](h:a=b->o=some (decide p))(h2:¬ a=b->¬ p):(bif !(a == b)then some false else o)=some (decide p):=by
 by_cases hp:a=b
 ·rw[show(a == b)=true by simpa using hp];exact h hp
 ·rw[show(a == b)=false by simpa using hp,df (h2 hp)];rfl
theorem aRK:Sat prog cxT 83 (c83 mN):=s83 nM aLm mN λx t h=>by
 obtain⟨⟨a,b,c,d,e,f,g,o,l⟩,a',b',c',d',e',f',g',o',l'⟩:=x;unfold mN at h;split at h
 ·rename_i hc;cases h;have hc:l.length<=1000000000:=hc;refine⟨0,?_⟩;show g83 nM 0 a b c d e f g o l a' b' c' d' e' f' g' o' l'=_
  (try unfold w83);unfold g83 G83;dsimp only[eF]
  rw[show nM (l,l')=some (decide (l=l')) from if_pos (by(try simp only);omega),aR];refine hM (λe1=>hM (λe2=>hM (λe3=>hM (λe4=>hM (λe5=>hM (λe6=>hM (λe7=>aP3 (λe8=>pQ (λe9=>?_) ?_) ?_) ?_) ?_) ?_) ?_) ?_) ?_) ?_
  ·subst e1 e2 e3 e4 e5 e6 e7 e8 e9;simp
  all_goals intro e h;simp only[aN]at h;obtain⟨q1,q2,q3,q4,q5,q6,q7,q8,q9⟩:=h;first | exact e q1 | exact e q2 | exact e q3 | exact e q4 | exact e q5 | exact e q6 | exact e q7 | exact e q8 | exact e q9
 ·cases h
theorem aUZ (m:Ml×Ml->Option Bool)(L:Nat)(a b:List Ml):∀ (n:Nat) (i:Int) (k:Option Bool),aAl m L a b n i k=eqL dM m a b n i k
 | 0,_,_=>rfl
 | n+1,i,k=>by
  unfold aAl B46_0 eqL;dsimp only[eF];simp only[aUZ m L a b n]
  rfl
def aFm (l:List Ml):Prop:=∀ x∈l,(enM x).length<=jL
instance (l:List Ml):Decidable (aFm l):=by unfold aFm;infer_instance
def yK (x:List Ml×List Ml):Option Bool:=if x.1.length<=1000000000000/\aFm x.1 then some (decide (x.1=x.2))else none
theorem aR4:Sat prog cxT 46 (c46 yK):=s46 mN aRK yK λx t h=>by
 obtain⟨a,b⟩:=x;unfold yK at h;split at h
 ·rename_i hc;cases h;obtain⟨hc,hE⟩:=hc;have hc:a.length<=1000000000000:=hc;refine⟨a.length+1,?_⟩;show g46 mN (a.length+1) a b=some (decide (a=b))
  (try unfold w46);unfold g46 A46_0 G46;dsimp only[eF]
  refine hM (λe=>?_) λe h=>e (by rw[h])
  rw[aUZ];refine(aAU dM mN a b (by omega) (by omega) (λx hx y _=>if_pos (hE x hx)) _ _ 0 (by omega) (by omega)).trans ?_;simp only[fC];split<;>rename_i hh<;>simp[hh]
 ·cases h
def mkM (x:Ml)(v:Int):Ml:=(v,v+1,v+2,v+3,v+4,v+5,v+6,(Int.tmod (v+7) 3 == 0),mkR mkE 9 (enM x).length (v+8))
def wM (x:Ml):Int:=8+9 * ((enM x).length:Int)
theorem aNR (x:Ml):0<=wM x:=by unfold wM;omega
def hdM (x:List Ml×Int):Prop:=x.1.length<=1000000000/\0<=x.2/\x.2+eS wM x.1<=1000000000/\x.1=mkV mkM wM x.1 x.2
instance (x:List Ml×Int):Decidable (hdM x):=by unfold hdM;infer_instance
end Go.Proofs.Tryz
