/- A part of the proof of FnExactLeaderOf: LmPa, LmPb. -/
import Derived.Test.YtnmbggfkmkcmkaaGreatVmPl
import Derived.Test.YtnmbggfkmkcmkaaGreatLmFa
import Derived.Test.YtnmbggfkmkcmkaaGreatLmFc
import Derived.Test.YtnmbggfkmkcmkaaGreatLmFe
import Derived.Test.YtnmbggfkmkcmkaaGreatLmFg
import Derived.Test.YtnmbggfkmkcmkaaGreatLmFi
set_option linter.unusedSimpArgs false
set_option linter.unusedVariables false
set_option maxHeartbeats 0
namespace Go.Proofs.Tryz
open Go.IntKind (wrap)
open Go Go.VM Go.RowKit
abbrev Cm:=Int×Int×Int×Int×Int×Int
def uQ (x:Int):Bool:=decide (1<=x/\x<=999)
def aA6 (x:Int):Bool:=decide (0<=x/\x<=4294967295)
def aF7 (x:Int):Bool:=decide (0<=x/\x<=9)
def aHu (x:Int):Bool:=decide (1<=x/\x<=3)
def sE (x:Int):Bool:=decide (0<=x/\x<=65535)
def aBb (x:Int):Bool:=decide (x=6\/x=17)
def pZ (x:Int):Bool:=decide (0<=x/\x<=1000000)
theorem kX {a b:Int}{x:Int}:(bif decide (x>=a)then some (decide (x<=b))else some false)=some (decide (a<=x/\x<=b)):=by
 by_cases h:a<=x
 ·rw[dt (show x>=a from h)];simp[h]
 ·rw[df (show ¬ x>=a from h)];simp[h]
theorem aE7 {a b:Int}{x:Int}:(bif x == a then some true else some (x == b))=some (decide (x=a\/x=b)):=by
 by_cases h:x=a
 ·simp[h]
 ·rw[beq_eq_false_iff_ne.2 h,cond_false];by_cases h2:x=b
  ·rw[beq_iff_eq.2 h2,dt (.inr h2)]
  ·rw[beq_eq_false_iff_ne.2 h2,df (by rintro(h3 | h3)<;>contradiction)]
theorem nA:Sat prog cxT 70 (xL λx=>some (decide (x.2.1<=x.1/\x.1<=x.2.2))):=s70 _ λx t h=>by
 obtain⟨x,a,b⟩:=x;cases h;exact⟨0,kX⟩
theorem aN4:Sat prog cxT 140 (aVE λx=>some (uQ x)):=aX7 _ λx t h=>by cases h;exact⟨0,kX⟩
theorem aN2:Sat prog cxT 142 (aVC λx=>some (aF7 x)):=aX5 _ λx t h=>by cases h;exact⟨0,kX⟩
theorem aN6:Sat prog cxT 138 (aVF λx=>some (pZ x)):=aX8 _ λx t h=>by cases h;exact⟨0,kX⟩
theorem aN3:Sat prog cxT 141 (aVD λx=>some (aA6 x)):=aX6 _ λx t h=>by cases h;exact⟨0,kX⟩
theorem aN1:Sat prog cxT 145 (aVB λx=>some (aHu x)):=aX4 _ λx t h=>by cases h;exact⟨0,kX⟩
theorem aN0:Sat prog cxT 148 (aVA λx=>some (sE x)):=aX3 _ λx t h=>by cases h;exact⟨0,kX⟩
theorem aNZ:Sat prog cxT 149 (aVz λx=>some (aBb x)):=aX2 _ λx t h=>by cases h;exact⟨0,aE7⟩
theorem aOp:Sat prog cxT 116 (aVK λx=>some (pZ x)):=aYt _ nA _ λx t h=>by cases h;exact⟨0,rfl⟩
theorem aOo:Sat prog cxT 117 (aVJ λx=>some (uQ x)):=aYs _ nA _ λx t h=>by cases h;exact⟨0,rfl⟩
theorem aOn:Sat prog cxT 118 (aVI λx=>some (aA6 x)):=aYr _ nA _ λx t h=>by cases h;exact⟨0,rfl⟩
theorem aOl:Sat prog cxT 120 (aVG λx=>some (aBb x)):=aYp _ λx t h=>by cases h;exact⟨0,aE7⟩
theorem aN7:Sat prog cxT 137 (aKC λx=>some (sE x)):=aX9 _ nA _ λx t h=>by cases h;exact⟨0,rfl⟩
def top:Nat:=9223372036854775807
def lN:Nat:=1000000000
theorem aCv {v:Int}{n:Nat}(h0:0<=v)(h1:v<=1048576)(hn:n<=top):(bif decide (wrap .i64 (v-(n:Int)) < 0)then some (-1)else some (wrap .i64 (v-(n:Int))))=some (pM v n):=by
 unfold top at hn;rw[wi (by omega) (by omega)];unfold pM;by_cases h:v-(n:Int) < 0
 ·rw[dt h,if_pos h];rfl
 ·rw[df h,if_neg h];rfl
theorem aKf {n:Nat}(h:n<=lN):((decide ((0:Int)<=(n:Int))&&decide ((n:Int)<=(n:Int)))&&decide ((n:Int)<=(1000000000:Int)))=true:=by
 unfold lN at h;rw[dt (by omega),dt (iH _),dt (by omega)];rfl
theorem gO {α:Type}[DecidableEq α][BEq α][LawfulBEq α]{a b:α}{o:Option Bool}{p:Prop}[Decidable p](h:a=b->o=some (decide p))(h2:¬ a=b->¬ p):(bif a != b then some false else o)=some (decide p):=by
 by_cases e:a=b
 ·rw[wO e,cond_false,h e]
 ·rw[rI e,cond_true,df (h2 e)]
theorem aVO {b:Bool}:(bif !b then some false else some true)=some b:=by cases b<;>rfl
theorem aE9 {a b:Int}(h:¬ a=b):(a == b)=false:=by simpa using h
end Go.Proofs.Tryz
set_option maxHeartbeats 0
namespace Go.Proofs.Tryz
open Go.IntKind (wrap)
open Go Go.VM Go.RowKit
abbrev En:=Int×Int×Int×Int×Int×Int×Int×Int×Int
def jG:En:=(0,0,0,0,0,0,0,0,0)
instance decCm:DecidableEq Cm:=inferInstance
instance decE1:DecidableEq (Int×Cm):=instDecidableEqProd
instance decE2:DecidableEq (Int×Int×Cm):=instDecidableEqProd
instance decEn:DecidableEq En:=(instDecidableEqProd:DecidableEq (Int×Int×Int×Cm))
theorem aOk:Sat prog cxT 121 (aKO λx=>some x):=aYo _ λx t h=>by cases h;exact⟨0,rfl⟩
theorem aHG:Sat prog cxT 104 (aHe λx=>some x):=aYD _ aOk _ λx t h=>by cases h;exact⟨0,rfl⟩
theorem aOs:Sat prog cxT 113 (aKQ λx=>some (decide (x.1=x.2))):=aYw _ λx t h=>by
 obtain⟨⟨a,b,c,d,e,f⟩,a',b',c',d',e',f'⟩:=x;cases h;refine⟨0,?_⟩;show aIS 0 a b c d e f a' b' c' d' e' f'=_
 (try unfold aND);unfold aIS G113;dsimp only
 refine gO (λe1=>gO (λe2=>gO (λe3=>gO (λe4=>gO (λe5=>gO (λe6=>?_) ?_) ?_) ?_) ?_) ?_) ?_
 ·simp[e1,e2,e3,e4,e5,e6]
 ·intro e h;simp at h;exact e h.2.2.2.2.2
 ·intro e h;simp at h;exact e h.2.2.2.2.1
 ·intro e h;simp at h;exact e h.2.2.2.1
 ·intro e h;simp at h;exact e h.2.2.1
 ·intro e h;simp at h;exact e h.2.1
 ·intro e h;simp at h;exact e h.1
theorem aLa:Sat prog cxT 92 (c92 λx=>some (decide (x.1=x.2))):=s92 _ aOs _ λx t h=>by
 obtain⟨⟨t,c,s,q⟩,t',c',s',q'⟩:=x;cases h;refine⟨0,?_⟩;show g92 (λx=>some (decide (x.1=x.2))) 0 t c s q.1 q.2.1 q.2.2.1 q.2.2.2.1 q.2.2.2.2.1 q.2.2.2.2.2 t' c' s' q'.1 q'.2.1 q'.2.2.1 q'.2.2.2.1 q'.2.2.2.2.1 q'.2.2.2.2.2=_
 (try unfold w92);unfold g92 G92;dsimp only
 refine gO (λe1=>gO (λe2=>gO (λe3=>?_) ?_) ?_) ?_
 ·rw[aP,aVO];subst e1;subst e2;subst e3;show some (decide (q=q'))=_;simp
 ·intro e h;simp at h;exact e h.2.2.1
 ·intro e h;simp at h;exact e h.2.1
 ·intro e h;simp at h;exact e h.1
def mZ (x:List En×Int):Option Int:=if x.1.length<=top/\0<=x.2/\x.2<=1048576 then some (pM x.2 (x.1.length:Int))else none
theorem aK9:Sat prog cxT 94 (c94 mZ):=s94 mZ λx t h=>by
 obtain⟨a,v⟩:=x;unfold mZ at h;split at h
 ·rename_i hc;cases h;exact⟨0,aCv hc.2.1 hc.2.2 hc.1⟩
 ·cases h
theorem aMD (L:Nat)(a:List En):∀ (n:Nat) (o:List En) (i:Int) (k:List En->Option (List En)),tT (λx=>some x) L a n o i k=toL jG (λx=>some x) a n o i k
 | 0,_,_,_=>rfl
 | n+1,o,i,k=>by
  unfold tT B102_0 toL;dsimp only;simp only[aP,aMD L a n]
  rfl
def gS (a:List En):Option (List En):=if a.length<=lN then some a else none
theorem aHH:Sat prog cxT 102 (aHf gS):=aYF _ aHG gS λx t h=>by
 unfold gS at h;split at h
 ·rename_i ha;cases h;refine⟨x.length+1,?_⟩
  (try unfold aNI);unfold aKm A102_0 G102;dsimp only
  have ha':x.length<=1000000000:=ha;rw[aKf ha,cond_true,aMD];exact aCu jG (λx=>some x) x (by omega) (λ_ _=>rfl) (λw=>some w) _ 0 _ (by simp) (by omega) (by omega) rfl
 ·cases h
theorem aTV (L:Nat)(a b:List En):∀ (n:Nat) (i:Int) (k:Option Bool),aAf (λx=>some (decide (x.1=x.2))) L a b n i k=eqL jG (λx=>some (decide (x.1=x.2))) a b n i k
 | 0,_,_=>rfl
 | n+1,i,k=>by
  unfold aAf B58_0 eqL;dsimp only;simp only[aP,aTV L a b n]
  rfl
def jF (x:List En×List En):Option Bool:=if x.1.length<=1000000000000 then some (decide (x.1=x.2))else none
theorem aHB:Sat prog cxT 58 (c58 jF):=s58 _ aLa jF λx t h=>by
 obtain⟨a,b⟩:=x;unfold jF at h;split at h
 ·rename_i hc;cases h;refine⟨a.length+1,?_⟩;show g58 _ (a.length+1) a b=_
  (try unfold w58);unfold g58 A58_0 G58;dsimp only
  by_cases e:a.length=b.length
  ·rw[wO (show((a.length:Nat):Int)=(b.length:Int)by omega),cond_false,aTV];refine(aAR jG _ a b e (by simp only at hc;omega) (λx _ y _=>rfl) (some true) _ 0 (by omega) (by omega)).trans ?_;simp only[fC];split<;>rename_i hh<;>simp[hh]
  ·rw[rI (show ¬ ((a.length:Nat):Int)=(b.length:Int)by omega),cond_true];rw[df (λh=>e (by rw[h]))]
 ·cases h
def mkE (v:Int):En:=(v,v+1,v+2,v+3,v+4,v+5,v+6,v+7,v+8)
def eT (x:List En×Int):Option (Int×List En):=if x.1.length<=1000000000/\0<=x.2/\x.2<=100000000000 then some (x.2+9 * (x.1.length:Int),oA mkE 9 x.1.length x.2)else none
theorem aXV (L:Nat)(a0:List En)(a1:Int)(n:Nat)(o:List En)(v:Int)(i:Nat)(K:List En->Int->Option (Int×List En))(ho:o.length<=1000000000)(hi:i < o.length)(h0:0<=v)(h1:v<=1000000000000000) :
  qM L a0 a1 (n+1) o v i K=qM L a0 a1 n (o.set i (mkE v)) (v+9) ((i+1:Nat):Int) K:=by
 conv=>lhs;unfold qM B63_0;dsimp only
 simp(disch:=omega) only[dX,List.length_modify,dt,wi,cond_true,bM,bB,gN,lT];rw[show v+1+1+1+1+1+1+1+1+1=v+9 by omega,show(i:Int)+1=((i+1:Nat):Int)by omega];have e:(v,v+1,v+1+1,v+1+1+1,v+1+1+1+1,v+1+1+1+1+1,v+1+1+1+1+1+1,v+1+1+1+1+1+1+1,v+1+1+1+1+1+1+1+1)=mkE v:=by
  unfold mkE;simp only[aM,true_and];omega
 rw[e]
theorem aHA:SatW prog cxT 63 (c63 eT).nres (c63 eT).n (c63 eT).F:=s63 eT λx t h=>by
 obtain⟨o,v⟩:=x;unfold eT at h;split at h
 ·rename_i hc;cases h;simp only at hc;refine⟨o.length+1,?_⟩;show g63 (o.length+1) o v=_
  (try unfold w63);unfold g63 A63_0 G63;dsimp only
  refine(uS mkE 9 1000000000000000 o.length (by omega) (λn o' v' i' K=>qM (o.length+1) o v n o' v' i' K) (λn o' v' i' K hl h1 h2 h3=>aXV _ _ _ _ _ _ _ _ (by omega) h1 h2 h3)
   (λn o' v' i' K hl h1=>?_) (λw0_0 w0_1=>some (w0_1,w0_0)) (o.length+1) 0 o v rfl (by omega) (by omega) hc.2.1 (by omega)).trans ?_
  ·show qM _ _ _ (n+1) o' v' i' K=_
   conv=>lhs;unfold qM B63_0;dsimp only
   rw[df (by omega),cond_false]
  ·simp
 ·cases h
def hdE (x:List En×Int):Prop:=x.1.length<=1000000000/\0<=x.2/\x.2<=100000000000/\x.1=oA mkE 9 x.1.length x.2
instance (x:List En×Int):Decidable (hdE x):=by unfold hdE;infer_instance
def yE (x:List En×Int):Option Int:=if hdE x then some (x.2+9 * (x.1.length:Int))else none
theorem aXS (L:Nat)(a0:List En)(a1:Int)(n:Nat)(v:Int)(i:Nat)(K:Int->Option Int)(ho:a0.length<=1000000000)(hi:i < a0.length)(h0:0<=v)(h1:v<=1000000000000000)(hm:a0.getD i jG=mkE v) :
  qL L a0 a1 (n+1) v i K=qL L a0 a1 n (v+9) ((i+1:Nat):Int) K:=by
 conv=>lhs;unfold qL B64_0;dsimp only
 have hm':a0.getD i (0,0,0,0,0,0,0,0,0)=mkE v:=hm;simp(disch:=omega) only[dX,dt,wi,cond_true,bM,bB,hm'];unfold mkE;simp(disch:=omega) only[wO,cond_false];rw[show v+1+1+1+1+1+1+1+1+1=v+9 by omega,show(i:Int)+1=((i+1:Nat):Int)by omega]
theorem aQ8:Sat prog cxT 64 (c64 yE):=s64 yE λx t h=>by
 obtain⟨a,v⟩:=x;unfold yE at h;split at h
 ·rename_i hc;cases h;obtain⟨h1,h2,h3,h4⟩:=hc;simp only at h1 h2 h3 h4;refine⟨a.length+1,?_⟩;show g64 (a.length+1) a v=_
  (try unfold w64);unfold g64 A64_0 G64;dsimp only
  have:=aFN jG mkE 9 1000000000000000 (by omega) a.length v (λn v' i' K=>qL (a.length+1) a v n v' i' K) h2 (λn v' i' K k1 k2 k3 k4=>aXS _ _ _ _ _ _ _ h1 k1 k2 k3 (by rw[<-h4]at k4;exact k4))
   (λn v' i' K k1=>by
    show qL _ _ _ (n+1) v' i' K=_
    conv=>lhs;unfold qL B64_0;dsimp only
    rw[df (by omega),cond_false]) (by omega) (λw0_1=>some w0_1) (a.length+1) 0 (by omega) (by omega)
  simp only[jM,Int.mul_zero,Int.add_zero]at this;exact this
 ·cases h
theorem aSA {n:Nat}{v:Int}(hn:n<=1000000000)(h0:0<=v)(h1:v<=100000000000):hdE (oA mkE 9 n v,v):=⟨by simp only[yC];exact hn,h0,h1,by simp only[yC]⟩
end Go.Proofs.Tryz
