/- A part of the proof of FnExactClusterFault: LiPa, LiPb. -/
import Derived.Test.YtalbnpcbmakijaaGreatVmPl
import Derived.Test.YtalbnpcbmakijaaGreatLiFa
import Derived.Test.YtalbnpcbmakijaaGreatLiFc
import Derived.Test.YtalbnpcbmakijaaGreatLiFe
import Derived.Test.YtalbnpcbmakijaaGreatLiFg
import Derived.Test.YtalbnpcbmakijaaGreatLiFi
set_option linter.unusedSimpArgs false
set_option linter.unusedVariables false
set_option maxHeartbeats 0
namespace Go.Proofs.Tryz
open Go.IntKind (wrap)
open Go Go.VM Go.RowKit
abbrev Cm:=Int×Int×Int×Int×Int×Int
def tI (x:Int):Bool:=decide (1<=x/\x<=999)
def zQ (x:Int):Bool:=decide (0<=x/\x<=4294967295)
def aEI (x:Int):Bool:=decide (0<=x/\x<=9)
def aF7 (x:Int):Bool:=decide (1<=x/\x<=3)
def qU (x:Int):Bool:=decide (0<=x/\x<=65535)
def zU (x:Int):Bool:=decide (x=6\/x=17)
def pD (x:Int):Bool:=decide (0<=x/\x<=1000000)
theorem kI {a b:Int}{x:Int}:(bif decide (x>=a)then some (decide (x<=b))else some false)=some (decide (a<=x/\x<=b)):=by
 by_cases h:a<=x
 ·rw[dt (show x>=a from h)];simp[h]
 ·rw[df (show ¬ x>=a from h)];simp[h]
theorem aDO {a b:Int}{x:Int}:(bif x == a then some true else some (x == b))=some (decide (x=a\/x=b)):=by
 by_cases h:x=a
 ·simp[h]
 ·rw[beq_eq_false_iff_ne.2 h,cond_false];by_cases h2:x=b
  ·rw[beq_iff_eq.2 h2,dt (.inr h2)]
  ·rw[beq_eq_false_iff_ne.2 h2,df (by rintro(h3 | h3)<;>contradiction)]
theorem mK:Sat prog cxT 88 (vE λx=>some (decide (x.2.1<=x.1/\x.1<=x.2.2))):=s88 _ λx t h=>by
 obtain⟨x,a,b⟩:=x;cases h;exact⟨0,kI⟩
theorem aMc:Sat prog cxT 214 (aSG λx=>some (tI x)):=aUS _ λx t h=>by cases h;exact⟨0,kI⟩
theorem aMa:Sat prog cxT 216 (aSE λx=>some (aEI x)):=aUQ _ λx t h=>by cases h;exact⟨0,kI⟩
theorem aMg:Sat prog cxT 191 (aSH λx=>some (pD x)):=aUV _ λx t h=>by cases h;exact⟨0,kI⟩
theorem aMb:Sat prog cxT 215 (aSF λx=>some (zQ x)):=aUR _ λx t h=>by cases h;exact⟨0,kI⟩
theorem aL9:Sat prog cxT 219 (aSD λx=>some (aF7 x)):=aUP _ λx t h=>by cases h;exact⟨0,kI⟩
theorem aL8:Sat prog cxT 222 (aSC λx=>some (qU x)):=aUO _ λx t h=>by cases h;exact⟨0,kI⟩
theorem aL7:Sat prog cxT 223 (aSB λx=>some (zU x)):=aUN _ λx t h=>by cases h;exact⟨0,aDO⟩
theorem aMm:Sat prog cxT 184 (aSM λx=>some (pD x)):=aU2 _ mK _ λx t h=>by cases h;exact⟨0,rfl⟩
theorem aMl:Sat prog cxT 185 (aSL λx=>some (tI x)):=aU1 _ mK _ λx t h=>by cases h;exact⟨0,rfl⟩
theorem aMk:Sat prog cxT 186 (aSK λx=>some (zQ x)):=aU0 _ mK _ λx t h=>by cases h;exact⟨0,rfl⟩
theorem aMi:Sat prog cxT 188 (aSI λx=>some (zU x)):=aUY _ λx t h=>by cases h;exact⟨0,aDO⟩
theorem aMd:Sat prog cxT 213 (aIM λx=>some (qU x)):=aUT _ mK _ λx t h=>by cases h;exact⟨0,rfl⟩
def top:Nat:=9223372036854775807
def mH:Nat:=1000000000
theorem aA6 {v:Int}{n:Nat}(h0:0<=v)(h1:v<=1048576)(hn:n<=top):(bif decide (wrap .i64 (v-(n:Int)) < 0)then some (-1)else some (wrap .i64 (v-(n:Int))))=some (pC v n):=by
 unfold top at hn;rw[wi (by omega) (by omega)];unfold pC;by_cases h:v-(n:Int) < 0
 ·rw[dt h,if_pos h];rfl
 ·rw[df h,if_neg h];rfl
theorem aIn {n:Nat}(h:n<=mH):((decide ((0:Int)<=(n:Int))&&decide ((n:Int)<=(n:Int)))&&decide ((n:Int)<=(1000000000:Int)))=true:=by
 unfold mH at h;rw[dt (by omega),dt (jA _),dt (by omega)];rfl
theorem gS {α:Type}[DecidableEq α][BEq α][LawfulBEq α]{a b:α}{o:Option Bool}{p:Prop}[Decidable p](h:a=b->o=some (decide p))(h2:¬ a=b->¬ p):(bif a != b then some false else o)=some (decide p):=by
 by_cases e:a=b
 ·rw[aCO e,cond_false,h e]
 ·rw[uN e,cond_true,df (h2 e)]
theorem aSR {b:Bool}:(bif !b then some false else some true)=some b:=by cases b<;>rfl
theorem aFS {a b:Int}(h:¬ a=b):(a == b)=false:=by simpa using h
end Go.Proofs.Tryz
set_option maxHeartbeats 0
namespace Go.Proofs.Tryz
open Go.IntKind (wrap)
open Go Go.VM Go.RowKit
abbrev En:=Int×Int×Int×Int×Int×Int×Int×Int×Int
def iZ:En:=(0,0,0,0,0,0,0,0,0)
instance decCm:DecidableEq Cm:=inferInstance
instance decE1:DecidableEq (Int×Cm):=instDecidableEqProd
instance decE2:DecidableEq (Int×Int×Cm):=instDecidableEqProd
instance decEn:DecidableEq En:=(instDecidableEqProd:DecidableEq (Int×Int×Int×Cm))
theorem aPi:Sat prog cxT 31 (c31 λx=>some x):=s31 _ λx t h=>by cases h;exact⟨0,rfl⟩
theorem aGf:Sat prog cxT 142 (aFN λx=>some x):=aVn _ aPi _ λx t h=>by cases h;exact⟨0,rfl⟩
theorem aMe:Sat prog cxT 193 (aIN λx=>some (decide (x.1=x.2))):=aUU _ λx t h=>by
 obtain⟨⟨a,b,c,d,e,f⟩,a',b',c',d',e',f'⟩:=x;cases h;refine⟨0,?_⟩;show aHb 0 a b c d e f a' b' c' d' e' f'=_
 (try unfold aLv);unfold aHb G193;dsimp only
 refine gS (λe1=>gS (λe2=>gS (λe3=>gS (λe4=>gS (λe5=>gS (λe6=>?_) ?_) ?_) ?_) ?_) ?_) ?_
 ·simp[e1,e2,e3,e4,e5,e6]
 ·intro e h;simp at h;exact e h.2.2.2.2.2
 ·intro e h;simp at h;exact e h.2.2.2.2.1
 ·intro e h;simp at h;exact e h.2.2.2.1
 ·intro e h;simp at h;exact e h.2.2.1
 ·intro e h;simp at h;exact e h.2.1
 ·intro e h;simp at h;exact e h.1
theorem aGb:Sat prog cxT 161 (aFJ λx=>some (decide (x.1=x.2))):=aU5 _ aMe _ λx t h=>by
 obtain⟨⟨t,c,s,q⟩,t',c',s',q'⟩:=x;cases h;refine⟨0,?_⟩;show aHf (λx=>some (decide (x.1=x.2))) 0 t c s q.1 q.2.1 q.2.2.1 q.2.2.2.1 q.2.2.2.2.1 q.2.2.2.2.2 t' c' s' q'.1 q'.2.1 q'.2.2.1 q'.2.2.2.1 q'.2.2.2.2.1 q'.2.2.2.2.2=_
 (try unfold aLA);unfold aHf G161;dsimp only
 refine gS (λe1=>gS (λe2=>gS (λe3=>?_) ?_) ?_) ?_
 ·rw[aV,aSR];subst e1;subst e2;subst e3;show some (decide (q=q'))=_;simp
 ·intro e h;simp at h;exact e h.2.2.1
 ·intro e h;simp at h;exact e h.2.1
 ·intro e h;simp at h;exact e h.1
def gG (x:List En×Int):Option Int:=if x.1.length<=top/\0<=x.2/\x.2<=1048576 then some (pC x.2 (x.1.length:Int))else none
theorem aGi:Sat prog cxT 133 (aFQ gG):=aVv gG λx t h=>by
 obtain⟨a,v⟩:=x;unfold gG at h;split at h
 ·rename_i hc;cases h;exact⟨0,aA6 hc.2.1 hc.2.2 hc.1⟩
 ·cases h
theorem aKz (L:Nat)(a:List En):∀ (n:Nat) (o:List En) (i:Int) (k:List En->Option (List En)),sJ (λx=>some x) L a n o i k=toL iZ (λx=>some x) a n o i k
 | 0,_,_,_=>rfl
 | n+1,o,i,k=>by
  unfold sJ B140_0 toL;dsimp only;simp only[aV,aKz L a n]
  rfl
def gF (a:List En):Option (List En):=if a.length<=mH then some a else none
theorem aGg:Sat prog cxT 140 (aFO gF):=aVp _ aGf gF λx t h=>by
 unfold gF at h;split at h
 ·rename_i ha;cases h;refine⟨x.length+1,?_⟩
  (try unfold aLO);unfold aIu A140_0 G140;dsimp only
  have ha':x.length<=1000000000:=ha;rw[aIn ha,cond_true,aKz];exact aA5 iZ (λx=>some x) x (by omega) (λ_ _=>rfl) (λw=>some w) _ 0 _ (by simp) (by omega) (by omega) rfl
 ·cases h
theorem aKu (L:Nat)(a b:List En):∀ (n:Nat) (i:Int) (k:Option Bool),sF (λx=>some (decide (x.1=x.2))) L a b n i k=eqL iZ (λx=>some (decide (x.1=x.2))) a b n i k
 | 0,_,_=>rfl
 | n+1,i,k=>by
  unfold sF B159_0 eqL;dsimp only;simp only[aV,aKu L a b n]
  rfl
def gE (x:List En×List En):Option Bool:=if x.1.length<=1000000000000 then some (decide (x.1=x.2))else none
theorem aGc:Sat prog cxT 159 (aFK gE):=aU7 _ aGb gE λx t h=>by
 obtain⟨a,b⟩:=x;unfold gE at h;split at h
 ·rename_i hc;cases h;refine⟨a.length+1,?_⟩;show aHh _ (a.length+1) a b=_
  (try unfold aLC);unfold aHh A159_0 G159;dsimp only
  by_cases e:a.length=b.length
  ·rw[aCO (show((a.length:Nat):Int)=(b.length:Int)by omega),cond_false,aKu];refine(zC iZ _ a b e (by simp only at hc;omega) (λx _ y _=>rfl) (some true) _ 0 (by omega) (by omega)).trans ?_;simp only[eS];split<;>rename_i hh<;>simp[hh]
  ·rw[uN (show ¬ ((a.length:Nat):Int)=(b.length:Int)by omega),cond_true];rw[df (λh=>e (by rw[h]))]
 ·cases h
def mkE (v:Int):En:=(v,v+1,v+2,v+3,v+4,v+5,v+6,v+7,v+8)
def hdE (x:List En×Int):Prop:=x.1.length<=1000000000/\0<=x.2/\x.2<=100000000000/\x.1=mkR mkE 9 x.1.length x.2
instance (x:List En×Int):Decidable (hdE x):=by unfold hdE;infer_instance
end Go.Proofs.Tryz
