/- A part of the proof of FnExactSafeCluster: LmPa, LmPb. -/
import Derived.Test.YtnmbggfkmkcmkaaGreatVmPl
import Derived.Test.YtnmbggfkmkcmkaaGreatLmFa
import Derived.Test.YtnmbggfkmkcmkaaGreatLmFc
import Derived.Test.YtnmbggfkmkcmkaaGreatLmFe
import Derived.Test.YtnmbggfkmkcmkaaGreatLmFg
import Derived.Test.YtnmbggfkmkcmkaaGreatLmFi
set_option linter.unusedSimpArgs false
set_option linter.unusedVariables false
set_option maxHeartbeats 0
namespace Go.Proofs.Tryz
open Go.IntKind (wrap)
open Go Go.VM Go.RowKit
abbrev Cm:=Int×Int×Int×Int×Int×Int
def vH (x:Int):Bool:=decide (1<=x/\x<=999)
def aBa (x:Int):Bool:=decide (0<=x/\x<=4294967295)
def aGp (x:Int):Bool:=decide (0<=x/\x<=9)
def aHN (x:Int):Bool:=decide (1<=x/\x<=3)
def sV (x:Int):Bool:=decide (0<=x/\x<=65535)
def aBe (x:Int):Bool:=decide (x=6\/x=17)
def qW (x:Int):Bool:=decide (0<=x/\x<=1000000)
theorem lA {a b:Int}{x:Int}:(bif decide (x>=a)then some (decide (x<=b))else some false)=some (decide (a<=x/\x<=b)):=by
 by_cases h:a<=x
 ·rw[dt (show x>=a from h)];simp[h]
 ·rw[df (show ¬ x>=a from h)];simp[h]
theorem aFt {a b:Int}{x:Int}:(bif x == a then some true else some (x == b))=some (decide (x=a\/x=b)):=by
 by_cases h:x=a
 ·simp[h]
 ·rw[beq_eq_false_iff_ne.2 h,cond_false];by_cases h2:x=b
  ·rw[beq_iff_eq.2 h2,dt (.inr h2)]
  ·rw[beq_eq_false_iff_ne.2 h2,df (by rintro(h3 | h3)<;>contradiction)]
theorem nN:Sat prog cxT 70 (xQ λx=>some (decide (x.2.1<=x.1/\x.1<=x.2.2))):=s70 _ λx t h=>by
 obtain⟨x,a,b⟩:=x;cases h;exact⟨0,lA⟩
theorem aOu:Sat prog cxT 140 (aWJ λx=>some (vH x)):=aZc _ λx t h=>by cases h;exact⟨0,lA⟩
theorem aOs:Sat prog cxT 142 (aWH λx=>some (aGp x)):=aZa _ λx t h=>by cases h;exact⟨0,lA⟩
theorem aOw:Sat prog cxT 138 (aWK λx=>some (qW x)):=aZd _ λx t h=>by cases h;exact⟨0,lA⟩
theorem aOt:Sat prog cxT 141 (aWI λx=>some (aBa x)):=aZb _ λx t h=>by cases h;exact⟨0,lA⟩
theorem aOr:Sat prog cxT 145 (aWG λx=>some (aHN x)):=aY9 _ λx t h=>by cases h;exact⟨0,lA⟩
theorem aOq:Sat prog cxT 148 (aWF λx=>some (sV x)):=aY8 _ λx t h=>by cases h;exact⟨0,lA⟩
theorem aOp:Sat prog cxT 149 (aWE λx=>some (aBe x)):=aY7 _ λx t h=>by cases h;exact⟨0,aFt⟩
theorem aOP:Sat prog cxT 116 (aWP λx=>some (qW x)):=aZy _ nN _ λx t h=>by cases h;exact⟨0,rfl⟩
theorem aOO:Sat prog cxT 117 (aWO λx=>some (vH x)):=aZx _ nN _ λx t h=>by cases h;exact⟨0,rfl⟩
theorem aON:Sat prog cxT 118 (aWN λx=>some (aBa x)):=aZw _ nN _ λx t h=>by cases h;exact⟨0,rfl⟩
theorem aOL:Sat prog cxT 120 (aWL λx=>some (aBe x)):=aZu _ λx t h=>by cases h;exact⟨0,aFt⟩
theorem aOx:Sat prog cxT 137 (aKH λx=>some (sV x)):=aZe _ nN _ λx t h=>by cases h;exact⟨0,rfl⟩
def top:Nat:=9223372036854775807
def jL:Nat:=1000000000
theorem aCv {v:Int}{n:Nat}(h0:0<=v)(h1:v<=1048576)(hn:n<=top):(bif decide (wrap .i64 (v-(n:Int)) < 0)then some (-1)else some (wrap .i64 (v-(n:Int))))=some (qV v n):=by
 unfold top at hn;rw[wi (by omega) (by omega)];unfold qV;by_cases h:v-(n:Int) < 0
 ·rw[dt h,if_pos h];rfl
 ·rw[df h,if_neg h];rfl
theorem aKk {n:Nat}(h:n<=jL):((decide ((0:Int)<=(n:Int))&&decide ((n:Int)<=(n:Int)))&&decide ((n:Int)<=(1000000000:Int)))=true:=by
 unfold jL at h;rw[dt (by omega),dt (jD _),dt (by omega)];rfl
theorem hM {α:Type}[DecidableEq α][BEq α][LawfulBEq α]{a b:α}{o:Option Bool}{p:Prop}[Decidable p](h:a=b->o=some (decide p))(h2:¬ a=b->¬ p):(bif a != b then some false else o)=some (decide p):=by
 by_cases e:a=b
 ·rw[aA4 e,cond_false,h e]
 ·rw[qU e,cond_true,df (h2 e)]
theorem aWT {b:Bool}:(bif !b then some false else some true)=some b:=by cases b<;>rfl
theorem yB {a b:Int}(h:¬ a=b):(a == b)=false:=by simpa using h
end Go.Proofs.Tryz
set_option maxHeartbeats 0
namespace Go.Proofs.Tryz
open Go.IntKind (wrap)
open Go Go.VM Go.RowKit
abbrev En:=Int×Int×Int×Int×Int×Int×Int×Int×Int
def gB:En:=(0,0,0,0,0,0,0,0,0)
instance decCm:DecidableEq Cm:=inferInstance
instance decE1:DecidableEq (Int×Cm):=instDecidableEqProd
instance decE2:DecidableEq (Int×Int×Cm):=instDecidableEqProd
instance decEn:DecidableEq En:=(instDecidableEqProd:DecidableEq (Int×Int×Int×Cm))
theorem aOK:Sat prog cxT 121 (aKT λx=>some x):=aZt _ λx t h=>by cases h;exact⟨0,rfl⟩
theorem aHY:Sat prog cxT 104 (aHu λx=>some x):=aZK _ aOK _ λx t h=>by cases h;exact⟨0,rfl⟩
theorem aOS:Sat prog cxT 113 (aKV λx=>some (decide (x.1=x.2))):=aZB _ λx t h=>by
 obtain⟨⟨a,b,c,d,e,f⟩,a',b',c',d',e',f'⟩:=x;cases h;refine⟨0,?_⟩;show aJg 0 a b c d e f a' b' c' d' e' f'=_
 (try unfold aN3);unfold aJg G113;dsimp only
 refine hM (λe1=>hM (λe2=>hM (λe3=>hM (λe4=>hM (λe5=>hM (λe6=>?_) ?_) ?_) ?_) ?_) ?_) ?_
 ·simp[e1,e2,e3,e4,e5,e6]
 ·intro e h;simp at h;exact e h.2.2.2.2.2
 ·intro e h;simp at h;exact e h.2.2.2.2.1
 ·intro e h;simp at h;exact e h.2.2.2.1
 ·intro e h;simp at h;exact e h.2.2.1
 ·intro e h;simp at h;exact e h.2.1
 ·intro e h;simp at h;exact e h.1
theorem aLg:Sat prog cxT 92 (c92 λx=>some (decide (x.1=x.2))):=s92 _ aOS _ λx t h=>by
 obtain⟨⟨t,c,s,q⟩,t',c',s',q'⟩:=x;cases h;refine⟨0,?_⟩;show g92 (λx=>some (decide (x.1=x.2))) 0 t c s q.1 q.2.1 q.2.2.1 q.2.2.2.1 q.2.2.2.2.1 q.2.2.2.2.2 t' c' s' q'.1 q'.2.1 q'.2.2.1 q'.2.2.2.1 q'.2.2.2.2.1 q'.2.2.2.2.2=_
 (try unfold w92);unfold g92 G92;dsimp only
 refine hM (λe1=>hM (λe2=>hM (λe3=>?_) ?_) ?_) ?_
 ·rw[aR,aWT];subst e1;subst e2;subst e3;show some (decide (q=q'))=_;simp
 ·intro e h;simp at h;exact e h.2.2.1
 ·intro e h;simp at h;exact e h.2.1
 ·intro e h;simp at h;exact e h.1
def nL (x:List En×Int):Option Int:=if x.1.length<=top/\0<=x.2/\x.2<=1048576 then some (qV x.2 (x.1.length:Int))else none
theorem aLf:Sat prog cxT 94 (c94 nL):=s94 nL λx t h=>by
 obtain⟨a,v⟩:=x;unfold nL at h;split at h
 ·rename_i hc;cases h;exact⟨0,aCv hc.2.1 hc.2.2 hc.1⟩
 ·cases h
theorem aM0 (L:Nat)(a:List En):∀ (n:Nat) (o:List En) (i:Int) (k:List En->Option (List En)),uJ (λx=>some x) L a n o i k=toL gB (λx=>some x) a n o i k
 | 0,_,_,_=>rfl
 | n+1,o,i,k=>by
  unfold uJ B102_0 toL;dsimp only;simp only[aR,aM0 L a n]
  rfl
def gR (a:List En):Option (List En):=if a.length<=jL then some a else none
theorem aHZ:Sat prog cxT 102 (aHv gR):=aZM _ aHY gR λx t h=>by
 unfold gR at h;split at h
 ·rename_i ha;cases h;refine⟨x.length+1,?_⟩
  (try unfold aN9);unfold aKs A102_0 G102;dsimp only
  have ha':x.length<=1000000000:=ha;rw[aKk ha,cond_true,aM0];exact aCu gB (λx=>some x) x (by omega) (λ_ _=>rfl) (λw=>some w) _ 0 _ (by simp) (by omega) (by omega) rfl
 ·cases h
theorem aUV (L:Nat)(a b:List En):∀ (n:Nat) (i:Int) (k:Option Bool),aAi (λx=>some (decide (x.1=x.2))) L a b n i k=eqL gB (λx=>some (decide (x.1=x.2))) a b n i k
 | 0,_,_=>rfl
 | n+1,i,k=>by
  unfold aAi B58_0 eqL;dsimp only;simp only[aR,aUV L a b n]
  rfl
def nM (x:List En×List En):Option Bool:=if x.1.length<=1000000000000 then some (decide (x.1=x.2))else none
theorem aLm:Sat prog cxT 58 (c58 nM):=s58 _ aLg nM λx t h=>by
 obtain⟨a,b⟩:=x;unfold nM at h;split at h
 ·rename_i hc;cases h;refine⟨a.length+1,?_⟩;show g58 _ (a.length+1) a b=_
  (try unfold w58);unfold g58 A58_0 G58;dsimp only
  by_cases e:a.length=b.length
  ·rw[aA4 (show((a.length:Nat):Int)=(b.length:Int)by omega),cond_false,aUV];refine(aAU gB _ a b e (by simp only at hc;omega) (λx _ y _=>rfl) (some true) _ 0 (by omega) (by omega)).trans ?_;simp only[fC];split<;>rename_i hh<;>simp[hh]
  ·rw[qU (show ¬ ((a.length:Nat):Int)=(b.length:Int)by omega),cond_true];rw[df (λh=>e (by rw[h]))]
 ·cases h
def mkE (v:Int):En:=(v,v+1,v+2,v+3,v+4,v+5,v+6,v+7,v+8)
def hdE (x:List En×Int):Prop:=x.1.length<=1000000000/\0<=x.2/\x.2<=100000000000/\x.1=mkR mkE 9 x.1.length x.2
instance (x:List En×Int):Decidable (hdE x):=by unfold hdE;infer_instance
end Go.Proofs.Tryz
