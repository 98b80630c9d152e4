/- A part of the proof of FnExactCopyMail: LiPa, LiPb. -/
import Derived.Test.YtalbnpcbmakijaaGreatVmPl
import Derived.Test.YtalbnpcbmakijaaGreatLiFa
import Derived.Test.YtalbnpcbmakijaaGreatLiFc
import Derived.Test.YtalbnpcbmakijaaGreatLiFe
import Derived.Test.YtalbnpcbmakijaaGreatLiFg
import Derived.Test.YtalbnpcbmakijaaGreatLiFi
set_option linter.unusedSimpArgs false
set_option linter.unusedVariables false
set_option maxHeartbeats 0
namespace Go.Proofs.Tryz
open Go.IntKind (wrap)
open Go Go.VM Go.RowKit
abbrev Cm:=Int×Int×Int×Int×Int×Int
def wQ (x:Int):Bool:=decide (1<=x/\x<=999)
def aB3 (x:Int):Bool:=decide (0<=x/\x<=4294967295)
def aHj (x:Int):Bool:=decide (0<=x/\x<=9)
def aIU (x:Int):Bool:=decide (1<=x/\x<=3)
def tJ (x:Int):Bool:=decide (0<=x/\x<=65535)
def aB9 (x:Int):Bool:=decide (x=6\/x=17)
def rN (x:Int):Bool:=decide (0<=x/\x<=1000000)
theorem lT {a b:Int}{x:Int}:(bif decide (x>=a)then some (decide (x<=b))else some false)=some (decide (a<=x/\x<=b)):=by
 by_cases h:a<=x
 ·rw[dt (show x>=a from h)];simp[h]
 ·rw[df (show ¬ x>=a from h)];simp[h]
theorem aGg {a b:Int}{x:Int}:(bif x == a then some true else some (x == b))=some (decide (x=a\/x=b)):=by
 by_cases h:x=a
 ·simp[h]
 ·rw[beq_eq_false_iff_ne.2 h,cond_false];by_cases h2:x=b
  ·rw[beq_iff_eq.2 h2,dt (.inr h2)]
  ·rw[beq_eq_false_iff_ne.2 h2,df (by rintro(h3 | h3)<;>contradiction)]
theorem nN:Sat prog cxT 88 (xQ λx=>some (decide (x.2.1<=x.1/\x.1<=x.2.2))):=s88 _ λx t h=>by
 obtain⟨x,a,b⟩:=x;cases h;exact⟨0,lT⟩
theorem aQC:Sat prog cxT 214 (aYT λx=>some (wQ x)):=bBw _ λx t h=>by cases h;exact⟨0,lT⟩
theorem aQA:Sat prog cxT 216 (aYR λx=>some (aHj x)):=bBu _ λx t h=>by cases h;exact⟨0,lT⟩
theorem aQG:Sat prog cxT 191 (aYU λx=>some (rN x)):=bBz _ λx t h=>by cases h;exact⟨0,lT⟩
theorem aQB:Sat prog cxT 215 (aYS λx=>some (aB3 x)):=bBv _ λx t h=>by cases h;exact⟨0,lT⟩
theorem aQz:Sat prog cxT 219 (aYQ λx=>some (aIU x)):=bBt _ λx t h=>by cases h;exact⟨0,lT⟩
theorem aQy:Sat prog cxT 222 (aYP λx=>some (tJ x)):=bBs _ λx t h=>by cases h;exact⟨0,lT⟩
theorem aQx:Sat prog cxT 223 (aYO λx=>some (aB9 x)):=bBr _ λx t h=>by cases h;exact⟨0,aGg⟩
theorem aQM:Sat prog cxT 184 (aYZ λx=>some (rN x)):=bBG _ nN _ λx t h=>by cases h;exact⟨0,rfl⟩
theorem aQL:Sat prog cxT 185 (aYY λx=>some (wQ x)):=bBF _ nN _ λx t h=>by cases h;exact⟨0,rfl⟩
theorem aQK:Sat prog cxT 186 (aYX λx=>some (aB3 x)):=bBE _ nN _ λx t h=>by cases h;exact⟨0,rfl⟩
theorem aQI:Sat prog cxT 188 (aYV λx=>some (aB9 x)):=bBC _ λx t h=>by cases h;exact⟨0,aGg⟩
theorem aQD:Sat prog cxT 213 (aMz λx=>some (tJ x)):=bBx _ nN _ λx t h=>by cases h;exact⟨0,rfl⟩
def top:Nat:=9223372036854775807
def oP:Nat:=1000000000
theorem aDm {v:Int}{n:Nat}(h0:0<=v)(h1:v<=1048576)(hn:n<=top):(bif decide (wrap .i64 (v-(n:Int)) < 0)then some (-1)else some (wrap .i64 (v-(n:Int))))=some (qJ v n):=by
 unfold top at hn;rw[wi (by omega) (by omega)];unfold qJ;by_cases h:v-(n:Int) < 0
 ·rw[dt h,if_pos h];rfl
 ·rw[df h,if_neg h];rfl
theorem aLY {n:Nat}(h:n<=oP):((decide ((0:Int)<=(n:Int))&&decide ((n:Int)<=(n:Int)))&&decide ((n:Int)<=(1000000000:Int)))=true:=by
 unfold oP at h;rw[dt (by omega),dt (iJ _),dt (by omega)];rfl
theorem iA {α:Type}[DecidableEq α][BEq α][LawfulBEq α]{a b:α}{o:Option Bool}{p:Prop}[Decidable p](h:a=b->o=some (decide p))(h2:¬ a=b->¬ p):(bif a != b then some false else o)=some (decide p):=by
 by_cases e:a=b
 ·rw[rM e,cond_false,h e]
 ·rw[yM e,cond_true,df (h2 e)]
theorem aY4 {b:Bool}:(bif !b then some false else some true)=some b:=by cases b<;>rfl
theorem aIF {a b:Int}(h:¬ a=b):(a == b)=false:=by simpa using h
end Go.Proofs.Tryz
set_option maxHeartbeats 0
namespace Go.Proofs.Tryz
open Go.IntKind (wrap)
open Go Go.VM Go.RowKit
abbrev En:=Int×Int×Int×Int×Int×Int×Int×Int×Int
def jY:En:=(0,0,0,0,0,0,0,0,0)
instance decCm:DecidableEq Cm:=inferInstance
instance decE1:DecidableEq (Int×Cm):=instDecidableEqProd
instance decE2:DecidableEq (Int×Int×Cm):=instDecidableEqProd
instance decEn:DecidableEq En:=(instDecidableEqProd:DecidableEq (Int×Int×Int×Cm))
theorem aUx:Sat prog cxT 31 (c31 λx=>some x):=s31 _ λx t h=>by cases h;exact⟨0,rfl⟩
theorem aI4:Sat prog cxT 142 (aIz λx=>some x):=bB3 _ aUx _ λx t h=>by cases h;exact⟨0,rfl⟩
theorem aQE:Sat prog cxT 193 (aMA λx=>some (decide (x.1=x.2))):=bBy _ λx t h=>by
 obtain⟨⟨a,b,c,d,e,f⟩,a',b',c',d',e',f'⟩:=x;cases h;refine⟨0,?_⟩;show aKm 0 a b c d e f a' b' c' d' e' f'=_
 (try unfold aPO);unfold aKm G193;dsimp only
 refine iA (λe1=>iA (λe2=>iA (λe3=>iA (λe4=>iA (λe5=>iA (λe6=>?_) ?_) ?_) ?_) ?_) ?_) ?_
 ·simp[e1,e2,e3,e4,e5,e6]
 ·intro e h;simp at h;exact e h.2.2.2.2.2
 ·intro e h;simp at h;exact e h.2.2.2.2.1
 ·intro e h;simp at h;exact e h.2.2.2.1
 ·intro e h;simp at h;exact e h.2.2.1
 ·intro e h;simp at h;exact e h.2.1
 ·intro e h;simp at h;exact e h.1
theorem aI0:Sat prog cxT 161 (aIv λx=>some (decide (x.1=x.2))):=bBL _ aQE _ λx t h=>by
 obtain⟨⟨t,c,s,q⟩,t',c',s',q'⟩:=x;cases h;refine⟨0,?_⟩;show aKs (λx=>some (decide (x.1=x.2))) 0 t c s q.1 q.2.1 q.2.2.1 q.2.2.2.1 q.2.2.2.2.1 q.2.2.2.2.2 t' c' s' q'.1 q'.2.1 q'.2.2.1 q'.2.2.2.1 q'.2.2.2.2.1 q'.2.2.2.2.2=_
 (try unfold aPV);unfold aKs G161;dsimp only
 refine iA (λe1=>iA (λe2=>iA (λe3=>?_) ?_) ?_) ?_
 ·rw[aO,aY4];subst e1;subst e2;subst e3;show some (decide (q=q'))=_;simp
 ·intro e h;simp at h;exact e h.2.2.1
 ·intro e h;simp at h;exact e h.2.1
 ·intro e h;simp at h;exact e h.1
def hI (x:List En×Int):Option Int:=if x.1.length<=top/\0<=x.2/\x.2<=1048576 then some (qJ x.2 (x.1.length:Int))else none
theorem aI7:Sat prog cxT 133 (aIC hI):=bCb hI λx t h=>by
 obtain⟨a,v⟩:=x;unfold hI at h;split at h
 ·rename_i hc;cases h;exact⟨0,aDm hc.2.1 hc.2.2 hc.1⟩
 ·cases h
theorem aOE (L:Nat)(a:List En):∀ (n:Nat) (o:List En) (i:Int) (k:List En->Option (List En)),vK (λx=>some x) L a n o i k=toL jY (λx=>some x) a n o i k
 | 0,_,_,_=>rfl
 | n+1,o,i,k=>by
  unfold vK B140_0 toL;dsimp only;simp only[aO,aOE L a n]
  rfl
def hH (a:List En):Option (List En):=if a.length<=oP then some a else none
theorem aI5:Sat prog cxT 140 (aIA hH):=bB5 _ aI4 hH λx t h=>by
 unfold hH at h;split at h
 ·rename_i ha;cases h;refine⟨x.length+1,?_⟩
  (try unfold aP9);unfold aMf A140_0 G140;dsimp only
  have ha':x.length<=1000000000:=ha;rw[aLY ha,cond_true,aOE];exact aDl jY (λx=>some x) x (by omega) (λ_ _=>rfl) (λw=>some w) _ 0 _ (by simp) (by omega) (by omega) rfl
 ·cases h
theorem aOz (L:Nat)(a b:List En):∀ (n:Nat) (i:Int) (k:Option Bool),vG (λx=>some (decide (x.1=x.2))) L a b n i k=eqL jY (λx=>some (decide (x.1=x.2))) a b n i k
 | 0,_,_=>rfl
 | n+1,i,k=>by
  unfold vG B159_0 eqL;dsimp only;simp only[aO,aOz L a b n]
  rfl
def gZ (x:List En×List En):Option Bool:=if x.1.length<=1000000000000 then some (decide (x.1=x.2))else none
theorem aI1:Sat prog cxT 159 (aIw gZ):=bBN _ aI0 gZ λx t h=>by
 obtain⟨a,b⟩:=x;unfold gZ at h;split at h
 ·rename_i hc;cases h;refine⟨a.length+1,?_⟩;show aKu _ (a.length+1) a b=_
  (try unfold aPX);unfold aKu A159_0 G159;dsimp only
  by_cases e:a.length=b.length
  ·rw[rM (show((a.length:Nat):Int)=(b.length:Int)by omega),cond_false,aOz];refine(aBP jY _ a b e (by simp only at hc;omega) (λx _ y _=>rfl) (some true) _ 0 (by omega) (by omega)).trans ?_;simp only[gH];split<;>rename_i hh<;>simp[hh]
  ·rw[yM (show ¬ ((a.length:Nat):Int)=(b.length:Int)by omega),cond_true];rw[df (λh=>e (by rw[h]))]
 ·cases h
def mkE (v:Int):En:=(v,v+1,v+2,v+3,v+4,v+5,v+6,v+7,v+8)
def dK (x:List En×Int):Option (Int×List En):=if x.1.length<=1000000000/\0<=x.2/\x.2<=100000000000 then some (x.2+9 * (x.1.length:Int),qE mkE 9 x.1.length x.2)else none
theorem bBk (L:Nat)(a0:List En)(a1:Int)(n:Nat)(o:List En)(v:Int)(i:Nat)(K:List En->Int->Option (Int×List En))(ho:o.length<=1000000000)(hi:i < o.length)(h0:0<=v)(h1:v<=1000000000000000) :
  oI L a0 a1 (n+1) o v i K=oI L a0 a1 n (o.set i (mkE v)) (v+9) ((i+1:Nat):Int) K:=by
 conv=>lhs;unfold oI B109_0;dsimp only
 simp(disch:=omega) only[dY,List.length_modify,dt,wi,cond_true,bL,bF,gW,mR];rw[show v+1+1+1+1+1+1+1+1+1=v+9 by omega,show(i:Int)+1=((i+1:Nat):Int)by omega];have e:(v,v+1,v+1+1,v+1+1+1,v+1+1+1+1,v+1+1+1+1+1,v+1+1+1+1+1+1,v+1+1+1+1+1+1+1,v+1+1+1+1+1+1+1+1)=mkE v:=by
  unfold mkE;simp only[aM,true_and];omega
 rw[e]
theorem aJa:SatW prog cxT 109 (xG dK).nres (xG dK).n (xG dK).F:=bCl dK λx t h=>by
 obtain⟨o,v⟩:=x;unfold dK at h;split at h
 ·rename_i hc;cases h;simp only at hc;refine⟨o.length+1,?_⟩;show aKJ (o.length+1) o v=_
  (try unfold aQh);unfold aKJ A109_0 G109;dsimp only
  refine(wT mkE 9 1000000000000000 o.length (by omega) (λn o' v' i' K=>oI (o.length+1) o v n o' v' i' K) (λn o' v' i' K hl h1 h2 h3=>bBk _ _ _ _ _ _ _ _ (by omega) h1 h2 h3)
   (λn o' v' i' K hl h1=>?_) (λw0_0 w0_1=>some (w0_1,w0_0)) (o.length+1) 0 o v rfl (by omega) (by omega) hc.2.1 (by omega)).trans ?_
  ·show oI _ _ _ (n+1) o' v' i' K=_
   conv=>lhs;unfold oI B109_0;dsimp only
   rw[df (by omega),cond_false]
  ·simp
 ·cases h
def hdE (x:List En×Int):Prop:=x.1.length<=1000000000/\0<=x.2/\x.2<=100000000000/\x.1=qE mkE 9 x.1.length x.2
instance (x:List En×Int):Decidable (hdE x):=by unfold hdE;infer_instance
def dR (x:List En×Int):Option Int:=if hdE x then some (x.2+9 * (x.1.length:Int))else none
theorem bBe (L:Nat)(a0:List En)(a1:Int)(n:Nat)(v:Int)(i:Nat)(K:Int->Option Int)(ho:a0.length<=1000000000)(hi:i < a0.length)(h0:0<=v)(h1:v<=1000000000000000)(hm:a0.getD i jY=mkE v) :
  oE L a0 a1 (n+1) v i K=oE L a0 a1 n (v+9) ((i+1:Nat):Int) K:=by
 conv=>lhs;unfold oE B172_0;dsimp only
 have hm':a0.getD i (0,0,0,0,0,0,0,0,0)=mkE v:=hm;simp(disch:=omega) only[dY,dt,wi,cond_true,bL,bF,hm'];unfold mkE;simp(disch:=omega) only[rM,cond_false];rw[show v+1+1+1+1+1+1+1+1+1=v+9 by omega,show(i:Int)+1=((i+1:Nat):Int)by omega]
theorem aIZ:Sat prog cxT 172 (aIu dR):=bBK dR λx t h=>by
 obtain⟨a,v⟩:=x;unfold dR at h;split at h
 ·rename_i hc;cases h;obtain⟨h1,h2,h3,h4⟩:=hc;simp only at h1 h2 h3 h4;refine⟨a.length+1,?_⟩;show aKr (a.length+1) a v=_
  (try unfold aPU);unfold aKr A172_0 G172;dsimp only
  have:=aAs jY mkE 9 1000000000000000 (by omega) a.length v (λn v' i' K=>oE (a.length+1) a v n v' i' K) h2 (λn v' i' K k1 k2 k3 k4=>bBe _ _ _ _ _ _ _ h1 k1 k2 k3 (by rw[<-h4]at k4;exact k4))
   (λn v' i' K k1=>by
    show oE _ _ _ (n+1) v' i' K=_
    conv=>lhs;unfold oE B172_0;dsimp only
    rw[df (by omega),cond_false]) (by omega) (λw0_1=>some w0_1) (a.length+1) 0 (by omega) (by omega)
  simp only[hM,Int.mul_zero,pG]at this;exact this
 ·cases h
theorem aV4 {n:Nat}{v:Int}(hn:n<=1000000000)(h0:0<=v)(h1:v<=100000000000):hdE (qE mkE 9 n v,v):=⟨by simp only[lR];exact hn,h0,h1,by simp only[lR]⟩
end Go.Proofs.Tryz
