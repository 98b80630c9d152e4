/- A part of the proof of FnExactServeFrom: LtPa, LtPb. -/
import Derived.Test.YtnmnomckcjihoaaGreatVmPl
import Derived.Test.YtnmnomckcjihoaaGreatLtFa
import Derived.Test.YtnmnomckcjihoaaGreatLtFb
import Derived.Test.YtnmnomckcjihoaaGreatLtFc
import Derived.Test.YtnmnomckcjihoaaGreatLtFd
set_option linter.unusedSimpArgs false
set_option linter.unusedVariables false
set_option maxHeartbeats 0
namespace Go.Proofs.Tryz
open Go.IntKind (wrap)
open Go Go.VM Go.RowKit
def nI (x:Int):Bool:=decide (1<=x/\x<=999)
def mG (x:Int):Bool:=decide (0<=x/\x<=4294967295)
def uP (x:Int):Bool:=decide (0<=x/\x<=9)
def aBd (x:Int):Bool:=decide (1<=x/\x<=3)
def lW (x:Int):Bool:=decide (0<=x/\x<=65535)
def sA (x:Int):Bool:=decide (x=6\/x=17)
def lC (x:Int):Bool:=decide (0<=x/\x<=1000000)
theorem nV {a b:Int}{x:Int}:(bif decide (x>=a)then some (decide (x<=b))else some false)=some (decide (a<=x/\x<=b)):=by
 by_cases h:a<=x
 ·rw[dt (show x>=a from h)];simp[h]
 ·rw[df (show ¬ x>=a from h)];simp[h]
theorem aDS {a b:Int}{x:Int}:(bif x == a then some true else some (x == b))=some (decide (x=a\/x=b)):=by
 by_cases h:x=a
 ·simp[h]
 ·rw[beq_eq_false_iff_ne.2 h,cond_false];by_cases h2:x=b
  ·rw[beq_iff_eq.2 h2,dt (.inr h2)]
  ·rw[beq_eq_false_iff_ne.2 h2,df (by rintro(h3 | h3)<;>contradiction)]
theorem qF:Sat prog cxT 34 (c34 λx=>some (decide (x.2.1<=x.1/\x.1<=x.2.2))):=s34 _ λx t h=>by
 obtain⟨x,a,b⟩:=x;cases h;exact⟨0,nV⟩
theorem aIK:Sat prog cxT 85 (c85 λx=>some (nI x)):=s85 _ λx t h=>by cases h;exact⟨0,nV⟩
theorem aIJ:Sat prog cxT 87 (c87 λx=>some (uP x)):=s87 _ λx t h=>by cases h;exact⟨0,nV⟩
theorem aIS:Sat prog cxT 29 (c29 λx=>some (lC x)):=s29 _ λx t h=>by cases h;exact⟨0,nV⟩
theorem aFI:Sat prog cxT 86 (c86 λx=>some (mG x)):=s86 _ λx t h=>by cases h;exact⟨0,nV⟩
theorem aII:Sat prog cxT 88 (c88 λx=>some (aBd x)):=s88 _ λx t h=>by cases h;exact⟨0,nV⟩
theorem aIH:Sat prog cxT 89 (c89 λx=>some (lW x)):=s89 _ λx t h=>by cases h;exact⟨0,nV⟩
theorem aIG:Sat prog cxT 90 (c90 λx=>some (sA x)):=s90 _ λx t h=>by cases h;exact⟨0,aDS⟩
theorem aIT:Sat prog cxT 24 (c24 λx=>some (lC x)):=s24 _ qF _ λx t h=>by cases h;exact⟨0,rfl⟩
theorem aIO:Sat prog cxT 51 (c51 λx=>some (nI x)):=s51 _ qF _ λx t h=>by cases h;exact⟨0,rfl⟩
theorem aFJ:Sat prog cxT 52 (c52 λx=>some (mG x)):=s52 _ qF _ λx t h=>by cases h;exact⟨0,rfl⟩
theorem aIN:Sat prog cxT 54 (c54 λx=>some (sA x)):=s54 _ λx t h=>by cases h;exact⟨0,aDS⟩
theorem aIL:Sat prog cxT 68 (c68 λx=>some (lW x)):=s68 _ qF _ λx t h=>by cases h;exact⟨0,rfl⟩
theorem aKo:Sat prog cxT 109 (aIs λ_=>some false):=aTn _ λx t h=>by
 cases h;refine⟨0,?_⟩;unfold aGz;simp
theorem aIF:Sat prog cxT 92 (c92 λx=>some (oL x.1 x.2)):=s92 _ aKo _ λx t h=>by
 obtain⟨a,b⟩:=x;cases h;refine⟨0,?_⟩;show g92 (λ_=>some false) 0 a b=some (oL a b);unfold g92 oL;simp only[bJ,cond_false];by_cases h1:a < b
 ·rw[dt h1,if_pos h1];rfl
 ·rw[df h1,if_neg h1,cond_false];by_cases h2:b < a
  ·rw[dt (show a > b from h2),if_pos h2];rfl
  ·rw[df (show ¬ a > b from h2),if_neg h2];rfl
abbrev Cg:=Int×List Bk×List Vp
def nB:Nat:=1000000000000
def top:Nat:=9223372036854775807
def wV (v:Vp):Int:=(v.2.2.2.length:Int)
def wC (c:Cg):Int:=(c.2.1.length:Int)+(c.2.2.length:Int)+cZ wV c.2.2
def okC (c:Cg):Prop:=c.2.1.length<=nB/\c.2.2.length<=nB/\∀ v∈c.2.2,v.2.2.2.length<=nB
instance (c:Cg):Decidable (okC c):=by unfold okC;infer_instance
def okZ (c:Cg):Prop:=c.2.1.length<=top/\c.2.2.length<=top/\∀ v∈c.2.2,v.2.2.2.length<=top
instance (c:Cg):Decidable (okZ c):=by unfold okZ;infer_instance
theorem jK (v:Vp):0<=wV v:=by unfold wV;omega
theorem aC1 {v:Int}{n:Nat}(h0:0<=v)(h1:v<=1048576)(hn:n<=top):(bif decide (wrap .i64 (v-(n:Int)) < 0)then some (-1)else some (wrap .i64 (v-(n:Int))))=some (kD v n):=by
 unfold top at hn;rw[wi (by omega) (by omega)];unfold kD;by_cases h:v-(n:Int) < 0
 ·rw[dt h,if_pos h];rfl
 ·rw[df h,if_neg h];rfl
def zW (x:List Int×Int):Option Int:=if 0<=x.2/\x.2<=1048576/\x.1.length<=top then some (kD x.2 x.1.length)else none
theorem aNE:Sat prog cxT 83 (c83 zW):=s83 zW λx t h=>by
 obtain⟨a,v⟩:=x;unfold zW at h;split at h
 ·rename_i hc;cases h;exact⟨0,aC1 hc.1 hc.2.1 hc.2.2⟩
 ·cases h
def lX (x:Vp×Int):Option Int:=if 0<=x.2/\x.2<=1048576/\x.1.2.2.2.length<=top then some (kD x.2 (wV x.1))else none
theorem aNS:Sat prog cxT 67 (c67 lX):=s67 zW aNE lX λx t h=>by
 obtain⟨⟨a,b,c,d⟩,v⟩:=x;unfold lX at h;split at h
 ·rename_i hc;cases h;refine⟨0,?_⟩;show g67 zW 0 a b c d v=_;unfold g67;rw[show zW (d,v)=some (kD v d.length) from if_pos hc,bJ];show _=some (kD v (d.length:Int));by_cases h:kD v (d.length:Int) < 0
  ·rw[dt h];unfold kD at h ⊢;split at h
   ·rename_i h2;rw[if_pos h2];rfl
   ·omega
  ·rw[df h];rfl
 ·cases h
def m46 (x:List Bk×Int):Option Int:=if 0<=x.2/\x.2<=1048576/\x.1.length<=top then some (kD x.2 x.1.length)else none
theorem aN8:Sat prog cxT 46 (c46 m46):=s46 m46 λx t h=>by
 obtain⟨a,v⟩:=x;unfold m46 at h;split at h
 ·rename_i hc;cases h;exact⟨0,aC1 hc.1 hc.2.1 hc.2.2⟩
 ·cases h
def jH:Vp:=(0,0,0,[])
def kV:Bk:=(0,0,0,0,false)
theorem aP5 (L:Nat)(a:List Vp)(v0:Int):∀ (n:Nat) (v i:Int) (k:Int->Option Int),xX lX L a v0 n v i k=szL jH lX a n v i k
 | 0,_,_,_=>rfl
 | n+1,v,i,k=>by
  unfold xX szL;simp only[aP5 L a v0 n]
  rfl
def m47 (x:List Vp×Int):Option Int:=if 0<=x.2/\x.2<=1048576/\x.1.length<=top/\∀ v∈x.1,v.2.2.2.length<=top then some (kD x.2 ((x.1.length:Int)+cZ wV x.1))else none
theorem aN7:Sat prog cxT 47 (c47 m47):=s47 lX aNS m47 λx t h=>by
 obtain⟨a,v⟩:=x;unfold m47 at h;split at h
 ·rename_i hc;obtain⟨h0,h1,h2,h3⟩:=hc;cases h;simp only at h0 h1 h2 h3;have h2':a.length<=9223372036854775807:=h2;refine⟨a.length+1,?_⟩;show g47 lX (a.length+1) a v=some (kD v ((a.length:Int)+cZ wV a));unfold g47;rw[wi (by omega) (by omega)];have hs:0<=cZ wV a:=dR λx _=>jK x
  by_cases hn:v-(a.length:Int) < 0
  ·rw[dt hn,cond_true];unfold kD;rw[if_pos (by omega)]
  ·rw[df hn,cond_false,aP5];refine(aC2 jH lX a wV 1048576 (by omega) (λx _=>jK x) (λx hx v h0 h1=>if_pos ⟨h0,h1,h3 x hx⟩) _ (a.length+1) 0 (v-a.length) (by omega) (by omega) (by omega) (by omega)).trans ?_;rw[dW];unfold kD;have e:v-((a.length:Int)+cZ wV a)=v-(a.length:Int)-cZ wV a:=by omega
   rw[e];split<;>rfl
 ·cases h
theorem aHs {v a b:Int}(ha:0<=a)(hb:0<=b)(hv:0<=v):kD v (a+b)=if kD v a < 0 then -1 else kD (kD v a) b:=by
 unfold kD;by_cases h:v-a < 0
 ·rw[if_pos h,if_pos (by omega),if_pos (by omega)]
 ·rw[if_neg h,if_neg h,show v-(a+b)=v-a-b by omega]
theorem tB {v a:Int}(ha:0<=a)(hv:0<=v):-1<=kD v a/\kD v a<=v:=by unfold kD;split<;>omega
def jX (x:Cg×Int):Option Int:=if 0<=x.2/\x.2<=1048576/\okZ x.1 then some (kD x.2 (wC x.1))else none
theorem aOm:Sat prog cxT 23 (c23 jX):=s23 m46 m47 aN8 aN7 jX λx t h=>by
 obtain⟨⟨a,b,c⟩,v⟩:=x;unfold jX at h;split at h
 ·rename_i hc;obtain⟨h0,h1,h2,h3,h4⟩:=hc;cases h;simp only at h0 h1 h2 h3 h4;refine⟨0,?_⟩;show g23 m46 m47 0 a b c v=some (kD v ((b.length:Int)+(c.length:Int)+cZ wV c));unfold g23;have hs:0<=cZ wV c:=dR λx _=>jK x
  have hr:=tB (v:=v) (a:=(b.length:Int)) (by omega) h0;rw[show m46 (b,v)=some (kD v b.length) from if_pos ⟨h0,h1,h2⟩,bJ,sV,aHs (by omega) (by omega) h0];by_cases hn:kD v (b.length:Int) < 0
  ·rw[dt hn,if_pos hn];rfl
  ·rw[df hn,if_neg hn,cond_false];rw[show m47 (c,kD v b.length)=some (kD (kD v b.length) ((c.length:Int)+cZ wV c)) from if_pos ⟨by omega,by simp only;omega,h3,h4⟩,bJ];have hr2:=tB (v:=kD v (b.length:Int)) (a:=(c.length:Int)+cZ wV c) (by omega) (by omega);by_cases hn2:kD (kD v (b.length:Int)) ((c.length:Int)+cZ wV c) < 0
   ·rw[dt hn2,cond_true];congr 1;omega
   ·rw[df hn2];rfl
 ·cases h
theorem aFy {c:Cg}(h:0<=kD 1048576 (wC c)):c.2.1.length<=1048576/\c.2.2.length<=1048576/\∀ x∈c.2.2,x.2.2.2.length<=1048576:=by
 unfold kD at h;have hs:0<=cZ wV c.2.2:=dR λx _=>jK x
 unfold wC at h;split at h
 ·omega
 ·refine⟨by omega,by omega,λx hx=>?_⟩;have:=wZ (w:=wV) (l:=c.2.2) (λx _=>jK x) x hx;unfold wV at this hs h;omega
end Go.Proofs.Tryz
set_option maxHeartbeats 0
namespace Go.Proofs.Tryz
open Go.IntKind (wrap)
open Go Go.VM Go.RowKit
def qA:Nat:=1000000000
theorem aP0 (L:Nat)(a:List Int):∀ (n:Nat) (o:List Int) (i:Int) (k:List Int->Option (List Int)),xP L a n o i k=toL 0 (λx=>some x) a n o i k
 | 0,_,_,_=>rfl
 | n+1,o,i,k=>by unfold xP toL;simp only[aP0 L a n,bJ]
theorem sF {n:Nat}(h:n<=qA):((decide ((0:Int)<=(n:Int))&&decide ((n:Int)<=(n:Int)))&&decide ((n:Int)<=(1000000000:Int)))=true:=by
 unfold qA at h;rw[dt (by omega),dt (Int.le_refl _),dt (by omega)];rfl
def zV (a:List Int):Option (List Int):=if a.length<=qA then some a else none
theorem aND:Sat prog cxT 84 (c84 zV):=s84 zV λx t h=>by
 unfold zV at h;split at h
 ·rename_i ha;cases h;refine⟨x.length+1,?_⟩;unfold g84;rw[sF ha,cond_true,aP0,bA];unfold qA at ha;exact tA 0 _ x (by omega) (λ_ _=>rfl) _ _ 0 _ (by simp) (by omega) (by omega) rfl
 ·cases h
def mK (v:Vp):Option Vp:=if v.2.2.2.length<=qA then some v else none
theorem aNO:Sat prog cxT 72 (c72 mK):=s72 zV aND mK λx t h=>by
 obtain⟨a,b,c,d⟩:=x;unfold mK at h;split at h
 ·rename_i ha;cases h;refine⟨0,?_⟩;show g72 zV 0 a b c d=_;unfold g72;rw[show zV d=some d from if_pos ha,bJ]
 ·cases h
theorem aP3 (L:Nat)(a:List Vp):∀ (n:Nat) (o:List Vp) (i:Int) (k:List Vp->Option (List Vp)),xV mK L a n o i k=toL jH mK a n o i k
 | 0,_,_,_=>rfl
 | n+1,o,i,k=>by unfold xV toL;simp only[aP3 L a n];rfl
def m56 (a:List Vp):Option (List Vp):=if a.length<=qA/\∀ v∈a,v.2.2.2.length<=qA then some a else none
theorem aN1:Sat prog cxT 56 (c56 m56):=s56 mK aNO m56 λx t h=>by
 unfold m56 at h;split at h
 ·rename_i ha;cases h;refine⟨x.length+1,?_⟩;unfold g56;rw[sF ha.1,cond_true,aP3,bA];have:=ha.1;unfold qA at this;exact tA jH mK x (by omega) (λv hv=>if_pos (ha.2 v hv)) _ _ 0 _ (by simp) (by omega) (by omega) rfl
 ·cases h
theorem aNP:Sat prog cxT 71 (c71 λb=>some b):=s71 _ λx t h=>by
 obtain⟨a,b,c,d,e⟩:=x;cases h;exact⟨0,rfl⟩
theorem aP4 (L:Nat)(a:List Bk):∀ (n:Nat) (o:List Bk) (i:Int) (k:List Bk->Option (List Bk)),xW (λb=>some b) L a n o i k=toL kV (λb=>some b) a n o i k
 | 0,_,_,_=>rfl
 | n+1,o,i,k=>by unfold xW toL;simp only[aP4 L a n];rfl
def m55 (a:List Bk):Option (List Bk):=if a.length<=qA then some a else none
theorem aN2:Sat prog cxT 55 (c55 m55):=s55 _ aNP m55 λx t h=>by
 unfold m55 at h;split at h
 ·rename_i ha;cases h;refine⟨x.length+1,?_⟩;unfold g55;rw[sF ha,cond_true,aP4,bA];unfold qA at ha;exact tA kV _ x (by omega) (λv hv=>rfl) _ _ 0 _ (by simp) (by omega) (by omega) rfl
 ·cases h
def okM (c:Cg):Prop:=c.2.1.length<=qA/\c.2.2.length<=qA/\∀ v∈c.2.2,v.2.2.2.length<=qA
instance (c:Cg):Decidable (okM c):=by unfold okM;infer_instance
def lP (c:Cg):Option Cg:=if okM c then some c else none
theorem aOj:Sat prog cxT 28 (c28 lP):=s28 m55 m56 aN2 aN1 lP λx t h=>by
 obtain⟨a,b,c⟩:=x;unfold lP at h;split at h
 ·rename_i ha;cases h;refine⟨0,?_⟩;show g28 m55 m56 0 a b c=_;unfold g28;rw[show m55 b=some b from if_pos ha.1,bJ,show m56 c=some c from if_pos ha.2,bJ]
 ·cases h
theorem oF {α:Type}[DecidableEq α][BEq α][LawfulBEq α]{a b:α}{o:Option Bool}{p:Prop}[Decidable p](h:a=b->o=some (decide p))(h2:¬ a=b->¬ p):(bif a != b then some false else o)=some (decide p):=by
 by_cases e:a=b
 ·rw[iW e,cond_false,h e]
 ·rw[iR e,cond_true,df (h2 e)]
theorem aJX (L:Nat)(a b:List Int):∀ (n:Nat) (i:Int) (k:Option Bool),rI L a b n i k=eqL 0 (λx=>some (decide (x.1=x.2))) a b n i k
 | 0,_,_=>rfl
 | n+1,i,k=>by
  unfold rI eqL;simp only[aJX L a b n,bJ];congr 2
def lM (x:List Int×List Int):Option Bool:=if x.1.length<=nB then some (decide (x.1=x.2))else none
theorem aKq:Sat prog cxT 107 (aIu lM):=aTp lM λx t h=>by
 obtain⟨a,b⟩:=x;unfold lM at h;split at h
 ·rename_i hc;cases h;have hc:a.length<=1000000000000:=hc;refine⟨a.length+1,?_⟩;show aFg (a.length+1) a b=some (decide (a=b));unfold aFg;refine oF (λe=>?_) λe h=>e (by rw[h])
  rw[aJX];refine(tM 0 _ a b (by omega) (by omega) (λ_ _ _ _=>rfl) _ _ 0 (by omega) (by omega)).trans ?_;simp only[dW];split<;>rename_i hh<;>simp[hh]
 ·cases h
def mJ (x:Vp×Vp):Option Bool:=if x.1.2.2.2.length<=nB then some (decide (x.1=x.2))else none
theorem aRC {b:Bool}:(bif !b then some false else some true)=some b:=by cases b<;>rfl
theorem aNH:Sat prog cxT 80 (c80 mJ):=s80 lM aKq mJ λx t h=>by
 obtain⟨⟨a,b,c,d⟩,a',b',c',d'⟩:=x;unfold mJ at h;split at h
 ·rename_i hc;cases h;refine⟨0,?_⟩;show g80 lM 0 a b c d a' b' c' d'=some (decide ((a,b,c,d)=(a',b',c',d')));unfold g80;rw[show lM (d,d')=some (decide (d=d')) from if_pos hc,bJ];refine oF (λe1=>oF (λe2=>oF (λe3=>?_) ?_) ?_) ?_
  ·rw[aRC];simp[e1,e2,e3]
  ·intro e h;simp at h;exact e h.2.2.1
  ·intro e h;simp at h;exact e h.2.1
  ·intro e h;simp at h;exact e h.1
 ·cases h
theorem aP1 (L:Nat)(a b:List Vp):∀ (n:Nat) (i:Int) (k:Option Bool),xT mJ L a b n i k=eqL jH mJ a b n i k
 | 0,_,_=>rfl
 | n+1,i,k=>by unfold xT eqL;simp only[aP1 L a b n];rfl
def zY (x:List Vp×List Vp):Option Bool:=if x.1.length<=nB/\∀ v∈x.1,v.2.2.2.length<=nB then some (decide (x.1=x.2))else none
theorem aNY:Sat prog cxT 61 (c61 zY):=s61 mJ aNH zY λx t h=>by
 obtain⟨a,b⟩:=x;unfold zY at h;split at h
 ·rename_i hc;cases h;have hc1:a.length<=1000000000000:=hc.1;refine⟨a.length+1,?_⟩;show g61 mJ (a.length+1) a b=some (decide (a=b));unfold g61;refine oF (λe=>?_) λe h=>e (by rw[h])
  rw[aP1];refine(tM jH _ a b (by omega) (by omega) (λx hx y _=>if_pos (hc.2 x hx)) _ _ 0 (by omega) (by omega)).trans ?_;simp only[dW];split<;>rename_i hh<;>simp[hh]
 ·cases h
theorem aNI:Sat prog cxT 79 (c79 λx=>some (decide (x.1=x.2))):=s79 _ λx t h=>by
 obtain⟨⟨a,b,c,d,e⟩,a',b',c',d',e'⟩:=x;cases h;refine⟨0,?_⟩;show g79 0 a b c d e a' b' c' d' e'=some (decide ((a,b,c,d,e)=(a',b',c',d',e')));unfold g79;refine oF (λe1=>oF (λe2=>oF (λe3=>oF (λe4=>?_) ?_) ?_) ?_) ?_
 ·rw[aRC];subst e1;subst e2;subst e3;subst e4;cases e<;>cases e'<;>simp
 ·intro e h;simp at h;exact e h.2.2.2.1
 ·intro e h;simp at h;exact e h.2.2.1
 ·intro e h;simp at h;exact e h.2.1
 ·intro e h;simp at h;exact e h.1
theorem aP2 (L:Nat)(a b:List Bk):∀ (n:Nat) (i:Int) (k:Option Bool),xU (λx=>some (decide (x.1=x.2))) L a b n i k=eqL kV (λx=>some (decide (x.1=x.2))) a b n i k
 | 0,_,_=>rfl
 | n+1,i,k=>by unfold xU eqL;simp only[aP2 L a b n];rfl
def zZ (x:List Bk×List Bk):Option Bool:=if x.1.length<=nB then some (decide (x.1=x.2))else none
theorem aNZ:Sat prog cxT 60 (c60 zZ):=s60 _ aNI zZ λx t h=>by
 obtain⟨a,b⟩:=x;unfold zZ at h;split at h
 ·rename_i hc;cases h;have hc1:a.length<=1000000000000:=hc;refine⟨a.length+1,?_⟩;show g60 _ (a.length+1) a b=some (decide (a=b));unfold g60;refine oF (λe=>?_) λe h=>e (by rw[h])
  rw[aP2];refine(tM kV _ a b (by omega) (by omega) (λx hx y _=>rfl) _ _ 0 (by omega) (by omega)).trans ?_;simp only[dW];split<;>rename_i hh<;>simp[hh]
 ·cases h
instance decBk:DecidableEq Bk:=inferInstance
instance decVp:DecidableEq Vp:=inferInstance
instance decLs:DecidableEq (List Bk×List Vp):=@instDecidableEqProd _ _ (@instDecidableEqList _ decBk) (@instDecidableEqList _ decVp)
instance decCg:DecidableEq Cg:=@instDecidableEqProd _ _ inferInstance decLs
def iX (x:Cg×Cg):Option Bool:=if okC x.1 then some (decide (x.1=x.2))else none
theorem aIR:Sat prog cxT 32 (c32 iX):=s32 zZ zY aNZ aNY iX λx t h=>by
 obtain⟨⟨a,b,c⟩,a',b',c'⟩:=x;unfold iX at h;split at h
 ·rename_i hc;cases h;refine⟨0,?_⟩;show g32 zZ zY 0 a b c a' b' c'=some (decide ((a,b,c)=(a',b',c')));unfold g32;rw[show zZ (b,b')=some (decide (b=b')) from if_pos hc.1,bJ,show zY (c,c')=some (decide (c=c')) from if_pos hc.2,bJ];refine oF (λe1=>?_) ?_
  ·subst e1;by_cases e2:b=b'<;>by_cases e3:c=c'<;>simp[e2,e3]
  ·intro e h;simp at h;exact e h.1
 ·cases h
end Go.Proofs.Tryz
