/- A part of the proof of FnExactMachineFault: LnPa, LnPb. -/
import Derived.Test.YtchokegffjaihaaVmPl
import Derived.Test.YtchokegffjaihaaLnFa
import Derived.Test.YtchokegffjaihaaLnFb
import Derived.Test.YtchokegffjaihaaLnFd
set_option linter.unusedSimpArgs false
set_option linter.unusedVariables false
set_option maxHeartbeats 0
namespace Go.Proofs.Try
open Go.IntKind (wrap)
open Go Go.VM Go.RowKit
def aBw (x:Int):Bool:=decide (1<=x/\x<=999)
def sP (x:Int):Bool:=decide (0<=x/\x<=4294967295)
def aBf (x:Int):Bool:=decide (0<=x/\x<=9)
def aDD (x:Int):Bool:=decide (1<=x/\x<=3)
def oK (x:Int):Bool:=decide (0<=x/\x<=65535)
def aC6 (x:Int):Bool:=decide (x=6\/x=17)
def aDu (x:Int):Bool:=decide (0<=x/\x<=1000000)
theorem mI {a b:Int}{x:Int}:(bif decide (x>=a)then some (decide (x<=b))else some false)=some (decide (a<=x/\x<=b)):=by
 by_cases h:a<=x
 ·rw[dt (show x>=a from h)];simp[h]
 ·rw[df (show ¬ x>=a from h)];simp[h]
theorem aEC {a b:Int}{x:Int}:(bif x == a then some true else some (x == b))=some (decide (x=a\/x=b)):=by
 by_cases h:x=a
 ·simp[h]
 ·rw[beq_eq_false_iff_ne.2 h,cond_false];by_cases h2:x=b
  ·rw[beq_iff_eq.2 h2,dt (.inr h2)]
  ·rw[beq_eq_false_iff_ne.2 h2,df (by rintro(h3 | h3)<;>contradiction)]
theorem xE:Sat prog cxT 34 (c34 λx=>some (decide (x.2.1<=x.1/\x.1<=x.2.2))):=s34 _ λx t h=>by
 obtain⟨x,a,b⟩:=x;cases h;exact⟨0,mI⟩
theorem aJe:Sat prog cxT 59 (c59 λx=>some (aBw x)):=s59 _ λx t h=>by cases h;exact⟨0,mI⟩
theorem aJd:Sat prog cxT 61 (c61 λx=>some (aBf x)):=s61 _ λx t h=>by cases h;exact⟨0,mI⟩
theorem aJv:Sat prog cxT 38 (c38 λx=>some (aDu x)):=s38 _ λx t h=>by cases h;exact⟨0,mI⟩
theorem aFE:Sat prog cxT 60 (c60 λx=>some (sP x)):=s60 _ λx t h=>by cases h;exact⟨0,mI⟩
theorem aJc:Sat prog cxT 62 (c62 λx=>some (aDD x)):=s62 _ λx t h=>by cases h;exact⟨0,mI⟩
theorem aJb:Sat prog cxT 63 (c63 λx=>some (oK x)):=s63 _ λx t h=>by cases h;exact⟨0,mI⟩
theorem aJa:Sat prog cxT 64 (c64 λx=>some (aC6 x)):=s64 _ λx t h=>by cases h;exact⟨0,aEC⟩
theorem aJj:Sat prog cxT 54 (c54 λx=>some (aDu x)):=s54 _ xE _ λx t h=>by cases h;exact⟨0,rfl⟩
theorem aI4:Sat prog cxT 72 (c72 λx=>some (aBw x)):=s72 _ xE _ λx t h=>by cases h;exact⟨0,rfl⟩
theorem aFC:Sat prog cxT 73 (c73 λx=>some (sP x)):=s73 _ xE _ λx t h=>by cases h;exact⟨0,rfl⟩
theorem aI2:Sat prog cxT 75 (c75 λx=>some (aC6 x)):=s75 _ λx t h=>by cases h;exact⟨0,aEC⟩
theorem aI3:Sat prog cxT 74 (c74 λx=>some (oK x)):=s74 _ xE _ λx t h=>by cases h;exact⟨0,rfl⟩
theorem aIY:Sat prog cxT 79 (c79 λ_=>some false):=s79 _ λx t h=>by
 cases h;refine⟨0,?_⟩;unfold g79;simp
theorem aFD:Sat prog cxT 66 (c66 λx=>some (mW x.1 x.2)):=s66 _ aIY _ λx t h=>by
 obtain⟨a,b⟩:=x;cases h;refine⟨0,?_⟩;show g66 (λ_=>some false) 0 a b=some (mW a b);unfold g66 mW;simp only[bY,cond_false];by_cases h1:a < b
 ·rw[dt h1,if_pos h1];rfl
 ·rw[df h1,if_neg h1,cond_false];by_cases h2:b < a
  ·rw[dt (show a > b from h2),if_pos h2];rfl
  ·rw[df (show ¬ a > b from h2),if_neg h2];rfl
abbrev Cg:=Int×List Bk×List Vp
def nS:Nat:=1000000000000
def top:Nat:=9223372036854775807
def wV (v:Vp):Int:=(v.2.2.2.length:Int)
def wC (c:Cg):Int:=(c.2.1.length:Int)+(c.2.2.length:Int)+iK wV c.2.2
def okC (c:Cg):Prop:=c.2.1.length<=nS/\c.2.2.length<=nS/\∀ v∈c.2.2,v.2.2.2.length<=nS
instance (c:Cg):Decidable (okC c):=by unfold okC;infer_instance
def okZ (c:Cg):Prop:=c.2.1.length<=top/\c.2.2.length<=top/\∀ v∈c.2.2,v.2.2.2.length<=top
instance (c:Cg):Decidable (okZ c):=by unfold okZ;infer_instance
theorem jV (v:Vp):0<=wV v:=by unfold wV;omega
theorem aBi {v:Int}{n:Nat}(h0:0<=v)(h1:v<=1048576)(hn:n<=top):(bif decide (wrap .i64 (v-(n:Int)) < 0)then some (-1)else some (wrap .i64 (v-(n:Int))))=some (jH v n):=by
 unfold top at hn;rw[wi (by omega) (by omega)];unfold jH;by_cases h:v-(n:Int) < 0
 ·rw[dt h,if_pos h];rfl
 ·rw[df h,if_neg h];rfl
def wA (x:List Int×Int):Option Int:=if 0<=x.2/\x.2<=1048576/\x.1.length<=top then some (jH x.2 x.1.length)else none
theorem aI5:Sat prog cxT 71 (c71 wA):=s71 wA λx t h=>by
 obtain⟨a,v⟩:=x;unfold wA at h;split at h
 ·rename_i hc;cases h;exact⟨0,aBi hc.1 hc.2.1 hc.2.2⟩
 ·cases h
def kQ (x:Vp×Int):Option Int:=if 0<=x.2/\x.2<=1048576/\x.1.2.2.2.length<=top then some (jH x.2 (wV x.1))else none
theorem aJk:Sat prog cxT 53 (c53 kQ):=s53 wA aI5 kQ λx t h=>by
 obtain⟨⟨a,b,c,d⟩,v⟩:=x;unfold kQ at h;split at h
 ·rename_i hc;cases h;refine⟨0,?_⟩;show g53 wA 0 a b c d v=_;unfold g53;rw[show wA (d,v)=some (jH v d.length) from if_pos hc,bY];show _=some (jH v (d.length:Int));by_cases h:jH v (d.length:Int) < 0
  ·rw[dt h];unfold jH at h ⊢;split at h
   ·rename_i h2;rw[if_pos h2];rfl
   ·omega
  ·rw[df h];rfl
 ·cases h
def wI (x:List Bk×Int):Option Int:=if 0<=x.2/\x.2<=1048576/\x.1.length<=top then some (jH x.2 x.1.length)else none
theorem aJB:Sat prog cxT 31 (c31 wI):=s31 wI λx t h=>by
 obtain⟨a,v⟩:=x;unfold wI at h;split at h
 ·rename_i hc;cases h;exact⟨0,aBi hc.1 hc.2.1 hc.2.2⟩
 ·cases h
def mG:Vp:=(0,0,0,[])
def kI:Bk:=(0,0,0,0,false)
theorem aKy (L:Nat)(a:List Vp)(v0:Int):∀ (n:Nat) (v i:Int) (k:Int->Option Int),uD kQ L a v0 n v i k=szL mG kQ a n v i k
 | 0,_,_,_=>rfl
 | n+1,v,i,k=>by
  unfold uD szL;simp only[aKy L a v0 n]
  rfl
def wH (x:List Vp×Int):Option Int:=if 0<=x.2/\x.2<=1048576/\x.1.length<=top/\∀ v∈x.1,v.2.2.2.length<=top then some (jH x.2 ((x.1.length:Int)+iK wV x.1))else none
theorem aJA:Sat prog cxT 32 (c32 wH):=s32 kQ aJk wH λx t h=>by
 obtain⟨a,v⟩:=x;unfold wH at h;split at h
 ·rename_i hc;obtain⟨h0,h1,h2,h3⟩:=hc;cases h;simp only at h0 h1 h2 h3;have h2':a.length<=9223372036854775807:=h2;refine⟨a.length+1,?_⟩;show g32 kQ (a.length+1) a v=some (jH v ((a.length:Int)+iK wV a));unfold g32;rw[wi (by omega) (by omega)];have hs:0<=iK wV a:=gH λx _=>jV x
  by_cases hn:v-(a.length:Int) < 0
  ·rw[dt hn,cond_true];unfold jH;rw[if_pos (by omega)]
  ·rw[df hn,cond_false,aKy];refine(aDA mG kQ a wV 1048576 (by omega) (λx _=>jV x) (λx hx v h0 h1=>if_pos ⟨h0,h1,h3 x hx⟩) _ (a.length+1) 0 (v-a.length) (by omega) (by omega) (by omega) (by omega)).trans ?_;rw[dU];unfold jH;have e:v-((a.length:Int)+iK wV a)=v-(a.length:Int)-iK wV a:=by omega
   rw[e];split<;>rfl
 ·cases h
theorem aB7 {v a b:Int}(ha:0<=a)(hb:0<=b)(hv:0<=v):jH v (a+b)=if jH v a < 0 then -1 else jH (jH v a) b:=by
 unfold jH;by_cases h:v-a < 0
 ·rw[if_pos h,if_pos (by omega),if_pos (by omega)]
 ·rw[if_neg h,if_neg h,show v-(a+b)=v-a-b by omega]
theorem oC {v a:Int}(ha:0<=a)(hv:0<=v):-1<=jH v a/\jH v a<=v:=by unfold jH;split<;>omega
def wO (x:Cg×Int):Option Int:=if 0<=x.2/\x.2<=1048576/\okZ x.1 then some (jH x.2 (wC x.1))else none
theorem aJK:Sat prog cxT 16 (c16 wO):=s16 wI wH aJB aJA wO λx t h=>by
 obtain⟨⟨a,b,c⟩,v⟩:=x;unfold wO at h;split at h
 ·rename_i hc;obtain⟨h0,h1,h2,h3,h4⟩:=hc;cases h;simp only at h0 h1 h2 h3 h4;refine⟨0,?_⟩;show g16 wI wH 0 a b c v=some (jH v ((b.length:Int)+(c.length:Int)+iK wV c));unfold g16;have hs:0<=iK wV c:=gH λx _=>jV x
  have hr:=oC (v:=v) (a:=(b.length:Int)) (by omega) h0;rw[show wI (b,v)=some (jH v b.length) from if_pos ⟨h0,h1,h2⟩,bY,Int.add_assoc,aB7 (by omega) (by omega) h0];by_cases hn:jH v (b.length:Int) < 0
  ·rw[dt hn,if_pos hn];rfl
  ·rw[df hn,if_neg hn,cond_false];rw[show wH (c,jH v b.length)=some (jH (jH v b.length) ((c.length:Int)+iK wV c)) from if_pos ⟨by omega,by simp only;omega,h3,h4⟩,bY];have hr2:=oC (v:=jH v (b.length:Int)) (a:=(c.length:Int)+iK wV c) (by omega) (by omega);by_cases hn2:jH (jH v (b.length:Int)) ((c.length:Int)+iK wV c) < 0
   ·rw[dt hn2,cond_true];congr 1;omega
   ·rw[df hn2];rfl
 ·cases h
theorem aDt {c:Cg}(h:0<=jH 1048576 (wC c)):c.2.1.length<=1048576/\c.2.2.length<=1048576/\∀ x∈c.2.2,x.2.2.2.length<=1048576:=by
 unfold jH at h;have hs:0<=iK wV c.2.2:=gH λx _=>jV x
 unfold wC at h;split at h
 ·omega
 ·refine⟨by omega,by omega,λx hx=>?_⟩;have:=aAq (w:=wV) (l:=c.2.2) (λx _=>jV x) x hx;unfold wV at this hs h;omega
end Go.Proofs.Try
set_option maxHeartbeats 0
namespace Go.Proofs.Try
open Go.IntKind (wrap)
open Go Go.VM Go.RowKit
def qL:Nat:=1000000000
theorem aKt (L:Nat)(a:List Int):∀ (n:Nat) (o:List Int) (i:Int) (k:List Int->Option (List Int)),tV L a n o i k=toL 0 (λx=>some x) a n o i k
 | 0,_,_,_=>rfl
 | n+1,o,i,k=>by unfold tV toL;simp only[aKt L a n,bY]
theorem sV {n:Nat}(h:n<=qL):((decide ((0:Int)<=(n:Int))&&decide ((n:Int)<=(n:Int)))&&decide ((n:Int)<=(1000000000:Int)))=true:=by
 unfold qL at h;rw[dt (by omega),dt (Int.le_refl _),dt (by omega)];rfl
def vZ (a:List Int):Option (List Int):=if a.length<=qL then some a else none
theorem aIZ:Sat prog cxT 78 (c78 vZ):=s78 vZ λx t h=>by
 unfold vZ at h;split at h
 ·rename_i ha;cases h;refine⟨x.length+1,?_⟩;unfold g78;rw[sV ha,cond_true,aKt,bW];unfold qL at ha;exact tG 0 _ x (by omega) (λ_ _=>rfl) _ _ 0 _ (by simp) (by omega) (by omega) rfl
 ·cases h
def lB (v:Vp):Option Vp:=if v.2.2.2.length<=qL then some v else none
theorem aJf:Sat prog cxT 58 (c58 lB):=s58 vZ aIZ lB λx t h=>by
 obtain⟨a,b,c,d⟩:=x;unfold lB at h;split at h
 ·rename_i ha;cases h;refine⟨0,?_⟩;show g58 vZ 0 a b c d=_;unfold g58;rw[show vZ d=some d from if_pos ha,bY]
 ·cases h
theorem aKw (L:Nat)(a:List Vp):∀ (n:Nat) (o:List Vp) (i:Int) (k:List Vp->Option (List Vp)),uB lB L a n o i k=toL mG lB a n o i k
 | 0,_,_,_=>rfl
 | n+1,o,i,k=>by unfold uB toL;simp only[aKw L a n];rfl
def wE (a:List Vp):Option (List Vp):=if a.length<=qL/\∀ v∈a,v.2.2.2.length<=qL then some a else none
theorem aJx:Sat prog cxT 36 (c36 wE):=s36 lB aJf wE λx t h=>by
 unfold wE at h;split at h
 ·rename_i ha;cases h;refine⟨x.length+1,?_⟩;unfold g36;rw[sV ha.1,cond_true,aKw,bW];have:=ha.1;unfold qL at this;exact tG mG lB x (by omega) (λv hv=>if_pos (ha.2 v hv)) _ _ 0 _ (by simp) (by omega) (by omega) rfl
 ·cases h
theorem aJg:Sat prog cxT 57 (c57 λb=>some b):=s57 _ λx t h=>by
 obtain⟨a,b,c,d,e⟩:=x;cases h;exact⟨0,rfl⟩
theorem aKx (L:Nat)(a:List Bk):∀ (n:Nat) (o:List Bk) (i:Int) (k:List Bk->Option (List Bk)),uC (λb=>some b) L a n o i k=toL kI (λb=>some b) a n o i k
 | 0,_,_,_=>rfl
 | n+1,o,i,k=>by unfold uC toL;simp only[aKx L a n];rfl
def wF (a:List Bk):Option (List Bk):=if a.length<=qL then some a else none
theorem aJy:Sat prog cxT 35 (c35 wF):=s35 _ aJg wF λx t h=>by
 unfold wF at h;split at h
 ·rename_i ha;cases h;refine⟨x.length+1,?_⟩;unfold g35;rw[sV ha,cond_true,aKx,bW];unfold qL at ha;exact tG kI _ x (by omega) (λv hv=>rfl) _ _ 0 _ (by simp) (by omega) (by omega) rfl
 ·cases h
def okM (c:Cg):Prop:=c.2.1.length<=qL/\c.2.2.length<=qL/\∀ v∈c.2.2,v.2.2.2.length<=qL
instance (c:Cg):Decidable (okM c):=by unfold okM;infer_instance
def wM (c:Cg):Option Cg:=if okM c then some c else none
theorem aJH:Sat prog cxT 19 (c19 wM):=s19 wF wE aJy aJx wM λx t h=>by
 obtain⟨a,b,c⟩:=x;unfold wM at h;split at h
 ·rename_i ha;cases h;refine⟨0,?_⟩;show g19 wF wE 0 a b c=_;unfold g19;rw[show wF b=some b from if_pos ha.1,bY,show wE c=some c from if_pos ha.2,bY]
 ·cases h
theorem kF {α:Type}[DecidableEq α][BEq α][LawfulBEq α]{a b:α}{o:Option Bool}{p:Prop}[Decidable p](h:a=b->o=some (decide p))(h2:¬ a=b->¬ p):(bif a != b then some false else o)=some (decide p):=by
 by_cases e:a=b
 ·rw[aA7 e,cond_false,h e]
 ·rw[aA6 e,cond_true,df (h2 e)]
theorem aKr (L:Nat)(a b:List Int):∀ (n:Nat) (i:Int) (k:Option Bool),tU L a b n i k=eqL 0 (λx=>some (decide (x.1=x.2))) a b n i k
 | 0,_,_=>rfl
 | n+1,i,k=>by
  unfold tU eqL;simp only[aKr L a b n,bY];congr 2
def vX (x:List Int×List Int):Option Bool:=if x.1.length<=nS then some (decide (x.1=x.2))else none
theorem aIV:Sat prog cxT 82 (c82 vX):=s82 vX λx t h=>by
 obtain⟨a,b⟩:=x;unfold vX at h;split at h
 ·rename_i hc;cases h;have hc:a.length<=1000000000000:=hc;refine⟨a.length+1,?_⟩;show g82 (a.length+1) a b=some (decide (a=b));unfold g82;refine kF (λe=>?_) λe h=>e (by rw[h])
  rw[aKr];refine(vH 0 _ a b (by omega) (by omega) (λ_ _ _ _=>rfl) _ _ 0 (by omega) (by omega)).trans ?_;simp only[dU];split<;>rename_i hh<;>simp[hh]
 ·cases h
def lA (x:Vp×Vp):Option Bool:=if x.1.2.2.2.length<=nS then some (decide (x.1=x.2))else none
theorem aLz {b:Bool}:(bif !b then some false else some true)=some b:=by cases b<;>rfl
theorem aI6:Sat prog cxT 69 (c69 lA):=s69 vX aIV lA λx t h=>by
 obtain⟨⟨a,b,c,d⟩,a',b',c',d'⟩:=x;unfold lA at h;split at h
 ·rename_i hc;cases h;refine⟨0,?_⟩;show g69 vX 0 a b c d a' b' c' d'=some (decide ((a,b,c,d)=(a',b',c',d')));unfold g69;rw[show vX (d,d')=some (decide (d=d')) from if_pos hc,bY];refine kF (λe1=>kF (λe2=>kF (λe3=>?_) ?_) ?_) ?_
  ·rw[aLz];simp[e1,e2,e3]
  ·intro e h;simp at h;exact e h.2.2.1
  ·intro e h;simp at h;exact e h.2.1
  ·intro e h;simp at h;exact e h.1
 ·cases h
theorem aKu (L:Nat)(a b:List Vp):∀ (n:Nat) (i:Int) (k:Option Bool),tY lA L a b n i k=eqL mG lA a b n i k
 | 0,_,_=>rfl
 | n+1,i,k=>by unfold tY eqL;simp only[aKu L a b n];rfl
def wB (x:List Vp×List Vp):Option Bool:=if x.1.length<=nS/\∀ v∈x.1,v.2.2.2.length<=nS then some (decide (x.1=x.2))else none
theorem aJm:Sat prog cxT 47 (c47 wB):=s47 lA aI6 wB λx t h=>by
 obtain⟨a,b⟩:=x;unfold wB at h;split at h
 ·rename_i hc;cases h;have hc1:a.length<=1000000000000:=hc.1;refine⟨a.length+1,?_⟩;show g47 lA (a.length+1) a b=some (decide (a=b));unfold g47;refine kF (λe=>?_) λe h=>e (by rw[h])
  rw[aKu];refine(vH mG _ a b (by omega) (by omega) (λx hx y _=>if_pos (hc.2 x hx)) _ _ 0 (by omega) (by omega)).trans ?_;simp only[dU];split<;>rename_i hh<;>simp[hh]
 ·cases h
theorem aI7:Sat prog cxT 68 (c68 λx=>some (decide (x.1=x.2))):=s68 _ λx t h=>by
 obtain⟨⟨a,b,c,d,e⟩,a',b',c',d',e'⟩:=x;cases h;refine⟨0,?_⟩;show g68 0 a b c d e a' b' c' d' e'=some (decide ((a,b,c,d,e)=(a',b',c',d',e')));unfold g68;refine kF (λe1=>kF (λe2=>kF (λe3=>kF (λe4=>?_) ?_) ?_) ?_) ?_
 ·rw[aLz];subst e1;subst e2;subst e3;subst e4;cases e<;>cases e'<;>simp
 ·intro e h;simp at h;exact e h.2.2.2.1
 ·intro e h;simp at h;exact e h.2.2.1
 ·intro e h;simp at h;exact e h.2.1
 ·intro e h;simp at h;exact e h.1
theorem aKv (L:Nat)(a b:List Bk):∀ (n:Nat) (i:Int) (k:Option Bool),tZ (λx=>some (decide (x.1=x.2))) L a b n i k=eqL kI (λx=>some (decide (x.1=x.2))) a b n i k
 | 0,_,_=>rfl
 | n+1,i,k=>by unfold tZ eqL;simp only[aKv L a b n];rfl
def wD (x:List Bk×List Bk):Option Bool:=if x.1.length<=nS then some (decide (x.1=x.2))else none
theorem aJn:Sat prog cxT 46 (c46 wD):=s46 _ aI7 wD λx t h=>by
 obtain⟨a,b⟩:=x;unfold wD at h;split at h
 ·rename_i hc;cases h;have hc1:a.length<=1000000000000:=hc;refine⟨a.length+1,?_⟩;show g46 _ (a.length+1) a b=some (decide (a=b));unfold g46;refine kF (λe=>?_) λe h=>e (by rw[h])
  rw[aKv];refine(vH kI _ a b (by omega) (by omega) (λx hx y _=>rfl) _ _ 0 (by omega) (by omega)).trans ?_;simp only[dU];split<;>rename_i hh<;>simp[hh]
 ·cases h
instance decBk:DecidableEq Bk:=inferInstance
instance decVp:DecidableEq Vp:=inferInstance
instance decLs:DecidableEq (List Bk×List Vp):=@instDecidableEqProd _ _ (@instDecidableEqList _ decBk) (@instDecidableEqList _ decVp)
instance decCg:DecidableEq Cg:=@instDecidableEqProd _ _ inferInstance decLs
def wK (x:Cg×Cg):Option Bool:=if okC x.1 then some (decide (x.1=x.2))else none
theorem aJD:Sat prog cxT 23 (c23 wK):=s23 wD wB aJn aJm wK λx t h=>by
 obtain⟨⟨a,b,c⟩,a',b',c'⟩:=x;unfold wK at h;split at h
 ·rename_i hc;cases h;refine⟨0,?_⟩;show g23 wD wB 0 a b c a' b' c'=some (decide ((a,b,c)=(a',b',c')));unfold g23;rw[show wD (b,b')=some (decide (b=b')) from if_pos hc.1,bY,show wB (c,c')=some (decide (c=c')) from if_pos hc.2,bY];refine kF (λe1=>?_) ?_
  ·subst e1;by_cases e2:b=b'<;>by_cases e3:c=c'<;>simp[e2,e3]
  ·intro e h;simp at h;exact e h.1
 ·cases h
end Go.Proofs.Try
