/- A part of the proof of FnExactReplyOf: LnPa, LnPb. -/
import Derived.Test.YtchokegffjaihaaVmPl
import Derived.Test.YtchokegffjaihaaLnFa
import Derived.Test.YtchokegffjaihaaLnFb
import Derived.Test.YtchokegffjaihaaLnFd
set_option linter.unusedSimpArgs false
set_option linter.unusedVariables false
set_option maxHeartbeats 0
namespace Go.Proofs.Try
open Go.IntKind (wrap)
open Go Go.VM Go.RowKit
def aBQ (x:Int):Bool:=decide (1<=x/\x<=999)
def tF (x:Int):Bool:=decide (0<=x/\x<=4294967295)
def aBz (x:Int):Bool:=decide (0<=x/\x<=9)
def aD1 (x:Int):Bool:=decide (1<=x/\x<=3)
def oV (x:Int):Bool:=decide (0<=x/\x<=65535)
def aDs (x:Int):Bool:=decide (x=6\/x=17)
def aDS (x:Int):Bool:=decide (0<=x/\x<=1000000)
theorem mS {a b:Int}{x:Int}:(bif decide (x>=a)then some (decide (x<=b))else some false)=some (decide (a<=x/\x<=b)):=by
 by_cases h:a<=x
 ·rw[dt (show x>=a from h)];simp[h]
 ·rw[df (show ¬ x>=a from h)];simp[h]
theorem aE5 {a b:Int}{x:Int}:(bif x == a then some true else some (x == b))=some (decide (x=a\/x=b)):=by
 by_cases h:x=a
 ·simp[h]
 ·rw[beq_eq_false_iff_ne.2 h,cond_false];by_cases h2:x=b
  ·rw[beq_iff_eq.2 h2,dt (.inr h2)]
  ·rw[beq_eq_false_iff_ne.2 h2,df (by rintro(h3 | h3)<;>contradiction)]
theorem xX:Sat prog cxT 34 (c34 λx=>some (decide (x.2.1<=x.1/\x.1<=x.2.2))):=s34 _ λx t h=>by
 obtain⟨x,a,b⟩:=x;cases h;exact⟨0,mS⟩
theorem aJ4:Sat prog cxT 59 (c59 λx=>some (aBQ x)):=s59 _ λx t h=>by cases h;exact⟨0,mS⟩
theorem aJ3:Sat prog cxT 61 (c61 λx=>some (aBz x)):=s61 _ λx t h=>by cases h;exact⟨0,mS⟩
theorem aKl:Sat prog cxT 38 (c38 λx=>some (aDS x)):=s38 _ λx t h=>by cases h;exact⟨0,mS⟩
theorem aGi:Sat prog cxT 60 (c60 λx=>some (tF x)):=s60 _ λx t h=>by cases h;exact⟨0,mS⟩
theorem aJ2:Sat prog cxT 62 (c62 λx=>some (aD1 x)):=s62 _ λx t h=>by cases h;exact⟨0,mS⟩
theorem aJ1:Sat prog cxT 63 (c63 λx=>some (oV x)):=s63 _ λx t h=>by cases h;exact⟨0,mS⟩
theorem aJ0:Sat prog cxT 64 (c64 λx=>some (aDs x)):=s64 _ λx t h=>by cases h;exact⟨0,aE5⟩
theorem aJ9:Sat prog cxT 54 (c54 λx=>some (aDS x)):=s54 _ xX _ λx t h=>by cases h;exact⟨0,rfl⟩
theorem aJU:Sat prog cxT 72 (c72 λx=>some (aBQ x)):=s72 _ xX _ λx t h=>by cases h;exact⟨0,rfl⟩
theorem aGg:Sat prog cxT 73 (c73 λx=>some (tF x)):=s73 _ xX _ λx t h=>by cases h;exact⟨0,rfl⟩
theorem aJS:Sat prog cxT 75 (c75 λx=>some (aDs x)):=s75 _ λx t h=>by cases h;exact⟨0,aE5⟩
theorem aJT:Sat prog cxT 74 (c74 λx=>some (oV x)):=s74 _ xX _ λx t h=>by cases h;exact⟨0,rfl⟩
theorem aJO:Sat prog cxT 79 (c79 λ_=>some false):=s79 _ λx t h=>by
 cases h;refine⟨0,?_⟩;unfold g79;simp
theorem aGh:Sat prog cxT 66 (c66 λx=>some (nJ x.1 x.2)):=s66 _ aJO _ λx t h=>by
 obtain⟨a,b⟩:=x;cases h;refine⟨0,?_⟩;show g66 (λ_=>some false) 0 a b=some (nJ a b);unfold g66 nJ;simp only[bX,cond_false];by_cases h1:a < b
 ·rw[dt h1,if_pos h1];rfl
 ·rw[df h1,if_neg h1,cond_false];by_cases h2:b < a
  ·rw[dt (show a > b from h2),if_pos h2];rfl
  ·rw[df (show ¬ a > b from h2),if_neg h2];rfl
abbrev Cg:=Int×List Bk×List Vp
def mA:Nat:=1000000000000
def top:Nat:=9223372036854775807
def wV (v:Vp):Int:=(v.2.2.2.length:Int)
def wC (c:Cg):Int:=(c.2.1.length:Int)+(c.2.2.length:Int)+iO wV c.2.2
def okC (c:Cg):Prop:=c.2.1.length<=mA/\c.2.2.length<=mA/\∀ v∈c.2.2,v.2.2.2.length<=mA
instance (c:Cg):Decidable (okC c):=by unfold okC;infer_instance
def okZ (c:Cg):Prop:=c.2.1.length<=top/\c.2.2.length<=top/\∀ v∈c.2.2,v.2.2.2.length<=top
instance (c:Cg):Decidable (okZ c):=by unfold okZ;infer_instance
theorem jY (v:Vp):0<=wV v:=by unfold wV;omega
theorem aBC {v:Int}{n:Nat}(h0:0<=v)(h1:v<=1048576)(hn:n<=top):(bif decide (wrap .i64 (v-(n:Int)) < 0)then some (-1)else some (wrap .i64 (v-(n:Int))))=some (jJ v n):=by
 unfold top at hn;rw[wi (by omega) (by omega)];unfold jJ;by_cases h:v-(n:Int) < 0
 ·rw[dt h,if_pos h];rfl
 ·rw[df h,if_neg h];rfl
def wS (x:List Int×Int):Option Int:=if 0<=x.2/\x.2<=1048576/\x.1.length<=top then some (jJ x.2 x.1.length)else none
theorem aJV:Sat prog cxT 71 (c71 wS):=s71 wS λx t h=>by
 obtain⟨a,v⟩:=x;unfold wS at h;split at h
 ·rename_i hc;cases h;exact⟨0,aBC hc.1 hc.2.1 hc.2.2⟩
 ·cases h
def kV (x:Vp×Int):Option Int:=if 0<=x.2/\x.2<=1048576/\x.1.2.2.2.length<=top then some (jJ x.2 (wV x.1))else none
theorem aKa:Sat prog cxT 53 (c53 kV):=s53 wS aJV kV λx t h=>by
 obtain⟨⟨a,b,c,d⟩,v⟩:=x;unfold kV at h;split at h
 ·rename_i hc;cases h;refine⟨0,?_⟩;show g53 wS 0 a b c d v=_;unfold g53;rw[show wS (d,v)=some (jJ v d.length) from if_pos hc,bX];show _=some (jJ v (d.length:Int));by_cases h:jJ v (d.length:Int) < 0
  ·rw[dt h];unfold jJ at h ⊢;split at h
   ·rename_i h2;rw[if_pos h2];rfl
   ·omega
  ·rw[df h];rfl
 ·cases h
def wZ (x:List Bk×Int):Option Int:=if 0<=x.2/\x.2<=1048576/\x.1.length<=top then some (jJ x.2 x.1.length)else none
theorem aKr:Sat prog cxT 31 (c31 wZ):=s31 wZ λx t h=>by
 obtain⟨a,v⟩:=x;unfold wZ at h;split at h
 ·rename_i hc;cases h;exact⟨0,aBC hc.1 hc.2.1 hc.2.2⟩
 ·cases h
def mP:Vp:=(0,0,0,[])
def kM:Bk:=(0,0,0,0,false)
theorem aLv (L:Nat)(a:List Vp)(v0:Int):∀ (n:Nat) (v i:Int) (k:Int->Option Int),uS kV L a v0 n v i k=szL mP kV a n v i k
 | 0,_,_,_=>rfl
 | n+1,v,i,k=>by
  unfold uS szL;simp only[aLv L a v0 n]
  rfl
def wY (x:List Vp×Int):Option Int:=if 0<=x.2/\x.2<=1048576/\x.1.length<=top/\∀ v∈x.1,v.2.2.2.length<=top then some (jJ x.2 ((x.1.length:Int)+iO wV x.1))else none
theorem aKq:Sat prog cxT 32 (c32 wY):=s32 kV aKa wY λx t h=>by
 obtain⟨a,v⟩:=x;unfold wY at h;split at h
 ·rename_i hc;obtain⟨h0,h1,h2,h3⟩:=hc;cases h;simp only at h0 h1 h2 h3;have h2':a.length<=9223372036854775807:=h2;refine⟨a.length+1,?_⟩;show g32 kV (a.length+1) a v=some (jJ v ((a.length:Int)+iO wV a));unfold g32;rw[wi (by omega) (by omega)];have hs:0<=iO wV a:=gI λx _=>jY x
  by_cases hn:v-(a.length:Int) < 0
  ·rw[dt hn,cond_true];unfold jJ;rw[if_pos (by omega)]
  ·rw[df hn,cond_false,aLv];refine(aDY mP kV a wV 1048576 (by omega) (λx _=>jY x) (λx hx v h0 h1=>if_pos ⟨h0,h1,h3 x hx⟩) _ (a.length+1) 0 (v-a.length) (by omega) (by omega) (by omega) (by omega)).trans ?_;rw[dU];unfold jJ;have e:v-((a.length:Int)+iO wV a)=v-(a.length:Int)-iO wV a:=by omega
   rw[e];split<;>rfl
 ·cases h
theorem aCs {v a b:Int}(ha:0<=a)(hb:0<=b)(hv:0<=v):jJ v (a+b)=if jJ v a < 0 then -1 else jJ (jJ v a) b:=by
 unfold jJ;by_cases h:v-a < 0
 ·rw[if_pos h,if_pos (by omega),if_pos (by omega)]
 ·rw[if_neg h,if_neg h,show v-(a+b)=v-a-b by omega]
theorem oN {v a:Int}(ha:0<=a)(hv:0<=v):-1<=jJ v a/\jJ v a<=v:=by unfold jJ;split<;>omega
def xF (x:Cg×Int):Option Int:=if 0<=x.2/\x.2<=1048576/\okZ x.1 then some (jJ x.2 (wC x.1))else none
theorem aKB:Sat prog cxT 16 (c16 xF):=s16 wZ wY aKr aKq xF λx t h=>by
 obtain⟨⟨a,b,c⟩,v⟩:=x;unfold xF at h;split at h
 ·rename_i hc;obtain⟨h0,h1,h2,h3,h4⟩:=hc;cases h;simp only at h0 h1 h2 h3 h4;refine⟨0,?_⟩;show g16 wZ wY 0 a b c v=some (jJ v ((b.length:Int)+(c.length:Int)+iO wV c));unfold g16;have hs:0<=iO wV c:=gI λx _=>jY x
  have hr:=oN (v:=v) (a:=(b.length:Int)) (by omega) h0;rw[show wZ (b,v)=some (jJ v b.length) from if_pos ⟨h0,h1,h2⟩,bX,Int.add_assoc,aCs (by omega) (by omega) h0];by_cases hn:jJ v (b.length:Int) < 0
  ·rw[dt hn,if_pos hn];rfl
  ·rw[df hn,if_neg hn,cond_false];rw[show wY (c,jJ v b.length)=some (jJ (jJ v b.length) ((c.length:Int)+iO wV c)) from if_pos ⟨by omega,by simp only;omega,h3,h4⟩,bX];have hr2:=oN (v:=jJ v (b.length:Int)) (a:=(c.length:Int)+iO wV c) (by omega) (by omega);by_cases hn2:jJ (jJ v (b.length:Int)) ((c.length:Int)+iO wV c) < 0
   ·rw[dt hn2,cond_true];congr 1;omega
   ·rw[df hn2];rfl
 ·cases h
theorem aDR {c:Cg}(h:0<=jJ 1048576 (wC c)):c.2.1.length<=1048576/\c.2.2.length<=1048576/\∀ x∈c.2.2,x.2.2.2.length<=1048576:=by
 unfold jJ at h;have hs:0<=iO wV c.2.2:=gI λx _=>jY x
 unfold wC at h;split at h
 ·omega
 ·refine⟨by omega,by omega,λx hx=>?_⟩;have:=aAN (w:=wV) (l:=c.2.2) (λx _=>jY x) x hx;unfold wV at this hs h;omega
end Go.Proofs.Try
set_option maxHeartbeats 0
namespace Go.Proofs.Try
open Go.IntKind (wrap)
open Go Go.VM Go.RowKit
def qV:Nat:=1000000000
theorem aLq (L:Nat)(a:List Int):∀ (n:Nat) (o:List Int) (i:Int) (k:List Int->Option (List Int)),uK L a n o i k=toL 0 (λx=>some x) a n o i k
 | 0,_,_,_=>rfl
 | n+1,o,i,k=>by unfold uK toL;simp only[aLq L a n,bX]
theorem tL {n:Nat}(h:n<=qV):((decide ((0:Int)<=(n:Int))&&decide ((n:Int)<=(n:Int)))&&decide ((n:Int)<=(1000000000:Int)))=true:=by
 unfold qV at h;rw[dt (by omega),dt (Int.le_refl _),dt (by omega)];rfl
def wR (a:List Int):Option (List Int):=if a.length<=qV then some a else none
theorem aJP:Sat prog cxT 78 (c78 wR):=s78 wR λx t h=>by
 unfold wR at h;split at h
 ·rename_i ha;cases h;refine⟨x.length+1,?_⟩;unfold g78;rw[tL ha,cond_true,aLq,bR];unfold qV at ha;exact tW 0 _ x (by omega) (λ_ _=>rfl) _ _ 0 _ (by simp) (by omega) (by omega) rfl
 ·cases h
def lG (v:Vp):Option Vp:=if v.2.2.2.length<=qV then some v else none
theorem aJ5:Sat prog cxT 58 (c58 lG):=s58 wR aJP lG λx t h=>by
 obtain⟨a,b,c,d⟩:=x;unfold lG at h;split at h
 ·rename_i ha;cases h;refine⟨0,?_⟩;show g58 wR 0 a b c d=_;unfold g58;rw[show wR d=some d from if_pos ha,bX]
 ·cases h
theorem aLt (L:Nat)(a:List Vp):∀ (n:Nat) (o:List Vp) (i:Int) (k:List Vp->Option (List Vp)),uQ lG L a n o i k=toL mP lG a n o i k
 | 0,_,_,_=>rfl
 | n+1,o,i,k=>by unfold uQ toL;simp only[aLt L a n];rfl
def wW (a:List Vp):Option (List Vp):=if a.length<=qV/\∀ v∈a,v.2.2.2.length<=qV then some a else none
theorem aKn:Sat prog cxT 36 (c36 wW):=s36 lG aJ5 wW λx t h=>by
 unfold wW at h;split at h
 ·rename_i ha;cases h;refine⟨x.length+1,?_⟩;unfold g36;rw[tL ha.1,cond_true,aLt,bR];have:=ha.1;unfold qV at this;exact tW mP lG x (by omega) (λv hv=>if_pos (ha.2 v hv)) _ _ 0 _ (by simp) (by omega) (by omega) rfl
 ·cases h
theorem aJ6:Sat prog cxT 57 (c57 λb=>some b):=s57 _ λx t h=>by
 obtain⟨a,b,c,d,e⟩:=x;cases h;exact⟨0,rfl⟩
theorem aLu (L:Nat)(a:List Bk):∀ (n:Nat) (o:List Bk) (i:Int) (k:List Bk->Option (List Bk)),uR (λb=>some b) L a n o i k=toL kM (λb=>some b) a n o i k
 | 0,_,_,_=>rfl
 | n+1,o,i,k=>by unfold uR toL;simp only[aLu L a n];rfl
def wX (a:List Bk):Option (List Bk):=if a.length<=qV then some a else none
theorem aKo:Sat prog cxT 35 (c35 wX):=s35 _ aJ6 wX λx t h=>by
 unfold wX at h;split at h
 ·rename_i ha;cases h;refine⟨x.length+1,?_⟩;unfold g35;rw[tL ha,cond_true,aLu,bR];unfold qV at ha;exact tW kM _ x (by omega) (λv hv=>rfl) _ _ 0 _ (by simp) (by omega) (by omega) rfl
 ·cases h
def okM (c:Cg):Prop:=c.2.1.length<=qV/\c.2.2.length<=qV/\∀ v∈c.2.2,v.2.2.2.length<=qV
instance (c:Cg):Decidable (okM c):=by unfold okM;infer_instance
def xD (c:Cg):Option Cg:=if okM c then some c else none
theorem aKy:Sat prog cxT 19 (c19 xD):=s19 wX wW aKo aKn xD λx t h=>by
 obtain⟨a,b,c⟩:=x;unfold xD at h;split at h
 ·rename_i ha;cases h;refine⟨0,?_⟩;show g19 wX wW 0 a b c=_;unfold g19;rw[show wX b=some b from if_pos ha.1,bX,show wW c=some c from if_pos ha.2,bX]
 ·cases h
theorem jQ {α:Type}[DecidableEq α][BEq α][LawfulBEq α]{a b:α}{o:Option Bool}{p:Prop}[Decidable p](h:a=b->o=some (decide p))(h2:¬ a=b->¬ p):(bif a != b then some false else o)=some (decide p):=by
 by_cases e:a=b
 ·rw[xR e,cond_false,h e]
 ·rw[xQ e,cond_true,df (h2 e)]
theorem aLo (L:Nat)(a b:List Int):∀ (n:Nat) (i:Int) (k:Option Bool),uJ L a b n i k=eqL 0 (λx=>some (decide (x.1=x.2))) a b n i k
 | 0,_,_=>rfl
 | n+1,i,k=>by
  unfold uJ eqL;simp only[aLo L a b n,bX];congr 2
def wP (x:List Int×List Int):Option Bool:=if x.1.length<=mA then some (decide (x.1=x.2))else none
theorem aJL:Sat prog cxT 82 (c82 wP):=s82 wP λx t h=>by
 obtain⟨a,b⟩:=x;unfold wP at h;split at h
 ·rename_i hc;cases h;have hc:a.length<=1000000000000:=hc;refine⟨a.length+1,?_⟩;show g82 (a.length+1) a b=some (decide (a=b));unfold g82;refine jQ (λe=>?_) λe h=>e (by rw[h])
  rw[aLo];refine(vZ 0 _ a b (by omega) (by omega) (λ_ _ _ _=>rfl) _ _ 0 (by omega) (by omega)).trans ?_;simp only[dU];split<;>rename_i hh<;>simp[hh]
 ·cases h
def lF (x:Vp×Vp):Option Bool:=if x.1.2.2.2.length<=mA then some (decide (x.1=x.2))else none
theorem aMz {b:Bool}:(bif !b then some false else some true)=some b:=by cases b<;>rfl
theorem aJW:Sat prog cxT 69 (c69 lF):=s69 wP aJL lF λx t h=>by
 obtain⟨⟨a,b,c,d⟩,a',b',c',d'⟩:=x;unfold lF at h;split at h
 ·rename_i hc;cases h;refine⟨0,?_⟩;show g69 wP 0 a b c d a' b' c' d'=some (decide ((a,b,c,d)=(a',b',c',d')));unfold g69;rw[show wP (d,d')=some (decide (d=d')) from if_pos hc,bX];refine jQ (λe1=>jQ (λe2=>jQ (λe3=>?_) ?_) ?_) ?_
  ·rw[aMz];simp[e1,e2,e3]
  ·intro e h;simp at h;exact e h.2.2.1
  ·intro e h;simp at h;exact e h.2.1
  ·intro e h;simp at h;exact e h.1
 ·cases h
theorem aLr (L:Nat)(a b:List Vp):∀ (n:Nat) (i:Int) (k:Option Bool),uN lF L a b n i k=eqL mP lF a b n i k
 | 0,_,_=>rfl
 | n+1,i,k=>by unfold uN eqL;simp only[aLr L a b n];rfl
def wT (x:List Vp×List Vp):Option Bool:=if x.1.length<=mA/\∀ v∈x.1,v.2.2.2.length<=mA then some (decide (x.1=x.2))else none
theorem aKc:Sat prog cxT 47 (c47 wT):=s47 lF aJW wT λx t h=>by
 obtain⟨a,b⟩:=x;unfold wT at h;split at h
 ·rename_i hc;cases h;have hc1:a.length<=1000000000000:=hc.1;refine⟨a.length+1,?_⟩;show g47 lF (a.length+1) a b=some (decide (a=b));unfold g47;refine jQ (λe=>?_) λe h=>e (by rw[h])
  rw[aLr];refine(vZ mP _ a b (by omega) (by omega) (λx hx y _=>if_pos (hc.2 x hx)) _ _ 0 (by omega) (by omega)).trans ?_;simp only[dU];split<;>rename_i hh<;>simp[hh]
 ·cases h
theorem aJX:Sat prog cxT 68 (c68 λx=>some (decide (x.1=x.2))):=s68 _ λx t h=>by
 obtain⟨⟨a,b,c,d,e⟩,a',b',c',d',e'⟩:=x;cases h;refine⟨0,?_⟩;show g68 0 a b c d e a' b' c' d' e'=some (decide ((a,b,c,d,e)=(a',b',c',d',e')));unfold g68;refine jQ (λe1=>jQ (λe2=>jQ (λe3=>jQ (λe4=>?_) ?_) ?_) ?_) ?_
 ·rw[aMz];subst e1;subst e2;subst e3;subst e4;cases e<;>cases e'<;>simp
 ·intro e h;simp at h;exact e h.2.2.2.1
 ·intro e h;simp at h;exact e h.2.2.1
 ·intro e h;simp at h;exact e h.2.1
 ·intro e h;simp at h;exact e h.1
theorem aLs (L:Nat)(a b:List Bk):∀ (n:Nat) (i:Int) (k:Option Bool),uO (λx=>some (decide (x.1=x.2))) L a b n i k=eqL kM (λx=>some (decide (x.1=x.2))) a b n i k
 | 0,_,_=>rfl
 | n+1,i,k=>by unfold uO eqL;simp only[aLs L a b n];rfl
def wU (x:List Bk×List Bk):Option Bool:=if x.1.length<=mA then some (decide (x.1=x.2))else none
theorem aKd:Sat prog cxT 46 (c46 wU):=s46 _ aJX wU λx t h=>by
 obtain⟨a,b⟩:=x;unfold wU at h;split at h
 ·rename_i hc;cases h;have hc1:a.length<=1000000000000:=hc;refine⟨a.length+1,?_⟩;show g46 _ (a.length+1) a b=some (decide (a=b));unfold g46;refine jQ (λe=>?_) λe h=>e (by rw[h])
  rw[aLs];refine(vZ kM _ a b (by omega) (by omega) (λx hx y _=>rfl) _ _ 0 (by omega) (by omega)).trans ?_;simp only[dU];split<;>rename_i hh<;>simp[hh]
 ·cases h
instance decBk:DecidableEq Bk:=inferInstance
instance decVp:DecidableEq Vp:=inferInstance
instance decLs:DecidableEq (List Bk×List Vp):=@instDecidableEqProd _ _ (@instDecidableEqList _ decBk) (@instDecidableEqList _ decVp)
instance decCg:DecidableEq Cg:=@instDecidableEqProd _ _ inferInstance decLs
def xB (x:Cg×Cg):Option Bool:=if okC x.1 then some (decide (x.1=x.2))else none
theorem aKu:Sat prog cxT 23 (c23 xB):=s23 wU wT aKd aKc xB λx t h=>by
 obtain⟨⟨a,b,c⟩,a',b',c'⟩:=x;unfold xB at h;split at h
 ·rename_i hc;cases h;refine⟨0,?_⟩;show g23 wU wT 0 a b c a' b' c'=some (decide ((a,b,c)=(a',b',c')));unfold g23;rw[show wU (b,b')=some (decide (b=b')) from if_pos hc.1,bX,show wT (c,c')=some (decide (c=c')) from if_pos hc.2,bX];refine jQ (λe1=>?_) ?_
  ·subst e1;by_cases e2:b=b'<;>by_cases e3:c=c'<;>simp[e2,e3]
  ·intro e h;simp at h;exact e h.1
 ·cases h
theorem aKC:Sat prog cxT 13 (c13 λx=>some (decide (x.1=x.2))):=s13 _ λx t h=>by
 obtain⟨⟨a,b⟩,a',b'⟩:=x;cases h;refine⟨0,?_⟩;show g13 0 a b a' b'=some (decide ((a,b)=(a',b')));unfold g13;refine jQ (λe1=>?_) ?_
 ·subst e1;by_cases e2:b=b'
  ·rw[xR e2];simp[e2]
  ·rw[xQ e2];simp[e2]
 ·intro e h;simp at h;exact e h.1
end Go.Proofs.Try
