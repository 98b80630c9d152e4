/- A part of the proof of FnExactApplyCmd: LpPa, LpPb, LpPc, LpPd, LpPe, LpPf, LpPg. -/
import Derived.Test.YtfncedbejffggaaGreatVmPl
import Derived.Test.YtfncedbejffggaaGreatLpFa
import Derived.Test.YtfncedbejffggaaGreatLpFb
import Derived.Test.YtfncedbejffggaaGreatLpFc
set_option linter.unusedSimpArgs false
set_option linter.unusedVariables false
set_option maxHeartbeats 0
namespace Go.Proofs.Tryz
open Go.IntKind (wrap)
open Go Go.VM Go.RowKit
def pH (x:Int):Bool:=decide (1<=x/\x<=999)
def oG (x:Int):Bool:=decide (0<=x/\x<=4294967295)
def xK (x:Int):Bool:=decide (0<=x/\x<=9)
def aCl (x:Int):Bool:=decide (1<=x/\x<=3)
def nY (x:Int):Bool:=decide (0<=x/\x<=65535)
def uO (x:Int):Bool:=decide (x=6\/x=17)
def nD (x:Int):Bool:=decide (0<=x/\x<=1000000)
theorem pO {a b:Int}{x:Int}:(bif decide (x>=a)then some (decide (x<=b))else some false)=some (decide (a<=x/\x<=b)):=by
 by_cases h:a<=x
 ·rw[dt (show x>=a from h)];simp[h]
 ·rw[df (show ¬ x>=a from h)];simp[h]
theorem aFl {a b:Int}{x:Int}:(bif x == a then some true else some (x == b))=some (decide (x=a\/x=b)):=by
 by_cases h:x=a
 ·simp[h]
 ·rw[beq_eq_false_iff_ne.2 h,cond_false];by_cases h2:x=b
  ·rw[beq_iff_eq.2 h2,dt (.inr h2)]
  ·rw[beq_eq_false_iff_ne.2 h2,df (by rintro(h3 | h3)<;>contradiction)]
theorem sR:Sat prog cxT 34 (c34 λx=>some (decide (x.2.1<=x.1/\x.1<=x.2.2))):=s34 _ λx t h=>by
 obtain⟨x,a,b⟩:=x;cases h;exact⟨0,pO⟩
theorem aKU:Sat prog cxT 50 (c50 λx=>some (pH x)):=s50 _ λx t h=>by cases h;exact⟨0,pO⟩
theorem aKT:Sat prog cxT 52 (c52 λx=>some (xK x)):=s52 _ λx t h=>by cases h;exact⟨0,pO⟩
theorem aKW:Sat prog cxT 45 (c45 λx=>some (nD x)):=s45 _ λx t h=>by cases h;exact⟨0,pO⟩
theorem aHI:Sat prog cxT 51 (c51 λx=>some (oG x)):=s51 _ λx t h=>by cases h;exact⟨0,pO⟩
theorem aKS:Sat prog cxT 55 (c55 λx=>some (aCl x)):=s55 _ λx t h=>by cases h;exact⟨0,pO⟩
theorem aKR:Sat prog cxT 58 (c58 λx=>some (nY x)):=s58 _ λx t h=>by cases h;exact⟨0,pO⟩
theorem aKQ:Sat prog cxT 59 (c59 λx=>some (uO x)):=s59 _ λx t h=>by cases h;exact⟨0,aFl⟩
theorem aKZ:Sat prog cxT 31 (c31 λx=>some (nD x)):=s31 _ sR _ λx t h=>by cases h;exact⟨0,rfl⟩
theorem aKY:Sat prog cxT 36 (c36 λx=>some (pH x)):=s36 _ sR _ λx t h=>by cases h;exact⟨0,rfl⟩
theorem aHJ:Sat prog cxT 37 (c37 λx=>some (oG x)):=s37 _ sR _ λx t h=>by cases h;exact⟨0,rfl⟩
theorem aKX:Sat prog cxT 39 (c39 λx=>some (uO x)):=s39 _ λx t h=>by cases h;exact⟨0,aFl⟩
theorem aKP:Sat prog cxT 72 (c72 λx=>some (nY x)):=s72 _ sR _ λx t h=>by cases h;exact⟨0,rfl⟩
theorem aKL:Sat prog cxT 98 (c98 λ_=>some false):=s98 _ λx t h=>by
 cases h;refine⟨0,?_⟩;unfold g98;simp
theorem aKM:Sat prog cxT 81 (c81 λx=>some (mG x.1 x.2)):=s81 _ aKL _ λx t h=>by
 obtain⟨a,b⟩:=x;cases h;refine⟨0,?_⟩;show g81 (λ_=>some false) 0 a b=some (mG a b);unfold g81 mG;simp only[bT,cond_false];by_cases h1:a < b
 ·rw[dt h1,if_pos h1];rfl
 ·rw[df h1,if_neg h1,cond_false];by_cases h2:b < a
  ·rw[dt (show a > b from h2),if_pos h2];rfl
  ·rw[df (show ¬ a > b from h2),if_neg h2];rfl
abbrev Cg:=Int×LB×LV
def iU:Nat:=1000000000000
def top:Nat:=9223372036854775807
def wV (v:Vp):Int:=(v.2.2.2.length:Int)
def wC (c:Cg):Int:=(c.2.1.length:Int)+(c.2.2.length:Int)+gJ wV c.2.2
def okC (c:Cg):Prop:=c.2.1.length<=iU/\c.2.2.length<=iU/\∀ v∈c.2.2,v.2.2.2.length<=iU
instance (c:Cg):Decidable (okC c):=by unfold okC;infer_instance
def okZ (c:Cg):Prop:=c.2.1.length<=top/\c.2.2.length<=top/\∀ v∈c.2.2,v.2.2.2.length<=top
instance (c:Cg):Decidable (okZ c):=by unfold okZ;infer_instance
theorem oM (v:Vp):0<=wV v:=by unfold wV;omega
theorem aHu {v:Int}{n:Nat}(h0:0<=v)(h1:v<=1048576)(hn:n<=top):(bif decide (wrap .i64 (v-(n:Int)) < 0)then some (-1)else some (wrap .i64 (v-(n:Int))))=some (qF v n):=by
 unfold top at hn;rw[wi (by omega) (by omega)];unfold qF;by_cases h:v-(n:Int) < 0
 ·rw[dt h,if_pos h];rfl
 ·rw[df h,if_neg h];rfl
def m71 (x:List Int×Int):Option Int:=if 0<=x.2/\x.2<=1048576/\x.1.length<=top then some (qF x.2 x.1.length)else none
theorem aP3:Sat prog cxT 71 (c71 m71):=s71 m71 λx t h=>by
 obtain⟨a,v⟩:=x;unfold m71 at h;split at h
 ·rename_i hc;cases h;exact⟨0,aHu hc.1 hc.2.1 hc.2.2⟩
 ·cases h
def oA (x:Vp×Int):Option Int:=if 0<=x.2/\x.2<=1048576/\x.1.2.2.2.length<=top then some (qF x.2 (wV x.1))else none
theorem aQp:Sat prog cxT 30 (c30 oA):=s30 m71 aP3 oA λx t h=>by
 obtain⟨⟨a,b,c,d⟩,v⟩:=x;unfold oA at h;split at h
 ·rename_i hc;cases h;refine⟨0,?_⟩;show g30 m71 0 a b c d v=_;unfold g30;rw[show m71 (d,v)=some (qF v d.length) from if_pos hc,bT];show _=some (qF v (d.length:Int));by_cases h:qF v (d.length:Int) < 0
  ·rw[dt h];unfold qF at h ⊢;split at h
   ·rename_i h2;rw[if_pos h2];rfl
   ·omega
  ·rw[df h];rfl
 ·cases h
def m14 (x:LB×Int):Option Int:=if 0<=x.2/\x.2<=1048576/\x.1.length<=top then some (qF x.2 x.1.length)else none
theorem aQE:Sat prog cxT 14 (c14 m14):=s14 m14 λx t h=>by
 obtain⟨a,v⟩:=x;unfold m14 at h;split at h
 ·rename_i hc;cases h;exact⟨0,aHu hc.1 hc.2.1 hc.2.2⟩
 ·cases h
def eJ:Vp:=ZV
def jW:Bk:=ZB
theorem aSm (L:Nat)(a:LV)(v0:Int):∀ (n:Nat) (v i:Int) (k:Int->Option Int),aAy oA L a v0 n v i k=szL eJ oA a n v i k
 | 0,_,_,_=>rfl
 | n+1,v,i,k=>by
  unfold aAy szL;simp only[aSm L a v0 n]
  rfl
def m15 (x:LV×Int):Option Int:=if 0<=x.2/\x.2<=1048576/\x.1.length<=top/\∀ v∈x.1,v.2.2.2.length<=top then some (qF x.2 ((x.1.length:Int)+gJ wV x.1))else none
theorem aQD:Sat prog cxT 15 (c15 m15):=s15 oA aQp m15 λx t h=>by
 obtain⟨a,v⟩:=x;unfold m15 at h;split at h
 ·rename_i hc;obtain⟨h0,h1,h2,h3⟩:=hc;cases h;simp only at h0 h1 h2 h3;have h2':a.length<=9223372036854775807:=h2;refine⟨a.length+1,?_⟩;show g15 oA (a.length+1) a v=some (qF v ((a.length:Int)+gJ wV a));unfold g15;rw[wi (by omega) (by omega)];have hs:0<=gJ wV a:=iG λx _=>oM x
  by_cases hn:v-(a.length:Int) < 0
  ·rw[dt hn,cond_true];unfold qF;rw[if_pos (by omega)]
  ·rw[df hn,cond_false,aSm];refine(aHv eJ oA a wV 1048576 (by omega) (λx _=>oM x) (λx hx v h0 h1=>if_pos ⟨h0,h1,h3 x hx⟩) _ (a.length+1) 0 (v-a.length) (by omega) (by omega) (by omega) (by omega)).trans ?_;rw[gH];unfold qF;have e:v-((a.length:Int)+gJ wV a)=v-(a.length:Int)-gJ wV a:=by omega
   rw[e];split<;>rfl
 ·cases h
theorem aJx {v a b:Int}(ha:0<=a)(hb:0<=b)(hv:0<=v):qF v (a+b)=if qF v a < 0 then -1 else qF (qF v a) b:=by
 unfold qF;by_cases h:v-a < 0
 ·rw[if_pos h,if_pos (by omega),if_pos (by omega)]
 ·rw[if_neg h,if_neg h,show v-(a+b)=v-a-b by omega]
theorem aBB {v a:Int}(ha:0<=a)(hv:0<=v):-1<=qF v a/\qF v a<=v:=by unfold qF;split<;>omega
def m4 (x:Cg×Int):Option Int:=if 0<=x.2/\x.2<=1048576/\okZ x.1 then some (qF x.2 (wC x.1))else none
theorem aVj:Sat prog cxT 4 (c4 m4):=s4 m14 m15 aQE aQD m4 λx t h=>by
 obtain⟨⟨a,b,c⟩,v⟩:=x;unfold m4 at h;split at h
 ·rename_i hc;obtain⟨h0,h1,h2,h3,h4⟩:=hc;cases h;simp only at h0 h1 h2 h3 h4;refine⟨0,?_⟩;show g4 m14 m15 0 a b c v=some (qF v ((b.length:Int)+(c.length:Int)+gJ wV c));unfold g4;have hs:0<=gJ wV c:=iG λx _=>oM x
  have hr:=aBB (v:=v) (a:=(b.length:Int)) (by omega) h0;rw[show m14 (b,v)=some (qF v b.length) from if_pos ⟨h0,h1,h2⟩,bT,vM,aJx (by omega) (by omega) h0];by_cases hn:qF v (b.length:Int) < 0
  ·rw[dt hn,if_pos hn];rfl
  ·rw[df hn,if_neg hn,cond_false];rw[show m15 (c,qF v b.length)=some (qF (qF v b.length) ((c.length:Int)+gJ wV c)) from if_pos ⟨by omega,by simp only;omega,h3,h4⟩,bT];have hr2:=aBB (v:=qF v (b.length:Int)) (a:=(c.length:Int)+gJ wV c) (by omega) (by omega);by_cases hn2:qF (qF v (b.length:Int)) ((c.length:Int)+gJ wV c) < 0
   ·rw[dt hn2,cond_true];congr 1;omega
   ·rw[df hn2];rfl
 ·cases h
theorem aHn {c:Cg}(h:0<=qF 1048576 (wC c)):c.2.1.length<=1048576/\c.2.2.length<=1048576/\∀ x∈c.2.2,x.2.2.2.length<=1048576:=by
 unfold qF at h;have hs:0<=gJ wV c.2.2:=iG λx _=>oM x
 unfold wC at h;split at h
 ·omega
 ·refine⟨by omega,by omega,λx hx=>?_⟩;have:=aDx (w:=wV) (l:=c.2.2) (λx _=>oM x) x hx;unfold wV at this hs h;omega
def wS:Nat:=1000000000
theorem aSh (L:Nat)(a:List Int):∀ (n:Nat) (o:List Int) (i:Int) (k:List Int->Option LI),aAl L a n o i k=toL 0 (λx=>some x) a n o i k
 | 0,_,_,_=>rfl
 | n+1,o,i,k=>by unfold aAl toL;simp only[aSh L a n,bT]
theorem aCB {n:Nat}(h:n<=wS):((decide ((0:Int)<=(n:Int))&&decide ((n:Int)<=(n:Int)))&&decide ((n:Int)<=(1000000000:Int)))=true:=by
 unfold wS at h;rw[dt (by omega),dt (Int.le_refl _),dt (by omega)];rfl
def m79 (a:List Int):Option LI:=if a.length<=wS then some a else none
theorem aP0:Sat prog cxT 79 (c79 m79):=s79 m79 λx t h=>by
 unfold m79 at h;split at h
 ·rename_i ha;cases h;refine⟨x.length+1,?_⟩;unfold g79;rw[aCB ha,cond_true,aSh,aV];unfold wS at ha;exact aCj 0 _ x (by omega) (λ_ _=>rfl) _ _ 0 _ (by simp) (by omega) (by omega) rfl
 ·cases h
def oJ (v:Vp):Option Vp:=if v.2.2.2.length<=wS then some v else none
theorem aQg:Sat prog cxT 44 (c44 oJ):=s44 m79 aP0 oJ λx t h=>by
 obtain⟨a,b,c,d⟩:=x;unfold oJ at h;split at h
 ·rename_i ha;cases h;refine⟨0,?_⟩;show g44 m79 0 a b c d=_;unfold g44;rw[show m79 d=some d from if_pos ha,bT]
 ·cases h
theorem aSk (L:Nat)(a:LV):∀ (n:Nat) (o:LV) (i:Int) (k:LV->Option LV),aAw oJ L a n o i k=toL eJ oJ a n o i k
 | 0,_,_,_=>rfl
 | n+1,o,i,k=>by unfold aAw toL;simp only[aSk L a n];rfl
def m20 (a:LV):Option LV:=if a.length<=wS/\∀ v∈a,v.2.2.2.length<=wS then some a else none
theorem aQz:Sat prog cxT 20 (c20 m20):=s20 oJ aQg m20 λx t h=>by
 unfold m20 at h;split at h
 ·rename_i ha;cases h;refine⟨x.length+1,?_⟩;unfold g20;rw[aCB ha.1,cond_true,aSk,aV];have:=ha.1;unfold wS at this;exact aCj eJ oJ x (by omega) (λv hv=>if_pos (ha.2 v hv)) _ _ 0 _ (by simp) (by omega) (by omega) rfl
 ·cases h
theorem aQh:Sat prog cxT 43 (c43 λb=>some b):=s43 _ λx t h=>by
 obtain⟨a,b,c,d,e⟩:=x;cases h;exact⟨0,rfl⟩
theorem aSl (L:Nat)(a:LB):∀ (n:Nat) (o:LB) (i:Int) (k:LB->Option LB),aAx (λb=>some b) L a n o i k=toL jW (λb=>some b) a n o i k
 | 0,_,_,_=>rfl
 | n+1,o,i,k=>by unfold aAx toL;simp only[aSl L a n];rfl
def m19 (a:LB):Option LB:=if a.length<=wS then some a else none
theorem aQA:Sat prog cxT 19 (c19 m19):=s19 _ aQh m19 λx t h=>by
 unfold m19 at h;split at h
 ·rename_i ha;cases h;refine⟨x.length+1,?_⟩;unfold g19;rw[aCB ha,cond_true,aSl,aV];unfold wS at ha;exact aCj jW _ x (by omega) (λv hv=>rfl) _ _ 0 _ (by simp) (by omega) (by omega) rfl
 ·cases h
def okM (c:Cg):Prop:=c.2.1.length<=wS/\c.2.2.length<=wS/\∀ v∈c.2.2,v.2.2.2.length<=wS
instance (c:Cg):Decidable (okM c):=by unfold okM;infer_instance
def m6 (c:Cg):Option Cg:=if okM c then some c else none
theorem aVh:Sat prog cxT 6 (c6 m6):=s6 m19 m20 aQA aQz m6 λx t h=>by
 obtain⟨a,b,c⟩:=x;unfold m6 at h;split at h
 ·rename_i ha;cases h;refine⟨0,?_⟩;show g6 m19 m20 0 a b c=_;unfold g6;rw[show m19 b=some b from if_pos ha.1,bT,show m20 c=some c from if_pos ha.2,bT]
 ·cases h
theorem qB {α:Type}[DecidableEq α][BEq α][LawfulBEq α]{a b:α}{o:Option Bool}{p:Prop}[Decidable p](h:a=b->o=some (decide p))(h2:¬ a=b->¬ p):(bif a != b then some false else o)=some (decide p):=by
 by_cases e:a=b
 ·rw[aEj e,cond_false,h e]
 ·rw[wL e,cond_true,df (h2 e)]
theorem aSf (L:Nat)(a b:List Int):∀ (n:Nat) (i:Int) (k:Option Bool),aAj L a b n i k=eqL 0 (λx=>some (decide (x.1=x.2))) a b n i k
 | 0,_,_=>rfl
 | n+1,i,k=>by
  unfold aAj eqL;simp only[aSf L a b n,bT];congr 2
def m96 (x:List Int×List Int):Option Bool:=if x.1.length<=iU then some (decide (x.1=x.2))else none
theorem aPT:Sat prog cxT 96 (c96 m96):=s96 m96 λx t h=>by
 obtain⟨a,b⟩:=x;unfold m96 at h;split at h
 ·rename_i hc;cases h;have hc:a.length<=1000000000000:=hc;refine⟨a.length+1,?_⟩;show g96 (a.length+1) a b=some (decide (a=b));unfold g96;refine qB (λe=>?_) λe h=>e (by rw[h])
  rw[aSf];refine(aC4 0 _ a b (by omega) (by omega) (λ_ _ _ _=>rfl) _ _ 0 (by omega) (by omega)).trans ?_;simp only[gH];split<;>rename_i hh<;>simp[hh]
 ·cases h
def oI (x:Vp×Vp):Option Bool:=if x.1.2.2.2.length<=iU then some (decide (x.1=x.2))else none
theorem aTA {b:Bool}:(bif !b then some false else some true)=some b:=by cases b<;>rfl
theorem aP7:Sat prog cxT 67 (c67 oI):=s67 m96 aPT oI λx t h=>by
 obtain⟨⟨a,b,c,d⟩,a',b',c',d'⟩:=x;unfold oI at h;split at h
 ·rename_i hc;cases h;refine⟨0,?_⟩;show g67 m96 0 a b c d a' b' c' d'=some (decide ((a,b,c,d)=(a',b',c',d')));unfold g67;rw[show m96 (d,d')=some (decide (d=d')) from if_pos hc,bT];refine qB (λe1=>qB (λe2=>qB (λe3=>?_) ?_) ?_) ?_
  ·rw[aTA];simp[e1,e2,e3]
  ·intro e h;simp at h;exact e h.2.2.1
  ·intro e h;simp at h;exact e h.2.1
  ·intro e h;simp at h;exact e h.1
 ·cases h
theorem aSi (L:Nat)(a b:LV):∀ (n:Nat) (i:Int) (k:Option Bool),aAt oI L a b n i k=eqL eJ oI a b n i k
 | 0,_,_=>rfl
 | n+1,i,k=>by unfold aAt eqL;simp only[aSi L a b n];rfl
def m26 (x:LV×LV):Option Bool:=if x.1.length<=iU/\∀ v∈x.1,v.2.2.2.length<=iU then some (decide (x.1=x.2))else none
theorem aQt:Sat prog cxT 26 (c26 m26):=s26 oI aP7 m26 λx t h=>by
 obtain⟨a,b⟩:=x;unfold m26 at h;split at h
 ·rename_i hc;cases h;have hc1:a.length<=1000000000000:=hc.1;refine⟨a.length+1,?_⟩;show g26 oI (a.length+1) a b=some (decide (a=b));unfold g26;refine qB (λe=>?_) λe h=>e (by rw[h])
  rw[aSi];refine(aC4 eJ _ a b (by omega) (by omega) (λx hx y _=>if_pos (hc.2 x hx)) _ _ 0 (by omega) (by omega)).trans ?_;simp only[gH];split<;>rename_i hh<;>simp[hh]
 ·cases h
theorem aP8:Sat prog cxT 66 (c66 λx=>some (decide (x.1=x.2))):=s66 _ λx t h=>by
 obtain⟨⟨a,b,c,d,e⟩,a',b',c',d',e'⟩:=x;cases h;refine⟨0,?_⟩;show g66 0 a b c d e a' b' c' d' e'=some (decide ((a,b,c,d,e)=(a',b',c',d',e')));unfold g66;refine qB (λe1=>qB (λe2=>qB (λe3=>qB (λe4=>?_) ?_) ?_) ?_) ?_
 ·rw[aTA];subst e1;subst e2;subst e3;subst e4;cases e<;>cases e'<;>simp
 ·intro e h;simp at h;exact e h.2.2.2.1
 ·intro e h;simp at h;exact e h.2.2.1
 ·intro e h;simp at h;exact e h.2.1
 ·intro e h;simp at h;exact e h.1
theorem aSj (L:Nat)(a b:LB):∀ (n:Nat) (i:Int) (k:Option Bool),aAu (λx=>some (decide (x.1=x.2))) L a b n i k=eqL jW (λx=>some (decide (x.1=x.2))) a b n i k
 | 0,_,_=>rfl
 | n+1,i,k=>by unfold aAu eqL;simp only[aSj L a b n];rfl
def m25 (x:LB×LB):Option Bool:=if x.1.length<=iU then some (decide (x.1=x.2))else none
theorem aQu:Sat prog cxT 25 (c25 m25):=s25 _ aP8 m25 λx t h=>by
 obtain⟨a,b⟩:=x;unfold m25 at h;split at h
 ·rename_i hc;cases h;have hc1:a.length<=1000000000000:=hc;refine⟨a.length+1,?_⟩;show g25 _ (a.length+1) a b=some (decide (a=b));unfold g25;refine qB (λe=>?_) λe h=>e (by rw[h])
  rw[aSj];refine(aC4 jW _ a b (by omega) (by omega) (λx hx y _=>rfl) _ _ 0 (by omega) (by omega)).trans ?_;simp only[gH];split<;>rename_i hh<;>simp[hh]
 ·cases h
instance decBk:DecidableEq Bk:=inferInstance
instance decVp:DecidableEq Vp:=inferInstance
instance decLs:DecidableEq (LB×LV):=@instDecidableEqProd _ _ (@instDecidableEqList _ decBk) (@instDecidableEqList _ decVp)
instance decCg:DecidableEq Cg:=@instDecidableEqProd _ _ inferInstance decLs
def oK (x:Cg×Cg):Option Bool:=if okC x.1 then some (decide (x.1=x.2))else none
theorem aK1:Sat prog cxT 10 (c10 oK):=s10 m25 m26 aQu aQt oK λx t h=>by
 obtain⟨⟨a,b,c⟩,a',b',c'⟩:=x;unfold oK at h;split at h
 ·rename_i hc;cases h;refine⟨0,?_⟩;show g10 m25 m26 0 a b c a' b' c'=some (decide ((a,b,c)=(a',b',c')));unfold g10;rw[show m25 (b,b')=some (decide (b=b')) from if_pos hc.1,bT,show m26 (c,c')=some (decide (c=c')) from if_pos hc.2,bT];refine qB (λe1=>?_) ?_
  ·subst e1;by_cases e2:b=b'<;>by_cases e3:c=c'<;>simp[e2,e3]
  ·intro e h;simp at h;exact e h.1
 ·cases h
def aDe (b:Bk):Bool:=pH b.1&&oG b.2.1&&xK b.2.2.1&&aCl b.2.2.2.1
def aCh (v:Vp):Bool:=oG v.1&&nY v.2.1&&uO v.2.2.1
def rM (a b:Vp):Bool:=if a.1=b.1 then(if a.2.1=b.2.1 then decide (a.2.2.1 < b.2.2.1)else decide (a.2.1 < b.2.1))else decide (a.1 < b.1)
def gY (bs:LB)(y:Int):Bool:=bs.any λb=>b.1 == y
def rsN (ns:List Int)(i:Nat):Int:=if 0 < i/\ns.getD i 0<=ns.getD (i-1) 0 then 1 else 0
def knN (bs:LB)(ns:List Int)(i:Nat):Int:=if gY bs (ns.getD i 0)then 0 else 4
def nF (bs:LB)(ns:List Int):Int:=if oL (knN bs ns) ns.length 0=0 then oL (rsN ns) ns.length 0 else 4
def bF (bs:LB)(i:Nat):Int:=if aDe (bs.getD i jW)then(if 0 < i/\(bs.getD i jW).1<=(bs.getD (i-1) jW).1 then 1 else 0)else 3
def vF (bs:LB)(vs:LV)(i:Nat):Int:=if aCh (vs.getD i eJ)then(if 0 < i/\rM (vs.getD (i-1) eJ) (vs.getD i eJ)=false then 1 else nF bs (vs.getD i eJ).2.2.2)else 3
def cF (c:Cg):Int:=if nD c.1 then(if 8 < c.2.1.length\/4 < c.2.2.length then 2 else if oL (bF c.2.1) c.2.1.length 0=0 then oL (vF c.2.1 c.2.2) c.2.2.length 0 else oL (bF c.2.1) c.2.1.length 0)else 3
theorem aKu {c:Cg}(h:cF c=0):nD c.1=true/\c.2.1.length<=8/\c.2.2.length<=4/\(∀ j,j < c.2.1.length->bF c.2.1 j=0)/\∀ j,j < c.2.2.length->vF c.2.1 c.2.2 j=0:=by
 unfold cF at h;split at h
 ·rename_i h1;split at h
  ·exact absurd h (by decide)
  ·rename_i h2;split at h
   ·rename_i h3;exact⟨h1,by omega,by omega,λj hj=>oS.1 h3 j (bX _) (by omega),λj hj=>oS.1 h j (bX _) (by omega)⟩
   ·rename_i h3;exact absurd h h3
 ·exact absurd h (by decide)
def ris (bs:LB):Prop:=∀ i j,i < j->j < bs.length->(bs.getD i jW).1 < (bs.getD j jW).1
theorem aHS {bs:LB}(h:∀ j,j < bs.length->bF bs j=0):ris bs:=by
 have step:∀ j,0 < j->j < bs.length->(bs.getD (j-1) jW).1 < (bs.getD j jW).1:=λj h0 hj=>by
  have:=h j hj;unfold bF at this;split at this
  ·split at this
   ·exact absurd this (by decide)
   ·rename_i h2;have:¬ (bs.getD j jW).1<=(bs.getD (j-1) jW).1:=λh3=>h2 ⟨h0,h3⟩;omega
  ·exact absurd this (by decide)
 intro i j hij
 induction j with
 | zero=>omega
 | succ j ih=>
  intro hj;have h1:=step (j+1) (by omega) hj;simp only[iH]at h1;by_cases h2:i=j
  ·rw[h2];exact h1
  ·have:=ih (by omega) (by omega);omega
theorem aQo:Sat prog cxT 32 (c32 λb=>some (aDe b)):=s32 _ _ _ aKY aHJ sR _ λx t h=>by
 obtain⟨a,b,c,d,e⟩:=x;cases h;refine⟨0,?_⟩;show g32 _ _ _ 0 a b c d e=some (pH a&&oG b&&xK c&&aCl d);unfold g32;simp only[bT];cases pH a<;>cases oG b<;>simp only[cond_true,cond_false,jI,iJ];show(bif xK c then some (aCl d)else some false)=_;cases xK c<;>rfl
theorem aQf:Sat prog cxT 46 (c46 λb=>some (aDe b)):=s46 _ _ _ _ aKU aHI aKT aKS _ λx t h=>by
 obtain⟨a,b,c,d,e⟩:=x;cases h;refine⟨0,?_⟩;show g46 _ _ _ _ 0 a b c d e=some (pH a&&oG b&&xK c&&aCl d);unfold g46;simp only[bT];cases pH a<;>cases oG b<;>cases xK c<;>rfl
theorem aQe:Sat prog cxT 47 (c47 λv=>some (aCh v)):=s47 _ _ _ aHI aKR aKQ _ λx t h=>by
 obtain⟨a,b,c,d⟩:=x;cases h;refine⟨0,?_⟩;show g47 _ _ _ 0 a b c d=some (oG a&&nY b&&uO c);unfold g47;simp only[bT];cases oG a<;>cases nY b<;>rfl
theorem aHH:Sat prog cxT 73 (c73 λx=>some (rM x.1 x.2)):=s73 _ λx t h=>by
 obtain⟨⟨a,b,c,d⟩,a',b',c',d'⟩:=x;cases h;refine⟨0,?_⟩;show g73 0 a b c d a' b' c' d'=some (if a=a' then(if b=b' then decide (c < c')else decide (b < b'))else decide (a < a'));unfold g73;by_cases h1:a=a'
 ·rw[aEj h1,cond_false,if_pos h1];by_cases h2:b=b'
  ·rw[aEj h2,cond_false,if_pos h2]
  ·rw[wL h2,cond_true,if_neg h2]
 ·rw[wL h1,cond_true,if_neg h1]
def atB (bs:LB)(y:Int):Int:=idx (λb=>b.1 == y) bs 0
theorem p74 (L:Nat)(c:Cg)(y:Int)(hb:c.2.1.length<=iU)(k:Option Int):∀ (n i:Nat),i<=c.2.1.length->c.2.1.length < n+i->
  aAp L c y n i k=if idx (λb=>b.1 == y) (c.2.1.drop i) i < 0 then k else some (idx (λb=>b.1 == y) (c.2.1.drop i) i)
 | 0,i,h2,h3=>by omega
 | n+1,i,h2,h3=>by
  unfold aAp;have hb':c.2.1.length<=1000000000000:=hb;by_cases hi:i < c.2.1.length
  ·rw[aV];simp(disch:=omega) only[dt,wi,cond_true,bO];rw[oW jW hi,rC];by_cases hy:(c.2.1.getD i jW).1=y
   ·rw[show((c.2.1.getD i jW).1 == y)=true from beq_iff_eq.2 hy,if_pos rfl,if_neg (by omega)];rw[show((List.getD c.2.1 i ZB).1 == y)=true from beq_iff_eq.2 hy];rfl
   ·simp only[show((c.2.1.getD i jW).1 == y)=false from beq_eq_false_iff_ne.2 hy,dF,if_false];rw[show((List.getD c.2.1 i ZB).1 == y)=false from beq_eq_false_iff_ne.2 hy,cond_false,show(i:Int)+1=((i+1:Nat):Int) from rfl];exact p74 L c y hb k n (i+1) (by omega) (by omega)
  ·simp(disch:=omega) only[df,cond_false];rw[cM (by omega)]
   rfl
theorem aAC {α:Type}{p:α->Bool}:∀ (l:List α) (i:Nat),l.any p=false->idx p l i=-1
 | [],_,_=>rfl
 | x::r,i,h=>by
  simp only[mM,Bool.or_eq_false_iff]at h;rw[rC,h.1];simp only[dF,if_false];exact aAC r _ h.2
def eI (x:Cg×Int):Option Int:=if x.1.2.1.length<=iU then some (atB x.1.2.1 x.2)else none
theorem aHG:Sat prog cxT 74 (c74 eI):=s74 eI λx t h=>by
 obtain⟨c,y⟩:=x;unfold eI at h;split at h
 ·rename_i hc;cases h;refine⟨c.2.1.length+1,?_⟩;show g74 (c.2.1.length+1) c y=some (atB c.2.1 y);unfold g74;refine(p74 _ c y hc _ (c.2.1.length+1) 0 (by omega) (by omega)).trans ?_;rw[gH];unfold atB;split
  ·rename_i h2;rw[aAC c.2.1 0 (yZ.1 h2)]
  ·rfl
 ·cases h
theorem lO {i:Nat}(h:0 < i):((i:Int)-1).toNat=i-1:=by omega
theorem lX {f:Nat->Int}{m i:Nat}(h:i < m):oL f (m-i) i=if f i=0 then oL f (m-(i+1)) (i+1)else f i:=by
 rw[show m-i=(m-(i+1))+1 by omega,vG]
theorem lY {f:Nat->Int}{m i:Nat}(h:¬ i < m):oL f (m-i) i=0:=by
 rw[show m-i=0 by omega];rfl
theorem aCG {bs:LB}{y:Int}:decide (atB bs y < 0)=!gY bs y:=by
 by_cases h:gY bs y=true
 ·rw[h];obtain⟨j,h1,_⟩:=vA jW (l:=bs) (i:=0) h;exact df (by unfold atB;rw[h1];omega)
 ·have h':gY bs y=false:=by simpa using h
  rw[h'];exact dt (yZ.2 h')
theorem aK9 (M60 M95 M62:Int->Option Bool)(M113:Vp×Vp->Option Bool)(L:Nat)(c:Cg)(b1:Int)(x y z:Int)(ns:List Int)(hb:c.2.1.length<=iU)(hn:ns.length<=iU)(k:Int->Int->Int->List Int->Option Int) :
  ∀ (n i:Nat),i<=ns.length->ns.length < n+i->uX M60 M95 M62 M113 eI L c b1 n x y z ns i k=if oL (knN c.2.1 ns) (ns.length-i) i=0 then k x y z ns else some 4
 | 0,i,h2,h3=>by omega
 | n+1,i,h2,h3=>by
  unfold uX;have hn':ns.length<=1000000000000:=hn;by_cases hi:i < ns.length
  ·rw[aV];simp(disch:=omega) only[dt,wi,cond_true,bO];rw[lX hi,show eI (c,ns.getD i 0)=some (atB c.2.1 (ns.getD i 0)) from if_pos hb,bT];simp only[aCG];unfold knN;by_cases hh:gY c.2.1 (ns.getD i 0)=true
   ·simp only[hh,if_true,eM,cond_false];exact aK9 M60 M95 M62 M113 L c b1 x y z ns hb hn k n (i+1) (by omega) (by omega)
   ·simp only[show gY c.2.1 (ns.getD i 0)=false by simpa using hh,dF,if_false,tF,cond_true]
    rfl
  ·simp(disch:=omega) only[df,cond_false];rw[lY hi,if_pos rfl]
theorem aK8 (M60 M95 M62:Int->Option Bool)(M113:Vp×Vp->Option Bool)(M64:Cg×Int->Option Int)(L:Nat)(c:Cg)(b1:Int)(x y z:Int)(ns:List Int)(hn:ns.length<=iU)(k:Option Int) :
  ∀ (n i:Nat),0 < i->(i<=ns.length+1)->ns.length+1 < n+i->sY M60 M95 M62 M113 M64 L c b1 n x y z ns i k=if oL (rsN ns) (ns.length-i) i=0 then k else some 1
 | 0,i,h2,h1,h3=>by omega
 | n+1,i,h2,h1,h3=>by
  unfold sY;have hn':ns.length<=1000000000000:=hn;by_cases hi:i < ns.length
  ·simp(disch:=omega) only[dt,wi,cond_true,bO];rw[lO h2,aV,lX hi];unfold rsN;by_cases hh:ns.getD i 0<=ns.getD (i-1) 0
   ·rw[dt hh,cond_true,if_pos (show 0 < i/\ns.getD i 0<=ns.getD (i-1) 0 from⟨h2,hh⟩)];rfl
   ·rw[df hh,cond_false,if_neg (show ¬ (0 < i/\ns.getD i 0<=ns.getD (i-1) 0) from λh=>hh h.2),if_pos rfl];exact aK8 M60 M95 M62 M113 M64 L c b1 x y z ns hn k n (i+1) (by omega) (by omega) (by omega)
  ·have e:¬ (i:Int) < (ns.length:Int):=by omega
   simp only[df e,cond_false];rw[lY hi,if_pos rfl]
def kH (x:Cg×Int):Option Int:=if okC x.1/\0<=x.2/\x.2 < (x.1.2.2.length:Int)then some (vF x.1.2.1 x.1.2.2 x.2.toNat)else none
theorem aHL (ns:List Int):rsN ns 0=0:=by unfold rsN;rw[if_neg (by omega)]
theorem aHM (ns:List Int):oL (rsN ns) (ns.length-1) 1=oL (rsN ns) ns.length 0:=by
 cases h:ns.length with
 | zero=>rfl
 | succ n=>rw[vG,if_pos (aHL ns)];rfl
theorem aFz (ns:List Int):oL (rsN ns) ns.length 0=0\/oL (rsN ns) ns.length 0=1:=by
 by_cases h:oL (rsN ns) ns.length 0=0
 ·exact .inl h
 ·obtain⟨j,_,_,hj⟩:=aF7 h;refine .inr ?_;rw[<-hj]at h ⊢;unfold rsN at h ⊢;split
  ·rfl
  ·rename_i h2;rw[if_neg h2]at h;exact absurd rfl h
theorem aHt (L:Nat)(c:Cg)(b1:Int)(x y z:Int)(ns:List Int)(hb:c.2.1.length<=iU)(hn:ns.length<=iU)(hL:ns.length+1 < L)(M60 M95 M62:Int->Option Bool)(M113:Vp×Vp->Option Bool) :
  uX M60 M95 M62 M113 eI L c b1 L x y z ns 0 (λu0 u1 u2 u3=>sY M60 M95 M62 M113 eI L c b1 L u0 u1 u2 u3 1 (some 0))=some (nF c.2.1 ns):=by
 refine(aK9 M60 M95 M62 M113 L c b1 x y z ns hb hn _ L 0 (by omega) (by omega)).trans ?_;rw[gV];unfold nF;by_cases h:oL (knN c.2.1 ns) ns.length 0=0
 ·rw[if_pos h,if_pos h];refine(aK8 M60 M95 M62 M113 eI L c b1 x y z ns hn _ L 1 (by omega) (by omega) (by omega)).trans ?_;rw[aHM];rcases aFz ns with h2 | h2
  ·rw[if_pos h2,h2]
  ·rw[if_neg (by rw[h2];decide),h2]
 ·rw[if_neg h,if_neg h]
theorem aQn:Sat prog cxT 33 (c33 kH):=s33 _ _ _ _ eI aHJ aKP aKX aHH aHG kH λx t h=>by
 obtain⟨⟨a,b,c⟩,y⟩:=x;unfold kH at h;split at h
 ·rename_i hc;obtain⟨⟨h1,h2,h3⟩,h4,h5⟩:=hc;cases h;simp only at h1 h2 h3 h4 h5;obtain⟨i,rfl⟩:=jB h4;have hi:i < c.length:=by omega
  have h2':c.length<=1000000000000:=h2;refine⟨(c.getD i eJ).2.2.2.length+2,?_⟩;have hns:=h3 _ (eG eJ hi);show g33 _ _ _ _ eI _ (a,b,c) (i:Int)=some (vF b c (i:Int).toNat);unfold g33;simp only;rw[aV,dt h4,dt h5,bO,cond_true];simp only[bT];unfold vF;have hv:∀ o:Option Int,(bif !oG (c.getD i eJ).1 then some 3 else bif !nY (c.getD i eJ).2.1 then some 3 else bif !uO (c.getD i eJ).2.2.1 then some 3 else o)=if aCh (c.getD i eJ)=true then o else some 3:=by
   intro o;unfold aCh;cases oG (c.getD i eJ).1<;>cases nY (c.getD i eJ).2.1<;>cases uO (c.getD i eJ).2.2.1<;>simp
  refine(hv _).trans ?_;by_cases hok:aCh (c.getD i eJ)=true
  ·rw[if_pos hok,if_pos hok];by_cases h0:0 < i
   ·rw[dt (show(i:Int) > 0 by omega),cond_true,wi (by omega) (by omega),dt (show(0:Int)<=(i:Int)-1 by omega),dt (show(i:Int)-1 < (c.length:Int)by omega),bO,cond_true,lO h0];by_cases hbh:rM (c.getD (i-1) eJ) (c.getD i eJ)=false
    ·rw[if_pos ⟨h0,hbh⟩];show(bif !rM (c.getD (i-1) eJ) (c.getD i eJ)then _ else _)=_;rw[hbh];rfl
    ·rw[if_neg (λh=>hbh h.2)];show(bif !rM (c.getD (i-1) eJ) (c.getD i eJ)then _ else _)=_;rw[show rM (c.getD (i-1) eJ) (c.getD i eJ)=true by simpa using hbh];exact aHt _ (a,b,c) i _ _ _ _ h1 hns (by omega) _ _ _ _
   ·rw[df (show ¬ (i:Int) > 0 by omega),cond_false,if_neg (λh=>h0 h.1)];exact aHt _ (a,b,c) i _ _ _ _ h1 hns (by omega) _ _ _ _
  ·rw[if_neg hok,if_neg hok]
 ·cases h
theorem aLd (M58:Int->Option Bool)(M82:Cg×Int->Option Int)(L:Nat)(c:Cg)(hb:c.2.1.length<=iU)(k:Option Int) :
  ∀ (n i:Nat),i<=c.2.1.length->c.2.1.length < n+i->xA M58 (λb=>some (aDe b)) M82 L c n i k=if oL (bF c.2.1) (c.2.1.length-i) i=0 then k else some (oL (bF c.2.1) (c.2.1.length-i) i)
 | 0,i,h2,h3=>by omega
 | n+1,i,h2,h3=>by
  unfold xA;have hn':c.2.1.length<=1000000000000:=hb
  generalize hbs:c.2.1=bs at *
  by_cases hi:i < bs.length
  ·rw[dt (show(i:Int) < (bs.length:Int)by omega),dt (show(0:Int)<=(i:Int)by omega),bO,cond_true,cond_true,bT,aV,lX hi,wi (x:=(i:Int)+1) (by omega) (by omega)];have ih:=aLd M58 M82 L c (by rw[hbs];exact hb) k n (i+1) (by rw[hbs];omega) (by rw[hbs];omega);rw[hbs]at ih;by_cases hok:aDe (bs.getD i jW)=true
   ·refine(congrArg (λb=>bif !b then _ else _) hok).trans ?_;simp only[eM,cond_false];by_cases h0:0 < i
    ·rw[dt (show(i:Int) > 0 by omega),cond_true,wi (by omega) (by omega),dt (show(0:Int)<=(i:Int)-1 by omega),dt (show(i:Int)-1 < (bs.length:Int)by omega),bO,cond_true,lO h0];by_cases hh:(bs.getD i jW).1<=(bs.getD (i-1) jW).1
     ·have e:bF bs i=1:=by unfold bF;rw[if_pos hok,if_pos ⟨h0,hh⟩]
      rw[dt (c:=(List.getD bs i ZB).1<=(List.getD bs (i-1) ZB).1) hh,cond_true,e];rfl
     ·have e:bF bs i=0:=by unfold bF;rw[if_pos hok,if_neg (λh=>hh h.2)]
      rw[df (c:=(List.getD bs i ZB).1<=(List.getD bs (i-1) ZB).1) hh,cond_false,if_pos e];exact ih
    ·have e:bF bs i=0:=by unfold bF;rw[if_pos hok,if_neg (λh=>h0 h.1)]
     rw[df (show ¬ (i:Int) > 0 by omega),cond_false,if_pos e];exact ih
   ·have e:bF bs i=3:=by unfold bF;rw[if_neg hok]
    refine(congrArg (λb=>bif !b then _ else _) (show aDe (bs.getD i jW)=false by simpa using hok)).trans ?_;rw[e];rfl
  ·rw[df (show ¬ (i:Int) < (bs.length:Int)by omega),cond_false,lY hi,if_pos rfl]
theorem aLc (M58:Int->Option Bool)(M81:Bk->Option Bool)(L:Nat)(c:Cg)(hok:okC c)(k:Option Int) :
  ∀ (n i:Nat),i<=c.2.2.length->c.2.2.length < n+i->wZ M58 M81 kH L c n i k=if oL (vF c.2.1 c.2.2) (c.2.2.length-i) i=0 then k else some (oL (vF c.2.1 c.2.2) (c.2.2.length-i) i)
 | 0,i,h2,h3=>by omega
 | n+1,i,h2,h3=>by
  unfold wZ;have hn':c.2.2.length<=1000000000000:=hok.2.1;by_cases hi:i < c.2.2.length
  ·rw[dt (show(i:Int) < (c.2.2.length:Int)by omega),cond_true,lX hi,wi (x:=(i:Int)+1) (by omega) (by omega)];rw[show kH (c,(i:Int))=some (vF c.2.1 c.2.2 i) from if_pos ⟨hok,by simp only;omega,by simp only;omega⟩,bT];by_cases e:vF c.2.1 c.2.2 i=0
   ·rw[aEj e,cond_false,if_pos e];exact aLc M58 M81 L c hok k n (i+1) (by omega) (by omega)
   ·rw[wL e,cond_true,if_neg e,if_neg e]
  ·rw[df (show ¬ (i:Int) < (c.2.2.length:Int)by omega),cond_false,lY hi,if_pos rfl]
def m16 (c:Cg):Option Int:=if okC c then some (cF c)else none
theorem aQC:Sat prog cxT 16 (c16 m16):=s16 _ _ kH aKZ aQo aQn m16 λx t h=>by
 obtain⟨a,b,c⟩:=x;unfold m16 at h;split at h
 ·rename_i hc;cases h;refine⟨b.length+c.length+1,?_⟩;show g16 _ _ kH _ (a,b,c)=some (cF (a,b,c));unfold g16 cF;simp only[bT];cases hv:nD a
  ·simp
  ·simp only[eM,cond_false,if_true];by_cases h8:8 < b.length
   ·rw[dt (show(b.length:Int) > 8 by omega),cond_true,if_pos (.inl h8)]
   ·rw[df (show ¬ (b.length:Int) > 8 by omega),cond_false];by_cases h4:4 < c.length
    ·rw[dt (show(c.length:Int) > 4 by omega),cond_true,if_pos (.inr h4)]
    ·rw[df (show ¬ (c.length:Int) > 4 by omega),cond_false,if_neg (by omega)];refine(aLd _ _ _ (a,b,c) hc.1 _ _ 0 (by omega) (by simp only;omega)).trans ?_;rw[gV];by_cases e:oL (bF b) b.length 0=0
     ·rw[if_pos e,if_pos e];refine(aLc _ _ _ (a,b,c) hc _ _ 0 (by omega) (by simp only;omega)).trans ?_;rw[gV];split
      ·rename_i e2;rw[e2]
      ·rfl
     ·rw[if_neg e,if_neg e]
 ·cases h
def mCF (c:Cg):Option Int:=if okC c then some (cF c)else none
theorem aMC:Sat prog cxT 100 (aKz λx=>some (mG x.1.1 x.2)):=aVo _ aKM _ λx t h=>by
 obtain⟨⟨a,b,c,d,e⟩,y⟩:=x;cases h;exact⟨0,rfl⟩
def low {α:Type}(p:α->Bool):List α->Nat
 | []=>0
 | x::r=>if p x then low p r+1 else 0
theorem lF {α:Type}(p:α->Bool):∀ l,low p l<=l.length
 | []=>aK _
 | x::r=>by
  have:=lF p r;unfold low;split<;>simp only[cB]<;>omega
theorem mF {α:Type}(p:α->Bool)(d:α):∀ (l:List α) (j:Nat),j < low p l->p (l.getD j d)=true
 | [],j,h=>by simp[low]at h
 | x::r,j,h=>by
  unfold low at h;split at h
  ·rename_i hx;cases j with
   | zero=>simpa using hx
   | succ j=>simpa using mF p d r j (by omega)
  ·omega
theorem wB {α:Type}(p:α->Bool)(d:α):∀ (l:List α),low p l < l.length->p (l.getD (low p l) d)=false
 | [],h=>by simp at h
 | x::r,h=>by
  unfold low at h ⊢;split at h
  ·rename_i hx;rw[if_pos hx];simpa using wB p d r (by simpa using h)
  ·rename_i hx;rw[if_neg hx];simpa using hx
theorem aSe (L:Nat)(a:LB)(y:Int)(u:Unit):∀ (n:Nat) (lo hi:Int) (k:Int->Option (Int×Bool)),wW (λx=>some (mG x.1.1 x.2)) L a y u n lo hi k=bsL a.length (λj=>some (mG (a.getD j jW).1 y)) n lo hi k
 | 0,_,_,_=>rfl
 | n+1,lo,hi,k=>by unfold wW bsL;simp only[aSe L a y u n];rfl
def fZ (bs:LB)(y:Int):Nat:=low (λb:Bk=>decide (b.1 < y)) bs
instance (bs:LB):Decidable (ris bs):=by
 have:ris bs↔∀ j,j < bs.length->∀ i,i < j->(bs.getD i jW).1 < (bs.getD j jW).1:=⟨λh j hj i hi=>h i j hi hj,λh i j hi hj=>h j hj i hi⟩
 exact decidable_of_iff _ this.symm
theorem aDF {bs:LB}(h:ris bs){y:Int}{j:Nat}(h1:fZ bs y<=j)(h2:j < bs.length):y<=(bs.getD j jW).1:=by
 have hl:fZ bs y < bs.length:=by omega
 have h3:=wB (λb:Bk=>decide (b.1 < y)) jW bs hl;have h4:¬ (bs.getD (fZ bs y) jW).1 < y:=of_decide_eq_false h3;by_cases he:fZ bs y=j
 ·rw[he]at h4;omega
 ·have:=h (fZ bs y) j (by omega) h2;omega
theorem uK {bs:LB}(h:ris bs)(y:Int):gY bs y=(decide (fZ bs y < bs.length)&&((bs.getD (fZ bs y) jW).1 == y)):=by
 by_cases hl:fZ bs y < bs.length
 ·rw[dt hl,iJ];by_cases he:(bs.getD (fZ bs y) jW).1=y
  ·rw[beq_iff_eq.2 he];exact eN.2 ⟨_,eG jW hl,beq_iff_eq.2 he⟩
  ·rw[beq_eq_false_iff_ne.2 he];refine gX.2 λhh=>?_
   obtain⟨b,hb,hy⟩:=eN.1 hh;obtain⟨j,hj,rfl⟩:=dL.1 hb;have hy:(bs.getD j jW).1=y:=by rw[fT jW hj];simpa using hy
   have hge:=aDF h (y:=y) (j:=fZ bs y) (aK _) hl;rcases gC j (fZ bs y)with h1 | h1 | h1
   ·have:=mF (λb:Bk=>decide (b.1 < y)) jW bs j h1;have:(bs.getD j jW).1 < y:=by simpa using this
    omega
   ·rw[<-h1]at he;exact he hy
   ·have:=h _ _ h1 hj;omega
 ·rw[df hl,jI];refine gX.2 λhh=>?_
  obtain⟨b,hb,hy⟩:=eN.1 hh;obtain⟨j,hj,rfl⟩:=dL.1 hb;have hle:=lF (λb:Bk=>decide (b.1 < y)) bs;have:=mF (λb:Bk=>decide (b.1 < y)) jW bs j (by show j < fZ bs y;omega);have h5:(bs.getD j jW).1 < y:=by simpa using this
  rw[fT jW hj]at h5;have:bs[j].1=y:=by simpa using hy
  omega
def m99 (x:LB×Int×Unit):Option (Int×Bool):=if ris x.1/\x.1.length<=iU then some ((fZ x.1 x.2.1:Int),gY x.1 x.2.1)else none
theorem aPR:Sat prog cxT 99 (c99 m99):=s99 _ aMC m99 λx t h=>by
 obtain⟨bs,y,u⟩:=x;unfold m99 at h;split at h
 ·rename_i hc;obtain⟨hr,hb⟩:=hc;cases h;simp only at hr hb;have hb':bs.length<=1000000000000:=hb;have hle:fZ bs y<=bs.length:=lF _ bs;refine⟨bs.length+1,?_⟩;show g99 _ _ bs y u=some ((fZ bs y:Int),gY bs y);unfold g99;rw[aSe];refine(aA1 bs.length _ (λj=>mG (bs.getD j jW).1 y) (by omega) (λ_ _=>rfl) (fZ bs y) (λj hj=>?_) (λj h1 h2=>aEh.2 (aDF hr h1 h2)) _ (bs.length+1) 0 bs.length (by omega) hle (aK _) (by omega)).trans ?_
  ·have:=mF (λb:Bk=>decide (b.1 < y)) jW bs j hj;exact aA0.2 (by simpa using this)
  ·rw[uK hr];by_cases hl:fZ bs y < bs.length
   ·rw[dt (show(fZ bs y:Int) < (bs.length:Int)by omega),dt (show(0:Int)<=(fZ bs y:Int)by omega),dt hl,bO,cond_true,cond_true,bT,aV,iJ];show some ((fZ bs y:Int),mG (bs.getD (fZ bs y) jW).1 y == 0)=_;by_cases he:(bs.getD (fZ bs y) jW).1=y
    ·rw[beq_iff_eq.2 he,beq_iff_eq.2 (kO.2 he)]
    ·rw[beq_eq_false_iff_ne.2 he,beq_eq_false_iff_ne.2 (λh=>he (kO.1 h))]
   ·rw[df (show ¬ (fZ bs y:Int) < (bs.length:Int)by omega),df hl,cond_false,jI]
 ·cases h
def iO (x:LB×Int):Option (Int×Bool):=if ris x.1/\x.1.length<=iU then some ((fZ x.1 x.2:Int),gY x.1 x.2)else none
theorem aHF:Sat prog cxT 82 (c82 iO):=s82 m99 aPR iO λx t h=>by
 obtain⟨bs,y⟩:=x;unfold iO at h;split at h
 ·rename_i hc;cases h;refine⟨0,?_⟩;show g82 m99 0 bs y=_;unfold g82;rw[show m99 (bs,y,PUnit.unit)=some ((fZ bs y:Int),gY bs y) from if_pos hc,bT]
 ·cases h
def orI:List Int->Int
 | []=>0
 | x::r=>if x=0 then orI r else x
theorem p80 (L:Nat)(a:List Int)(ha:a.length<=iU):∀ (n i:Nat),i<=a.length->a.length < n+i->aAk L a n i (some 0)=some (orI (a.drop i))
 | 0,i,h2,h3=>by omega
 | n+1,i,h2,h3=>by
  unfold aAk;unfold iU at ha;by_cases hi:i < a.length
  ·rw[aV];simp(disch:=omega) only[dt,wi,cond_true,bO];rw[oW 0 hi];unfold orI;by_cases h0:a.getD i 0=0
   ·rw[aEj h0,cond_false,if_pos h0];exact p80 L a ha n (i+1) (by omega) (by omega)
   ·rw[wL h0,cond_true,if_neg h0]
  ·simp(disch:=omega) only[df,cond_false];rw[cM (by omega)];rfl
def m80 (a:List Int):Option Int:=if a.length<=iU then some (orI a)else none
theorem aPZ:Sat prog cxT 80 (c80 m80):=s80 m80 λx t h=>by
 unfold m80 at h;split at h
 ·rename_i hc;cases h;exact⟨x.length+1,p80 _ x hc _ 0 (by omega) (by omega)⟩
 ·cases h
def vJ (a b:Vp):Int:=orI [mG a.1 b.1,mG a.2.1 b.2.1,mG a.2.2.1 b.2.2.1]
theorem aKV:Sat prog cxT 48 (c48 λx=>some (vJ x.1 x.2)):=s48 _ m80 aKM aPZ _ λx t h=>by
 obtain⟨⟨a,b,c,d⟩,a',b',c',d'⟩:=x;cases h;exact⟨0,rfl⟩
theorem aGb {a b:Vp}:vJ a b<=0↔rM b a=false:=by
 have key:vJ a b<=0↔¬ rM b a=true:=by
  unfold vJ orI orI orI orI rM mG;by_cases h1:b.1=a.1
  ·rw[if_pos h1];by_cases h2:b.2.1=a.2.1
   ·rw[if_pos h2];simp only[h1,h2,pT,if_false,if_true,decide_eq_true_eq];split<;>(try split)<;>(try split)<;>omega
   ·rw[if_neg h2];simp only[h1,pT,if_false,if_true,decide_eq_true_eq];by_cases h3:a.2.1 < b.2.1
    ·simp only[h3,if_true];simp;omega
    ·have h4:b.2.1 < a.2.1:=by omega
     simp only[h3,h4,if_false,if_true];simp
  ·rw[if_neg h1];simp only[decide_eq_true_eq];by_cases h3:a.1 < b.1
   ·simp only[h3,if_true];simp;omega
   ·have h4:b.1 < a.1:=by omega
    simp only[h3,h4,if_false,if_true];simp
 rw[key];simp
theorem aK7 (bs:LB)(hr:ris bs)(hb:bs.length<=iU)(L:Nat)(ns:List Int)(hn:ns.length<=iU)(k:Option Int):∀ (n i:Nat),i<=ns.length->ns.length < n+i->aAq iO L ns bs n i k=if oL (knN bs ns) (ns.length-i) i=0 then k else some 4
 | 0,i,h2,h3=>by omega
 | n+1,i,h2,h3=>by
  unfold aAq;have hn':ns.length<=1000000000000:=hn;by_cases hi:i < ns.length
  ·rw[aV];simp(disch:=omega) only[dt,wi,cond_true,bO];rw[lX hi,show iO (bs,ns.getD i 0)=some ((fZ bs (ns.getD i 0):Int),gY bs (ns.getD i 0)) from if_pos ⟨hr,hb⟩,bT];unfold knN;by_cases hh:gY bs (ns.getD i 0)=true
   ·simp only[hh,if_true,eM,cond_false];exact aK7 bs hr hb L ns hn k n (i+1) (by omega) (by omega)
   ·simp only[show gY bs (ns.getD i 0)=false by simpa using hh,dF,if_false,tF,cond_true]
    rfl
  ·simp(disch:=omega) only[df,cond_false];rw[lY hi,if_pos rfl]
theorem aK6 (bs:LB)(L:Nat)(ns:List Int)(hn:ns.length<=iU)(k:Option Int):∀ (n i:Nat),i<=ns.length->ns.length < n+i->uW iO L ns bs n i k=if oL (rsN ns) (ns.length-i) i=0 then k else some 1
 | 0,i,h2,h3=>by omega
 | n+1,i,h2,h3=>by
  unfold uW;have hn':ns.length<=1000000000000:=hn;by_cases hi:i < ns.length
  ·rw[dt (show(i:Int) < (ns.length:Int)by omega),dt (show(0:Int)<=(i:Int)by omega),bO,cond_true,cond_true,lX hi,wi (x:=(i:Int)+1) (by omega) (by omega)];have ih:=aK6 bs L ns hn k n (i+1) (by omega) (by omega);by_cases h0:0 < i
   ·rw[dt (show(i:Int) > 0 by omega),cond_true,wi (by omega) (by omega),dt (show(0:Int)<=(i:Int)-1 by omega),dt (show(i:Int)-1 < (ns.length:Int)by omega),bO,cond_true,lO h0,aV];by_cases hh:ns.getD i 0<=ns.getD (i-1) 0
    ·have e:rsN ns i=1:=if_pos ⟨h0,hh⟩;rw[dt hh,cond_true,e];rfl
    ·have e:rsN ns i=0:=if_neg λh=>hh h.2
     rw[df hh,cond_false,if_pos e];exact ih
   ·have e:rsN ns i=0:=if_neg λh=>h0 h.1
    rw[df (show ¬ (i:Int) > 0 by omega),cond_false,if_pos e];exact ih
  ·simp(disch:=omega) only[df,cond_false];rw[lY hi,if_pos rfl]
def jT (x:List Int×LB):Option Int:=if ris x.2/\x.2.length<=iU/\x.1.length<=iU then some (nF x.2 x.1)else none
theorem aQd:Sat prog cxT 49 (c49 jT):=s49 iO aHF jT λx t h=>by
 obtain⟨ns,bs⟩:=x;unfold jT at h;split at h
 ·rename_i hc;obtain⟨hr,hb,hn⟩:=hc;cases h;refine⟨ns.length+1,?_⟩;show g49 iO _ ns bs=some (nF bs ns);unfold g49;refine(aK7 bs hr hb _ ns hn _ _ 0 (by omega) (by omega)).trans ?_;rw[gV];unfold nF;by_cases h:oL (knN bs ns) ns.length 0=0
  ·rw[if_pos h,if_pos h];refine(aK6 bs _ ns hn _ _ 0 (by omega) (by omega)).trans ?_;rw[gV];rcases aFz ns with h2 | h2
   ·rw[if_pos h2,h2]
   ·rw[if_neg (by rw[h2];decide),h2]
  ·rw[if_neg h,if_neg h]
 ·cases h
abbrev vB:Bk->Option Bool:=λb=>some (aDe b)
abbrev vV:Vp->Option Bool:=λv=>some (aCh v)
abbrev vW:Vp×Vp->Option Int:=λx=>some (vJ x.1 x.2)
theorem aLb (M50:Int->Option Bool)(L:Nat)(a:Int)(bs:LB)(vs:LV)(v:Int)(ws:LV)(hb:bs.length<=iU)(k:Int->LB->LV->Option Int) :
  ∀ (n i:Nat),i<=bs.length->bs.length < n+i->wY M50 vB vV vW jT L a bs vs n v bs ws i k=if oL (bF bs) (bs.length-i) i=0 then k v bs ws else some (oL (bF bs) (bs.length-i) i)
 | 0,i,h2,h3=>by omega
 | n+1,i,h2,h3=>by
  unfold wY;have hn':bs.length<=1000000000000:=hb;by_cases hi:i < bs.length
  ·rw[dt (show(i:Int) < (bs.length:Int)by omega),dt (show(0:Int)<=(i:Int)by omega),bO,cond_true,cond_true,bT,aV,lX hi,wi (x:=(i:Int)+1) (by omega) (by omega)];have ih:=aLb M50 L a bs vs v ws hb k n (i+1) (by omega) (by omega);by_cases hok:aDe (bs.getD i jW)=true
   ·refine(congrArg (λb=>bif !b then _ else _) hok).trans ?_;simp only[eM,cond_false];by_cases h0:0 < i
    ·rw[dt (show(i:Int) > 0 by omega),cond_true,wi (by omega) (by omega),dt (show(0:Int)<=(i:Int)-1 by omega),dt (show(i:Int)-1 < (bs.length:Int)by omega),bO,cond_true,lO h0];by_cases hh:(bs.getD i jW).1<=(bs.getD (i-1) jW).1
     ·have e:bF bs i=1:=by unfold bF;rw[if_pos hok,if_pos ⟨h0,hh⟩]
      rw[dt (c:=(List.getD bs i ZB).1<=(List.getD bs (i-1) ZB).1) hh,cond_true,e];rfl
     ·have e:bF bs i=0:=by unfold bF;rw[if_pos hok,if_neg (λh=>hh h.2)]
      rw[df (c:=(List.getD bs i ZB).1<=(List.getD bs (i-1) ZB).1) hh,cond_false,if_pos e];exact ih
    ·have e:bF bs i=0:=by unfold bF;rw[if_pos hok,if_neg (λh=>h0 h.1)]
     rw[df (show ¬ (i:Int) > 0 by omega),cond_false,if_pos e];exact ih
   ·have e:bF bs i=3:=by unfold bF;rw[if_neg hok]
    refine(congrArg (λb=>bif !b then _ else _) (show aDe (bs.getD i jW)=false by simpa using hok)).trans ?_;rw[e];rfl
  ·rw[df (show ¬ (i:Int) < (bs.length:Int)by omega),cond_false,lY hi,if_pos rfl]
theorem aLa (M50:Int->Option Bool)(M51:Bk->Option Bool)(L:Nat)(a:Int)(as0:LB)(us:LV)(v:Int)(bs:LB)(vs:LV)(hr:ris bs)(hok:okC (v,bs,vs))(k:Option Int) :
  ∀ (n i:Nat),i<=vs.length->vs.length < n+i->sZ M50 M51 vV vW jT L a as0 us n v bs vs vs (vs.length:Int) i k=if oL (vF bs vs) (vs.length-i) i=0 then k else some (oL (vF bs vs) (vs.length-i) i)
 | 0,i,h2,h3=>by omega
 | n+1,i,h2,h3=>by
  unfold sZ;have hn':vs.length<=1000000000000:=hok.2.1;by_cases hi:i < vs.length
  ·rw[dt (show(i:Int) < (vs.length:Int)by omega),dt (show(0:Int)<=(i:Int)by omega),bO,cond_true,cond_true,bT,aV,lX hi,wi (x:=(i:Int)+1) (by omega) (by omega)];have ih:=aLa M50 M51 L a as0 us v bs vs hr hok k n (i+1) (by omega) (by omega);have en:jT ((vs.getD i eJ).2.2.2,bs)=some (nF bs (vs.getD i eJ).2.2.2):=if_pos ⟨hr,hok.1,hok.2.2 _ (eG eJ hi)⟩;have tail:∀ (e:vF bs vs i=nF bs (vs.getD i eJ).2.2.2),(cZ (jT ((vs.getD i eJ).2.2.2,bs)) 0 λq=>bif q != 0 then some q else sZ M50 M51 vV vW jT L a as0 us n v bs vs vs (vs.length:Int) ((i:Int)+1) k)=if vF bs vs i=0 then(if oL (vF bs vs) (vs.length-(i+1)) (i+1)=0 then k else some (oL (vF bs vs) (vs.length-(i+1)) (i+1)))else some (vF bs vs i):=λe=>by
    rw[en,bT,<-e];by_cases h:vF bs vs i=0
    ·rw[aEj h,cond_false,if_pos h];exact ih
    ·rw[wL h,cond_true,if_neg h]
   have fin:∀ X:Option Int,X=(if vF bs vs i=0 then(if oL (vF bs vs) (vs.length-(i+1)) (i+1)=0 then k else some (oL (vF bs vs) (vs.length-(i+1)) (i+1)))else some (vF bs vs i))->X=if(if vF bs vs i=0 then oL (vF bs vs) (vs.length-(i+1)) (i+1)else vF bs vs i)=0 then k else some (if vF bs vs i=0 then oL (vF bs vs) (vs.length-(i+1)) (i+1)else vF bs vs i):=λX hX=>by
    rw[hX];by_cases h:vF bs vs i=0
    ·simp only[h,if_true]
    ·simp only[h,if_false]
   refine fin _ ?_;by_cases hk:aCh (vs.getD i eJ)=true
   ·refine(congrArg (λb=>bif !b then _ else _) hk).trans ?_;simp only[eM,cond_false];by_cases h0:0 < i
    ·rw[dt (show(i:Int) > 0 by omega),cond_true,wi (by omega) (by omega),dt (show(0:Int)<=(i:Int)-1 by omega),dt (show(i:Int)-1 < (vs.length:Int)by omega),bO,cond_true,lO h0,bT];by_cases hh:vJ (vs.getD i eJ) (vs.getD (i-1) eJ)<=0
     ·have e:vF bs vs i=1:=by unfold vF;rw[if_pos hk,if_pos ⟨h0,aGb.1 hh⟩]
      refine(congrArg (λb=>bif b then _ else _) (dt hh)).trans ?_;rw[e];rfl
     ·have e:vF bs vs i=nF bs (vs.getD i eJ).2.2.2:=by unfold vF;rw[if_pos hk,if_neg (λh=>hh (aGb.2 h.2))]
      refine(congrArg (λb=>bif b then _ else _) (df hh)).trans ?_;exact tail e
    ·have e:vF bs vs i=nF bs (vs.getD i eJ).2.2.2:=by unfold vF;rw[if_pos hk,if_neg (λh=>h0 h.1)]
     rw[df (show ¬ (i:Int) > 0 by omega),cond_false];exact tail e
   ·have e:vF bs vs i=3:=by unfold vF;rw[if_neg hk]
    refine(congrArg (λb=>bif !b then _ else _) (show aCh (vs.getD i eJ)=false by simpa using hk)).trans ?_;rw[e];rfl
  ·rw[df (show ¬ (i:Int) < (vs.length:Int)by omega),cond_false,lY hi,if_pos rfl]
theorem aQy:Sat prog cxT 21 (c21 mCF):=s21 _ _ _ _ jT aKW aQf aQe aKV aQd mCF λx t h=>by
 obtain⟨a,b,c⟩:=x;unfold mCF at h;split at h
 ·rename_i hc;cases h;refine⟨b.length+c.length+1,?_⟩;show g21 _ _ _ _ jT _ a b c=some (cF (a,b,c));unfold g21 cF;simp only[bT];cases hv:nD a
  ·simp
  ·simp only[eM,cond_false,if_true];by_cases h8:8 < b.length
   ·rw[dt (show(b.length:Int) > 8 by omega),cond_true,if_pos (.inl h8)]
   ·rw[df (show ¬ (b.length:Int) > 8 by omega),cond_false];by_cases h4:4 < c.length
    ·rw[dt (show(c.length:Int) > 4 by omega),cond_true,if_pos (.inr h4)]
    ·rw[df (show ¬ (c.length:Int) > 4 by omega),cond_false,if_neg (by omega)];refine(aLb _ _ a b c a c hc.1 _ _ 0 (by omega) (by omega)).trans ?_;rw[gV];by_cases e:oL (bF b) b.length 0=0
     ·rw[if_pos e,if_pos e];refine(aLa _ _ _ a b c a b c (aHS λj hj=>oS.1 e j (bX _) (by omega)) hc _ _ 0 (by omega) (by omega)).trans ?_;rw[gV];split
      ·rename_i e2;rw[e2]
      ·rfl
     ·rw[if_neg e,if_neg e]
 ·cases h
theorem aDL {bs:LB}(hr:ris bs){y:Int}(h:gY bs y=true):fZ bs y < bs.length:=by
 rw[uK hr]at h;simp only[aJ,decide_eq_true_eq]at h;exact h.1
theorem aGi {bs:LB}(hr:ris bs){y:Int}(h:gY bs y=true):atB bs y=(fZ bs y:Int):=by
 obtain⟨j,h1,h2,h3,h4⟩:=vA jW (p:=λb:Bk=>b.1 == y) (l:=bs) (i:=0) h;have hl:=aDL hr h;rw[uK hr]at h;simp only[aJ,decide_eq_true_eq]at h;have hy:(bs.getD (fZ bs y) jW).1=y:=by simpa using h.2
 have hj:(bs.getD j jW).1=y:=by simpa using h3
 have:j=fZ bs y:=by
  rcases gC j (fZ bs y)with h5 | h5 | h5
  ·have:=hr _ _ h5 hl;omega
  ·exact h5
  ·have:=hr _ _ h5 h2;omega
 unfold atB;rw[h1,this,cX]
abbrev Fl:=Int×Int×Int×Int×Int
def wD (v:Vp)(a p q:Int):Bool:=v.1 == a&&(v.2.1 == p&&v.2.2.1 == q)
def iQ (vs:LV)(a p q:Int):Bool:=vs.any λv=>wD v a p q
def atV (vs:LV)(a p q:Int):Int:=idx (λv=>wD v a p q) vs 0
theorem aCa {a b c:Vp}(h1:rM a b=true)(h2:rM b c=true):rM a c=true:=by
 have key:∀ x y:Vp,rM x y=true↔(x.1 < y.1\/(x.1=y.1/\(x.2.1 < y.2.1\/(x.2.1=y.2.1/\x.2.2.1 < y.2.2.1)))):=λx y=>by
  unfold rM;by_cases e1:x.1=y.1
  ·rw[if_pos e1];by_cases e2:x.2.1=y.2.1
   ·rw[if_pos e2,decide_eq_true_eq];omega
   ·rw[if_neg e2,decide_eq_true_eq];omega
  ·rw[if_neg e1,decide_eq_true_eq];omega
 rw[key]at h1 h2 ⊢;omega
theorem vL {x y:Vp}:rM x y=true↔(x.1 < y.1\/(x.1=y.1/\(x.2.1 < y.2.1\/(x.2.1=y.2.1/\x.2.2.1 < y.2.2.1)))):=by
 unfold rM;by_cases e1:x.1=y.1
 ·rw[if_pos e1];by_cases e2:x.2.1=y.2.1
  ·rw[if_pos e2,decide_eq_true_eq];omega
  ·rw[if_neg e2,decide_eq_true_eq];omega
 ·rw[if_neg e1,decide_eq_true_eq];omega
def zQ (vs:LV):Prop:=∀ i j,i < j->j < vs.length->rM (vs.getD i eJ) (vs.getD j eJ)=true
theorem aJH {bs:LB}{vs:LV}(h:∀ j,j < vs.length->vF bs vs j=0):zQ vs:=by
 have step:∀ j,0 < j->j < vs.length->rM (vs.getD (j-1) eJ) (vs.getD j eJ)=true:=λj h0 hj=>by
  have:=h j hj;unfold vF at this;split at this
  ·split at this
   ·exact absurd this (by decide)
   ·rename_i h2;cases hb:rM (vs.getD (j-1) eJ) (vs.getD j eJ)
    ·exact absurd ⟨h0,hb⟩ h2
    ·rfl
  ·exact absurd this (by decide)
 intro i j hij
 induction j with
 | zero=>omega
 | succ j ih=>
  intro hj;have h1:=step (j+1) (by omega) hj;simp only[iH]at h1;by_cases h2:i=j
  ·rw[h2];exact h1
  ·exact aCa (ih (by omega) (by omega)) h1
instance (vs:LV):Decidable (zQ vs):=by
 have:zQ vs↔∀ j,j < vs.length->∀ i,i < j->rM (vs.getD i eJ) (vs.getD j eJ)=true:=⟨λh j hj i hi=>h i j hi hj,λh i j hi hj=>h j hj i hi⟩
 exact decidable_of_iff _ this.symm
theorem aEg {a b:Vp}:vJ a b < 0↔rM a b=true:=by
 rw[vL];unfold vJ orI orI orI orI mG;rcases pA a.1 b.1 with h1 | h1 | h1
 ·simp[h1]
 ·simp only[h1,pT,if_false,if_true];rcases pA a.2.1 b.2.1 with h2 | h2 | h2
  ·simp[h2]
  ·simp only[h2,pT,if_false,if_true,true_and,false_or];rcases pA a.2.2.1 b.2.2.1 with h3 | h3 | h3
   ·simp[h3]
   ·simp[h3]
   ·have:¬ a.2.2.1 < b.2.2.1:=by omega
    simp[h3,this]
  ·have:¬ a.2.1 < b.2.1:=by omega
   simp[h2,this];omega
 ·have:¬ a.1 < b.1:=by omega
  simp[h1,this];omega
theorem aB7 {a b:Vp}:vJ a b=0↔(a.1=b.1/\a.2.1=b.2.1/\a.2.2.1=b.2.2.1):=by
 unfold vJ orI orI orI orI;by_cases h1:mG a.1 b.1=0
 ·rw[if_pos h1];by_cases h2:mG a.2.1 b.2.1=0
  ·rw[if_pos h2];by_cases h3:mG a.2.2.1 b.2.2.1=0
   ·rw[if_pos h3];simp[kO.1 h1,kO.1 h2,kO.1 h3]
   ·rw[if_neg h3];exact⟨λh=>absurd h h3,λh=>absurd (kO.2 h.2.2) h3⟩
  ·rw[if_neg h2];exact⟨λh=>absurd h h2,λh=>absurd (kO.2 h.2.1) h2⟩
 ·rw[if_neg h1];exact⟨λh=>absurd h h1,λh=>absurd (kO.2 h.1) h1⟩
def lE (vs:LV)(t:Vp):Nat:=low (λv=>rM v t) vs
theorem aL3 (L:Nat)(a:LV)(b1 b2 b3:Int)(b4:List Int)(u:Unit)(x y z:Int)(ns:List Int)(k:Int->Int->Int->List Int->Int->Option (Int×Bool)):∀ (n:Nat) (lo hi:Int),qW vW L a b1 b2 b3 b4 u n x y z ns lo hi k=bsL a.length (λj=>some (vJ (a.getD j eJ) (x,y,z,ns))) n lo hi (k x y z ns)
 | 0,_,_=>rfl
 | n+1,lo,hi=>by unfold qW bsL;simp only[aL3 L a b1 b2 b3 b4 u x y z ns k n];rfl
theorem vS {vs:LV}(h:zQ vs){t:Vp}{j:Nat}(h1:lE vs t<=j)(h2:j < vs.length):rM (vs.getD j eJ) t=false:=by
 have hl:lE vs t < vs.length:=by omega
 have h4:rM (vs.getD (lE vs t) eJ) t=false:=wB (λv=>rM v t) eJ vs hl;by_cases he:lE vs t=j
 ·rw[he]at h4;exact h4
 ·refine gX.2 λhh=>?_
  have:=aCa (h (lE vs t) j (by omega) h2) hh;rw[h4]at this;cases this
theorem qZ {v:Vp}{a p q:Int}:wD v a p q=true↔(v.1=a/\v.2.1=p/\v.2.2.1=q):=by unfold wD;simp
theorem zP {vs:LV}(h:zQ vs)(a p q:Int)(l:List Int):iQ vs a p q=(decide (lE vs (a,p,q,l) < vs.length)&&wD (vs.getD (lE vs (a,p,q,l)) eJ) a p q):=by
 have irr:∀ j,j < vs.length->wD (vs.getD j eJ) a p q=true->j=lE vs (a,p,q,l):=λj hj hk=>by
  rw[qZ]at hk;rcases gC j (lE vs (a,p,q,l))with h1 | h1 | h1
  ·have h2:rM (vs.getD j eJ) (a,p,q,l)=true:=mF (λv=>rM v (a,p,q,l)) eJ vs j h1;rw[vL]at h2;simp only at h2;omega
  ·exact h1
  ·have h2:=h _ _ h1 hj;have h3:=vS h (t:=(a,p,q,l)) (aK _) (by omega);have h4:¬ rM (vs.getD (lE vs (a,p,q,l)) eJ) (a,p,q,l)=true:=by rw[h3];decide
   rw[vL]at h2 h4;simp only at h4;omega
 by_cases hh:iQ vs a p q=true
 ·rw[hh];obtain⟨v,hv,hk⟩:=eN.1 hh;obtain⟨j,hj,rfl⟩:=dL.1 hv;have hk:wD (vs.getD j eJ) a p q=true:=by rw[fT eJ hj];exact hk
  have:=irr j hj hk;rw[<-this,dt hj,hk];rfl
 ·rw[show iQ vs a p q=false by simpa using hh];by_cases hl:lE vs (a,p,q,l) < vs.length
  ·rw[dt hl,iJ];refine(gX.2 λhk=>hh ?_).symm;exact eN.2 ⟨_,eG eJ hl,hk⟩
  ·rw[df hl];rfl
def nE (x:LV×Vp×Unit):Option (Int×Bool):=if zQ x.1/\x.1.length<=iU then some ((lE x.1 x.2.1:Int),iQ x.1 x.2.1.1 x.2.1.2.1 x.2.1.2.2.1)else none
theorem aMA:Sat prog cxT 104 (aKx nE):=aVm _ aKV nE λx t h=>by
 obtain⟨vs,⟨a,p,q,l⟩,u⟩:=x;unfold nE at h;split at h
 ·rename_i hc;obtain⟨hr,hb⟩:=hc;cases h;simp only at hr hb;have hb':vs.length<=1000000000000:=hb;have hle:lE vs (a,p,q,l)<=vs.length:=lF _ vs;refine⟨vs.length+1,?_⟩;show aG1 _ _ vs a p q l u=some ((lE vs (a,p,q,l):Int),iQ vs a p q);unfold aG1;rw[aL3];refine(aA1 vs.length _ (λj=>vJ (vs.getD j eJ) (a,p,q,l)) (by omega) (λ_ _=>rfl) (lE vs (a,p,q,l)) (λj hj=>?_) (λj h1 h2=>?_) _ (vs.length+1) 0 vs.length (by omega) hle (aK _) (by omega)).trans ?_
  ·exact aEg.2 (mF (λv=>rM v (a,p,q,l)) eJ vs j hj)
  ·have:=vS hr h1 h2;have h3:¬ vJ (vs.getD j eJ) (a,p,q,l) < 0:=λh=>by rw[aEg.1 h]at this;cases this
   omega
  ·rw[zP hr a p q l];by_cases hl:lE vs (a,p,q,l) < vs.length
   ·rw[dt (show(lE vs (a,p,q,l):Int) < (vs.length:Int)by omega),dt (show(0:Int)<=(lE vs (a,p,q,l):Int)by omega),dt hl,bO,cond_true,cond_true,bT,aV,iJ];show some ((lE vs (a,p,q,l):Int),vJ (vs.getD (lE vs (a,p,q,l)) eJ) (a,p,q,l) == 0)=_;by_cases he:wD (vs.getD (lE vs (a,p,q,l)) eJ) a p q=true
    ·rw[he,beq_iff_eq.2 (aB7.2 (qZ.1 he))]
    ·rw[show wD (vs.getD (lE vs (a,p,q,l)) eJ) a p q=false by simpa using he,beq_eq_false_iff_ne.2 (λh=>he (qZ.2 (aB7.1 h)))]
   ·rw[df (show ¬ (lE vs (a,p,q,l):Int) < (vs.length:Int)by omega),df hl,cond_false,jI]
 ·cases h
def nN (x:LV×Int×Int×Int):Option (Int×Bool):=if zQ x.1/\x.1.length<=iU then some ((lE x.1 (x.2.1,x.2.2.1,x.2.2.2,[]):Int),iQ x.1 x.2.1 x.2.2.1 x.2.2.2)else none
theorem aHE:Sat prog cxT 89 (c89 nN):=s89 nE aMA nN λx t h=>by
 obtain⟨vs,a,p,q⟩:=x;unfold nN at h;split at h
 ·rename_i hc;cases h;refine⟨0,?_⟩;show g89 nE 0 vs a p q=_;unfold g89;rw[show nE (vs,(a,p,q,[]),PUnit.unit)=some ((lE vs (a,p,q,[]):Int),iQ vs a p q) from if_pos hc,bT]
 ·cases h
theorem aA4 {vs:LV}(hr:zQ vs){a p q:Int}(h:iQ vs a p q=true):atV vs a p q=(lE vs (a,p,q,[]):Int):=by
 obtain⟨j,h1,h2,h3,h4⟩:=vA eJ (p:=λv:Vp=>wD v a p q) (l:=vs) (i:=0) h;unfold atV;rw[h1,cX];rw[zP hr a p q []]at h;simp only[aJ,decide_eq_true_eq]at h;have h5:=qZ.1 h.2;have h6:=qZ.1 h3;rcases gC j (lE vs (a,p,q,[]))with h7 | h7 | h7
 ·have:=hr _ _ h7 h.1;rw[vL]at this;omega
 ·rw[h7]
 ·have:=hr _ _ h7 h2;rw[vL]at this;omega
theorem aJ9 {vs:LV}{a p q:Int}:decide (atV vs a p q < 0)=!iQ vs a p q:=by
 by_cases h:iQ vs a p q=true
 ·rw[h];obtain⟨j,h1,_⟩:=vA eJ (p:=λv:Vp=>wD v a p q) (l:=vs) (i:=0) h;exact df (by unfold atV;rw[h1];omega)
 ·have h':iQ vs a p q=false:=by simpa using h
  rw[h'];exact dt (yZ.2 h')
def xL (ns:List Int):Prop:=∀ i j,i < j->j < ns.length->ns.getD i 0 < ns.getD j 0
instance (ns:List Int):Decidable (xL ns):=by
 have:xL ns↔∀ j,j < ns.length->∀ i,i < j->ns.getD i 0 < ns.getD j 0:=⟨λh j hj i hi=>h i j hi hj,λh i j hi hj=>h j hj i hi⟩
 exact decidable_of_iff _ this.symm
def jM (ns:List Int)(y:Int):Nat:=low (λb:Int=>decide (b < y)) ns
def iY (ns:List Int)(y:Int):Bool:=ns.any (· == y)
theorem aBE {bs:List Int}(h:xL bs){y:Int}{j:Nat}(h1:jM bs y<=j)(h2:j < bs.length):y<=bs.getD j 0:=by
 have hl:jM bs y < bs.length:=by omega
 have h3:=wB (λb:Int=>decide (b < y)) 0 bs hl;have h4:¬ bs.getD (jM bs y) 0 < y:=of_decide_eq_false h3;by_cases he:jM bs y=j
 ·rw[he]at h4;omega
 ·have:=h (jM bs y) j (by omega) h2;omega
theorem zR {bs:List Int}(h:xL bs)(y:Int):iY bs y=(decide (jM bs y < bs.length)&&(bs.getD (jM bs y) 0 == y)):=by
 by_cases hl:jM bs y < bs.length
 ·rw[dt hl,iJ];by_cases he:bs.getD (jM bs y) 0=y
  ·rw[beq_iff_eq.2 he];exact eN.2 ⟨_,eG 0 hl,beq_iff_eq.2 he⟩
  ·rw[beq_eq_false_iff_ne.2 he];refine gX.2 λhh=>?_
   obtain⟨b,hb,hy⟩:=eN.1 hh;obtain⟨j,hj,rfl⟩:=dL.1 hb;have hy:bs.getD j 0=y:=by rw[fT 0 hj];simpa using hy
   have hge:=aBE h (y:=y) (j:=jM bs y) (aK _) hl;rcases gC j (jM bs y)with h1 | h1 | h1
   ·have:=mF (λb:Int=>decide (b < y)) 0 bs j h1;have:bs.getD j 0 < y:=by simpa using this
    omega
   ·rw[<-h1]at he;exact he hy
   ·have:=h _ _ h1 hj;omega
 ·rw[df hl,jI];refine gX.2 λhh=>?_
  obtain⟨b,hb,hy⟩:=eN.1 hh;obtain⟨j,hj,rfl⟩:=dL.1 hb;have hle:=lF (λb:Int=>decide (b < y)) bs;have:=mF (λb:Int=>decide (b < y)) 0 bs j (by show j < jM bs y;omega);have h5:bs.getD j 0 < y:=by simpa using this
  rw[fT 0 hj]at h5;have:bs[j]=y:=by simpa using hy
  omega
theorem aJT (x:Int):(x != x)=false:=by simp
theorem aMy:Sat prog cxT 108 (aKv λ_=>some false):=aVk _ λx t h=>by
 cases h;exact⟨0,by show some (x != x)=_;rw[aJT]⟩
theorem aMz:Sat prog cxT 107 (aKw λx=>some (decide (x.1 < x.2))):=aVl _ aKL _ λx t h=>by
 cases h;exact⟨0,rfl⟩
theorem aIR (a b:Int):decide (mG a b < 0)=decide (a < b):=decide_eq_decide.2 aA0
theorem aSg (L:Nat)(a:List Int)(y:Int)(M:Int->Option Bool):∀ (n:Nat) (lo hi:Int) (k:Int->Option (Int×Bool)),wX (λx=>some (decide (x.1 < x.2))) M L a y n lo hi k=bsL a.length (λj=>some (mG (a.getD j 0) y)) n lo hi k
 | 0,_,_,_=>rfl
 | n+1,lo,hi,k=>by unfold wX bsL;simp only[aSg L a y M n,bT,aIR]
def m92 (x:List Int×Int):Option (Int×Bool):=if xL x.1/\x.1.length<=iU then some ((jM x.1 x.2:Int),iY x.1 x.2)else none
theorem aPU:Sat prog cxT 92 (c92 m92):=s92 _ _ aMz aMy m92 λx t h=>by
 obtain⟨bs,y⟩:=x;unfold m92 at h;split at h
 ·rename_i hc;obtain⟨hr,hb⟩:=hc;cases h;simp only at hr hb;have hb':bs.length<=1000000000000:=hb;have hle:jM bs y<=bs.length:=lF _ bs;refine⟨bs.length+1,?_⟩;show g92 _ _ _ bs y=some ((jM bs y:Int),iY bs y);unfold g92;rw[aSg];refine(aA1 bs.length _ (λj=>mG (bs.getD j 0) y) (by omega) (λ_ _=>rfl) (jM bs y) (λj hj=>?_) (λj h1 h2=>aEh.2 (aBE hr h1 h2)) _ (bs.length+1) 0 bs.length (by omega) hle (aK _) (by omega)).trans ?_
  ·have:=mF (λb:Int=>decide (b < y)) 0 bs j hj;exact aA0.2 (by simpa using this)
  ·rw[zR hr];by_cases hl:jM bs y < bs.length
   ·rw[dt (show(jM bs y:Int) < (bs.length:Int)by omega),dt (show(0:Int)<=(jM bs y:Int)by omega),dt hl,bO,cond_true,cond_true,aV,iJ];cases he:(bs.getD (jM bs y) 0 == y)
    ·rw[bT,cond_false];rfl
    ·rfl
   ·rw[df (show ¬ (jM bs y:Int) < (bs.length:Int)by omega),df hl,cond_false,jI]
 ·cases h
def ixN (y:Int):List Int->Option Nat
 | []=>none
 | x::r=>if y=x then some 0 else(ixN y r).map (·+1)
theorem aRl (L:Nat)(a:List Int)(y:Int)(ha:a.length<=iU):∀ (n i:Nat),i<=a.length->a.length < n+i->qX L a y n i (some (-1))=some (match ixN y (a.drop i)with | some j=>((i+j:Nat):Int) | none=>-1)
 | 0,i,h2,h3=>by omega
 | n+1,i,h2,h3=>by
  unfold qX;unfold iU at ha;by_cases hi:i < a.length
  ·rw[dt (show(i:Int) < (a.length:Int)by omega),dt (show(0:Int)<=(i:Int)by omega),bO,cond_true,cond_true,aV,dE hi,fT 0 hi];by_cases he:y=a[i]
   ·rw[beq_iff_eq.2 he,cond_true];simp[ixN,he]
   ·rw[beq_eq_false_iff_ne.2 he,cond_false,wi (by omega) (by omega),show((i:Int)+1)=((i+1:Nat):Int)by omega,aRl L a y ha n (i+1) (by omega) (by omega)];simp only[ixN,if_neg he];cases ixN y (a.drop (i+1))with
    | none=>rfl
    | some j=>simp only[aD];congr 2;omega
  ·rw[df (show ¬ (i:Int) < (a.length:Int)by omega),cond_false,cM (by omega)]
   rfl
theorem aF4 (y:Int):∀ ns:List Int,(ixN y ns).isSome=iY ns y
 | []=>rfl
 | x::r=>by
  unfold ixN iY;rw[mM];by_cases h:y=x
  ·rw[if_pos h,beq_iff_eq.2 h.symm];rfl
  ·rw[if_neg h,beq_eq_false_iff_ne.2 (λhh=>h hh.symm),pU,Option.isSome_map];exact aF4 y r
def nG (x:List Int×Int):Option Int:=if x.1.length<=iU then some (match ixN x.2 x.1 with | some j=>(j:Int) | none=>-1)else none
theorem aMB:Sat prog cxT 103 (aKy nG):=aVn nG λx t h=>by
 obtain⟨ns,y⟩:=x;unfold nG at h;split at h
 ·rename_i hc;cases h;refine⟨ns.length+1,?_⟩;show qX _ ns y _ 0 _=_;refine(aRl _ ns y hc (ns.length+1) 0 (by omega) (by omega)).trans ?_;simp only[gH,cX]
 ·cases h
def m87 (x:List Int×Int):Option Bool:=if x.1.length<=iU then some (iY x.1 x.2)else none
theorem aPX:Sat prog cxT 87 (c87 m87):=s87 nG aMB m87 λx t h=>by
 obtain⟨ns,y⟩:=x;unfold m87 at h;split at h
 ·rename_i hc;cases h;refine⟨0,?_⟩;show g87 nG 0 ns y=_;unfold g87;rw[show nG (ns,y)=some (match ixN y ns with | some j=>(j:Int) | none=>-1) from if_pos hc,bT,<-aF4];cases h:ixN y ns with
  | none=>rfl
  | some j=>simp
 ·cases h
end Go.Proofs.Tryz
