/- A part of the proof of FnExactSameMachines: LnPa, LnPb. -/
import Derived.Test.YtchokegffjaihaaVmPl
import Derived.Test.YtchokegffjaihaaLnFa
import Derived.Test.YtchokegffjaihaaLnFb
import Derived.Test.YtchokegffjaihaaLnFd
set_option linter.unusedSimpArgs false
set_option linter.unusedVariables false
set_option maxHeartbeats 0
namespace Go.Proofs.Try
open Go.IntKind (wrap)
open Go Go.VM Go.RowKit
def xS (x:Int):Bool:=decide (0<=x/\x<=65535)
theorem aGP:Sat prog cxT 79 (c79 λ_=>some false):=s79 _ λx t h=>by
 cases h;refine⟨0,?_⟩;unfold g79;simp
theorem aGV:Sat prog cxT 66 (c66 λx=>some (uP x.1 x.2)):=s66 _ aGP _ λx t h=>by
 obtain⟨a,b⟩:=x;cases h;refine⟨0,?_⟩;show g66 (λ_=>some false) 0 a b=some (uP a b);unfold g66 uP;simp only[bX,cond_false];by_cases h1:a < b
 ·rw[dt h1,if_pos h1];rfl
 ·rw[df h1,if_neg h1,cond_false];by_cases h2:b < a
  ·rw[dt (show a > b from h2),if_pos h2];rfl
  ·rw[df (show ¬ a > b from h2),if_neg h2];rfl
abbrev Cg:=Int×List Bk×List Vp
def vJ:Nat:=1000000000000
def top:Nat:=9223372036854775807
def wV (v:Vp):Int:=(v.2.2.2.length:Int)
def wC (c:Cg):Int:=(c.2.1.length:Int)+(c.2.2.length:Int)+iE wV c.2.2
def okC (c:Cg):Prop:=c.2.1.length<=vJ/\c.2.2.length<=vJ/\∀ v∈c.2.2,v.2.2.2.length<=vJ
instance (c:Cg):Decidable (okC c):=by unfold okC;infer_instance
def okZ (c:Cg):Prop:=c.2.1.length<=top/\c.2.2.length<=top/\∀ v∈c.2.2,v.2.2.2.length<=top
instance (c:Cg):Decidable (okZ c):=by unfold okZ;infer_instance
theorem jJ (v:Vp):0<=wV v:=by unfold wV;omega
theorem aAC {v:Int}{n:Nat}(h0:0<=v)(h1:v<=1048576)(hn:n<=top):(bif decide (wrap .i64 (v-(n:Int)) < 0)then some (-1)else some (wrap .i64 (v-(n:Int))))=some (iB v n):=by
 unfold top at hn;rw[wi (by omega) (by omega)];unfold iB;by_cases h:v-(n:Int) < 0
 ·rw[dt h,if_pos h];rfl
 ·rw[df h,if_neg h];rfl
def uY (x:List Int×Int):Option Int:=if 0<=x.2/\x.2<=1048576/\x.1.length<=top then some (iB x.2 x.1.length)else none
theorem aGR:Sat prog cxT 71 (c71 uY):=s71 uY λx t h=>by
 obtain⟨a,v⟩:=x;unfold uY at h;split at h
 ·rename_i hc;cases h;exact⟨0,aAC hc.1 hc.2.1 hc.2.2⟩
 ·cases h
def kB (x:Vp×Int):Option Int:=if 0<=x.2/\x.2<=1048576/\x.1.2.2.2.length<=top then some (iB x.2 (wV x.1))else none
theorem aGZ:Sat prog cxT 53 (c53 kB):=s53 uY aGR kB λx t h=>by
 obtain⟨⟨a,b,c,d⟩,v⟩:=x;unfold kB at h;split at h
 ·rename_i hc;cases h;refine⟨0,?_⟩;show g53 uY 0 a b c d v=_;unfold g53;rw[show uY (d,v)=some (iB v d.length) from if_pos hc,bX];show _=some (iB v (d.length:Int));by_cases h:iB v (d.length:Int) < 0
  ·rw[dt h];unfold iB at h ⊢;split at h
   ·rename_i h2;rw[if_pos h2];rfl
   ·omega
  ·rw[df h];rfl
 ·cases h
def vE (x:List Bk×Int):Option Int:=if 0<=x.2/\x.2<=1048576/\x.1.length<=top then some (iB x.2 x.1.length)else none
theorem aHc:Sat prog cxT 31 (c31 vE):=s31 vE λx t h=>by
 obtain⟨a,v⟩:=x;unfold vE at h;split at h
 ·rename_i hc;cases h;exact⟨0,aAC hc.1 hc.2.1 hc.2.2⟩
 ·cases h
def dVp:Vp:=(0,0,0,[])
def dBk:Bk:=(0,0,0,0,false)
theorem aH7 (L:Nat)(a:List Vp)(v0:Int):∀ (n:Nat) (v i:Int) (k:Int->Option Int),tE kB L a v0 n v i k=szL dVp kB a n v i k
 | 0,_,_,_=>rfl
 | n+1,v,i,k=>by
  unfold tE szL;simp only[aH7 L a v0 n]
  rfl
def vD (x:List Vp×Int):Option Int:=if 0<=x.2/\x.2<=1048576/\x.1.length<=top/\∀ v∈x.1,v.2.2.2.length<=top then some (iB x.2 ((x.1.length:Int)+iE wV x.1))else none
theorem aHb:Sat prog cxT 32 (c32 vD):=s32 kB aGZ vD λx t h=>by
 obtain⟨a,v⟩:=x;unfold vD at h;split at h
 ·rename_i hc;obtain⟨h0,h1,h2,h3⟩:=hc;cases h;simp only at h0 h1 h2 h3;have h2':a.length<=9223372036854775807:=h2;refine⟨a.length+1,?_⟩;show g32 kB (a.length+1) a v=some (iB v ((a.length:Int)+iE wV a));unfold g32;rw[wi (by omega) (by omega)];have hs:0<=iE wV a:=fZ λx _=>jJ x
  by_cases hn:v-(a.length:Int) < 0
  ·rw[dt hn,cond_true];unfold iB;rw[if_pos (by omega)]
  ·rw[df hn,cond_false,aH7];refine(aCF dVp kB a wV 1048576 (by omega) (λx _=>jJ x) (λx hx v h0 h1=>if_pos ⟨h0,h1,h3 x hx⟩) _ (a.length+1) 0 (v-a.length) (by omega) (by omega) (by omega) (by omega)).trans ?_;rw[cU];unfold iB;have e:v-((a.length:Int)+iE wV a)=v-(a.length:Int)-iE wV a:=by omega
   rw[e];split<;>rfl
 ·cases h
theorem aBm {v a b:Int}(ha:0<=a)(hb:0<=b)(hv:0<=v):iB v (a+b)=if iB v a < 0 then -1 else iB (iB v a) b:=by
 unfold iB;by_cases h:v-a < 0
 ·rw[if_pos h,if_pos (by omega),if_pos (by omega)]
 ·rw[if_neg h,if_neg h,show v-(a+b)=v-a-b by omega]
theorem kN {v a:Int}(ha:0<=a)(hv:0<=v):-1<=iB v a/\iB v a<=v:=by unfold iB;split<;>omega
def vI (x:Cg×Int):Option Int:=if 0<=x.2/\x.2<=1048576/\okZ x.1 then some (iB x.2 (wC x.1))else none
theorem aHl:Sat prog cxT 16 (c16 vI):=s16 vE vD aHc aHb vI λx t h=>by
 obtain⟨⟨a,b,c⟩,v⟩:=x;unfold vI at h;split at h
 ·rename_i hc;obtain⟨h0,h1,h2,h3,h4⟩:=hc;cases h;simp only at h0 h1 h2 h3 h4;refine⟨0,?_⟩;show g16 vE vD 0 a b c v=some (iB v ((b.length:Int)+(c.length:Int)+iE wV c));unfold g16;have hs:0<=iE wV c:=fZ λx _=>jJ x
  have hr:=kN (v:=v) (a:=(b.length:Int)) (by omega) h0;rw[show vE (b,v)=some (iB v b.length) from if_pos ⟨h0,h1,h2⟩,bX,Int.add_assoc,aBm (by omega) (by omega) h0];by_cases hn:iB v (b.length:Int) < 0
  ·rw[dt hn,if_pos hn];rfl
  ·rw[df hn,if_neg hn,cond_false];rw[show vD (c,iB v b.length)=some (iB (iB v b.length) ((c.length:Int)+iE wV c)) from if_pos ⟨by omega,by simp only;omega,h3,h4⟩,bX];have hr2:=kN (v:=iB v (b.length:Int)) (a:=(c.length:Int)+iE wV c) (by omega) (by omega);by_cases hn2:iB (iB v (b.length:Int)) ((c.length:Int)+iE wV c) < 0
   ·rw[dt hn2,cond_true];congr 1;omega
   ·rw[df hn2];rfl
 ·cases h
theorem aCA {c:Cg}(h:0<=iB 1048576 (wC c)):c.2.1.length<=1048576/\c.2.2.length<=1048576/\∀ x∈c.2.2,x.2.2.2.length<=1048576:=by
 unfold iB at h;have hs:0<=iE wV c.2.2:=fZ λx _=>jJ x
 unfold wC at h;split at h
 ·omega
 ·refine⟨by omega,by omega,λx hx=>?_⟩;have:=zH (w:=wV) (l:=c.2.2) (λx _=>jJ x) x hx;unfold wV at this hs h;omega
end Go.Proofs.Try
set_option maxHeartbeats 0
namespace Go.Proofs.Try
open Go.IntKind (wrap)
open Go Go.VM Go.RowKit
def oY:Nat:=1000000000
theorem aHY (L:Nat)(a:List Int):∀ (n:Nat) (o:List Int) (i:Int) (k:List Int->Option (List Int)),sU L a n o i k=toL 0 (λx=>some x) a n o i k
 | 0,_,_,_=>rfl
 | n+1,o,i,k=>by unfold sU toL;simp only[aHY L a n,bX]
theorem rV {n:Nat}(h:n<=oY):((decide ((0:Int)<=(n:Int))&&decide ((n:Int)<=(n:Int)))&&decide ((n:Int)<=(1000000000:Int)))=true:=by
 unfold oY at h;rw[dt (by omega),dt (Int.le_refl _),dt (by omega)];rfl
def uX (a:List Int):Option (List Int):=if a.length<=oY then some a else none
theorem aGQ:Sat prog cxT 78 (c78 uX):=s78 uX λx t h=>by
 unfold uX at h;split at h
 ·rename_i ha;cases h;refine⟨x.length+1,?_⟩;unfold g78;rw[rV ha,cond_true,aHY,dR];unfold oY at ha;exact sF 0 _ x (by omega) (λ_ _=>rfl) _ _ 0 _ (by simp) (by omega) (by omega) rfl
 ·cases h
def kL (v:Vp):Option Vp:=if v.2.2.2.length<=oY then some v else none
theorem aGX:Sat prog cxT 58 (c58 kL):=s58 uX aGQ kL λx t h=>by
 obtain⟨a,b,c,d⟩:=x;unfold kL at h;split at h
 ·rename_i ha;cases h;refine⟨0,?_⟩;show g58 uX 0 a b c d=_;unfold g58;rw[show uX d=some d from if_pos ha,bX]
 ·cases h
theorem aH5 (L:Nat)(a:List Vp):∀ (n:Nat) (o:List Vp) (i:Int) (k:List Vp->Option (List Vp)),tC kL L a n o i k=toL dVp kL a n o i k
 | 0,_,_,_=>rfl
 | n+1,o,i,k=>by unfold tC toL;simp only[aH5 L a n];rfl
def vB (a:List Vp):Option (List Vp):=if a.length<=oY/\∀ v∈a,v.2.2.2.length<=oY then some a else none
theorem aG9:Sat prog cxT 36 (c36 vB):=s36 kL aGX vB λx t h=>by
 unfold vB at h;split at h
 ·rename_i ha;cases h;refine⟨x.length+1,?_⟩;unfold g36;rw[rV ha.1,cond_true,aH5,dR];have:=ha.1;unfold oY at this;exact sF dVp kL x (by omega) (λv hv=>if_pos (ha.2 v hv)) _ _ 0 _ (by simp) (by omega) (by omega) rfl
 ·cases h
theorem aGY:Sat prog cxT 57 (c57 λb=>some b):=s57 _ λx t h=>by
 obtain⟨a,b,c,d,e⟩:=x;cases h;exact⟨0,rfl⟩
theorem aH6 (L:Nat)(a:List Bk):∀ (n:Nat) (o:List Bk) (i:Int) (k:List Bk->Option (List Bk)),tD (λb=>some b) L a n o i k=toL dBk (λb=>some b) a n o i k
 | 0,_,_,_=>rfl
 | n+1,o,i,k=>by unfold tD toL;simp only[aH6 L a n];rfl
def vC (a:List Bk):Option (List Bk):=if a.length<=oY then some a else none
theorem aHa:Sat prog cxT 35 (c35 vC):=s35 _ aGY vC λx t h=>by
 unfold vC at h;split at h
 ·rename_i ha;cases h;refine⟨x.length+1,?_⟩;unfold g35;rw[rV ha,cond_true,aH6,dR];unfold oY at ha;exact sF dBk _ x (by omega) (λv hv=>rfl) _ _ 0 _ (by simp) (by omega) (by omega) rfl
 ·cases h
def okM (c:Cg):Prop:=c.2.1.length<=oY/\c.2.2.length<=oY/\∀ v∈c.2.2,v.2.2.2.length<=oY
instance (c:Cg):Decidable (okM c):=by unfold okM;infer_instance
def vG (c:Cg):Option Cg:=if okM c then some c else none
theorem aHj:Sat prog cxT 19 (c19 vG):=s19 vC vB aHa aG9 vG λx t h=>by
 obtain⟨a,b,c⟩:=x;unfold vG at h;split at h
 ·rename_i ha;cases h;refine⟨0,?_⟩;show g19 vC vB 0 a b c=_;unfold g19;rw[show vC b=some b from if_pos ha.1,bX,show vB c=some c from if_pos ha.2,bX]
 ·cases h
theorem gL {α:Type}[DecidableEq α][BEq α][LawfulBEq α]{a b:α}{o:Option Bool}{p:Prop}[Decidable p](h:a=b->o=some (decide p))(h2:¬ a=b->¬ p):(bif a != b then some false else o)=some (decide p):=by
 by_cases e:a=b
 ·rw[aDI e,cond_false,h e]
 ·rw[aDH e,cond_true,df (h2 e)]
theorem aHX (L:Nat)(a b:List Int):∀ (n:Nat) (i:Int) (k:Option Bool),sS L a b n i k=pM 0 (λx=>some (decide (x.1=x.2))) a b n i k
 | 0,_,_=>rfl
 | n+1,i,k=>by
  unfold sS pM;simp only[aHX L a b n,bX];congr 2
def mD (x:List Int×List Int):Option Bool:=if x.1.length<=vJ then some (decide (x.1=x.2))else none
theorem aGO:Sat prog cxT 82 (c82 mD):=s82 mD λx t h=>by
 obtain⟨a,b⟩:=x;unfold mD at h;split at h
 ·rename_i hc;cases h;have hc:a.length<=1000000000000:=hc;refine⟨a.length+1,?_⟩;show g82 (a.length+1) a b=some (decide (a=b));unfold g82;refine gL (λe=>?_) λe h=>e (by rw[h])
  rw[aHX];refine(kE 0 _ a b (by omega) (by omega) (λ_ _ _ _=>rfl) _ _ 0 (by omega) (by omega)).trans ?_;simp only[cU];split<;>rename_i hh<;>simp[hh]
 ·cases h
def iO (x:Vp×Vp):Option Bool:=if x.1.2.2.2.length<=vJ then some (decide (x.1=x.2))else none
theorem aIQ {b:Bool}:(bif !b then some false else some true)=some b:=by cases b<;>rfl
theorem aGT:Sat prog cxT 69 (c69 iO):=s69 mD aGO iO λx t h=>by
 obtain⟨⟨a,b,c,d⟩,a',b',c',d'⟩:=x;unfold iO at h;split at h
 ·rename_i hc;cases h;refine⟨0,?_⟩;show g69 mD 0 a b c d a' b' c' d'=some (decide ((a,b,c,d)=(a',b',c',d')));unfold g69;rw[show mD (d,d')=some (decide (d=d')) from if_pos hc,bX];refine gL (λe1=>gL (λe2=>gL (λe3=>?_) ?_) ?_) ?_
  ·rw[aIQ];simp[e1,e2,e3]
  ·intro e h;simp at h;exact e h.2.2.1
  ·intro e h;simp at h;exact e h.2.1
  ·intro e h;simp at h;exact e h.1
 ·cases h
theorem aH3 (L:Nat)(a b:List Vp):∀ (n:Nat) (i:Int) (k:Option Bool),tA iO L a b n i k=pM dVp iO a b n i k
 | 0,_,_=>rfl
 | n+1,i,k=>by unfold tA pM;simp only[aH3 L a b n];rfl
def vA (x:List Vp×List Vp):Option Bool:=if x.1.length<=vJ/\∀ v∈x.1,v.2.2.2.length<=vJ then some (decide (x.1=x.2))else none
theorem aG5:Sat prog cxT 47 (c47 vA):=s47 iO aGT vA λx t h=>by
 obtain⟨a,b⟩:=x;unfold vA at h;split at h
 ·rename_i hc;cases h;have hc1:a.length<=1000000000000:=hc.1;refine⟨a.length+1,?_⟩;show g47 iO (a.length+1) a b=some (decide (a=b));unfold g47;refine gL (λe=>?_) λe h=>e (by rw[h])
  rw[aH3];refine(kE dVp _ a b (by omega) (by omega) (λx hx y _=>if_pos (hc.2 x hx)) _ _ 0 (by omega) (by omega)).trans ?_;simp only[cU];split<;>rename_i hh<;>simp[hh]
 ·cases h
theorem aGU:Sat prog cxT 68 (c68 λx=>some (decide (x.1=x.2))):=s68 _ λx t h=>by
 obtain⟨⟨a,b,c,d,e⟩,a',b',c',d',e'⟩:=x;cases h;refine⟨0,?_⟩;show g68 0 a b c d e a' b' c' d' e'=some (decide ((a,b,c,d,e)=(a',b',c',d',e')));unfold g68;refine gL (λe1=>gL (λe2=>gL (λe3=>gL (λe4=>?_) ?_) ?_) ?_) ?_
 ·rw[aIQ];subst e1;subst e2;subst e3;subst e4;cases e<;>cases e'<;>simp
 ·intro e h;simp at h;exact e h.2.2.2.1
 ·intro e h;simp at h;exact e h.2.2.1
 ·intro e h;simp at h;exact e h.2.1
 ·intro e h;simp at h;exact e h.1
theorem aH4 (L:Nat)(a b:List Bk):∀ (n:Nat) (i:Int) (k:Option Bool),tB (λx=>some (decide (x.1=x.2))) L a b n i k=pM dBk (λx=>some (decide (x.1=x.2))) a b n i k
 | 0,_,_=>rfl
 | n+1,i,k=>by unfold tB pM;simp only[aH4 L a b n];rfl
def pK (x:List Bk×List Bk):Option Bool:=if x.1.length<=vJ then some (decide (x.1=x.2))else none
theorem aG6:Sat prog cxT 46 (c46 pK):=s46 _ aGU pK λx t h=>by
 obtain⟨a,b⟩:=x;unfold pK at h;split at h
 ·rename_i hc;cases h;have hc1:a.length<=1000000000000:=hc;refine⟨a.length+1,?_⟩;show g46 _ (a.length+1) a b=some (decide (a=b));unfold g46;refine gL (λe=>?_) λe h=>e (by rw[h])
  rw[aH4];refine(kE dBk _ a b (by omega) (by omega) (λx hx y _=>rfl) _ _ 0 (by omega) (by omega)).trans ?_;simp only[cU];split<;>rename_i hh<;>simp[hh]
 ·cases h
instance decBk:DecidableEq Bk:=inferInstance
instance decVp:DecidableEq Vp:=inferInstance
instance decLs:DecidableEq (List Bk×List Vp):=@instDecidableEqProd _ _ (@instDecidableEqList _ decBk) (@instDecidableEqList _ decVp)
instance decCg:DecidableEq Cg:=@instDecidableEqProd _ _ inferInstance decLs
def nL (x:Cg×Cg):Option Bool:=if okC x.1 then some (decide (x.1=x.2))else none
theorem aHh:Sat prog cxT 23 (c23 nL):=s23 pK vA aG6 aG5 nL λx t h=>by
 obtain⟨⟨a,b,c⟩,a',b',c'⟩:=x;unfold nL at h;split at h
 ·rename_i hc;cases h;refine⟨0,?_⟩;show g23 pK vA 0 a b c a' b' c'=some (decide ((a,b,c)=(a',b',c')));unfold g23;rw[show pK (b,b')=some (decide (b=b')) from if_pos hc.1,bX,show vA (c,c')=some (decide (c=c')) from if_pos hc.2,bX];refine gL (λe1=>?_) ?_
  ·subst e1;by_cases e2:b=b'<;>by_cases e3:c=c'<;>simp[e2,e3]
  ·intro e h;simp at h;exact e h.1
 ·cases h
end Go.Proofs.Try
