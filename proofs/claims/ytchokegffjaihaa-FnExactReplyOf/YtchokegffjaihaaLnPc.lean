/- A part of the proof of FnExactReplyOf: LnPc, LnPd. -/
import Derived.Test.YtchokegffjaihaaLnPa
set_option linter.unusedSimpArgs false
set_option linter.unusedVariables false
set_option maxHeartbeats 0
namespace Go.Proofs.Try
open Go Go.VM Go.RowKit
def aAE (b:Bk):Bool:=aBQ b.1&&tF b.2.1&&aBz b.2.2.1&&aD1 b.2.2.2.1
def aAL (v:Vp):Bool:=tF v.1&&oV v.2.1&&aDs v.2.2.1
def beh (a b:Vp):Bool:=if a.1=b.1 then(if a.2.1=b.2.1 then decide (a.2.2.1 < b.2.2.1)else decide (a.2.1 < b.2.1))else decide (a.1 < b.1)
def qM (bs:List Bk)(y:Int):Bool:=bs.any λb=>b.1 == y
def rsN (ns:List Int)(i:Nat):Int:=if 0 < i/\ns.getD i 0<=ns.getD (i-1) 0 then 1 else 0
def knN (bs:List Bk)(ns:List Int)(i:Nat):Int:=if qM bs (ns.getD i 0)then 0 else 4
def nF (bs:List Bk)(ns:List Int):Int:=if kK (knN bs ns) ns.length 0=0 then kK (rsN ns) ns.length 0 else 4
def bF (bs:List Bk)(i:Nat):Int:=if aAE (bs.getD i kM)then(if 0 < i/\(bs.getD i kM).1<=(bs.getD (i-1) kM).1 then 1 else 0)else 3
def vF (bs:List Bk)(vs:List Vp)(i:Nat):Int:=if aAL (vs.getD i mP)then(if 0 < i/\beh (vs.getD (i-1) mP) (vs.getD i mP)=false then 1 else nF bs (vs.getD i mP).2.2.2)else 3
def cF (c:Cg):Int:=if aDS c.1 then(if 8 < c.2.1.length\/4 < c.2.2.length then 2 else if kK (bF c.2.1) c.2.1.length 0=0 then kK (vF c.2.1 c.2.2) c.2.2.length 0 else kK (bF c.2.1) c.2.1.length 0)else 3
def ris (bs:List Bk):Prop:=∀ i j,i < j->j < bs.length->(bs.getD i kM).1 < (bs.getD j kM).1
theorem aHf {bs:List Bk}(h:∀ j,j < bs.length->bF bs j=0):ris bs:=by
 have step:∀ j,0 < j->j < bs.length->(bs.getD (j-1) kM).1 < (bs.getD j kM).1:=λj h0 hj=>by
  have:=h j hj;unfold bF at this;split at this
  ·split at this
   ·exact absurd this (by decide)
   ·rename_i h2;have:¬ (bs.getD j kM).1<=(bs.getD (j-1) kM).1:=λh3=>h2 ⟨h0,h3⟩;omega
  ·exact absurd this (by decide)
 intro i j hij
 induction j with
 | zero=>omega
 | succ j ih=>
  intro hj;have h1:=step (j+1) (by omega) hj;simp only[fG]at h1;by_cases h2:i=j
  ·rw[h2];exact h1
  ·have:=ih (by omega) (by omega);omega
theorem aJ8:Sat prog cxT 55 (c55 λb=>some (aAE b)):=s55 _ _ _ aJU aGg xX _ λx t h=>by
 obtain⟨a,b,c,d,e⟩:=x;cases h;refine⟨0,?_⟩;show g55 _ _ _ 0 a b c d e=some (aBQ a&&tF b&&aBz c&&aD1 d);unfold g55;simp only[bX];cases aBQ a<;>cases tF b<;>simp only[cond_true,cond_false,pF,mW];show(bif aBz c then some (aD1 d)else some false)=_;cases aBz c<;>rfl
theorem aKk:Sat prog cxT 39 (c39 λb=>some (aAE b)):=s39 _ _ _ _ aJ4 aGi aJ3 aJ2 _ λx t h=>by
 obtain⟨a,b,c,d,e⟩:=x;cases h;refine⟨0,?_⟩;show g39 _ _ _ _ 0 a b c d e=some (aBQ a&&tF b&&aBz c&&aD1 d);unfold g39;simp only[bX];cases aBQ a<;>cases tF b<;>cases aBz c<;>rfl
theorem aKj:Sat prog cxT 40 (c40 λv=>some (aAL v)):=s40 _ _ _ aGi aJ1 aJ0 _ λx t h=>by
 obtain⟨a,b,c,d⟩:=x;cases h;refine⟨0,?_⟩;show g40 _ _ _ 0 a b c d=some (tF a&&oV b&&aDs c);unfold g40;simp only[bX];cases tF a<;>cases oV b<;>rfl
theorem aJR:Sat prog cxT 76 (c76 λx=>some (beh x.1 x.2)):=s76 _ λx t h=>by
 obtain⟨⟨a,b,c,d⟩,a',b',c',d'⟩:=x;cases h;refine⟨0,?_⟩;show g76 0 a b c d a' b' c' d'=some (if a=a' then(if b=b' then decide (c < c')else decide (b < b'))else decide (a < a'));unfold g76;by_cases h1:a=a'
 ·rw[xR h1,cond_false,if_pos h1];by_cases h2:b=b'
  ·rw[xR h2,cond_false,if_pos h2]
  ·rw[xQ h2,cond_true,if_neg h2]
 ·rw[xQ h1,cond_true,if_neg h1]
def atB (bs:List Bk)(y:Int):Int:=idx (λb=>b.1 == y) bs 0
theorem p77 (L:Nat)(c:Cg)(y:Int)(hb:c.2.1.length<=mA)(k:Option Int):∀ (n i:Nat),i<=c.2.1.length->c.2.1.length < n+i->
  uL L c y n i k=if idx (λb=>b.1 == y) (c.2.1.drop i) i < 0 then k else some (idx (λb=>b.1 == y) (c.2.1.drop i) i)
 | 0,i,h2,h3=>by omega
 | n+1,i,h2,h3=>by
  unfold uL;have hb':c.2.1.length<=1000000000000:=hb;by_cases hi:i < c.2.1.length
  ·rw[bR];simp(disch:=omega) only[dt,wi,cond_true,cB];rw[lT kM hi,nQ];by_cases hy:(c.2.1.getD i kM).1=y
   ·rw[show((c.2.1.getD i kM).1 == y)=true from beq_iff_eq.2 hy,if_pos rfl,if_neg (by omega)];rw[show((List.getD c.2.1 i (0,0,0,0,false)).1 == y)=true from beq_iff_eq.2 hy];rfl
   ·simp only[show((c.2.1.getD i kM).1 == y)=false from beq_eq_false_iff_ne.2 hy,bU,if_false];rw[show((List.getD c.2.1 i (0,0,0,0,false)).1 == y)=false from beq_eq_false_iff_ne.2 hy,cond_false,show(i:Int)+1=((i+1:Nat):Int) from rfl];exact p77 L c y hb k n (i+1) (by omega) (by omega)
  ·simp(disch:=omega) only[df,cond_false];rw[cP (by omega)]
   rfl
theorem aA9 {α:Type}{p:α->Bool}:∀ (l:List α) (i:Nat),l.any p=false->idx p l i=-1
 | [],_,_=>rfl
 | x::r,i,h=>by
  simp only[mV,Bool.or_eq_false_iff]at h;rw[nQ,h.1];simp only[bU,if_false];exact aA9 r _ h.2
def gN (x:Cg×Int):Option Int:=if x.1.2.1.length<=mA then some (atB x.1.2.1 x.2)else none
theorem aJQ:Sat prog cxT 77 (c77 gN):=s77 gN λx t h=>by
 obtain⟨c,y⟩:=x;unfold gN at h;split at h
 ·rename_i hc;cases h;refine⟨c.2.1.length+1,?_⟩;show g77 (c.2.1.length+1) c y=some (atB c.2.1 y);unfold g77;refine(p77 _ c y hc _ (c.2.1.length+1) 0 (by omega) (by omega)).trans ?_;rw[dU];unfold atB;split
  ·rename_i h2;rw[aA9 c.2.1 0 (tN.1 h2)]
  ·rfl
 ·cases h
end Go.Proofs.Try
set_option maxHeartbeats 0
namespace Go.Proofs.Try
open Go Go.VM Go.RowKit
theorem iN {i:Nat}(h:0 < i):((i:Int)-1).toNat=i-1:=by omega
theorem jB {f:Nat->Int}{m i:Nat}(h:i < m):kK f (m-i) i=if f i=0 then kK f (m-(i+1)) (i+1)else f i:=by
 rw[show m-i=(m-(i+1))+1 by omega,lQ]
theorem jC {f:Nat->Int}{m i:Nat}(h:¬ i < m):kK f (m-i) i=0:=by
 rw[show m-i=0 by omega];rfl
theorem aFU {bs:List Bk}{y:Int}:decide (atB bs y < 0)=!qM bs y:=by
 by_cases h:qM bs y=true
 ·rw[h];obtain⟨j,h1,_⟩:=zZ kM (l:=bs) (i:=0) h;exact df (by unfold atB;rw[h1];omega)
 ·have h':qM bs y=false:=by simpa using h
  rw[h'];exact dt (tN.2 h')
theorem aGo (M60 M95 M62:Int->Option Bool)(M113:Vp×Vp->Option Bool)(L:Nat)(c:Cg)(b1:Int)(x y z:Int)(ns:List Int)(hb:c.2.1.length<=mA)(hn:ns.length<=mA)(k:Int->Int->Int->List Int->Option Int) :
  ∀ (n i:Nat),i<=ns.length->ns.length < n+i->qJ M60 M95 M62 M113 gN L c b1 n x y z ns i k=if kK (knN c.2.1 ns) (ns.length-i) i=0 then k x y z ns else some 4
 | 0,i,h2,h3=>by omega
 | n+1,i,h2,h3=>by
  unfold qJ;have hn':ns.length<=1000000000000:=hn;by_cases hi:i < ns.length
  ·rw[bR];simp(disch:=omega) only[dt,wi,cond_true,cB];rw[jB hi,show gN (c,ns.getD i 0)=some (atB c.2.1 (ns.getD i 0)) from if_pos hb,bX];simp only[aFU];unfold knN;by_cases hh:qM c.2.1 (ns.getD i 0)=true
   ·simp only[hh,if_true,dX,cond_false];exact aGo M60 M95 M62 M113 L c b1 x y z ns hb hn k n (i+1) (by omega) (by omega)
   ·simp only[show qM c.2.1 (ns.getD i 0)=false by simpa using hh,bU,if_false,iX,cond_true]
    rfl
  ·simp(disch:=omega) only[df,cond_false];rw[jC hi,if_pos rfl]
theorem aGn (M60 M95 M62:Int->Option Bool)(M113:Vp×Vp->Option Bool)(M64:Cg×Int->Option Int)(L:Nat)(c:Cg)(b1:Int)(x y z:Int)(ns:List Int)(hn:ns.length<=mA)(k:Option Int) :
  ∀ (n i:Nat),0 < i->(i<=ns.length+1)->ns.length+1 < n+i->pB M60 M95 M62 M113 M64 L c b1 n x y z ns i k=if kK (rsN ns) (ns.length-i) i=0 then k else some 1
 | 0,i,h2,h1,h3=>by omega
 | n+1,i,h2,h1,h3=>by
  unfold pB;have hn':ns.length<=1000000000000:=hn;by_cases hi:i < ns.length
  ·simp(disch:=omega) only[dt,wi,cond_true,cB];rw[iN h2,bR,jB hi];unfold rsN;by_cases hh:ns.getD i 0<=ns.getD (i-1) 0
   ·rw[dt hh,cond_true,if_pos (show 0 < i/\ns.getD i 0<=ns.getD (i-1) 0 from⟨h2,hh⟩)];rfl
   ·rw[df hh,cond_false,if_neg (show ¬ (0 < i/\ns.getD i 0<=ns.getD (i-1) 0) from λh=>hh h.2),if_pos rfl];exact aGn M60 M95 M62 M113 M64 L c b1 x y z ns hn k n (i+1) (by omega) (by omega) (by omega)
  ·have e:¬ (i:Int) < (ns.length:Int):=by omega
   simp only[df e,cond_false];rw[jC hi,if_pos rfl]
def hJ (x:Cg×Int):Option Int:=if okC x.1/\0<=x.2/\x.2 < (x.1.2.2.length:Int)then some (vF x.1.2.1 x.1.2.2 x.2.toNat)else none
theorem aD7 (ns:List Int):rsN ns 0=0:=by unfold rsN;rw[if_neg (by omega)]
theorem aD8 (ns:List Int):kK (rsN ns) (ns.length-1) 1=kK (rsN ns) ns.length 0:=by
 cases h:ns.length with
 | zero=>rfl
 | succ n=>rw[lQ,if_pos (aD7 ns)];rfl
theorem aCw (ns:List Int):kK (rsN ns) ns.length 0=0\/kK (rsN ns) ns.length 0=1:=by
 by_cases h:kK (rsN ns) ns.length 0=0
 ·exact .inl h
 ·obtain⟨j,_,_,hj⟩:=aCX h;refine .inr ?_;rw[<-hj]at h ⊢;unfold rsN at h ⊢;split
  ·rfl
  ·rename_i h2;rw[if_neg h2]at h;exact absurd rfl h
theorem aDX (L:Nat)(c:Cg)(b1:Int)(x y z:Int)(ns:List Int)(hb:c.2.1.length<=mA)(hn:ns.length<=mA)(hL:ns.length+1 < L)(M60 M95 M62:Int->Option Bool)(M113:Vp×Vp->Option Bool) :
  qJ M60 M95 M62 M113 gN L c b1 L x y z ns 0 (λu0 u1 u2 u3=>pB M60 M95 M62 M113 gN L c b1 L u0 u1 u2 u3 1 (some 0))=some (nF c.2.1 ns):=by
 refine(aGo M60 M95 M62 M113 L c b1 x y z ns hb hn _ L 0 (by omega) (by omega)).trans ?_;rw[gK];unfold nF;by_cases h:kK (knN c.2.1 ns) ns.length 0=0
 ·rw[if_pos h,if_pos h];refine(aGn M60 M95 M62 M113 gN L c b1 x y z ns hn _ L 1 (by omega) (by omega) (by omega)).trans ?_;rw[aD8];rcases aCw ns with h2 | h2
  ·rw[if_pos h2,h2]
  ·rw[if_neg (by rw[h2];decide),h2]
 ·rw[if_neg h,if_neg h]
theorem aJ7:Sat prog cxT 56 (c56 hJ):=s56 _ _ _ _ gN aGg aJT aJS aJR aJQ hJ λx t h=>by
 obtain⟨⟨a,b,c⟩,y⟩:=x;unfold hJ at h;split at h
 ·rename_i hc;obtain⟨⟨h1,h2,h3⟩,h4,h5⟩:=hc;cases h;simp only at h1 h2 h3 h4 h5;obtain⟨i,rfl⟩:=Int.eq_ofNat_of_zero_le h4;have hi:i < c.length:=by omega
  have h2':c.length<=1000000000000:=h2;refine⟨(c.getD i mP).2.2.2.length+2,?_⟩;have hns:=h3 _ (iI mP hi);show g56 _ _ _ _ gN _ (a,b,c) (i:Int)=some (vF b c (i:Int).toNat);unfold g56;simp only;rw[bR,dt h4,dt h5,cB,cond_true];simp only[bX];unfold vF;have hv:∀ o:Option Int,(bif !tF (c.getD i mP).1 then some 3 else bif !oV (c.getD i mP).2.1 then some 3 else bif !aDs (c.getD i mP).2.2.1 then some 3 else o)=if aAL (c.getD i mP)=true then o else some 3:=by
   intro o;unfold aAL;cases tF (c.getD i mP).1<;>cases oV (c.getD i mP).2.1<;>cases aDs (c.getD i mP).2.2.1<;>simp
  refine(hv _).trans ?_;by_cases hok:aAL (c.getD i mP)=true
  ·rw[if_pos hok,if_pos hok];by_cases h0:0 < i
   ·rw[dt (show(i:Int) > 0 by omega),cond_true,wi (by omega) (by omega),dt (show(0:Int)<=(i:Int)-1 by omega),dt (show(i:Int)-1 < (c.length:Int)by omega),cB,cond_true,iN h0];by_cases hbh:beh (c.getD (i-1) mP) (c.getD i mP)=false
    ·rw[if_pos ⟨h0,hbh⟩];show(bif !beh (c.getD (i-1) mP) (c.getD i mP)then _ else _)=_;rw[hbh];rfl
    ·rw[if_neg (λh=>hbh h.2)];show(bif !beh (c.getD (i-1) mP) (c.getD i mP)then _ else _)=_;rw[show beh (c.getD (i-1) mP) (c.getD i mP)=true by simpa using hbh];exact aDX _ (a,b,c) i _ _ _ _ h1 hns (by omega) _ _ _ _
   ·rw[df (show ¬ (i:Int) > 0 by omega),cond_false,if_neg (λh=>h0 h.1)];exact aDX _ (a,b,c) i _ _ _ _ h1 hns (by omega) _ _ _ _
  ·rw[if_neg hok,if_neg hok]
 ·cases h
theorem aGs (M58:Int->Option Bool)(M82:Cg×Int->Option Int)(L:Nat)(c:Cg)(hb:c.2.1.length<=mA)(k:Option Int) :
  ∀ (n i:Nat),i<=c.2.1.length->c.2.1.length < n+i->rT M58 (λb=>some (aAE b)) M82 L c n i k=if kK (bF c.2.1) (c.2.1.length-i) i=0 then k else some (kK (bF c.2.1) (c.2.1.length-i) i)
 | 0,i,h2,h3=>by omega
 | n+1,i,h2,h3=>by
  unfold rT;have hn':c.2.1.length<=1000000000000:=hb
  generalize hbs:c.2.1=bs at *
  by_cases hi:i < bs.length
  ·rw[dt (show(i:Int) < (bs.length:Int)by omega),dt (show(0:Int)<=(i:Int)by omega),cB,cond_true,cond_true,bX,bR,jB hi,wi (x:=(i:Int)+1) (by omega) (by omega)];have ih:=aGs M58 M82 L c (by rw[hbs];exact hb) k n (i+1) (by rw[hbs];omega) (by rw[hbs];omega);rw[hbs]at ih;by_cases hok:aAE (bs.getD i kM)=true
   ·refine(congrArg (λb=>bif !b then _ else _) hok).trans ?_;simp only[dX,cond_false];by_cases h0:0 < i
    ·rw[dt (show(i:Int) > 0 by omega),cond_true,wi (by omega) (by omega),dt (show(0:Int)<=(i:Int)-1 by omega),dt (show(i:Int)-1 < (bs.length:Int)by omega),cB,cond_true,iN h0];by_cases hh:(bs.getD i kM).1<=(bs.getD (i-1) kM).1
     ·have e:bF bs i=1:=by unfold bF;rw[if_pos hok,if_pos ⟨h0,hh⟩]
      rw[dt (c:=(List.getD bs i (0,0,0,0,false)).1<=(List.getD bs (i-1) (0,0,0,0,false)).1) hh,cond_true,e];rfl
     ·have e:bF bs i=0:=by unfold bF;rw[if_pos hok,if_neg (λh=>hh h.2)]
      rw[df (c:=(List.getD bs i (0,0,0,0,false)).1<=(List.getD bs (i-1) (0,0,0,0,false)).1) hh,cond_false,if_pos e];exact ih
    ·have e:bF bs i=0:=by unfold bF;rw[if_pos hok,if_neg (λh=>h0 h.1)]
     rw[df (show ¬ (i:Int) > 0 by omega),cond_false,if_pos e];exact ih
   ·have e:bF bs i=3:=by unfold bF;rw[if_neg hok]
    refine(congrArg (λb=>bif !b then _ else _) (show aAE (bs.getD i kM)=false by simpa using hok)).trans ?_;rw[e];rfl
  ·rw[df (show ¬ (i:Int) < (bs.length:Int)by omega),cond_false,jC hi,if_pos rfl]
theorem aGr (M58:Int->Option Bool)(M81:Bk->Option Bool)(L:Nat)(c:Cg)(hok:okC c)(k:Option Int) :
  ∀ (n i:Nat),i<=c.2.2.length->c.2.2.length < n+i->rS M58 M81 hJ L c n i k=if kK (vF c.2.1 c.2.2) (c.2.2.length-i) i=0 then k else some (kK (vF c.2.1 c.2.2) (c.2.2.length-i) i)
 | 0,i,h2,h3=>by omega
 | n+1,i,h2,h3=>by
  unfold rS;have hn':c.2.2.length<=1000000000000:=hok.2.1;by_cases hi:i < c.2.2.length
  ·rw[dt (show(i:Int) < (c.2.2.length:Int)by omega),cond_true,jB hi,wi (x:=(i:Int)+1) (by omega) (by omega)];rw[show hJ (c,(i:Int))=some (vF c.2.1 c.2.2 i) from if_pos ⟨hok,by simp only;omega,by simp only;omega⟩,bX];by_cases e:vF c.2.1 c.2.2 i=0
   ·rw[xR e,cond_false,if_pos e];exact aGr M58 M81 L c hok k n (i+1) (by omega) (by omega)
   ·rw[xQ e,cond_true,if_neg e,if_neg e]
  ·rw[df (show ¬ (i:Int) < (c.2.2.length:Int)by omega),cond_false,jC hi,if_pos rfl]
def lH (c:Cg):Option Int:=if okC c then some (cF c)else none
theorem aKp:Sat prog cxT 33 (c33 lH):=s33 _ _ hJ aJ9 aJ8 aJ7 lH λx t h=>by
 obtain⟨a,b,c⟩:=x;unfold lH at h;split at h
 ·rename_i hc;cases h;refine⟨b.length+c.length+1,?_⟩;show g33 _ _ hJ _ (a,b,c)=some (cF (a,b,c));unfold g33 cF;simp only[bX];cases hv:aDS a
  ·simp
  ·simp only[dX,cond_false,if_true];by_cases h8:8 < b.length
   ·rw[dt (show(b.length:Int) > 8 by omega),cond_true,if_pos (.inl h8)]
   ·rw[df (show ¬ (b.length:Int) > 8 by omega),cond_false];by_cases h4:4 < c.length
    ·rw[dt (show(c.length:Int) > 4 by omega),cond_true,if_pos (.inr h4)]
    ·rw[df (show ¬ (c.length:Int) > 4 by omega),cond_false,if_neg (by omega)];refine(aGs _ _ _ (a,b,c) hc.1 _ _ 0 (by omega) (by simp only;omega)).trans ?_;rw[gK];by_cases e:kK (bF b) b.length 0=0
     ·rw[if_pos e,if_pos e];refine(aGr _ _ _ (a,b,c) hc _ _ 0 (by omega) (by simp only;omega)).trans ?_;rw[gK];split
      ·rename_i e2;rw[e2]
      ·rfl
     ·rw[if_neg e,if_neg e]
 ·cases h
def mCF (c:Cg):Option Int:=if okC c then some (cF c)else none
end Go.Proofs.Try
