/- A part of the proof of FnExactReplyOf: LnPe, LnPg. -/
import Derived.Test.YtchokegffjaihaaLnPc
set_option linter.unusedSimpArgs false
set_option linter.unusedVariables false
set_option maxHeartbeats 0
namespace Go.Proofs.Try
open Go Go.VM Go.RowKit
theorem aJM:Sat prog cxT 81 (c81 λx=>some (nJ x.1.1 x.2)):=s81 _ aGh _ λx t h=>by
 obtain⟨⟨a,b,c,d,e⟩,y⟩:=x;cases h;exact⟨0,rfl⟩
def low {α:Type}(p:α->Bool):List α->Nat
 | []=>0
 | x::r=>if p x then low p r+1 else 0
theorem aBS {α:Type}(p:α->Bool):∀ l,low p l<=l.length
 | []=>aU _
 | x::r=>by
  have:=aBS p r;unfold low;split<;>simp only[dJ]<;>omega
theorem zW {α:Type}(p:α->Bool)(d:α):∀ (l:List α) (j:Nat),j < low p l->p (l.getD j d)=true
 | [],j,h=>by simp[low]at h
 | x::r,j,h=>by
  unfold low at h;split at h
  ·rename_i hx;cases j with
   | zero=>simpa using hx
   | succ j=>simpa using zW p d r j (by omega)
  ·omega
theorem aEu {α:Type}(p:α->Bool)(d:α):∀ (l:List α),low p l < l.length->p (l.getD (low p l) d)=false
 | [],h=>by simp at h
 | x::r,h=>by
  unfold low at h ⊢;split at h
  ·rename_i hx;rw[if_pos hx];simpa using aEu p d r (by simpa using h)
  ·rename_i hx;rw[if_neg hx];simpa using hx
theorem aLp (L:Nat)(a:List Bk)(y:Int)(u:Unit):∀ (n:Nat) (lo hi:Int) (k:Int->Option (Int×Bool)),rR (λx=>some (nJ x.1.1 x.2)) L a y u n lo hi k=bsL a.length (λj=>some (nJ (a.getD j kM).1 y)) n lo hi k
 | 0,_,_,_=>rfl
 | n+1,lo,hi,k=>by unfold rR bsL;simp only[aLp L a y u n];rfl
def rO (bs:List Bk)(y:Int):Nat:=low (λb:Bk=>decide (b.1 < y)) bs
instance (bs:List Bk):Decidable (ris bs):=by
 have:ris bs↔∀ j,j < bs.length->∀ i,i < j->(bs.getD i kM).1 < (bs.getD j kM).1:=⟨λh j hj i hi=>h i j hi hj,λh i j hi hj=>h j hj i hi⟩
 exact decidable_of_iff _ this.symm
theorem aAW {bs:List Bk}(h:ris bs){y:Int}{j:Nat}(h1:rO bs y<=j)(h2:j < bs.length):y<=(bs.getD j kM).1:=by
 have hl:rO bs y < bs.length:=by omega
 have h3:=aEu (λb:Bk=>decide (b.1 < y)) kM bs hl;have h4:¬ (bs.getD (rO bs y) kM).1 < y:=of_decide_eq_false h3;by_cases he:rO bs y=j
 ·rw[he]at h4;omega
 ·have:=h (rO bs y) j (by omega) h2;omega
theorem aFu {bs:List Bk}(h:ris bs)(y:Int):qM bs y=(decide (rO bs y < bs.length)&&((bs.getD (rO bs y) kM).1 == y)):=by
 by_cases hl:rO bs y < bs.length
 ·rw[dt hl,mW];by_cases he:(bs.getD (rO bs y) kM).1=y
  ·rw[beq_iff_eq.2 he];exact jO.2 ⟨_,iI kM hl,beq_iff_eq.2 he⟩
  ·rw[beq_eq_false_iff_ne.2 he];refine lY.2 λhh=>?_
   obtain⟨b,hb,hy⟩:=jO.1 hh;obtain⟨j,hj,rfl⟩:=gU.1 hb;have hy:(bs.getD j kM).1=y:=by rw[kR kM hj];simpa using hy
   have hge:=aAW h (y:=y) (j:=rO bs y) (aU _) hl;rcases gS j (rO bs y)with h1 | h1 | h1
   ·have:=zW (λb:Bk=>decide (b.1 < y)) kM bs j h1;have:(bs.getD j kM).1 < y:=by simpa using this
    omega
   ·rw[<-h1]at he;exact he hy
   ·have:=h _ _ h1 hj;omega
 ·rw[df hl,pF];refine lY.2 λhh=>?_
  obtain⟨b,hb,hy⟩:=jO.1 hh;obtain⟨j,hj,rfl⟩:=gU.1 hb;have hle:=aBS (λb:Bk=>decide (b.1 < y)) bs;have:=zW (λb:Bk=>decide (b.1 < y)) kM bs j (by show j < rO bs y;omega);have h5:(bs.getD j kM).1 < y:=by simpa using this
  rw[kR kM hj]at h5;have:bs[j].1=y:=by simpa using hy
  omega
def wQ (x:List Bk×Int×Unit):Option (Int×Bool):=if ris x.1/\x.1.length<=mA then some ((rO x.1 x.2.1:Int),qM x.1 x.2.1)else none
theorem aJN:Sat prog cxT 80 (c80 wQ):=s80 _ aJM wQ λx t h=>by
 obtain⟨bs,y,u⟩:=x;unfold wQ at h;split at h
 ·rename_i hc;obtain⟨hr,hb⟩:=hc;cases h;simp only at hr hb;have hb':bs.length<=1000000000000:=hb;have hle:rO bs y<=bs.length:=aBS _ bs;refine⟨bs.length+1,?_⟩;show g80 _ _ bs y u=some ((rO bs y:Int),qM bs y);unfold g80;rw[aLp];refine(aCl bs.length _ (λj=>nJ (bs.getD j kM).1 y) (by omega) (λ_ _=>rfl) (rO bs y) (λj hj=>?_) (λj h1 h2=>aEU.2 (aAW hr h1 h2)) _ (bs.length+1) 0 bs.length (by omega) hle (aU _) (by omega)).trans ?_
  ·have:=zW (λb:Bk=>decide (b.1 < y)) kM bs j hj;exact aEV.2 (by simpa using this)
  ·rw[aFu hr];by_cases hl:rO bs y < bs.length
   ·rw[dt (show(rO bs y:Int) < (bs.length:Int)by omega),dt (show(0:Int)<=(rO bs y:Int)by omega),dt hl,cB,cond_true,cond_true,bX,bR,mW];show some ((rO bs y:Int),nJ (bs.getD (rO bs y) kM).1 y == 0)=_;by_cases he:(bs.getD (rO bs y) kM).1=y
    ·rw[beq_iff_eq.2 he,beq_iff_eq.2 (yZ.2 he)]
    ·rw[beq_eq_false_iff_ne.2 he,beq_eq_false_iff_ne.2 (λh=>he (yZ.1 h))]
   ·rw[df (show ¬ (rO bs y:Int) < (bs.length:Int)by omega),df hl,cond_false,pF]
 ·cases h
def gZ (x:List Bk×Int):Option (Int×Bool):=if ris x.1/\x.1.length<=mA then some ((rO x.1 x.2:Int),qM x.1 x.2)else none
theorem aJY:Sat prog cxT 67 (c67 gZ):=s67 wQ aJN gZ λx t h=>by
 obtain⟨bs,y⟩:=x;unfold gZ at h;split at h
 ·rename_i hc;cases h;refine⟨0,?_⟩;show g67 wQ 0 bs y=_;unfold g67;rw[show wQ (bs,y,PUnit.unit)=some ((rO bs y:Int),qM bs y) from if_pos hc,bX]
 ·cases h
def orI:List Int->Int
 | []=>0
 | x::r=>if x=0 then orI r else x
theorem p65 (L:Nat)(a:List Int)(ha:a.length<=mA):∀ (n i:Nat),i<=a.length->a.length < n+i->uM L a n i (some 0)=some (orI (a.drop i))
 | 0,i,h2,h3=>by omega
 | n+1,i,h2,h3=>by
  unfold uM;unfold mA at ha;by_cases hi:i < a.length
  ·rw[bR];simp(disch:=omega) only[dt,wi,cond_true,cB];rw[lT 0 hi];unfold orI;by_cases h0:a.getD i 0=0
   ·rw[xR h0,cond_false,if_pos h0];exact p65 L a ha n (i+1) (by omega) (by omega)
   ·rw[xQ h0,cond_true,if_neg h0]
  ·simp(disch:=omega) only[df,cond_false];rw[cP (by omega)];rfl
def yQ (a:List Int):Option Int:=if a.length<=mA then some (orI a)else none
theorem aJZ:Sat prog cxT 65 (c65 yQ):=s65 yQ λx t h=>by
 unfold yQ at h;split at h
 ·rename_i hc;cases h;exact⟨x.length+1,p65 _ x hc _ 0 (by omega) (by omega)⟩
 ·cases h
def aDG (a b:Vp):Int:=orI [nJ a.1 b.1,nJ a.2.1 b.2.1,nJ a.2.2.1 b.2.2.1]
theorem aKi:Sat prog cxT 41 (c41 λx=>some (aDG x.1 x.2)):=s41 _ yQ aGh aJZ _ λx t h=>by
 obtain⟨⟨a,b,c,d⟩,a',b',c',d'⟩:=x;cases h;exact⟨0,rfl⟩
theorem aC4 {a b:Vp}:aDG a b<=0↔beh b a=false:=by
 have key:aDG a b<=0↔¬ beh b a=true:=by
  unfold aDG orI orI orI orI beh nJ;by_cases h1:b.1=a.1
  ·rw[if_pos h1];by_cases h2:b.2.1=a.2.1
   ·rw[if_pos h2];simp only[h1,h2,Int.lt_irrefl,if_false,if_true,decide_eq_true_eq];split<;>(try split)<;>(try split)<;>omega
   ·rw[if_neg h2];simp only[h1,Int.lt_irrefl,if_false,if_true,decide_eq_true_eq];by_cases h3:a.2.1 < b.2.1
    ·simp only[h3,if_true];simp;omega
    ·have h4:b.2.1 < a.2.1:=by omega
     simp only[h3,h4,if_false,if_true];simp
  ·rw[if_neg h1];simp only[decide_eq_true_eq];by_cases h3:a.1 < b.1
   ·simp only[h3,if_true];simp;omega
   ·have h4:b.1 < a.1:=by omega
    simp only[h3,h4,if_false,if_true];simp
 rw[key];simp
theorem aGq (bs:List Bk)(hr:ris bs)(hb:bs.length<=mA)(L:Nat)(ns:List Int)(hn:ns.length<=mA)(k:Option Int):∀ (n i:Nat),i<=ns.length->ns.length < n+i->uP gZ L ns bs n i k=if kK (knN bs ns) (ns.length-i) i=0 then k else some 4
 | 0,i,h2,h3=>by omega
 | n+1,i,h2,h3=>by
  unfold uP;have hn':ns.length<=1000000000000:=hn;by_cases hi:i < ns.length
  ·rw[bR];simp(disch:=omega) only[dt,wi,cond_true,cB];rw[jB hi,show gZ (bs,ns.getD i 0)=some ((rO bs (ns.getD i 0):Int),qM bs (ns.getD i 0)) from if_pos ⟨hr,hb⟩,bX];unfold knN;by_cases hh:qM bs (ns.getD i 0)=true
   ·simp only[hh,if_true,dX,cond_false];exact aGq bs hr hb L ns hn k n (i+1) (by omega) (by omega)
   ·simp only[show qM bs (ns.getD i 0)=false by simpa using hh,bU,if_false,iX,cond_true]
    rfl
  ·simp(disch:=omega) only[df,cond_false];rw[jC hi,if_pos rfl]
theorem aGp (bs:List Bk)(L:Nat)(ns:List Int)(hn:ns.length<=mA)(k:Option Int):∀ (n i:Nat),i<=ns.length->ns.length < n+i->qK gZ L ns bs n i k=if kK (rsN ns) (ns.length-i) i=0 then k else some 1
 | 0,i,h2,h3=>by omega
 | n+1,i,h2,h3=>by
  unfold qK;have hn':ns.length<=1000000000000:=hn;by_cases hi:i < ns.length
  ·rw[dt (show(i:Int) < (ns.length:Int)by omega),dt (show(0:Int)<=(i:Int)by omega),cB,cond_true,cond_true,jB hi,wi (x:=(i:Int)+1) (by omega) (by omega)];have ih:=aGp bs L ns hn k n (i+1) (by omega) (by omega);by_cases h0:0 < i
   ·rw[dt (show(i:Int) > 0 by omega),cond_true,wi (by omega) (by omega),dt (show(0:Int)<=(i:Int)-1 by omega),dt (show(i:Int)-1 < (ns.length:Int)by omega),cB,cond_true,iN h0,bR];by_cases hh:ns.getD i 0<=ns.getD (i-1) 0
    ·have e:rsN ns i=1:=if_pos ⟨h0,hh⟩;rw[dt hh,cond_true,e];rfl
    ·have e:rsN ns i=0:=if_neg λh=>hh h.2
     rw[df hh,cond_false,if_pos e];exact ih
   ·have e:rsN ns i=0:=if_neg λh=>h0 h.1
    rw[df (show ¬ (i:Int) > 0 by omega),cond_false,if_pos e];exact ih
  ·simp(disch:=omega) only[df,cond_false];rw[jC hi,if_pos rfl]
def gP (x:List Int×List Bk):Option Int:=if ris x.2/\x.2.length<=mA/\x.1.length<=mA then some (nF x.2 x.1)else none
theorem aKh:Sat prog cxT 42 (c42 gP):=s42 gZ aJY gP λx t h=>by
 obtain⟨ns,bs⟩:=x;unfold gP at h;split at h
 ·rename_i hc;obtain⟨hr,hb,hn⟩:=hc;cases h;refine⟨ns.length+1,?_⟩;show g42 gZ _ ns bs=some (nF bs ns);unfold g42;refine(aGq bs hr hb _ ns hn _ _ 0 (by omega) (by omega)).trans ?_;rw[gK];unfold nF;by_cases h:kK (knN bs ns) ns.length 0=0
  ·rw[if_pos h,if_pos h];refine(aGp bs _ ns hn _ _ 0 (by omega) (by omega)).trans ?_;rw[gK];rcases aCw ns with h2 | h2
   ·rw[if_pos h2,h2]
   ·rw[if_neg (by rw[h2];decide),h2]
  ·rw[if_neg h,if_neg h]
 ·cases h
abbrev vB:Bk->Option Bool:=λb=>some (aAE b)
abbrev vV:Vp->Option Bool:=λv=>some (aAL v)
abbrev vW:Vp×Vp->Option Int:=λx=>some (aDG x.1 x.2)
theorem aGu (M50:Int->Option Bool)(L:Nat)(a:Int)(bs:List Bk)(vs:List Vp)(v:Int)(ws:List Vp)(hb:bs.length<=mA)(k:Int->List Bk->List Vp->Option Int) :
  ∀ (n i:Nat),i<=bs.length->bs.length < n+i->rV M50 vB vV vW gP L a bs vs n v bs ws i k=if kK (bF bs) (bs.length-i) i=0 then k v bs ws else some (kK (bF bs) (bs.length-i) i)
 | 0,i,h2,h3=>by omega
 | n+1,i,h2,h3=>by
  unfold rV;have hn':bs.length<=1000000000000:=hb;by_cases hi:i < bs.length
  ·rw[dt (show(i:Int) < (bs.length:Int)by omega),dt (show(0:Int)<=(i:Int)by omega),cB,cond_true,cond_true,bX,bR,jB hi,wi (x:=(i:Int)+1) (by omega) (by omega)];have ih:=aGu M50 L a bs vs v ws hb k n (i+1) (by omega) (by omega);by_cases hok:aAE (bs.getD i kM)=true
   ·refine(congrArg (λb=>bif !b then _ else _) hok).trans ?_;simp only[dX,cond_false];by_cases h0:0 < i
    ·rw[dt (show(i:Int) > 0 by omega),cond_true,wi (by omega) (by omega),dt (show(0:Int)<=(i:Int)-1 by omega),dt (show(i:Int)-1 < (bs.length:Int)by omega),cB,cond_true,iN h0];by_cases hh:(bs.getD i kM).1<=(bs.getD (i-1) kM).1
     ·have e:bF bs i=1:=by unfold bF;rw[if_pos hok,if_pos ⟨h0,hh⟩]
      rw[dt (c:=(List.getD bs i (0,0,0,0,false)).1<=(List.getD bs (i-1) (0,0,0,0,false)).1) hh,cond_true,e];rfl
     ·have e:bF bs i=0:=by unfold bF;rw[if_pos hok,if_neg (λh=>hh h.2)]
      rw[df (c:=(List.getD bs i (0,0,0,0,false)).1<=(List.getD bs (i-1) (0,0,0,0,false)).1) hh,cond_false,if_pos e];exact ih
    ·have e:bF bs i=0:=by unfold bF;rw[if_pos hok,if_neg (λh=>h0 h.1)]
     rw[df (show ¬ (i:Int) > 0 by omega),cond_false,if_pos e];exact ih
   ·have e:bF bs i=3:=by unfold bF;rw[if_neg hok]
    refine(congrArg (λb=>bif !b then _ else _) (show aAE (bs.getD i kM)=false by simpa using hok)).trans ?_;rw[e];rfl
  ·rw[df (show ¬ (i:Int) < (bs.length:Int)by omega),cond_false,jC hi,if_pos rfl]
theorem aGt (M50:Int->Option Bool)(M51:Bk->Option Bool)(L:Nat)(a:Int)(as0:List Bk)(us:List Vp)(v:Int)(bs:List Bk)(vs:List Vp)(hr:ris bs)(hok:okC (v,bs,vs))(k:Option Int) :
  ∀ (n i:Nat),i<=vs.length->vs.length < n+i->pC M50 M51 vV vW gP L a as0 us n v bs vs vs (vs.length:Int) i k=if kK (vF bs vs) (vs.length-i) i=0 then k else some (kK (vF bs vs) (vs.length-i) i)
 | 0,i,h2,h3=>by omega
 | n+1,i,h2,h3=>by
  unfold pC;have hn':vs.length<=1000000000000:=hok.2.1;by_cases hi:i < vs.length
  ·rw[dt (show(i:Int) < (vs.length:Int)by omega),dt (show(0:Int)<=(i:Int)by omega),cB,cond_true,cond_true,bX,bR,jB hi,wi (x:=(i:Int)+1) (by omega) (by omega)];have ih:=aGt M50 M51 L a as0 us v bs vs hr hok k n (i+1) (by omega) (by omega);have en:gP ((vs.getD i mP).2.2.2,bs)=some (nF bs (vs.getD i mP).2.2.2):=if_pos ⟨hr,hok.1,hok.2.2 _ (iI mP hi)⟩;have tail:∀ (e:vF bs vs i=nF bs (vs.getD i mP).2.2.2),(cV (gP ((vs.getD i mP).2.2.2,bs)) 0 λq=>bif q != 0 then some q else pC M50 M51 vV vW gP L a as0 us n v bs vs vs (vs.length:Int) ((i:Int)+1) k)=if vF bs vs i=0 then(if kK (vF bs vs) (vs.length-(i+1)) (i+1)=0 then k else some (kK (vF bs vs) (vs.length-(i+1)) (i+1)))else some (vF bs vs i):=λe=>by
    rw[en,bX,<-e];by_cases h:vF bs vs i=0
    ·rw[xR h,cond_false,if_pos h];exact ih
    ·rw[xQ h,cond_true,if_neg h]
   have fin:∀ X:Option Int,X=(if vF bs vs i=0 then(if kK (vF bs vs) (vs.length-(i+1)) (i+1)=0 then k else some (kK (vF bs vs) (vs.length-(i+1)) (i+1)))else some (vF bs vs i))->X=if(if vF bs vs i=0 then kK (vF bs vs) (vs.length-(i+1)) (i+1)else vF bs vs i)=0 then k else some (if vF bs vs i=0 then kK (vF bs vs) (vs.length-(i+1)) (i+1)else vF bs vs i):=λX hX=>by
    rw[hX];by_cases h:vF bs vs i=0
    ·simp only[h,if_true]
    ·simp only[h,if_false]
   refine fin _ ?_;by_cases hk:aAL (vs.getD i mP)=true
   ·refine(congrArg (λb=>bif !b then _ else _) hk).trans ?_;simp only[dX,cond_false];by_cases h0:0 < i
    ·rw[dt (show(i:Int) > 0 by omega),cond_true,wi (by omega) (by omega),dt (show(0:Int)<=(i:Int)-1 by omega),dt (show(i:Int)-1 < (vs.length:Int)by omega),cB,cond_true,iN h0,bX];by_cases hh:aDG (vs.getD i mP) (vs.getD (i-1) mP)<=0
     ·have e:vF bs vs i=1:=by unfold vF;rw[if_pos hk,if_pos ⟨h0,aC4.1 hh⟩]
      refine(congrArg (λb=>bif b then _ else _) (dt hh)).trans ?_;rw[e];rfl
     ·have e:vF bs vs i=nF bs (vs.getD i mP).2.2.2:=by unfold vF;rw[if_pos hk,if_neg (λh=>hh (aC4.2 h.2))]
      refine(congrArg (λb=>bif b then _ else _) (df hh)).trans ?_;exact tail e
    ·have e:vF bs vs i=nF bs (vs.getD i mP).2.2.2:=by unfold vF;rw[if_pos hk,if_neg (λh=>h0 h.1)]
     rw[df (show ¬ (i:Int) > 0 by omega),cond_false];exact tail e
   ·have e:vF bs vs i=3:=by unfold vF;rw[if_neg hk]
    refine(congrArg (λb=>bif !b then _ else _) (show aAL (vs.getD i mP)=false by simpa using hk)).trans ?_;rw[e];rfl
  ·rw[df (show ¬ (i:Int) < (vs.length:Int)by omega),cond_false,jC hi,if_pos rfl]
theorem aKw:Sat prog cxT 21 (c21 mCF):=s21 _ _ _ _ gP aKl aKk aKj aKi aKh mCF λx t h=>by
 obtain⟨a,b,c⟩:=x;unfold mCF at h;split at h
 ·rename_i hc;cases h;refine⟨b.length+c.length+1,?_⟩;show g21 _ _ _ _ gP _ a b c=some (cF (a,b,c));unfold g21 cF;simp only[bX];cases hv:aDS a
  ·simp
  ·simp only[dX,cond_false,if_true];by_cases h8:8 < b.length
   ·rw[dt (show(b.length:Int) > 8 by omega),cond_true,if_pos (.inl h8)]
   ·rw[df (show ¬ (b.length:Int) > 8 by omega),cond_false];by_cases h4:4 < c.length
    ·rw[dt (show(c.length:Int) > 4 by omega),cond_true,if_pos (.inr h4)]
    ·rw[df (show ¬ (c.length:Int) > 4 by omega),cond_false,if_neg (by omega)];refine(aGu _ _ a b c a c hc.1 _ _ 0 (by omega) (by omega)).trans ?_;rw[gK];by_cases e:kK (bF b) b.length 0=0
     ·rw[if_pos e,if_pos e];refine(aGt _ _ _ a b c a b c (aHf λj hj=>vE.1 e j (fB _) (by omega)) hc _ _ 0 (by omega) (by omega)).trans ?_;rw[gK];split
      ·rename_i e2;rw[e2]
      ·rfl
     ·rw[if_neg e,if_neg e]
 ·cases h
end Go.Proofs.Try
set_option maxHeartbeats 0
namespace Go.Proofs.Try
open Go Go.VM Go.RowKit
end Go.Proofs.Try
