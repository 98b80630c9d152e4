/- A part of the proof of FnExactMachineFault: LnPe, LnPg. -/
import Derived.Test.YtchokegffjaihaaLnPc
set_option linter.unusedSimpArgs false
set_option linter.unusedVariables false
set_option maxHeartbeats 0
namespace Go.Proofs.Try
open Go Go.VM Go.RowKit
theorem aIW:Sat prog cxT 81 (c81 λx=>some (mW x.1.1 x.2)):=s81 _ aFD _ λx t h=>by
 obtain⟨⟨a,b,c,d,e⟩,y⟩:=x;cases h;exact⟨0,rfl⟩
def low {α:Type}(p:α->Bool):List α->Nat
 | []=>0
 | x::r=>if p x then low p r+1 else 0
theorem aBy {α:Type}(p:α->Bool):∀ l,low p l<=l.length
 | []=>aV _
 | x::r=>by
  have:=aBy p r;unfold low;split<;>simp only[dJ]<;>omega
theorem yZ {α:Type}(p:α->Bool)(d:α):∀ (l:List α) (j:Nat),j < low p l->p (l.getD j d)=true
 | [],j,h=>by simp[low]at h
 | x::r,j,h=>by
  unfold low at h;split at h
  ·rename_i hx;cases j with
   | zero=>simpa using hx
   | succ j=>simpa using yZ p d r j (by omega)
  ·omega
theorem aD2 {α:Type}(p:α->Bool)(d:α):∀ (l:List α),low p l < l.length->p (l.getD (low p l) d)=false
 | [],h=>by simp at h
 | x::r,h=>by
  unfold low at h ⊢;split at h
  ·rename_i hx;rw[if_pos hx];simpa using aD2 p d r (by simpa using h)
  ·rename_i hx;rw[if_neg hx];simpa using hx
theorem aKs (L:Nat)(a:List Bk)(y:Int)(u:Unit):∀ (n:Nat) (lo hi:Int) (k:Int->Option (Int×Bool)),rF (λx=>some (mW x.1.1 x.2)) L a y u n lo hi k=bsL a.length (λj=>some (mW (a.getD j kI).1 y)) n lo hi k
 | 0,_,_,_=>rfl
 | n+1,lo,hi,k=>by unfold rF bsL;simp only[aKs L a y u n];rfl
def rC (bs:List Bk)(y:Int):Nat:=low (λb:Bk=>decide (b.1 < y)) bs
instance (bs:List Bk):Decidable (ris bs):=by
 have:ris bs↔∀ j,j < bs.length->∀ i,i < j->(bs.getD i kI).1 < (bs.getD j kI).1:=⟨λh j hj i hi=>h i j hi hj,λh i j hi hj=>h j hj i hi⟩
 exact decidable_of_iff _ this.symm
theorem aAz {bs:List Bk}(h:ris bs){y:Int}{j:Nat}(h1:rC bs y<=j)(h2:j < bs.length):y<=(bs.getD j kI).1:=by
 have hl:rC bs y < bs.length:=by omega
 have h3:=aD2 (λb:Bk=>decide (b.1 < y)) kI bs hl;have h4:¬ (bs.getD (rC bs y) kI).1 < y:=of_decide_eq_false h3;by_cases he:rC bs y=j
 ·rw[he]at h4;omega
 ·have:=h (rC bs y) j (by omega) h2;omega
theorem aEU {bs:List Bk}(h:ris bs)(y:Int):qC bs y=(decide (rC bs y < bs.length)&&((bs.getD (rC bs y) kI).1 == y)):=by
 by_cases hl:rC bs y < bs.length
 ·rw[dt hl,mL];by_cases he:(bs.getD (rC bs y) kI).1=y
  ·rw[beq_iff_eq.2 he];exact jM.2 ⟨_,iY kI hl,beq_iff_eq.2 he⟩
  ·rw[beq_eq_false_iff_ne.2 he];refine Bool.eq_false_iff.2 λhh=>?_
   obtain⟨b,hb,hy⟩:=jM.1 hh;obtain⟨j,hj,rfl⟩:=List.mem_iff_getElem.1 hb;have hy:(bs.getD j kI).1=y:=by rw[sX kI hj];simpa using hy
   have hge:=aAz h (y:=y) (j:=rC bs y) (aV _) hl;rcases iQ j (rC bs y)with h1 | h1 | h1
   ·have:=yZ (λb:Bk=>decide (b.1 < y)) kI bs j h1;have:(bs.getD j kI).1 < y:=by simpa using this
    omega
   ·rw[<-h1]at he;exact he hy
   ·have:=h _ _ h1 hj;omega
 ·rw[df hl,oU];refine Bool.eq_false_iff.2 λhh=>?_
  obtain⟨b,hb,hy⟩:=jM.1 hh;obtain⟨j,hj,rfl⟩:=List.mem_iff_getElem.1 hb;have hle:=aBy (λb:Bk=>decide (b.1 < y)) bs;have:=yZ (λb:Bk=>decide (b.1 < y)) kI bs j (by show j < rC bs y;omega);have h5:(bs.getD j kI).1 < y:=by simpa using this
  rw[sX kI hj]at h5;have:bs[j].1=y:=by simpa using hy
  omega
def vY (x:List Bk×Int×Unit):Option (Int×Bool):=if ris x.1/\x.1.length<=nS then some ((rC x.1 x.2.1:Int),qC x.1 x.2.1)else none
theorem aIX:Sat prog cxT 80 (c80 vY):=s80 _ aIW vY λx t h=>by
 obtain⟨bs,y,u⟩:=x;unfold vY at h;split at h
 ·rename_i hc;obtain⟨hr,hb⟩:=hc;cases h;simp only at hr hb;have hb':bs.length<=1000000000000:=hb;have hle:rC bs y<=bs.length:=aBy _ bs;refine⟨bs.length+1,?_⟩;show g80 _ _ bs y u=some ((rC bs y:Int),qC bs y);unfold g80;rw[aKs];refine(aB1 bs.length _ (λj=>mW (bs.getD j kI).1 y) (by omega) (λ_ _=>rfl) (rC bs y) (λj hj=>?_) (λj h1 h2=>aEr.2 (aAz hr h1 h2)) _ (bs.length+1) 0 bs.length (by omega) hle (aV _) (by omega)).trans ?_
  ·have:=yZ (λb:Bk=>decide (b.1 < y)) kI bs j hj;exact aEs.2 (by simpa using this)
  ·rw[aEU hr];by_cases hl:rC bs y < bs.length
   ·rw[dt (show(rC bs y:Int) < (bs.length:Int)by omega),dt (show(0:Int)<=(rC bs y:Int)by omega),dt hl,cE,cond_true,cond_true,bY,bW,mL];show some ((rC bs y:Int),mW (bs.getD (rC bs y) kI).1 y == 0)=_;by_cases he:(bs.getD (rC bs y) kI).1=y
    ·rw[beq_iff_eq.2 he,beq_iff_eq.2 (yG.2 he)]
    ·rw[beq_eq_false_iff_ne.2 he,beq_eq_false_iff_ne.2 (λh=>he (yG.1 h))]
   ·rw[df (show ¬ (rC bs y:Int) < (bs.length:Int)by omega),df hl,cond_false,oU]
 ·cases h
def gX (x:List Bk×Int):Option (Int×Bool):=if ris x.1/\x.1.length<=nS then some ((rC x.1 x.2:Int),qC x.1 x.2)else none
theorem aI8:Sat prog cxT 67 (c67 gX):=s67 vY aIX gX λx t h=>by
 obtain⟨bs,y⟩:=x;unfold gX at h;split at h
 ·rename_i hc;cases h;refine⟨0,?_⟩;show g67 vY 0 bs y=_;unfold g67;rw[show vY (bs,y,PUnit.unit)=some ((rC bs y:Int),qC bs y) from if_pos hc,bY]
 ·cases h
def orI:List Int->Int
 | []=>0
 | x::r=>if x=0 then orI r else x
theorem p65 (L:Nat)(a:List Int)(ha:a.length<=nS):∀ (n i:Nat),i<=a.length->a.length < n+i->tX L a n i (some 0)=some (orI (a.drop i))
 | 0,i,h2,h3=>by omega
 | n+1,i,h2,h3=>by
  unfold tX;unfold nS at ha;by_cases hi:i < a.length
  ·rw[bW];simp(disch:=omega) only[dt,wi,cond_true,cE];rw[lO 0 hi];unfold orI;by_cases h0:a.getD i 0=0
   ·rw[aA7 h0,cond_false,if_pos h0];exact p65 L a ha n (i+1) (by omega) (by omega)
   ·rw[aA6 h0,cond_true,if_neg h0]
  ·simp(disch:=omega) only[df,cond_false];rw[cT (by omega)];rfl
def xX (a:List Int):Option Int:=if a.length<=nS then some (orI a)else none
theorem aI9:Sat prog cxT 65 (c65 xX):=s65 xX λx t h=>by
 unfold xX at h;split at h
 ·rename_i hc;cases h;exact⟨x.length+1,p65 _ x hc _ 0 (by omega) (by omega)⟩
 ·cases h
def aDk (a b:Vp):Int:=orI [mW a.1 b.1,mW a.2.1 b.2.1,mW a.2.2.1 b.2.2.1]
theorem aJs:Sat prog cxT 41 (c41 λx=>some (aDk x.1 x.2)):=s41 _ xX aFD aI9 _ λx t h=>by
 obtain⟨⟨a,b,c,d⟩,a',b',c',d'⟩:=x;cases h;exact⟨0,rfl⟩
theorem aCK {a b:Vp}:aDk a b<=0↔beh b a=false:=by
 have key:aDk a b<=0↔¬ beh b a=true:=by
  unfold aDk orI orI orI orI beh mW;by_cases h1:b.1=a.1
  ·rw[if_pos h1];by_cases h2:b.2.1=a.2.1
   ·rw[if_pos h2];simp only[h1,h2,Int.lt_irrefl,if_false,if_true,decide_eq_true_eq];split<;>(try split)<;>(try split)<;>omega
   ·rw[if_neg h2];simp only[h1,Int.lt_irrefl,if_false,if_true,decide_eq_true_eq];by_cases h3:a.2.1 < b.2.1
    ·simp only[h3,if_true];simp;omega
    ·have h4:b.2.1 < a.2.1:=by omega
     simp only[h3,h4,if_false,if_true];simp
  ·rw[if_neg h1];simp only[decide_eq_true_eq];by_cases h3:a.1 < b.1
   ·simp only[h3,if_true];simp;omega
   ·have h4:b.1 < a.1:=by omega
    simp only[h3,h4,if_false,if_true];simp
 rw[key];simp
theorem aFM (bs:List Bk)(hr:ris bs)(hb:bs.length<=nS)(L:Nat)(ns:List Int)(hn:ns.length<=nS)(k:Option Int):∀ (n i:Nat),i<=ns.length->ns.length < n+i->uA gX L ns bs n i k=if kH (knN bs ns) (ns.length-i) i=0 then k else some 4
 | 0,i,h2,h3=>by omega
 | n+1,i,h2,h3=>by
  unfold uA;have hn':ns.length<=1000000000000:=hn;by_cases hi:i < ns.length
  ·rw[bW];simp(disch:=omega) only[dt,wi,cond_true,cE];rw[iZ hi,show gX (bs,ns.getD i 0)=some ((rC bs (ns.getD i 0):Int),qC bs (ns.getD i 0)) from if_pos ⟨hr,hb⟩,bY];unfold knN;by_cases hh:qC bs (ns.getD i 0)=true
   ·simp only[hh,if_true,dV,cond_false];exact aFM bs hr hb L ns hn k n (i+1) (by omega) (by omega)
   ·simp only[show qC bs (ns.getD i 0)=false by simpa using hh,bT,if_false,iU,cond_true]
    rfl
  ·simp(disch:=omega) only[df,cond_false];rw[jA hi,if_pos rfl]
theorem aFL (bs:List Bk)(L:Nat)(ns:List Int)(hn:ns.length<=nS)(k:Option Int):∀ (n i:Nat),i<=ns.length->ns.length < n+i->pZ gX L ns bs n i k=if kH (rsN ns) (ns.length-i) i=0 then k else some 1
 | 0,i,h2,h3=>by omega
 | n+1,i,h2,h3=>by
  unfold pZ;have hn':ns.length<=1000000000000:=hn;by_cases hi:i < ns.length
  ·rw[dt (show(i:Int) < (ns.length:Int)by omega),dt (show(0:Int)<=(i:Int)by omega),cE,cond_true,cond_true,iZ hi,wi (x:=(i:Int)+1) (by omega) (by omega)];have ih:=aFL bs L ns hn k n (i+1) (by omega) (by omega);by_cases h0:0 < i
   ·rw[dt (show(i:Int) > 0 by omega),cond_true,wi (by omega) (by omega),dt (show(0:Int)<=(i:Int)-1 by omega),dt (show(i:Int)-1 < (ns.length:Int)by omega),cE,cond_true,iJ h0,bW];by_cases hh:ns.getD i 0<=ns.getD (i-1) 0
    ·have e:rsN ns i=1:=if_pos ⟨h0,hh⟩;rw[dt hh,cond_true,e];rfl
    ·have e:rsN ns i=0:=if_neg λh=>hh h.2
     rw[df hh,cond_false,if_pos e];exact ih
   ·have e:rsN ns i=0:=if_neg λh=>h0 h.1
    rw[df (show ¬ (i:Int) > 0 by omega),cond_false,if_pos e];exact ih
  ·simp(disch:=omega) only[df,cond_false];rw[jA hi,if_pos rfl]
def gP (x:List Int×List Bk):Option Int:=if ris x.2/\x.2.length<=nS/\x.1.length<=nS then some (nF x.2 x.1)else none
theorem aJr:Sat prog cxT 42 (c42 gP):=s42 gX aI8 gP λx t h=>by
 obtain⟨ns,bs⟩:=x;unfold gP at h;split at h
 ·rename_i hc;obtain⟨hr,hb,hn⟩:=hc;cases h;refine⟨ns.length+1,?_⟩;show g42 gX _ ns bs=some (nF bs ns);unfold g42;refine(aFM bs hr hb _ ns hn _ _ 0 (by omega) (by omega)).trans ?_;rw[gK];unfold nF;by_cases h:kH (knN bs ns) ns.length 0=0
  ·rw[if_pos h,if_pos h];refine(aFL bs _ ns hn _ _ 0 (by omega) (by omega)).trans ?_;rw[gK];rcases aCb ns with h2 | h2
   ·rw[if_pos h2,h2]
   ·rw[if_neg (by rw[h2];decide),h2]
  ·rw[if_neg h,if_neg h]
 ·cases h
abbrev vB:Bk->Option Bool:=λb=>some (aAh b)
abbrev vV:Vp->Option Bool:=λv=>some (aAo v)
abbrev vW:Vp×Vp->Option Int:=λx=>some (aDk x.1 x.2)
theorem aFQ (M50:Int->Option Bool)(L:Nat)(a:Int)(bs:List Bk)(vs:List Vp)(v:Int)(ws:List Vp)(hb:bs.length<=nS)(k:Int->List Bk->List Vp->Option Int) :
  ∀ (n i:Nat),i<=bs.length->bs.length < n+i->rI M50 vB vV vW gP L a bs vs n v bs ws i k=if kH (bF bs) (bs.length-i) i=0 then k v bs ws else some (kH (bF bs) (bs.length-i) i)
 | 0,i,h2,h3=>by omega
 | n+1,i,h2,h3=>by
  unfold rI;have hn':bs.length<=1000000000000:=hb;by_cases hi:i < bs.length
  ·rw[dt (show(i:Int) < (bs.length:Int)by omega),dt (show(0:Int)<=(i:Int)by omega),cE,cond_true,cond_true,bY,bW,iZ hi,wi (x:=(i:Int)+1) (by omega) (by omega)];have ih:=aFQ M50 L a bs vs v ws hb k n (i+1) (by omega) (by omega);by_cases hok:aAh (bs.getD i kI)=true
   ·refine(congrArg (λb=>bif !b then _ else _) hok).trans ?_;simp only[dV,cond_false];by_cases h0:0 < i
    ·rw[dt (show(i:Int) > 0 by omega),cond_true,wi (by omega) (by omega),dt (show(0:Int)<=(i:Int)-1 by omega),dt (show(i:Int)-1 < (bs.length:Int)by omega),cE,cond_true,iJ h0];by_cases hh:(bs.getD i kI).1<=(bs.getD (i-1) kI).1
     ·have e:bF bs i=1:=by unfold bF;rw[if_pos hok,if_pos ⟨h0,hh⟩]
      rw[dt (c:=(List.getD bs i (0,0,0,0,false)).1<=(List.getD bs (i-1) (0,0,0,0,false)).1) hh,cond_true,e];rfl
     ·have e:bF bs i=0:=by unfold bF;rw[if_pos hok,if_neg (λh=>hh h.2)]
      rw[df (c:=(List.getD bs i (0,0,0,0,false)).1<=(List.getD bs (i-1) (0,0,0,0,false)).1) hh,cond_false,if_pos e];exact ih
    ·have e:bF bs i=0:=by unfold bF;rw[if_pos hok,if_neg (λh=>h0 h.1)]
     rw[df (show ¬ (i:Int) > 0 by omega),cond_false,if_pos e];exact ih
   ·have e:bF bs i=3:=by unfold bF;rw[if_neg hok]
    refine(congrArg (λb=>bif !b then _ else _) (show aAh (bs.getD i kI)=false by simpa using hok)).trans ?_;rw[e];rfl
  ·rw[df (show ¬ (i:Int) < (bs.length:Int)by omega),cond_false,jA hi,if_pos rfl]
theorem aFP (M50:Int->Option Bool)(M51:Bk->Option Bool)(L:Nat)(a:Int)(as0:List Bk)(us:List Vp)(v:Int)(bs:List Bk)(vs:List Vp)(hr:ris bs)(hok:okC (v,bs,vs))(k:Option Int) :
  ∀ (n i:Nat),i<=vs.length->vs.length < n+i->oR M50 M51 vV vW gP L a as0 us n v bs vs vs (vs.length:Int) i k=if kH (vF bs vs) (vs.length-i) i=0 then k else some (kH (vF bs vs) (vs.length-i) i)
 | 0,i,h2,h3=>by omega
 | n+1,i,h2,h3=>by
  unfold oR;have hn':vs.length<=1000000000000:=hok.2.1;by_cases hi:i < vs.length
  ·rw[dt (show(i:Int) < (vs.length:Int)by omega),dt (show(0:Int)<=(i:Int)by omega),cE,cond_true,cond_true,bY,bW,iZ hi,wi (x:=(i:Int)+1) (by omega) (by omega)];have ih:=aFP M50 M51 L a as0 us v bs vs hr hok k n (i+1) (by omega) (by omega);have en:gP ((vs.getD i mG).2.2.2,bs)=some (nF bs (vs.getD i mG).2.2.2):=if_pos ⟨hr,hok.1,hok.2.2 _ (iY mG hi)⟩;have tail:∀ (e:vF bs vs i=nF bs (vs.getD i mG).2.2.2),(cU (gP ((vs.getD i mG).2.2.2,bs)) 0 λq=>bif q != 0 then some q else oR M50 M51 vV vW gP L a as0 us n v bs vs vs (vs.length:Int) ((i:Int)+1) k)=if vF bs vs i=0 then(if kH (vF bs vs) (vs.length-(i+1)) (i+1)=0 then k else some (kH (vF bs vs) (vs.length-(i+1)) (i+1)))else some (vF bs vs i):=λe=>by
    rw[en,bY,<-e];by_cases h:vF bs vs i=0
    ·rw[aA7 h,cond_false,if_pos h];exact ih
    ·rw[aA6 h,cond_true,if_neg h]
   have fin:∀ X:Option Int,X=(if vF bs vs i=0 then(if kH (vF bs vs) (vs.length-(i+1)) (i+1)=0 then k else some (kH (vF bs vs) (vs.length-(i+1)) (i+1)))else some (vF bs vs i))->X=if(if vF bs vs i=0 then kH (vF bs vs) (vs.length-(i+1)) (i+1)else vF bs vs i)=0 then k else some (if vF bs vs i=0 then kH (vF bs vs) (vs.length-(i+1)) (i+1)else vF bs vs i):=λX hX=>by
    rw[hX];by_cases h:vF bs vs i=0
    ·simp only[h,if_true]
    ·simp only[h,if_false]
   refine fin _ ?_;by_cases hk:aAo (vs.getD i mG)=true
   ·refine(congrArg (λb=>bif !b then _ else _) hk).trans ?_;simp only[dV,cond_false];by_cases h0:0 < i
    ·rw[dt (show(i:Int) > 0 by omega),cond_true,wi (by omega) (by omega),dt (show(0:Int)<=(i:Int)-1 by omega),dt (show(i:Int)-1 < (vs.length:Int)by omega),cE,cond_true,iJ h0,bY];by_cases hh:aDk (vs.getD i mG) (vs.getD (i-1) mG)<=0
     ·have e:vF bs vs i=1:=by unfold vF;rw[if_pos hk,if_pos ⟨h0,aCK.1 hh⟩]
      refine(congrArg (λb=>bif b then _ else _) (dt hh)).trans ?_;rw[e];rfl
     ·have e:vF bs vs i=nF bs (vs.getD i mG).2.2.2:=by unfold vF;rw[if_pos hk,if_neg (λh=>hh (aCK.2 h.2))]
      refine(congrArg (λb=>bif b then _ else _) (df hh)).trans ?_;exact tail e
    ·have e:vF bs vs i=nF bs (vs.getD i mG).2.2.2:=by unfold vF;rw[if_pos hk,if_neg (λh=>h0 h.1)]
     rw[df (show ¬ (i:Int) > 0 by omega),cond_false];exact tail e
   ·have e:vF bs vs i=3:=by unfold vF;rw[if_neg hk]
    refine(congrArg (λb=>bif !b then _ else _) (show aAo (vs.getD i mG)=false by simpa using hk)).trans ?_;rw[e];rfl
  ·rw[df (show ¬ (i:Int) < (vs.length:Int)by omega),cond_false,jA hi,if_pos rfl]
theorem aJF:Sat prog cxT 21 (c21 mCF):=s21 _ _ _ _ gP aJv aJu aJt aJs aJr mCF λx t h=>by
 obtain⟨a,b,c⟩:=x;unfold mCF at h;split at h
 ·rename_i hc;cases h;refine⟨b.length+c.length+1,?_⟩;show g21 _ _ _ _ gP _ a b c=some (cF (a,b,c));unfold g21 cF;simp only[bY];cases hv:aDu a
  ·simp
  ·simp only[dV,cond_false,if_true];by_cases h8:8 < b.length
   ·rw[dt (show(b.length:Int) > 8 by omega),cond_true,if_pos (.inl h8)]
   ·rw[df (show ¬ (b.length:Int) > 8 by omega),cond_false];by_cases h4:4 < c.length
    ·rw[dt (show(c.length:Int) > 4 by omega),cond_true,if_pos (.inr h4)]
    ·rw[df (show ¬ (c.length:Int) > 4 by omega),cond_false,if_neg (by omega)];refine(aFQ _ _ a b c a c hc.1 _ _ 0 (by omega) (by omega)).trans ?_;rw[gK];by_cases e:kH (bF b) b.length 0=0
     ·rw[if_pos e,if_pos e];refine(aFP _ _ _ a b c a b c (aGv λj hj=>aAQ.1 e j (fR _) (by omega)) hc _ _ 0 (by omega) (by omega)).trans ?_;rw[gK];split
      ·rename_i e2;rw[e2]
      ·rfl
     ·rw[if_neg e,if_neg e]
 ·cases h
end Go.Proofs.Try
set_option maxHeartbeats 0
namespace Go.Proofs.Try
open Go Go.VM Go.RowKit
end Go.Proofs.Try
