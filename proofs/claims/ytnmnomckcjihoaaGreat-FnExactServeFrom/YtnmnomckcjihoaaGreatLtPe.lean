/- A part of the proof of FnExactServeFrom: LtPe, LtPg. -/
import Derived.Test.YtnmnomckcjihoaaGreatLtPc
set_option linter.unusedSimpArgs false
set_option linter.unusedVariables false
set_option maxHeartbeats 0
namespace Go.Proofs.Tryz
open Go Go.VM Go.RowKit
theorem aKm:Sat prog cxT 111 (aIq λx=>some (oL x.1.1 x.2)):=aTl _ aIF _ λx t h=>by
 obtain⟨⟨a,b,c,d,e⟩,y⟩:=x;cases h;exact⟨0,rfl⟩
def low {α:Type}(p:α->Bool):List α->Nat
 | []=>0
 | x::r=>if p x then low p r+1 else 0
theorem aDl {α:Type}(p:α->Bool):∀ l,low p l<=l.length
 | []=>aK _
 | x::r=>by
  have:=aDl p r;unfold low;split<;>simp only[dC]<;>omega
theorem aBq {α:Type}(p:α->Bool)(d:α):∀ (l:List α) (j:Nat),j < low p l->p (l.getD j d)=true
 | [],j,h=>by simp[low]at h
 | x::r,j,h=>by
  unfold low at h;split at h
  ·rename_i hx;cases j with
   | zero=>simpa using hx
   | succ j=>simpa using aBq p d r j (by omega)
  ·omega
theorem aGi {α:Type}(p:α->Bool)(d:α):∀ (l:List α),low p l < l.length->p (l.getD (low p l) d)=false
 | [],h=>by simp at h
 | x::r,h=>by
  unfold low at h ⊢;split at h
  ·rename_i hx;rw[if_pos hx];simpa using aGi p d r (by simpa using h)
  ·rename_i hx;rw[if_neg hx];simpa using hx
theorem aJW (L:Nat)(a:List Bk)(y:Int)(u:Unit):∀ (n:Nat) (lo hi:Int) (k:Int->Option (Int×Bool)),oT (λx=>some (oL x.1.1 x.2)) L a y u n lo hi k=bsL a.length (λj=>some (oL (a.getD j kV).1 y)) n lo hi k
 | 0,_,_,_=>rfl
 | n+1,lo,hi,k=>by unfold oT bsL;simp only[aJW L a y u n];rfl
def rD (bs:List Bk)(y:Int):Nat:=low (λb:Bk=>decide (b.1 < y)) bs
instance (bs:List Bk):Decidable (ris bs):=by
 have:ris bs↔∀ j,j < bs.length->∀ i,i < j->(bs.getD i kV).1 < (bs.getD j kV).1:=⟨λh j hj i hi=>h i j hi hj,λh i j hi hj=>h j hj i hi⟩
 exact decidable_of_iff _ this.symm
theorem aCk {bs:List Bk}(h:ris bs){y:Int}{j:Nat}(h1:rD bs y<=j)(h2:j < bs.length):y<=(bs.getD j kV).1:=by
 have hl:rD bs y < bs.length:=by omega
 have h3:=aGi (λb:Bk=>decide (b.1 < y)) kV bs hl;have h4:¬ (bs.getD (rD bs y) kV).1 < y:=of_decide_eq_false h3;by_cases he:rD bs y=j
 ·rw[he]at h4;omega
 ·have:=h (rD bs y) j (by omega) h2;omega
theorem aD7 {bs:List Bk}(h:ris bs)(y:Int):qC bs y=(decide (rD bs y < bs.length)&&((bs.getD (rD bs y) kV).1 == y)):=by
 by_cases hl:rD bs y < bs.length
 ·rw[dt hl,kW];by_cases he:(bs.getD (rD bs y) kV).1=y
  ·rw[beq_iff_eq.2 he];exact kK.2 ⟨_,gO kV hl,beq_iff_eq.2 he⟩
  ·rw[beq_eq_false_iff_ne.2 he];refine Bool.eq_false_iff.2 λhh=>?_
   obtain⟨b,hb,hy⟩:=kK.1 hh;obtain⟨j,hj,rfl⟩:=kO.1 hb;have hy:(bs.getD j kV).1=y:=by rw[lR kV hj];simpa using hy
   have hge:=aCk h (y:=y) (j:=rD bs y) (aK _) hl;rcases jQ j (rD bs y)with h1 | h1 | h1
   ·have:=aBq (λb:Bk=>decide (b.1 < y)) kV bs j h1;have:(bs.getD j kV).1 < y:=by simpa using this
    omega
   ·rw[<-h1]at he;exact he hy
   ·have:=h _ _ h1 hj;omega
 ·rw[df hl,qV];refine Bool.eq_false_iff.2 λhh=>?_
  obtain⟨b,hb,hy⟩:=kK.1 hh;obtain⟨j,hj,rfl⟩:=kO.1 hb;have hle:=aDl (λb:Bk=>decide (b.1 < y)) bs;have:=aBq (λb:Bk=>decide (b.1 < y)) kV bs j (by show j < rD bs y;omega);have h5:(bs.getD j kV).1 < y:=by simpa using this
  rw[lR kV hj]at h5;have:bs[j].1=y:=by simpa using hy
  omega
def lL (x:List Bk×Int×Unit):Option (Int×Bool):=if ris x.1/\x.1.length<=nB then some ((rD x.1 x.2.1:Int),qC x.1 x.2.1)else none
theorem aKn:Sat prog cxT 110 (aIr lL):=aTm _ aKm lL λx t h=>by
 obtain⟨bs,y,u⟩:=x;unfold lL at h;split at h
 ·rename_i hc;obtain⟨hr,hb⟩:=hc;cases h;simp only at hr hb;have hb':bs.length<=1000000000000:=hb;have hle:rD bs y<=bs.length:=aDl _ bs;refine⟨bs.length+1,?_⟩;show aFe _ _ bs y u=some ((rD bs y:Int),qC bs y);unfold aFe;rw[aJW];refine(aDQ bs.length _ (λj=>oL (bs.getD j kV).1 y) (by omega) (λ_ _=>rfl) (rD bs y) (λj hj=>?_) (λj h1 h2=>aGS.2 (aCk hr h1 h2)) _ (bs.length+1) 0 bs.length (by omega) hle (aK _) (by omega)).trans ?_
  ·have:=aBq (λb:Bk=>decide (b.1 < y)) kV bs j hj;exact aGT.2 (by simpa using this)
  ·rw[aD7 hr];by_cases hl:rD bs y < bs.length
   ·rw[dt (show(rD bs y:Int) < (bs.length:Int)by omega),dt (show(0:Int)<=(rD bs y:Int)by omega),dt hl,bL,cond_true,cond_true,bJ,bA,kW];show some ((rD bs y:Int),oL (bs.getD (rD bs y) kV).1 y == 0)=_;by_cases he:(bs.getD (rD bs y) kV).1=y
    ·rw[beq_iff_eq.2 he,beq_iff_eq.2 (aA4.2 he)]
    ·rw[beq_eq_false_iff_ne.2 he,beq_eq_false_iff_ne.2 (λh=>he (aA4.1 h))]
   ·rw[df (show ¬ (rD bs y:Int) < (bs.length:Int)by omega),df hl,cond_false,qV]
 ·cases h
def iM (x:List Bk×Int):Option (Int×Bool):=if ris x.1/\x.1.length<=nB then some ((rD x.1 x.2:Int),qC x.1 x.2)else none
theorem aNB:Sat prog cxT 93 (c93 iM):=s93 lL aKn iM λx t h=>by
 obtain⟨bs,y⟩:=x;unfold iM at h;split at h
 ·rename_i hc;cases h;refine⟨0,?_⟩;show g93 lL 0 bs y=_;unfold g93;rw[show lL (bs,y,PUnit.unit)=some ((rD bs y:Int),qC bs y) from if_pos hc,bJ]
 ·cases h
def orI:List Int->Int
 | []=>0
 | x::r=>if x=0 then orI r else x
theorem p91 (L:Nat)(a:List Int)(ha:a.length<=nB):∀ (n i:Nat),i<=a.length->a.length < n+i->xO L a n i (some 0)=some (orI (a.drop i))
 | 0,i,h2,h3=>by omega
 | n+1,i,h2,h3=>by
  unfold xO;unfold nB at ha;by_cases hi:i < a.length
  ·rw[bA];simp(disch:=omega) only[dt,wi,cond_true,bL];rw[mV 0 hi];unfold orI;by_cases h0:a.getD i 0=0
   ·rw[iW h0,cond_false,if_pos h0];exact p91 L a ha n (i+1) (by omega) (by omega)
   ·rw[iR h0,cond_true,if_neg h0]
  ·simp(disch:=omega) only[df,cond_false];rw[cW (by omega)];rfl
def m91 (a:List Int):Option Int:=if a.length<=nB then some (orI a)else none
theorem aNC:Sat prog cxT 91 (c91 m91):=s91 m91 λx t h=>by
 unfold m91 at h;split at h
 ·rename_i hc;cases h;exact⟨x.length+1,p91 _ x hc _ 0 (by omega) (by omega)⟩
 ·cases h
def aFo (a b:Vp):Int:=orI [oL a.1 b.1,oL a.2.1 b.2.1,oL a.2.2.1 b.2.2.1]
theorem aNL:Sat prog cxT 75 (c75 λx=>some (aFo x.1 x.2)):=s75 _ m91 aIF aNC _ λx t h=>by
 obtain⟨⟨a,b,c,d⟩,a',b',c',d'⟩:=x;cases h;exact⟨0,rfl⟩
theorem aEG {a b:Vp}:aFo a b<=0↔beh b a=false:=by
 have key:aFo a b<=0↔¬ beh b a=true:=by
  unfold aFo orI orI orI orI beh oL;by_cases h1:b.1=a.1
  ·rw[if_pos h1];by_cases h2:b.2.1=a.2.1
   ·rw[if_pos h2];simp only[h1,h2,Int.lt_irrefl,if_false,if_true,decide_eq_true_eq];split<;>(try split)<;>(try split)<;>omega
   ·rw[if_neg h2];simp only[h1,Int.lt_irrefl,if_false,if_true,decide_eq_true_eq];by_cases h3:a.2.1 < b.2.1
    ·simp only[h3,if_true];simp;omega
    ·have h4:b.2.1 < a.2.1:=by omega
     simp only[h3,h4,if_false,if_true];simp
  ·rw[if_neg h1];simp only[decide_eq_true_eq];by_cases h3:a.1 < b.1
   ·simp only[h3,if_true];simp;omega
   ·have h4:b.1 < a.1:=by omega
    simp only[h3,h4,if_false,if_true];simp
 rw[key];simp
theorem aI0 (bs:List Bk)(hr:ris bs)(hb:bs.length<=nB)(L:Nat)(ns:List Int)(hn:ns.length<=nB)(k:Option Int):∀ (n i:Nat),i<=ns.length->ns.length < n+i->xQ iM L ns bs n i k=if kE (knN bs ns) (ns.length-i) i=0 then k else some 4
 | 0,i,h2,h3=>by omega
 | n+1,i,h2,h3=>by
  unfold xQ;have hn':ns.length<=1000000000000:=hn;by_cases hi:i < ns.length
  ·rw[bA];simp(disch:=omega) only[dt,wi,cond_true,bL];rw[gP hi,show iM (bs,ns.getD i 0)=some ((rD bs (ns.getD i 0):Int),qC bs (ns.getD i 0)) from if_pos ⟨hr,hb⟩,bJ];unfold knN;by_cases hh:qC bs (ns.getD i 0)=true
   ·simp only[hh,if_true,fK,cond_false];exact aI0 bs hr hb L ns hn k n (i+1) (by omega) (by omega)
   ·simp only[show qC bs (ns.getD i 0)=false by simpa using hh,cG,if_false,mI,cond_true]
    rfl
  ·simp(disch:=omega) only[df,cond_false];rw[gQ hi,if_pos rfl]
theorem aIZ (bs:List Bk)(L:Nat)(ns:List Int)(hn:ns.length<=nB)(k:Option Int):∀ (n i:Nat),i<=ns.length->ns.length < n+i->sH iM L ns bs n i k=if kE (rsN ns) (ns.length-i) i=0 then k else some 1
 | 0,i,h2,h3=>by omega
 | n+1,i,h2,h3=>by
  unfold sH;have hn':ns.length<=1000000000000:=hn;by_cases hi:i < ns.length
  ·rw[dt (show(i:Int) < (ns.length:Int)by omega),dt (show(0:Int)<=(i:Int)by omega),bL,cond_true,cond_true,gP hi,wi (x:=(i:Int)+1) (by omega) (by omega)];have ih:=aIZ bs L ns hn k n (i+1) (by omega) (by omega);by_cases h0:0 < i
   ·rw[dt (show(i:Int) > 0 by omega),cond_true,wi (by omega) (by omega),dt (show(0:Int)<=(i:Int)-1 by omega),dt (show(i:Int)-1 < (ns.length:Int)by omega),bL,cond_true,jL h0,bA];by_cases hh:ns.getD i 0<=ns.getD (i-1) 0
    ·have e:rsN ns i=1:=if_pos ⟨h0,hh⟩;rw[dt hh,cond_true,e];rfl
    ·have e:rsN ns i=0:=if_neg λh=>hh h.2
     rw[df hh,cond_false,if_pos e];exact ih
   ·have e:rsN ns i=0:=if_neg λh=>h0 h.1
    rw[df (show ¬ (i:Int) > 0 by omega),cond_false,if_pos e];exact ih
  ·simp(disch:=omega) only[df,cond_false];rw[gQ hi,if_pos rfl]
def iC (x:List Int×List Bk):Option Int:=if ris x.2/\x.2.length<=nB/\x.1.length<=nB then some (nF x.2 x.1)else none
theorem aNK:Sat prog cxT 76 (c76 iC):=s76 iM aNB iC λx t h=>by
 obtain⟨ns,bs⟩:=x;unfold iC at h;split at h
 ·rename_i hc;obtain⟨hr,hb,hn⟩:=hc;cases h;refine⟨ns.length+1,?_⟩;show g76 iM _ ns bs=some (nF bs ns);unfold g76;refine(aI0 bs hr hb _ ns hn _ _ 0 (by omega) (by omega)).trans ?_;rw[fA];unfold nF;by_cases h:kE (knN bs ns) ns.length 0=0
  ·rw[if_pos h,if_pos h];refine(aIZ bs _ ns hn _ _ 0 (by omega) (by omega)).trans ?_;rw[fA];rcases aD4 ns with h2 | h2
   ·rw[if_pos h2,h2]
   ·rw[if_neg (by rw[h2];decide),h2]
  ·rw[if_neg h,if_neg h]
 ·cases h
abbrev vB:Bk->Option Bool:=λb=>some (aBX b)
abbrev vV:Vp->Option Bool:=λv=>some (aBa v)
abbrev vW:Vp×Vp->Option Int:=λx=>some (aFo x.1 x.2)
theorem aI2 (M50:Int->Option Bool)(L:Nat)(a:Int)(bs:List Bk)(vs:List Vp)(v:Int)(ws:List Vp)(hb:bs.length<=nB)(k:Int->List Bk->List Vp->Option Int) :
  ∀ (n i:Nat),i<=bs.length->bs.length < n+i->uB M50 vB vV vW iC L a bs vs n v bs ws i k=if kE (bF bs) (bs.length-i) i=0 then k v bs ws else some (kE (bF bs) (bs.length-i) i)
 | 0,i,h2,h3=>by omega
 | n+1,i,h2,h3=>by
  unfold uB;have hn':bs.length<=1000000000000:=hb;by_cases hi:i < bs.length
  ·rw[dt (show(i:Int) < (bs.length:Int)by omega),dt (show(0:Int)<=(i:Int)by omega),bL,cond_true,cond_true,bJ,bA,gP hi,wi (x:=(i:Int)+1) (by omega) (by omega)];have ih:=aI2 M50 L a bs vs v ws hb k n (i+1) (by omega) (by omega);by_cases hok:aBX (bs.getD i kV)=true
   ·refine(congrArg (λb=>bif !b then _ else _) hok).trans ?_;simp only[fK,cond_false];by_cases h0:0 < i
    ·rw[dt (show(i:Int) > 0 by omega),cond_true,wi (by omega) (by omega),dt (show(0:Int)<=(i:Int)-1 by omega),dt (show(i:Int)-1 < (bs.length:Int)by omega),bL,cond_true,jL h0];by_cases hh:(bs.getD i kV).1<=(bs.getD (i-1) kV).1
     ·have e:bF bs i=1:=by unfold bF;rw[if_pos hok,if_pos ⟨h0,hh⟩]
      rw[dt (c:=(List.getD bs i (0,0,0,0,false)).1<=(List.getD bs (i-1) (0,0,0,0,false)).1) hh,cond_true,e];rfl
     ·have e:bF bs i=0:=by unfold bF;rw[if_pos hok,if_neg (λh=>hh h.2)]
      rw[df (c:=(List.getD bs i (0,0,0,0,false)).1<=(List.getD bs (i-1) (0,0,0,0,false)).1) hh,cond_false,if_pos e];exact ih
    ·have e:bF bs i=0:=by unfold bF;rw[if_pos hok,if_neg (λh=>h0 h.1)]
     rw[df (show ¬ (i:Int) > 0 by omega),cond_false,if_pos e];exact ih
   ·have e:bF bs i=3:=by unfold bF;rw[if_neg hok]
    refine(congrArg (λb=>bif !b then _ else _) (show aBX (bs.getD i kV)=false by simpa using hok)).trans ?_;rw[e];rfl
  ·rw[df (show ¬ (i:Int) < (bs.length:Int)by omega),cond_false,gQ hi,if_pos rfl]
theorem aI1 (M50:Int->Option Bool)(M51:Bk->Option Bool)(L:Nat)(a:Int)(as0:List Bk)(us:List Vp)(v:Int)(bs:List Bk)(vs:List Vp)(hr:ris bs)(hok:okC (v,bs,vs))(k:Option Int) :
  ∀ (n i:Nat),i<=vs.length->vs.length < n+i->qN M50 M51 vV vW iC L a as0 us n v bs vs vs (vs.length:Int) i k=if kE (vF bs vs) (vs.length-i) i=0 then k else some (kE (vF bs vs) (vs.length-i) i)
 | 0,i,h2,h3=>by omega
 | n+1,i,h2,h3=>by
  unfold qN;have hn':vs.length<=1000000000000:=hok.2.1;by_cases hi:i < vs.length
  ·rw[dt (show(i:Int) < (vs.length:Int)by omega),dt (show(0:Int)<=(i:Int)by omega),bL,cond_true,cond_true,bJ,bA,gP hi,wi (x:=(i:Int)+1) (by omega) (by omega)];have ih:=aI1 M50 M51 L a as0 us v bs vs hr hok k n (i+1) (by omega) (by omega);have en:iC ((vs.getD i jH).2.2.2,bs)=some (nF bs (vs.getD i jH).2.2.2):=if_pos ⟨hr,hok.1,hok.2.2 _ (gO jH hi)⟩;have tail:∀ (e:vF bs vs i=nF bs (vs.getD i jH).2.2.2),(cK (iC ((vs.getD i jH).2.2.2,bs)) 0 λq=>bif q != 0 then some q else qN M50 M51 vV vW iC L a as0 us n v bs vs vs (vs.length:Int) ((i:Int)+1) k)=if vF bs vs i=0 then(if kE (vF bs vs) (vs.length-(i+1)) (i+1)=0 then k else some (kE (vF bs vs) (vs.length-(i+1)) (i+1)))else some (vF bs vs i):=λe=>by
    rw[en,bJ,<-e];by_cases h:vF bs vs i=0
    ·rw[iW h,cond_false,if_pos h];exact ih
    ·rw[iR h,cond_true,if_neg h]
   have fin:∀ X:Option Int,X=(if vF bs vs i=0 then(if kE (vF bs vs) (vs.length-(i+1)) (i+1)=0 then k else some (kE (vF bs vs) (vs.length-(i+1)) (i+1)))else some (vF bs vs i))->X=if(if vF bs vs i=0 then kE (vF bs vs) (vs.length-(i+1)) (i+1)else vF bs vs i)=0 then k else some (if vF bs vs i=0 then kE (vF bs vs) (vs.length-(i+1)) (i+1)else vF bs vs i):=λX hX=>by
    rw[hX];by_cases h:vF bs vs i=0
    ·simp only[h,if_true]
    ·simp only[h,if_false]
   refine fin _ ?_;by_cases hk:aBa (vs.getD i jH)=true
   ·refine(congrArg (λb=>bif !b then _ else _) hk).trans ?_;simp only[fK,cond_false];by_cases h0:0 < i
    ·rw[dt (show(i:Int) > 0 by omega),cond_true,wi (by omega) (by omega),dt (show(0:Int)<=(i:Int)-1 by omega),dt (show(i:Int)-1 < (vs.length:Int)by omega),bL,cond_true,jL h0,bJ];by_cases hh:aFo (vs.getD i jH) (vs.getD (i-1) jH)<=0
     ·have e:vF bs vs i=1:=by unfold vF;rw[if_pos hk,if_pos ⟨h0,aEG.1 hh⟩]
      refine(congrArg (λb=>bif b then _ else _) (dt hh)).trans ?_;rw[e];rfl
     ·have e:vF bs vs i=nF bs (vs.getD i jH).2.2.2:=by unfold vF;rw[if_pos hk,if_neg (λh=>hh (aEG.2 h.2))]
      refine(congrArg (λb=>bif b then _ else _) (df hh)).trans ?_;exact tail e
    ·have e:vF bs vs i=nF bs (vs.getD i jH).2.2.2:=by unfold vF;rw[if_pos hk,if_neg (λh=>h0 h.1)]
     rw[df (show ¬ (i:Int) > 0 by omega),cond_false];exact tail e
   ·have e:vF bs vs i=3:=by unfold vF;rw[if_neg hk]
    refine(congrArg (λb=>bif !b then _ else _) (show aBa (vs.getD i jH)=false by simpa using hk)).trans ?_;rw[e];rfl
  ·rw[df (show ¬ (i:Int) < (vs.length:Int)by omega),cond_false,gQ hi,if_pos rfl]
theorem aIM:Sat prog cxT 57 (c57 mCF):=s57 _ _ _ _ iC aIS aNN aNM aNL aNK mCF λx t h=>by
 obtain⟨a,b,c⟩:=x;unfold mCF at h;split at h
 ·rename_i hc;cases h;refine⟨b.length+c.length+1,?_⟩;show g57 _ _ _ _ iC _ a b c=some (cF (a,b,c));unfold g57 cF;simp only[bJ];cases hv:lC a
  ·simp
  ·simp only[fK,cond_false,if_true];by_cases h8:8 < b.length
   ·rw[dt (show(b.length:Int) > 8 by omega),cond_true,if_pos (.inl h8)]
   ·rw[df (show ¬ (b.length:Int) > 8 by omega),cond_false];by_cases h4:4 < c.length
    ·rw[dt (show(c.length:Int) > 4 by omega),cond_true,if_pos (.inr h4)]
    ·rw[df (show ¬ (c.length:Int) > 4 by omega),cond_false,if_neg (by omega)];refine(aI2 _ _ a b c a c hc.1 _ _ 0 (by omega) (by omega)).trans ?_;rw[fA];by_cases e:kE (bF b) b.length 0=0
     ·rw[if_pos e,if_pos e];refine(aI1 _ _ _ a b c a b c (aFP λj hj=>lG.1 e j (eK _) (by omega)) hc _ _ 0 (by omega) (by omega)).trans ?_;rw[fA];split
      ·rename_i e2;rw[e2]
      ·rfl
     ·rw[if_neg e,if_neg e]
 ·cases h
end Go.Proofs.Tryz
set_option maxHeartbeats 0
namespace Go.Proofs.Tryz
open Go Go.VM Go.RowKit
end Go.Proofs.Tryz
