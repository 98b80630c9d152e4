/- A part of the proof of FnExactServeFrom: LtPc, LtPd. -/
import Derived.Test.YtnmnomckcjihoaaGreatLtPa
set_option linter.unusedSimpArgs false
set_option linter.unusedVariables false
set_option maxHeartbeats 0
namespace Go.Proofs.Tryz
open Go Go.VM Go.RowKit
def aBX (b:Bk):Bool:=nI b.1&&mG b.2.1&&uP b.2.2.1&&aBd b.2.2.2.1
def aBa (v:Vp):Bool:=mG v.1&&lW v.2.1&&sA v.2.2.1
def beh (a b:Vp):Bool:=if a.1=b.1 then(if a.2.1=b.2.1 then decide (a.2.2.1 < b.2.2.1)else decide (a.2.1 < b.2.1))else decide (a.1 < b.1)
def qC (bs:List Bk)(y:Int):Bool:=bs.any λb=>b.1 == y
def rsN (ns:List Int)(i:Nat):Int:=if 0 < i/\ns.getD i 0<=ns.getD (i-1) 0 then 1 else 0
def knN (bs:List Bk)(ns:List Int)(i:Nat):Int:=if qC bs (ns.getD i 0)then 0 else 4
def nF (bs:List Bk)(ns:List Int):Int:=if kE (knN bs ns) ns.length 0=0 then kE (rsN ns) ns.length 0 else 4
def bF (bs:List Bk)(i:Nat):Int:=if aBX (bs.getD i kV)then(if 0 < i/\(bs.getD i kV).1<=(bs.getD (i-1) kV).1 then 1 else 0)else 3
def vF (bs:List Bk)(vs:List Vp)(i:Nat):Int:=if aBa (vs.getD i jH)then(if 0 < i/\beh (vs.getD (i-1) jH) (vs.getD i jH)=false then 1 else nF bs (vs.getD i jH).2.2.2)else 3
def cF (c:Cg):Int:=if lC c.1 then(if 8 < c.2.1.length\/4 < c.2.2.length then 2 else if kE (bF c.2.1) c.2.1.length 0=0 then kE (vF c.2.1 c.2.2) c.2.2.length 0 else kE (bF c.2.1) c.2.1.length 0)else 3
theorem aEJ {c:Cg}(h:cF c=0):lC c.1=true/\c.2.1.length<=8/\c.2.2.length<=4/\(∀ j,j < c.2.1.length->bF c.2.1 j=0)/\∀ j,j < c.2.2.length->vF c.2.1 c.2.2 j=0:=by
 unfold cF at h;split at h
 ·rename_i h1;split at h
  ·exact absurd h (by decide)
  ·rename_i h2;split at h
   ·rename_i h3;exact⟨h1,by omega,by omega,λj hj=>lG.1 h3 j (eK _) (by omega),λj hj=>lG.1 h j (eK _) (by omega)⟩
   ·rename_i h3;exact absurd h h3
 ·exact absurd h (by decide)
def ris (bs:List Bk):Prop:=∀ i j,i < j->j < bs.length->(bs.getD i kV).1 < (bs.getD j kV).1
theorem aFP {bs:List Bk}(h:∀ j,j < bs.length->bF bs j=0):ris bs:=by
 have step:∀ j,0 < j->j < bs.length->(bs.getD (j-1) kV).1 < (bs.getD j kV).1:=λj h0 hj=>by
  have:=h j hj;unfold bF at this;split at this
  ·split at this
   ·exact absurd this (by decide)
   ·rename_i h2;have:¬ (bs.getD j kV).1<=(bs.getD (j-1) kV).1:=λh3=>h2 ⟨h0,h3⟩;omega
  ·exact absurd this (by decide)
 intro i j hij
 induction j with
 | zero=>omega
 | succ j ih=>
  intro hj;have h1:=step (j+1) (by omega) hj;simp only[gX]at h1;by_cases h2:i=j
  ·rw[h2];exact h1
  ·have:=ih (by omega) (by omega);omega
theorem aN6:Sat prog cxT 48 (c48 λb=>some (aBX b)):=s48 _ _ _ aIO aFJ qF _ λx t h=>by
 obtain⟨a,b,c,d,e⟩:=x;cases h;refine⟨0,?_⟩;show g48 _ _ _ 0 a b c d e=some (nI a&&mG b&&uP c&&aBd d);unfold g48;simp only[bJ];cases nI a<;>cases mG b<;>simp only[cond_true,cond_false,qV,kW];show(bif uP c then some (aBd d)else some false)=_;cases uP c<;>rfl
theorem aNN:Sat prog cxT 73 (c73 λb=>some (aBX b)):=s73 _ _ _ _ aIK aFI aIJ aII _ λx t h=>by
 obtain⟨a,b,c,d,e⟩:=x;cases h;refine⟨0,?_⟩;show g73 _ _ _ _ 0 a b c d e=some (nI a&&mG b&&uP c&&aBd d);unfold g73;simp only[bJ];cases nI a<;>cases mG b<;>cases uP c<;>rfl
theorem aNM:Sat prog cxT 74 (c74 λv=>some (aBa v)):=s74 _ _ _ aFI aIH aIG _ λx t h=>by
 obtain⟨a,b,c,d⟩:=x;cases h;refine⟨0,?_⟩;show g74 _ _ _ 0 a b c d=some (mG a&&lW b&&sA c);unfold g74;simp only[bJ];cases mG a<;>cases lW b<;>rfl
theorem aNR:Sat prog cxT 69 (c69 λx=>some (beh x.1 x.2)):=s69 _ λx t h=>by
 obtain⟨⟨a,b,c,d⟩,a',b',c',d'⟩:=x;cases h;refine⟨0,?_⟩;show g69 0 a b c d a' b' c' d'=some (if a=a' then(if b=b' then decide (c < c')else decide (b < b'))else decide (a < a'));unfold g69;by_cases h1:a=a'
 ·rw[iW h1,cond_false,if_pos h1];by_cases h2:b=b'
  ·rw[iW h2,cond_false,if_pos h2]
  ·rw[iR h2,cond_true,if_neg h2]
 ·rw[iR h1,cond_true,if_neg h1]
def atB (bs:List Bk)(y:Int):Int:=idx (λb=>b.1 == y) bs 0
theorem p70 (L:Nat)(c:Cg)(y:Int)(hb:c.2.1.length<=nB)(k:Option Int):∀ (n i:Nat),i<=c.2.1.length->c.2.1.length < n+i->
  xR L c y n i k=if idx (λb=>b.1 == y) (c.2.1.drop i) i < 0 then k else some (idx (λb=>b.1 == y) (c.2.1.drop i) i)
 | 0,i,h2,h3=>by omega
 | n+1,i,h2,h3=>by
  unfold xR;have hb':c.2.1.length<=1000000000000:=hb;by_cases hi:i < c.2.1.length
  ·rw[bA];simp(disch:=omega) only[dt,wi,cond_true,bL];rw[mV kV hi,sJ];by_cases hy:(c.2.1.getD i kV).1=y
   ·rw[show((c.2.1.getD i kV).1 == y)=true from beq_iff_eq.2 hy,if_pos rfl,if_neg (by omega)];rw[show((List.getD c.2.1 i (0,0,0,0,false)).1 == y)=true from beq_iff_eq.2 hy];rfl
   ·simp only[show((c.2.1.getD i kV).1 == y)=false from beq_eq_false_iff_ne.2 hy,cG,if_false];rw[show((List.getD c.2.1 i (0,0,0,0,false)).1 == y)=false from beq_eq_false_iff_ne.2 hy,cond_false,show(i:Int)+1=((i+1:Nat):Int) from rfl];exact p70 L c y hb k n (i+1) (by omega) (by omega)
  ·simp(disch:=omega) only[df,cond_false];rw[cW (by omega)]
   rfl
theorem aCw {α:Type}{p:α->Bool}:∀ (l:List α) (i:Nat),l.any p=false->idx p l i=-1
 | [],_,_=>rfl
 | x::r,i,h=>by
  simp only[List.any_cons,Bool.or_eq_false_iff]at h;rw[sJ,h.1];simp only[cG,if_false];exact aCw r _ h.2
def hU (x:Cg×Int):Option Int:=if x.1.2.1.length<=nB then some (atB x.1.2.1 x.2)else none
theorem aNQ:Sat prog cxT 70 (c70 hU):=s70 hU λx t h=>by
 obtain⟨c,y⟩:=x;unfold hU at h;split at h
 ·rename_i hc;cases h;refine⟨c.2.1.length+1,?_⟩;show g70 (c.2.1.length+1) c y=some (atB c.2.1 y);unfold g70;refine(p70 _ c y hc _ (c.2.1.length+1) 0 (by omega) (by omega)).trans ?_;rw[dW];unfold atB;split
  ·rename_i h2;rw[aCw c.2.1 0 (aBt.1 h2)]
  ·rfl
 ·cases h
end Go.Proofs.Tryz
set_option maxHeartbeats 0
namespace Go.Proofs.Tryz
open Go Go.VM Go.RowKit
theorem jL {i:Nat}(h:0 < i):((i:Int)-1).toNat=i-1:=by omega
theorem gP {f:Nat->Int}{m i:Nat}(h:i < m):kE f (m-i) i=if f i=0 then kE f (m-(i+1)) (i+1)else f i:=by
 rw[show m-i=(m-(i+1))+1 by omega,sM]
theorem gQ {f:Nat->Int}{m i:Nat}(h:¬ i < m):kE f (m-i) i=0:=by
 rw[show m-i=0 by omega];rfl
theorem aIa {bs:List Bk}{y:Int}:decide (atB bs y < 0)=!qC bs y:=by
 by_cases h:qC bs y=true
 ·rw[h];obtain⟨j,h1,_⟩:=aEw kV (l:=bs) (i:=0) h;exact df (by unfold atB;rw[h1];omega)
 ·have h':qC bs y=false:=by simpa using h
  rw[h'];exact dt (aBt.2 h')
theorem aI4 (M60 M95 M62:Int->Option Bool)(M113:Vp×Vp->Option Bool)(L:Nat)(c:Cg)(b1:Int)(x y z:Int)(ns:List Int)(hb:c.2.1.length<=nB)(hn:ns.length<=nB)(k:Int->Int->Int->List Int->Option Int) :
  ∀ (n i:Nat),i<=ns.length->ns.length < n+i->sI M60 M95 M62 M113 hU L c b1 n x y z ns i k=if kE (knN c.2.1 ns) (ns.length-i) i=0 then k x y z ns else some 4
 | 0,i,h2,h3=>by omega
 | n+1,i,h2,h3=>by
  unfold sI;have hn':ns.length<=1000000000000:=hn;by_cases hi:i < ns.length
  ·rw[bA];simp(disch:=omega) only[dt,wi,cond_true,bL];rw[gP hi,show hU (c,ns.getD i 0)=some (atB c.2.1 (ns.getD i 0)) from if_pos hb,bJ];simp only[aIa];unfold knN;by_cases hh:qC c.2.1 (ns.getD i 0)=true
   ·simp only[hh,if_true,fK,cond_false];exact aI4 M60 M95 M62 M113 L c b1 x y z ns hb hn k n (i+1) (by omega) (by omega)
   ·simp only[show qC c.2.1 (ns.getD i 0)=false by simpa using hh,cG,if_false,mI,cond_true]
    rfl
  ·simp(disch:=omega) only[df,cond_false];rw[gQ hi,if_pos rfl]
theorem aI3 (M60 M95 M62:Int->Option Bool)(M113:Vp×Vp->Option Bool)(M64:Cg×Int->Option Int)(L:Nat)(c:Cg)(b1:Int)(x y z:Int)(ns:List Int)(hn:ns.length<=nB)(k:Option Int) :
  ∀ (n i:Nat),0 < i->(i<=ns.length+1)->ns.length+1 < n+i->qO M60 M95 M62 M113 M64 L c b1 n x y z ns i k=if kE (rsN ns) (ns.length-i) i=0 then k else some 1
 | 0,i,h2,h1,h3=>by omega
 | n+1,i,h2,h1,h3=>by
  unfold qO;have hn':ns.length<=1000000000000:=hn;by_cases hi:i < ns.length
  ·simp(disch:=omega) only[dt,wi,cond_true,bL];rw[jL h2,bA,gP hi];unfold rsN;by_cases hh:ns.getD i 0<=ns.getD (i-1) 0
   ·rw[dt hh,cond_true,if_pos (show 0 < i/\ns.getD i 0<=ns.getD (i-1) 0 from⟨h2,hh⟩)];rfl
   ·rw[df hh,cond_false,if_neg (show ¬ (0 < i/\ns.getD i 0<=ns.getD (i-1) 0) from λh=>hh h.2),if_pos rfl];exact aI3 M60 M95 M62 M113 M64 L c b1 x y z ns hn k n (i+1) (by omega) (by omega) (by omega)
  ·have e:¬ (i:Int) < (ns.length:Int):=by omega
   simp only[df e,cond_false];rw[gQ hi,if_pos rfl]
def iP (x:Cg×Int):Option Int:=if okC x.1/\0<=x.2/\x.2 < (x.1.2.2.length:Int)then some (vF x.1.2.1 x.1.2.2 x.2.toNat)else none
theorem aFK (ns:List Int):rsN ns 0=0:=by unfold rsN;rw[if_neg (by omega)]
theorem aFL (ns:List Int):kE (rsN ns) (ns.length-1) 1=kE (rsN ns) ns.length 0:=by
 cases h:ns.length with
 | zero=>rfl
 | succ n=>rw[sM,if_pos (aFK ns)];rfl
theorem aD4 (ns:List Int):kE (rsN ns) ns.length 0=0\/kE (rsN ns) ns.length 0=1:=by
 by_cases h:kE (rsN ns) ns.length 0=0
 ·exact .inl h
 ·obtain⟨j,_,_,hj⟩:=aEz h;refine .inr ?_;rw[<-hj]at h ⊢;unfold rsN at h ⊢;split
  ·rfl
  ·rename_i h2;rw[if_neg h2]at h;exact absurd rfl h
theorem aFC (L:Nat)(c:Cg)(b1:Int)(x y z:Int)(ns:List Int)(hb:c.2.1.length<=nB)(hn:ns.length<=nB)(hL:ns.length+1 < L)(M60 M95 M62:Int->Option Bool)(M113:Vp×Vp->Option Bool) :
  sI M60 M95 M62 M113 hU L c b1 L x y z ns 0 (λu0 u1 u2 u3=>qO M60 M95 M62 M113 hU L c b1 L u0 u1 u2 u3 1 (some 0))=some (nF c.2.1 ns):=by
 refine(aI4 M60 M95 M62 M113 L c b1 x y z ns hb hn _ L 0 (by omega) (by omega)).trans ?_;rw[fA];unfold nF;by_cases h:kE (knN c.2.1 ns) ns.length 0=0
 ·rw[if_pos h,if_pos h];refine(aI3 M60 M95 M62 M113 hU L c b1 x y z ns hn _ L 1 (by omega) (by omega) (by omega)).trans ?_;rw[aFL];rcases aD4 ns with h2 | h2
  ·rw[if_pos h2,h2]
  ·rw[if_neg (by rw[h2];decide),h2]
 ·rw[if_neg h,if_neg h]
theorem aN5:Sat prog cxT 49 (c49 iP):=s49 _ _ _ _ hU aFJ aIL aIN aNR aNQ iP λx t h=>by
 obtain⟨⟨a,b,c⟩,y⟩:=x;unfold iP at h;split at h
 ·rename_i hc;obtain⟨⟨h1,h2,h3⟩,h4,h5⟩:=hc;cases h;simp only at h1 h2 h3 h4 h5;obtain⟨i,rfl⟩:=Int.eq_ofNat_of_zero_le h4;have hi:i < c.length:=by omega
  have h2':c.length<=1000000000000:=h2;refine⟨(c.getD i jH).2.2.2.length+2,?_⟩;have hns:=h3 _ (gO jH hi);show g49 _ _ _ _ hU _ (a,b,c) (i:Int)=some (vF b c (i:Int).toNat);unfold g49;simp only;rw[bA,dt h4,dt h5,bL,cond_true];simp only[bJ];unfold vF;have hv:∀ o:Option Int,(bif !mG (c.getD i jH).1 then some 3 else bif !lW (c.getD i jH).2.1 then some 3 else bif !sA (c.getD i jH).2.2.1 then some 3 else o)=if aBa (c.getD i jH)=true then o else some 3:=by
   intro o;unfold aBa;cases mG (c.getD i jH).1<;>cases lW (c.getD i jH).2.1<;>cases sA (c.getD i jH).2.2.1<;>simp
  refine(hv _).trans ?_;by_cases hok:aBa (c.getD i jH)=true
  ·rw[if_pos hok,if_pos hok];by_cases h0:0 < i
   ·rw[dt (show(i:Int) > 0 by omega),cond_true,wi (by omega) (by omega),dt (show(0:Int)<=(i:Int)-1 by omega),dt (show(i:Int)-1 < (c.length:Int)by omega),bL,cond_true,jL h0];by_cases hbh:beh (c.getD (i-1) jH) (c.getD i jH)=false
    ·rw[if_pos ⟨h0,hbh⟩];show(bif !beh (c.getD (i-1) jH) (c.getD i jH)then _ else _)=_;rw[hbh];rfl
    ·rw[if_neg (λh=>hbh h.2)];show(bif !beh (c.getD (i-1) jH) (c.getD i jH)then _ else _)=_;rw[show beh (c.getD (i-1) jH) (c.getD i jH)=true by simpa using hbh];exact aFC _ (a,b,c) i _ _ _ _ h1 hns (by omega) _ _ _ _
   ·rw[df (show ¬ (i:Int) > 0 by omega),cond_false,if_neg (λh=>h0 h.1)];exact aFC _ (a,b,c) i _ _ _ _ h1 hns (by omega) _ _ _ _
  ·rw[if_neg hok,if_neg hok]
 ·cases h
theorem aI6 (M58:Int->Option Bool)(M82:Cg×Int->Option Int)(L:Nat)(c:Cg)(hb:c.2.1.length<=nB)(k:Option Int) :
  ∀ (n i:Nat),i<=c.2.1.length->c.2.1.length < n+i->uF M58 (λb=>some (aBX b)) M82 L c n i k=if kE (bF c.2.1) (c.2.1.length-i) i=0 then k else some (kE (bF c.2.1) (c.2.1.length-i) i)
 | 0,i,h2,h3=>by omega
 | n+1,i,h2,h3=>by
  unfold uF;have hn':c.2.1.length<=1000000000000:=hb
  generalize hbs:c.2.1=bs at *
  by_cases hi:i < bs.length
  ·rw[dt (show(i:Int) < (bs.length:Int)by omega),dt (show(0:Int)<=(i:Int)by omega),bL,cond_true,cond_true,bJ,bA,gP hi,wi (x:=(i:Int)+1) (by omega) (by omega)];have ih:=aI6 M58 M82 L c (by rw[hbs];exact hb) k n (i+1) (by rw[hbs];omega) (by rw[hbs];omega);rw[hbs]at ih;by_cases hok:aBX (bs.getD i kV)=true
   ·refine(congrArg (λb=>bif !b then _ else _) hok).trans ?_;simp only[fK,cond_false];by_cases h0:0 < i
    ·rw[dt (show(i:Int) > 0 by omega),cond_true,wi (by omega) (by omega),dt (show(0:Int)<=(i:Int)-1 by omega),dt (show(i:Int)-1 < (bs.length:Int)by omega),bL,cond_true,jL h0];by_cases hh:(bs.getD i kV).1<=(bs.getD (i-1) kV).1
     ·have e:bF bs i=1:=by unfold bF;rw[if_pos hok,if_pos ⟨h0,hh⟩]
      rw[dt (c:=(List.getD bs i (0,0,0,0,false)).1<=(List.getD bs (i-1) (0,0,0,0,false)).1) hh,cond_true,e];rfl
     ·have e:bF bs i=0:=by unfold bF;rw[if_pos hok,if_neg (λh=>hh h.2)]
      rw[df (c:=(List.getD bs i (0,0,0,0,false)).1<=(List.getD bs (i-1) (0,0,0,0,false)).1) hh,cond_false,if_pos e];exact ih
    ·have e:bF bs i=0:=by unfold bF;rw[if_pos hok,if_neg (λh=>h0 h.1)]
     rw[df (show ¬ (i:Int) > 0 by omega),cond_false,if_pos e];exact ih
   ·have e:bF bs i=3:=by unfold bF;rw[if_neg hok]
    refine(congrArg (λb=>bif !b then _ else _) (show aBX (bs.getD i kV)=false by simpa using hok)).trans ?_;rw[e];rfl
  ·rw[df (show ¬ (i:Int) < (bs.length:Int)by omega),cond_false,gQ hi,if_pos rfl]
theorem aI5 (M58:Int->Option Bool)(M81:Bk->Option Bool)(L:Nat)(c:Cg)(hok:okC c)(k:Option Int) :
  ∀ (n i:Nat),i<=c.2.2.length->c.2.2.length < n+i->uE M58 M81 iP L c n i k=if kE (vF c.2.1 c.2.2) (c.2.2.length-i) i=0 then k else some (kE (vF c.2.1 c.2.2) (c.2.2.length-i) i)
 | 0,i,h2,h3=>by omega
 | n+1,i,h2,h3=>by
  unfold uE;have hn':c.2.2.length<=1000000000000:=hok.2.1;by_cases hi:i < c.2.2.length
  ·rw[dt (show(i:Int) < (c.2.2.length:Int)by omega),cond_true,gP hi,wi (x:=(i:Int)+1) (by omega) (by omega)];rw[show iP (c,(i:Int))=some (vF c.2.1 c.2.2 i) from if_pos ⟨hok,by simp only;omega,by simp only;omega⟩,bJ];by_cases e:vF c.2.1 c.2.2 i=0
   ·rw[iW e,cond_false,if_pos e];exact aI5 M58 M81 L c hok k n (i+1) (by omega) (by omega)
   ·rw[iR e,cond_true,if_neg e,if_neg e]
  ·rw[df (show ¬ (i:Int) < (c.2.2.length:Int)by omega),cond_false,gQ hi,if_pos rfl]
def fO (c:Cg):Option Int:=if okC c then some (cF c)else none
theorem aOl:Sat prog cxT 25 (c25 fO):=s25 _ _ iP aIT aN6 aN5 fO λx t h=>by
 obtain⟨a,b,c⟩:=x;unfold fO at h;split at h
 ·rename_i hc;cases h;refine⟨b.length+c.length+1,?_⟩;show g25 _ _ iP _ (a,b,c)=some (cF (a,b,c));unfold g25 cF;simp only[bJ];cases hv:lC a
  ·simp
  ·simp only[fK,cond_false,if_true];by_cases h8:8 < b.length
   ·rw[dt (show(b.length:Int) > 8 by omega),cond_true,if_pos (.inl h8)]
   ·rw[df (show ¬ (b.length:Int) > 8 by omega),cond_false];by_cases h4:4 < c.length
    ·rw[dt (show(c.length:Int) > 4 by omega),cond_true,if_pos (.inr h4)]
    ·rw[df (show ¬ (c.length:Int) > 4 by omega),cond_false,if_neg (by omega)];refine(aI6 _ _ _ (a,b,c) hc.1 _ _ 0 (by omega) (by simp only;omega)).trans ?_;rw[fA];by_cases e:kE (bF b) b.length 0=0
     ·rw[if_pos e,if_pos e];refine(aI5 _ _ _ (a,b,c) hc _ _ 0 (by omega) (by simp only;omega)).trans ?_;rw[fA];split
      ·rename_i e2;rw[e2]
      ·rfl
     ·rw[if_neg e,if_neg e]
 ·cases h
def mCF (c:Cg):Option Int:=if okC c then some (cF c)else none
end Go.Proofs.Tryz
