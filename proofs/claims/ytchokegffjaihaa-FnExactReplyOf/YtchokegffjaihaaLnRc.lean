/- A part of the proof of FnExactReplyOf: LnRc. -/
import Derived.Test.YtchokegffjaihaaLnRa
set_option linter.unusedSimpArgs false
set_option linter.unusedVariables false
set_option maxHeartbeats 0
namespace Go.Proofs.Try
open Go Go.VM Go.RowKit Go.Maps
theorem aCQ {m:Mg}(h:zV m=0):m.2.2.2.length<=40/\∀ j,j < m.2.2.2.length->seF m.2.2.2 j=0:=by
 unfold zV at h;split at h
 ·split at h
  ·exact absurd h (by decide)
  ·exact⟨by omega,λj hj=>vE.1 h j (fB _) (by omega)⟩
 ·rename_i h1;exact absurd h h1
theorem aGf {l:List Ss}{j:Nat}(h:seF l j=0):qX (l.getD j hI)=true/\(0 < j->(l.getD (j-1) hI).1 < (l.getD j hI).1):=by
 unfold seF at h;split at h
 ·rename_i h1;refine⟨h1,λh0=>?_⟩;split at h
  ·exact absurd h (by decide)
  ·rename_i h2;have:¬ (l.getD j hI).1<=(l.getD (j-1) hI).1:=λh3=>h2 ⟨h0,h3⟩
   omega
 ·exact absurd h (by decide)
theorem aFo {l:List Ss}(h:∀ j,j < l.length->seF l j=0):∀ i j,i < j->j < l.length->(l.getD i hI).1 < (l.getD j hI).1:=by
 intro i j hij
 induction j with
 | zero=>omega
 | succ j ih=>
  intro hj;have h1:=(aGf (h (j+1) hj)).2 (by omega);simp only[fG]at h1;by_cases h2:i=j
  ·rw[h2];exact h1
  ·have:=ih (by omega) (by omega);omega
theorem aD2 {l:List Ss}(h:∀ j,j < l.length->seF l j=0):∀ x∈l,1<=x.1/\x.1<=999:=by
 intro x hx;obtain⟨j,hj,rfl⟩:=gU.1 hx;have:=(aGf (h j hj)).1;rw[kR hI hj]at this;unfold qX at this;simp only[aE,decide_eq_true_eq]at this;exact this.1.1
theorem zB {c:Int}{x:Ss}:∀ {l:List Ss} {z:Ss},(∀ y∈l,y.1=c->y=x)->lV c l z=if(l.any λy=>y.1 == c)=true then x else z
 | [],z,h=>by simp[lV]
 | y::l,z,h=>by
  show lV c l (if y.1=c then y else z)=_;rw[zB (l:=l) λw hw=>h w (aT _ hw)];by_cases e:y.1=c
  ·have:=h y (aY ..) e;subst this;simp[e]
  ·rw[if_neg e,mV,beq_eq_false_iff_ne.2 e,Bool.false_or]
theorem aE7 (c:Int)(l:List Ss):has (bag l) (kL c)=l.any λy=>y.1 == c:=by
 unfold bag;rw[aDd c l _ isMap_empty,has_eq];simp
def rM (x:Mg×Int×Int):Int×Int:=if zV x.1=0 then rp (x.1.2.2.2.any λy=>y.1 == x.2.1) (lV x.2.1 x.1.2.2.2 hI) x.2.2 else(zV x.1,0)
def inW (c:Int):Prop:=(Lit.int .i64 c).wf=true
instance (c:Int):Decidable (inW c):=by unfold inW;infer_instance
def mRP (x:Mg×Int×Int):Option (Int×Int):=if okG x.1/\inW x.2.1 then some (rM x)else none
theorem aE9 {w:World}{A0:Nat->Prop}{a:A cxT.ty}{u:Value}(h:ArgA cxT w A0 a u):ArgAs cxT w A0 [a] [u]:=by
 refine⟨rfl,λj b v h1 h2=>?_⟩;cases j with
 | zero=>cases h1;cases h2;exact h
 | succ j=>simp at h1
theorem aDj {w:World}{A0:Nat->Prop}{a b c:A cxT.ty}{us:List Value}(h:ArgAs cxT w A0 [a,b,c] us):∃ x y z,us=[x,y,z]/\ArgA cxT w A0 a x/\ArgA cxT w A0 b y/\ArgA cxT w A0 c z:=by
 obtain⟨hl,h⟩:=h
 match us,hl with
 | [x,y,z],_=>exact⟨x,y,z,rfl,h 0 _ _ rfl rfl,h 1 _ _ rfl rfl,h 2 _ _ rfl rfl⟩
theorem aCB {W:World}{A0 N:Nat->Prop}(x y:Int):ResV cxT W A0 N (.inl (.inr [lv (.int .i64 x),lv (.int .i64 y)])) (.agg #[.int .i64 x,.int .i64 y]):=by
 refine⟨[],List.nodup_nil,by simp,[.int .i64 x,.int .i64 y],[[],[]],rfl,by simp,rfl,rfl,λj a u f e1 e2 e3=>?_⟩
 match j with
 | 0=>cases e1;cases e2;cases e3;exact⟨rfl,rfl⟩
 | 1=>cases e1;cases e2;cases e3;exact⟨rfl,rfl⟩
 | j+2=>simp at e2
theorem aKD:Sat prog cxT 12 (c12 mRP):=by
 intro w A0 l us r hA hargs hF;obtain⟨x,t,rfl,hx,rfl⟩:=aAc hF;obtain⟨⟨a,xb,xv,xs⟩,cl,s⟩:=x;obtain⟨u,ucl,us',rfl,hu,hu1,hu2⟩:=aDj (show ArgAs cxT w A0 [.inr [lv (.int .i64 a),ls (ro 75 xb),ls (ro 79 xv),ls (ro 55 xs)],.inl (lv (.int .i64 cl)),.inl (lv (.int .i64 s))] us from hargs);obtain rfl:ucl=.int .i64 cl:=hu1;obtain rfl:us'=.int .i64 s:=hu2;unfold mRP at hx;split at hx
 ·rename_i hc;obtain⟨hc,hcl⟩:=hc;cases hx;obtain⟨vs,rfl,hlen,hv⟩:=hu;obtain⟨u0,u1,u2,u3,rfl⟩:∃ a b c d,vs=[a,b,c,d]:=by
   match vs,hlen with
   | [a,b,c,d],_=>exact⟨a,b,c,d,rfl⟩
  obtain rfl:u0=.int .i64 a:=hv 0 _ _ rfl rfl;obtain⟨_,n1,h1⟩:=(show(ro 75 xb:SlD cxT.ty).own=0/\∃ n,RepL cxT w A0 n (some (.inr (ro 75 xb))) u1 from hv 1 _ _ rfl rfl)
  obtain⟨_,n2,h2⟩:=(show(ro 79 xv:SlD cxT.ty).own=0/\∃ n,RepL cxT w A0 n (some (.inr (ro 79 xv))) u2 from hv 2 _ _ rfl rfl)
  obtain⟨_,n3,h3⟩:=(show(ro 55 xs:SlD cxT.ty).own=0/\∃ n,RepL cxT w A0 n (some (.inr (ro 55 xs))) u3 from hv 3 _ _ rfl rfl)
  obtain⟨q1,c1,rfl,_,_⟩:=zR h1;obtain⟨q2,c2,rfl,_,_⟩:=zR h2;obtain⟨q,c,rfl,hcap,hq⟩:=zR h3;have h9:∀ W,Below w.heap.size w W->Calls prog 9 #[.agg #[.int .i64 a,.slice q1 xb.length c1,.slice q2 xv.length c2,.slice q xs.length c]] W λe W'=>e=.returned (.int .i64 (zV (a,xb,xv,xs)))/\Below W.heap.size W W':=λW hB=>by
   have hBs:=hB.size;have mono:=λ(l:L cxT.ty) u (n:Nat) (h:RepL cxT w A0 n l u)=>RepL_mono cxT (w':=W) (λb hb=>hB.block b (hA b hb)) (λ_ h=>h) n l u h
   refine(aN4 W A0 (a9.enc (a,xb,xv,xs)) [.agg #[.int .i64 a,.slice q1 xb.length c1,.slice q2 xv.length c2,.slice q xs.length c]] (n9 (zV (a,xb,xv,xs))) (λb hb=>by have:=hA b hb;omega) (aE9 (a:=.inr [lv (.int .i64 a),ls (ro 75 xb),ls (ro 79 xv),ls (ro 55 xs)]) ⟨_,rfl,by simp,λj a u e1 e2=>?_⟩) ?_).mono ?_
   ·match j with
    | 0=>cases e1;cases e2;rfl
    | 1=>cases e1;cases e2;exact⟨rfl,n1,mono _ _ _ h1⟩
    | 2=>cases e1;cases e2;exact⟨rfl,n2,mono _ _ _ h2⟩
    | 3=>cases e1;cases e2;exact⟨rfl,n3,mono _ _ _ h3⟩
    | j+4=>simp at e1
   ·show some ((mMF (a,xb,xv,xs)).isSome,n9 ((mMF (a,xb,xv,xs)).getD dd9))=_;rw[show mMF (a,xb,xv,xs)=some (zV (a,xb,xv,xs)) from if_pos hc]
    rfl
   ·rintro e' W' ⟨u,rfl,hb,hr⟩;exact⟨by rw[aFE (show ResV cxT W' A0 _ (.inl (.inl (lv (.int .i64 (zV (a,xb,xv,xs)))))) u from hr)],hb⟩
  by_cases hz:zV (a,xb,xv,xs)=0
  ·rw[hz]at h9;obtain⟨h40,hse⟩:=aCQ hz;have hrg:=aD2 hse;refine(aFw a q1 q2 q xb.length xv.length c1 c2 c xs h40 w cl s (λx hx=>by have:=hrg x hx;exact aDQ (by omega) (by omega)) hcl (λh=>?_) h9).mono ?_
   ·rcases hq with hq | ⟨b,off,rfl,hS,hel⟩
    ·have:xs.length=0:=by rw[show xs=[] from hq];rfl
     exact absurd this h
    ·refine⟨b,off,rfl,hA b hS,λj hj=>?_⟩;have hy:(xs:List Ss)[j]?=some xs[j]:=aC hj;have hg:(xs:List Ss).getD j hI=xs[j]:=kR hI hj;have hpl:∀ (t:Nat) v,(cxT.enc 55 false xs[j])[t]?=some (lv v)->w.cell? ⟨b,off+(j * 3+t),none⟩=some v:=λt v h=>by
      obtain⟨u,m,k1,k2⟩:=hel j _ hy t _ h;have h5:u=v:=by cases m<;>simpa[RepL,lv]using k2
      rw[<-h5];exact k1
     rw[hg];exact⟨hpl 0 _ rfl,hpl 1 _ rfl,hpl 2 _ rfl⟩
   ·rintro e W ⟨rfl,hB⟩;refine⟨_,rfl,hB,?_⟩;have e1:rM ((a,xb,xv,xs),cl,s)=rp (has (bag xs) (kL cl)) (lV cl xs hI) s:=by
     rw[aE7];exact if_pos hz
    show ResV cxT W A0 _ (.inl (.inr [lv (.int .i64 (rM ((a,xb,xv,xs),cl,s)).1),lv (.int .i64 (rM ((a,xb,xv,xs),cl,s)).2)])) _;rw[e1];exact aCB _ _
  ·refine(aEc a q1 q2 q xb.length xv.length xs.length c1 c2 c w _ cl s hz h9).mono ?_;rintro e W ⟨rfl,hB⟩;refine⟨_,rfl,hB,?_⟩;have e1:rM ((a,xb,xv,xs),cl,s)=(zV (a,xb,xv,xs),0):=if_neg hz;show ResV cxT W A0 _ (.inl (.inr [lv (.int .i64 (rM ((a,xb,xv,xs),cl,s)).1),lv (.int .i64 (rM ((a,xb,xv,xs),cl,s)).2)])) _;rw[e1];exact aCB _ _
 ·cases hx
theorem aLa (L:Nat)(m:Mg)(c:Int)(hl:m.2.2.2.length<=mA)(k:Option Int)(hk:k=some (-1)):∀ (n i:Nat),i<=m.2.2.2.length->m.2.2.2.length < i+n->
  rU L m c n (i:Int) k=some (idx (λy:Ss=>y.1 == c) (m.2.2.2.drop i) i)
 | 0,i,h1,h2=>by omega
 | n+1,i,h1,h2=>by
  unfold rU;unfold mA at hl;by_cases hi:i < m.2.2.2.length
  ·rw[dt (show(i:Int) < (m.2.2.2.length:Int)by omega),dt (show(0:Int)<=(i:Int)by omega),bR,wi (x:=(i:Int)+1) (by omega) (by omega),dV hi,nQ];simp only[cond_true,cB];show(bif ((m.2.2.2.getD i hI).1 == c)then some (i:Int)else rU L m c n (((i+1:Nat):Int)) k)=_;rw[kR hI hi];cases hb:(m.2.2.2[i].1 == c)
   ·simp only[cond_false];exact aLa L m c (by unfold mA;omega) k hk n (i+1) (by omega) (by omega)
   ·simp
  ·rw[df (show ¬ (i:Int) < (m.2.2.2.length:Int)by omega),cond_false,hk,cP (by omega)]
   rfl
def xJ (x:Mg×Int):Option Int:=if x.1.2.2.2.length<=mA then some (idx (λy:Ss=>y.1 == x.2) x.1.2.2.2 0)else none
theorem aKs:Sat prog cxT 25 (c25 xJ):=s25 xJ λx t h=>by
 obtain⟨m,c⟩:=x;unfold xJ at h;split at h
 ·rename_i hc;cases h;refine⟨m.2.2.2.length+1,?_⟩;show g25 _ m c=_;unfold g25;exact aLa _ m c hc _ rfl _ 0 (by omega) (by omega)
 ·cases h
def mR (x:Mg×Int×Int):Option (Int×Int):=if okG x.1 then some (rM x)else none
theorem aKE:Sat prog cxT 11 (c11 mR):=s11 _ _ aKz aKs mR λx t h=>by
 obtain⟨⟨a,b,c,xs⟩,cl,s⟩:=x;unfold mR at h;split at h
 ·rename_i hc;cases h;refine⟨0,?_⟩;show g11 mMF xJ 0 a b c xs cl s=some (rM ((a,b,c,xs),cl,s));unfold g11 rM;have hb:xs.length<=mA:=hc.2;rw[show mMF (a,b,c,xs)=some (zV (a,b,c,xs)) from if_pos hc,bX];show _=some (if zV (a,b,c,xs)=0 then rp (xs.any λy=>y.1 == cl) (lV cl xs hI) s else(zV (a,b,c,xs),0));by_cases e:zV (a,b,c,xs)=0
  ·rw[xR e,cond_false,if_pos e,show xJ ((a,b,c,xs),cl)=some (idx (λy:Ss=>y.1 == cl) xs 0) from if_pos hb,bX];obtain⟨h40,hse⟩:=aCQ e;replace h40:xs.length<=40:=h40;by_cases hany:(xs.any λy=>y.1 == cl)=true
   ·obtain⟨j,hj,hj2,hj3,hj4⟩:=zZ hI (p:=λy:Ss=>y.1 == cl) (l:=xs) (i:=0) hany;have hj3:(xs.getD j hI).1=cl:=by simpa using hj3
    rw[hj,fQ,df (show ¬ ((j:Nat):Int) < 0 by omega),cond_false,dt (show(0:Int)<=((j:Nat):Int)by omega),dt (show((j:Nat):Int) < (xs.length:Int)by omega),bR,hany];have hone:lV cl xs hI=xs.getD j hI:=by
     rw[zB (x:=xs.getD j hI),if_pos hany];intro y hy hyc;obtain⟨k,hk,rfl⟩:=gU.1 hy;rw[<-kR hI hk]at hyc ⊢;have hr:=aFo hse;rcases gS k j with h | h | h
     ·have:=hr k j h hj2;simp only at this;omega
     ·rw[h]
     ·have:=hr j k h hk;simp only at this;omega
    rw[hone];simp only[cB,cond_true];show(bif decide ((xs.getD j hI).2.1 < s)then some ((4:Int),(0:Int))else bif decide ((xs.getD j hI).2.1 > s)then some ((9:Int),(0:Int))else some ((0:Int),(xs.getD j hI).2.2))=_;unfold rp;by_cases h1:(xs.getD j hI).2.1 < s
    ·rw[dt h1,cond_true,if_pos (.inr h1)]
    ·rw[df h1,cond_false,if_neg (λh=>h.elim (by decide) h1)];by_cases h2:s < (xs.getD j hI).2.1
     ·rw[dt (show(xs.getD j hI).2.1 > s from h2),cond_true,if_pos h2]
     ·rw[df (show ¬ (xs.getD j hI).2.1 > s from h2),cond_false,if_neg h2]
   ·have hany:(xs.any λy=>y.1 == cl)=false:=lY.2 hany;rw[dt (tN.2 hany),cond_true,hany]
    rfl
  ·rw[xQ e,cond_true,if_neg e]
 ·cases h
def m4 (x:Mg×Int×Int):Option Bool:=if zG x.1/\inW x.2.1 then some true else none
theorem sat4:Sat prog cxT 4 (c4 m4):=s4 m6 m8 mR mRP _ kN aN6 aN5 aKE aKD aKC aKF m4 λx t h=>by
 obtain⟨⟨a,b,c,d⟩,cl,s⟩:=x;unfold m4 at h;split at h
 ·rename_i hz;obtain⟨hz,hcl⟩:=hz;cases h;refine⟨0,?_⟩;show g4 m6 m8 mR mRP _ kN 0 a b c d cl s=some true
  generalize hX:((a,b,c,d):Mg)=X at hz
  unfold g4;simp only[hX];rw[show m6 (X,1048576)=some (jJ 1048576 (wG X)) from if_pos ⟨by simp only;omega,by simp only;omega,hz⟩,bX];by_cases h:jJ 1048576 (wG X) < 0
  ·rw[dt h,cond_true]
  ·obtain⟨hM,hC,hL⟩:=aHb (by omega) h;have hMX:aFG X:=⟨hM,by unfold qV;omega⟩
   have hGX:okG X:=⟨hC,by unfold mA;omega⟩
   have eX:m8 X=some X:=if_pos hMX;have pX:kN (X,X)=some true:=by rw[show kN (X,X)=some (decide (X=X)) from if_pos hGX,dt rfl]
   have f1:mR (X,cl,s)=some (rM (X,cl,s)):=if_pos hGX;have f2:mRP (X,cl,s)=some (rM (X,cl,s)):=if_pos ⟨hGX,hcl⟩;rw[df h,cond_false];simp only[eX,bX,pX,f1,f2,decide_true,dX,cond_false]
 ·cases h
end Go.Proofs.Try
