/- A part of the proof of FnExactCopyMail: LiSi, LiSj. -/
import Derived.Test.YtalbnpcbmakijaaGreatLiSg
import Derived.Test.YtalbnpcbmakijaaGreatLiFn
set_option linter.unusedSimpArgs false
set_option linter.unusedVariables false
set_option maxHeartbeats 0
namespace Go.Proofs.Tryz
open Go Go.VM Go.RowKit
theorem aE9 {w:World}{A0:Nat->Prop}{a:A cxT.ty}{u:Value}(h:ArgA cxT w A0 a u):ArgAs cxT w A0 [a] [u]:=by
 refine⟨rfl,λj b v h1 h2=>?_⟩;cases j with
 | zero=>cases h1;cases h2;exact h
 | succ j=>simp at h1
theorem yG {f e:Nat}{F:List (A cxT.ty)->Option (Bool×V cxT.ty)}(hs:Sat prog cxT f F){xs:List (cxT.ty e)}(hF:F [.inl (ls (ro e xs))]=some (true,.inl (.inl (ls { own:=2,nm:=0,e:=e,o:=true,xs:=xs }))))
  {w W:World} {A0:Nat->Prop} (hA:∀ b,A0 b->b < w.heap.size) (hB:Below w.heap.size w W) {v:Value} {n:Nat} (hv:RepL cxT w A0 n (some (.inr (ro e xs))) v) :
  Gives f v (λW u fp=>∃ n,OwnL cxT W n (some (.inr { own:=2,nm:=0,e:=e,o:=true,xs:=xs })) u fp) W:=by
 have hv':=RepL_mono cxT (λb hb=>hB.block b (hA b hb)) (λ_ h=>h) n _ v hv;have hBs:=hB.size;have:=hs W A0 [.inl (ls (ro e xs))] [v] _ (λb hb=>by have:=hA b hb;omega) (aE9 (ArgA.leaf rfl (show ArgL cxT W A0 (ls (ro e xs)) v from⟨rfl,n,hv'⟩))) hF;refine this.mono ?_;rintro e' W' ⟨u,rfl,hb,fp,hnd,hN,hr⟩;have hr:ResA cxT W' _ (.inl (ls { own:=2,nm:=0,e:=e,o:=true,xs:=xs })) u fp:=hr;unfold ResA ResL at hr;simp only[ls,if_true]at hr;obtain⟨_,n',ho⟩:=hr;obtain⟨_,_,_,a,k,c,rfl⟩:=OwnL_slice ho;exact⟨a,k,c,fp,rfl,hb,hnd,hN,n',ho⟩
def okN (y:N10):Prop:=y.2.2.2.2.1.length<=2000000/\y.2.2.2.2.2.2.2.1.length<=2000000/\y.2.2.2.2.2.2.2.2.1.length<=2000000/\y.2.2.2.2.2.2.2.2.2.length<=2000000
instance (y:N10):Decidable (okN y):=by unfold okN;infer_instance
def aFK (y:N10):Option N10:=if okN y then some y else none
theorem aRb:Sat prog cxT 118 (aSs aFK):=bCd aFK λx t h=>by
 unfold aFK at h;split at h
 ·rename_i hc;cases h;obtain⟨h1,h2,h3,h4⟩:=hc;refine⟨0,?_⟩;unfold aQd aMh G118;rw[decide_eq_true (by omega),decide_eq_true (by omega),decide_eq_true (by omega),decide_eq_true (by omega)]
  rfl
 ·cases h
def ElN (x:List N10)(i:Nat)(W:World)(ds:List Value)(fs:List (List Nat)):Prop:=
 ∃ y,x[i]?=some y/\∀ (t:Nat) l c f,(cxT.enc 96 true y)[t]?=some l->ds[t]?=some c->fs[t]?=some f->OwnL cxT W 1 l c f
theorem ElN_mono (x:List N10)(i:Nat)(W W':World)(ds:List Value)(fs:List (List Nat))(h:∀ b∈fs.flatten,W'.heap[b]?=W.heap[b]?)(he:ElN x i W ds fs):ElN x i W' ds fs:=by
 obtain⟨y,hy,he⟩:=he;exact⟨y,hy,λt l c f h1 h2 h3=>OwnL_mono cxT 1 l c f (λb hb=>h b (cH.2 ⟨f,aN h3,hb⟩)) (he t l c f h1 h2 h3)⟩
theorem yI (o:Bool)(y:N10):(cxT.enc 96 o y).length=10:=bA.len 96 o y
theorem aJO {W:World}{S:Nat->Prop}{y:N10}{t:Nat}{l:L cxT.ty}{c:Value}{f:List Nat}(h1:(cxT.enc 96 true y)[t]?=some l)(h:ResL cxT W S l c f):OwnL cxT W 1 l c f:=by
 have ht:t < 10:=by have:=(aD.1 h1).1;rwa [yI]at this
 rcases(by omega:(t=0\/t=1\/t=2\/t=3\/t=5\/t=6)\/(t=4\/t=7\/t=8\/t=9))with h0 | h0
 ·have:∃ v,l=lv v:=by
   rcases h0 with rfl | rfl | rfl | rfl | rfl | rfl
   all_goals exact⟨_,(fA h1).symm⟩
  obtain⟨v,rfl⟩:=this;exact h
 ·have:∃ e xs,l=ls { own:=2,nm:=0,e:=e,o:=true,xs:=xs }/\cxT.flat e=true:=by
   rcases h0 with rfl | rfl | rfl | rfl
   all_goals exact⟨_,_,(fA h1).symm,rfl⟩
  obtain⟨e,xs,rfl,hf⟩:=this;unfold ResL at h;simp only[ls,if_true]at h;obtain⟨_,n,h⟩:=h;obtain⟨k1,rfl⟩:=oZ (s:={ own:=2,nm:=0,e:=e,o:=true,xs:=xs }) bA hf h;exact nP (s:={ own:=2,nm:=0,e:=e,o:=true,xs:=xs }) bA hf k1
theorem aYL {x:List N10}{i:Nat}{y:N10}(hy:x[i]?=some y)(hok:okN y){w W:World}{A0:Nat->Prop}(hA:∀ b,A0 b->b < w.heap.size)(hB:Below w.heap.size w W){cs:List Value}(hcl:cs.length=10)
  (hcs:∀ (t:Nat) l,(cxT.enc 96 false y)[t]?=some l->∃ v m,cs[t]?=some v/\RepL cxT w A0 m l v) :
  Calls prog 118 #[.agg cs.toArray] W λe W'=>∃ ds fs,e=.returned (.agg ds.toArray)/\Below W.heap.size W W'/\ds.length=10/\fs.length=10/\(∀ x∈ds,x.oneCell'=true) ∧
   fs.flatten.Nodup/\(∀ b∈fs.flatten,W.heap.size<=b/\b < W'.heap.size)/\ElN x i W' ds fs:=by
 have hBs:=hB.size;have hF:aSs aFK (aZV.enc y)=some (true,aEz y):=by
  show some ((aFK y).isSome,aEz ((aFK y).getD aKY))=_;unfold aFK;rw[if_pos hok];rfl
 have hargs:ArgAs cxT W A0 (aZV.enc y) [.agg cs.toArray]:=aE9 (a:=.inr (cxT.enc 96 false y)) ⟨cs,rfl,by rw[hcl,yI],λj l v h1 h2=>by
  obtain⟨v',m,k1,k2⟩:=hcs j l h1;rw[k1]at h2;cases h2;have k3:=RepL_mono cxT (λb hb=>hB.block b (hA b hb)) (λ_ h=>h) m l _ k2;rcases bA.leaf 96 false y l (aN h1)with⟨v0,rfl,_⟩ | ⟨s,rfl,hs⟩
  ·have k4:v=v0:=by cases m<;>simpa[RepL]using k3
   exact k4
  ·exact⟨hs,m,k3⟩⟩
 refine(aRb W A0 (aZV.enc y) [.agg cs.toArray] _ (λb hb=>by have:=hA b hb;omega) hargs hF).mono ?_;rintro e W' ⟨u,rfl,hb,fp,hnd,hN,hr⟩;have hr:ResA cxT W' _ (.inr (cxT.enc 96 true y)) u fp:=hr;obtain⟨ds,fs,rfl,rfl,hl1,hl2,hr⟩:=hr;rw[yI]at hl1 hl2;have hel:∀ (t:Nat) l c f,(cxT.enc 96 true y)[t]?=some l->ds[t]?=some c->fs[t]?=some f->OwnL cxT W' 1 l c f:=λt l c f h1 h2 h3=>aJO h1 (hr t l c f h1 h2 h3)
 refine⟨ds,fs,rfl,hb,hl1,hl2,λc hc=>?_,hnd,hN,y,hy,hel⟩;obtain⟨t,ht⟩:=cK hc;have htl:t < 10:=by have:=(aD.1 ht).1;omega
 have h1:=aC (l:=cxT.enc 96 true y) (i:=t) (by rw[yI];exact htl);exact aGM bA (aN h1) (hel t _ c _ h1 ht (aC (by omega)))
end Go.Proofs.Tryz
set_option maxHeartbeats 0
namespace Go.Proofs.Tryz
open Go Go.VM Go.RowKit
def m68 (x:C4):Option C4:=if(x.1.length<=2000000/\∀ y∈x.1,okN y)/\(wU x.2.1).isSome/\x.2.2.1.length<=2000000/\x.2.2.2.length<=2000000 then some x else none
theorem zD {α:Type}{k:Nat}:∀ (D:List (List α)),(∀ d∈D,d.length=k)->∀ (i:Nat) d,D[i]?=some d->∀ t,t < k->D.flatten[i * k+t]?=d[t]?
 | [],_,i,d,h,_,_=>by simp at h
 | a::D,hD,0,d,h,t,ht=>by
  simp only[aJ,aB]at h;subst h;rw[cA,bB (by rw[hD a (by simp)];omega)];congr 1;omega
 | a::D,hD,i+1,d,h,t,ht=>by
  have ha:=hD a (by simp);rw[cA,aY (by rw[ha,eS];omega),ha];rw[show(i+1) * k+t-k=i * k+t by rw[eS];omega];exact zD D (λd hd=>hD d (by simp[hd])) i d (by simpa using h) t ht
theorem aEs:∀ FS:List (List (List Nat)),((List.range FS.length).flatMap λi=>(FS.getD i (List.replicate 10 [])).flatten)=FS.flatten.flatten:=by
 intro FS;have h:FS=(List.range FS.length).map λi=>FS.getD i (List.replicate 10 []):=by
  apply cW;intro i;by_cases hi:i < FS.length
  ·simp[hi]
  ·simp[hi,dV hi]
 have h2:∀ l:List (List (List Nat)),l.flatten.flatten=l.flatMap List.flatten:=by
  intro l
  induction l with
  | nil=>rfl
  | cons a l ih=>simp[ih]
 conv=>rhs;rw[h]
 rw[h2,fV]
theorem aHx {W:World}{x:List N10}{v:Value}{D:List (List Value)}{FS:List (List (List Nat))}{B:Nat}(hDn:D.length=x.length)(hFn:FS.length=x.length)(hrow:W.ownsRow B 96 10 v x.length D.flatten)
  (hD:∀ d∈D,d.length=10) (hF:∀ f∈FS,f.length=10) (hEl:∀ (i:Nat) d f,D[i]?=some d->FS[i]?=some f->ElN x i W d f) :
  OwnL cxT W 2 (some (.inr { own:=2,nm:=0,e:=96,o:=true,xs:=(x:List (cxT.ty 96)) })) v (v.ownBlock.toList++FS.flatten.flatten):=by
 have:=aEw bA (w:=W) (e:=96) (K:=10) (m:=1) rfl (by omega) (xs:=(x:List (cxT.ty 96))) (v:=v) (λi=>FS.getD i (List.replicate 10 [])) (λi=>?_) (kT hrow) ?_
 ·have e1:((List.range (List.length (x:List (cxT.ty 96)))).flatMap λi=>(FS.getD i (List.replicate 10 [])).flatten)=FS.flatten.flatten:=by
   rw[<-aEs FS,hFn]
  exact(congrArg (λf=>OwnL cxT W 2 (some (.inr { own:=2,nm:=0,e:=96,o:=true,xs:=(x:List (cxT.ty 96)) })) v (v.ownBlock.toList++f)) e1).mp this
 ·by_cases hi:i < FS.length
  ·have:FS.getD i (List.replicate 10 [])=FS[i]:=by simp[hi]
   rw[this];exact hF _ (eB hi)
  ·have:FS.getD i (List.replicate 10 [])=List.replicate 10 []:=by simp[dV hi]
   rw[this];simp
 ·intro i y hy t l c f h1 h2 h3;have hi:i < x.length:=(aD.1 hy).1;have ht:t < 10:=by have:=(aD.1 h1).1;have e:=yI true y;omega
  have hd:=aC (l:=D) (i:=i) (by omega);have hf:=aC (l:=FS) (i:=i) (by omega);rw[zD D hD i _ hd t ht]at h2;have hg:FS.getD i (List.replicate 10 [])=FS[i]'(by omega):=by rw[List.getD,hf];rfl
  rw[hg]at h3;obtain⟨y',hy',hel⟩:=hEl i _ _ hd hf;have hyy:y'=y:=by
   have:=hy'.symm.trans hy;exact fA this
  subst hyy;exact hel t l c f h1 h2 h3
theorem aT7:Sat prog cxT 68 (c68 m68):=by
 intro w A0 l us r hA hargs hF;obtain⟨x,t,rfl,hx,rfl⟩:=oY hF;obtain⟨xn,xm,xw,xs⟩:=x;obtain⟨u,rfl,hu⟩:=wP (show ArgAs cxT w A0 [.inr [ls (ro 96 xn),ls (ro 78 xm),ls (ro 66 xw),ls (ro 118 xs)]] us from hargs);unfold m68 at hx;split at hx
 ·rename_i hc;obtain⟨⟨hn,hok⟩,hm,hw,hs⟩:=hc;replace hw:xw.length<=2000000:=hw;replace hs:xs.length<=2000000:=hs;replace hn:xn.length<=2000000:=hn;replace hm:(wU xm).isSome:=hm;cases hx;obtain⟨vs,rfl,hlen,hv⟩:=hu;obtain⟨u0,u1,u2,u3,rfl⟩:∃ a b c d,vs=[a,b,c,d]:=by
   match vs,hlen with
   | [a,b,c,d],_=>exact⟨a,b,c,d,rfl⟩
  obtain⟨_,n0,h0⟩:=(show(ro 96 xn:SlD cxT.ty).own=0/\∃ n,RepL cxT w A0 n (some (.inr (ro 96 xn))) u0 from hv 0 _ _ rfl rfl)
  obtain⟨_,n1,h1⟩:=(show(ro 78 xm:SlD cxT.ty).own=0/\∃ n,RepL cxT w A0 n (some (.inr (ro 78 xm))) u1 from hv 1 _ _ rfl rfl)
  obtain⟨_,n2,h2⟩:=(show(ro 66 xw:SlD cxT.ty).own=0/\∃ n,RepL cxT w A0 n (some (.inr (ro 66 xw))) u2 from hv 2 _ _ rfl rfl)
  obtain⟨_,n3,h3⟩:=(show(ro 118 xs:SlD cxT.ty).own=0/\∃ n,RepL cxT w A0 n (some (.inr (ro 118 xs))) u3 from hv 3 _ _ rfl rfl)
  obtain⟨q,c,cs,rfl,hcap,hl,ho,hq,hel⟩:=aEp (K:=10) bA (rfl:cxT.size 96=10) (by decide) h0;replace hl:cs.length=(xn:List N10).length * 10:=hl;obtain⟨q1,c1,rfl,_,_⟩:=tA h1;obtain⟨q2,c2,rfl,_,_⟩:=tA h2;obtain⟨q3,c3,rfl,_,_⟩:=tA h3;have hq':xn.length≠0->∃ ad,q=some ad/\∀ (j:Nat) x,cs[j]?=some x->(ad.add j).block < w.heap.size/\w.cell? (ad.add j)=some x:=λh=>by
   obtain⟨b,off,rfl,hS,h⟩:=hq h;exact⟨_,rfl,λj v hj=>⟨by rw[Addr.add_lit];exact hA b hS,by rw[Addr.add_lit];exact h j v hj⟩⟩
  have g70:∀ W,Below w.heap.size w W->Gives 70 (.slice q1 xm.length c1) (λW u fp=>∃ n,OwnL cxT W n (some (.inr { own:=2,nm:=0,e:=78,o:=true,xs:=(xm:List (cxT.ty 78)) })) u fp) W:=λW hB=>yG (e:=78) (xs:=(xm:List (cxT.ty 78))) aNf (by
   show some ((wU xm).isSome,n70 ((wU xm).getD aXK))=_;unfold wU at hm ⊢;split at hm
   ·rename_i h;rw[if_pos h];rfl
   ·cases hm) hA hB h1
  have aWA:∀ W,Below w.heap.size w W->Gives 119 (.slice q2 xw.length c2) (λW u fp=>∃ n,OwnL cxT W n (some (.inr { own:=2,nm:=0,e:=66,o:=true,xs:=(xw:List (cxT.ty 66)) })) u fp) W:=λW hB=>yG (e:=66) (xs:=(xw:List (cxT.ty 66))) aRa (by
   show some ((aJM xw).isSome,aUY ((aJM xw).getD aPw))=_;rw[show aJM xw=some xw from if_pos hw];rfl) hA hB h2
  have aWz:∀ W,Below w.heap.size w W->Gives 120 (.slice q3 xs.length c3) (λW u fp=>∃ n,OwnL cxT W n (some (.inr { own:=2,nm:=0,e:=118,o:=true,xs:=(xs:List (cxT.ty 118)) })) u fp) W:=λW hB=>yG (e:=118) (xs:=(xs:List (cxT.ty 118))) aQ9 (by
   show some ((aJL xs).isSome,aUX ((aJL xs).getD aPv))=_;rw[show aJL xs=some xs from if_pos hs];rfl) hA hB h3
  have hsub:∀ i,i < xn.length->((List.range 10).map λt=>cs.getD (i * 10+t) undef).length=10:=λi _=>by simp
  have hget:∀ (i t:Nat) v,t < 10->cs[i * 10+t]?=some v->((List.range 10).map λt=>cs.getD (i * 10+t) undef)[t]?=some v:=λi t v ht h=>by
   simp[ht,List.getD,h]
  refine(aIr q xn.length c cs hl hn ho w w.heap.size rfl hq' q1 q2 q3 xm.length xw.length xs.length c1 c2 c3 (λi=>(List.range 10).map λt=>cs.getD (i * 10+t) undef) (λi hi=>?_) (ElN xn) (ElN_mono xn) (λi hi W hB=>?_) _ _ _ ?_ ?_ ?_ g70 aWA aWz).mono ?_
  ·have hy:xn[i]?=some xn[i]:=aC hi;have hpl:∀ (t:Nat) v,(cxT.enc 96 false xn[i])[t]?=some (lv v)->cs.getD (i * 10+t) undef=v:=λt v h=>by
    obtain⟨u,m,k1,k2⟩:=hel i _ hy t _ h;have h5:u=v:=by cases m<;>simpa[RepL,lv]using k2
    rw[List.getD,k1,h5];rfl
   have hrw:∀ (t e:Nat) (ys:List (cxT.ty e)),(cxT.enc 96 false xn[i])[t]?=some (ls (ro e ys))->∃ q c,cs.getD (i * 10+t) undef=.slice q ys.length c:=λt e ys h=>by
    obtain⟨u,m,k1,k2⟩:=hel i _ hy t _ h;obtain⟨q,c,hu,_⟩:=tA k2;exact⟨q,c,by rw[List.getD,k1,hu];rfl⟩
   obtain⟨q4,k4,e4⟩:=hrw 4 102 _ rfl;obtain⟨q7,k7,e7⟩:=hrw 7 2 _ rfl;obtain⟨q8,k8,e8⟩:=hrw 8 2 _ rfl;obtain⟨q9,k9,e9⟩:=hrw 9 2 _ rfl;refine⟨xn[i].1,xn[i].2.1,xn[i].2.2.1,xn[i].2.2.2.1,q4,xn[i].2.2.2.2.1.length,k4,xn[i].2.2.2.2.2.1,xn[i].2.2.2.2.2.2.1,q7,xn[i].2.2.2.2.2.2.2.1.length,k7,q8,xn[i].2.2.2.2.2.2.2.2.1.length,k8,q9,xn[i].2.2.2.2.2.2.2.2.2.length,k9,?_,λt v h=>?_⟩
   ·show[cs.getD (i * 10+0) undef,cs.getD (i * 10+1) undef,cs.getD (i * 10+2) undef,cs.getD (i * 10+3) undef,cs.getD (i * 10+4) undef,cs.getD (i * 10+5) undef,cs.getD (i * 10+6) undef,cs.getD (i * 10+7) undef,cs.getD (i * 10+8) undef,cs.getD (i * 10+9) undef]=_;rw[hpl 0 _ rfl,hpl 1 _ rfl,hpl 2 _ rfl,hpl 3 _ rfl,e4,hpl 5 _ rfl,hpl 6 _ rfl,e7,e8,e9]
    rfl
   ·have ht:t < 10:=by have:=(aD.1 h).1;simpa using this
    have hlt:i * 10+t < cs.length:=by omega
    simp[ht,hlt]at h;rw[aC hlt,h]
  ·have hy:xn[i]?=some xn[i]:=aC hi;refine aYL hy (hok _ (eB hi)) hA hB (hsub i hi) λt l hl'=>?_
   obtain⟨v,m,k1,k2⟩:=hel i _ hy t l hl';have ht:t < 10:=by have:=(aD.1 hl').1;have e:=yI false xn[i];omega
   exact⟨v,m,hget i t v ht k1,k2⟩
  ·exact λW W' v f hb h=>⟨h.choose,OwnL_mono cxT _ _ _ _ hb h.choose_spec⟩
  ·exact λW W' v f hb h=>⟨h.choose,OwnL_mono cxT _ _ _ _ hb h.choose_spec⟩
  ·exact λW W' v f hb h=>⟨h.choose,OwnL_mono cxT _ _ _ _ hb h.choose_spec⟩
  ·rintro e W ⟨v0,v1,v2,v3,D,FS,f1,f2,f3,rfl,hDn,hFn,hrow,hD,hF,hEl,hO1,hO2,hO3,hnd,hbd,hB⟩;have hown:=aHx hDn hFn hrow hD hF hEl;refine⟨_,rfl,hB,v0.ownBlock.toList++FS.flatten.flatten++f1++f2++f3,hnd,hbd,[v0,v1,v2,v3],[v0.ownBlock.toList++FS.flatten.flatten,f1,f2,f3],rfl,by simp,rfl,rfl,λj a u f e1 e2 e3=>?_⟩
   match j with
   | 0=>cases e1;cases e2;cases e3;exact⟨rfl,2,hown⟩
   | 1=>cases e1;cases e2;cases e3;exact⟨rfl,hO1⟩
   | 2=>cases e1;cases e2;cases e3;exact⟨rfl,hO2⟩
   | 3=>cases e1;cases e2;cases e3;exact⟨rfl,hO3⟩
   | j+4=>simp at e2
 ·cases hx
end Go.Proofs.Tryz
