/- A part of the proof of FnWraps: L2Qy, L2Qz. -/
import Derived.Test.YtaegcoihgnobiaaL2Qu
import Derived.Test.YtaegcoihgnobiaaVmCb
set_option linter.unusedSimpArgs false
set_option linter.unusedVariables false
namespace Go.Proofs.Try
open Go Go.VM Go.RowKit
theorem aDf {w:World}{S:Nat->Prop}:∀ {l:L bH.ty} {u:Value},ResL bH w S (roL l) u []->ArgL bH w S (roL l) u
 | none,u,h=>h
 | some (.inl v),u,h=>h.1
 | some (.inr s),u,h=>by
  have h:ResL bH w S (some (.inr (ro s.e s.xs))) u []:=h;show ArgL bH w S (some (.inr (ro s.e s.xs))) u;unfold ResL at h;simp only[ro]at h;rw[if_neg (by decide)]at h;exact⟨rfl,h.2.2⟩
theorem aE8 {w:World}{S S':Nat->Prop}{l:List (L bH.ty)}{u:Value}{f:List Nat}(hS:∀ b,S b->S' b)(hf:∀ b∈f,S' b)(h:ResA bH w S (.inr l) u f):ArgA bH w S' (.inr (l.map roL)) u:=by
 obtain⟨us,fps,hu,hfp,h1,h2,h3⟩:=h;refine⟨us,hu,by simpa using h1,λj a v e1 e2=>?_⟩;rw[aL]at e1;cases e0:l[j]? with
 | none=>rw[e0]at e1;simp at e1
 | some a0=>
  rw[e0]at e1;simp only[aF,aA]at e1;subst e1;have hj:j < fps.length:=by
   rw[h2];exact(aG.1 e0).1
  have h4:=h3 j a0 v fps[j] e0 e2 (aC hj);refine aDf (aCD dG hS (λb hb=>hf b ?_) h4);rw[hfp];exact cC.2 ⟨_,eI hj,hb⟩
theorem aFr {w:World}{S:Nat->Prop}{c:List Int}{a:Int}{u:Value}(h:ArgA bH w S (.inr [ls (ro 5 c),lv (.int .i64 a)]) u):ResA bH w S (.inr [ls (ro 5 c),lv (.int .i64 a)]) u []:=by
 obtain⟨us,hu,hl,h⟩:=h;refine⟨us,[[],[]],hu,rfl,hl,rfl,λj x v f e1 e2 e3=>?_⟩;have:=h j x v e1 e2
 match j with
 | 0=>
  simp only[aI,aA]at e1 e3;subst e1;subst e3;obtain⟨h1,n,h2⟩:=this;exact⟨h1,rfl,n,h2⟩
 | 1=>
  simp only[bX,aI,aA]at e1 e3;subst e1;subst e3;exact⟨this,rfl⟩
 | j+2=>simp at e1
abbrev oB (xs:List Int):L bH.ty:=some (.inr { own:=2,nm:=0,e:=5,o:=true,xs:=xs })
theorem aEN (xs:List Int):xs.flatMap (bH.enc 5 true)=xs.map λx=>lv (.int .u8 x):=by
 induction xs with
 | nil=>rfl
 | cons x r ih=>
  show bH.enc 5 true x++List.flatMap (bH.enc 5 true) r=_;rw[ih]
  rfl
theorem aEt {w:World}{m:Nat}{xs:List Int}{u:Value}{f:List Nat}(h:OwnL bH w m (oB xs) u f)(hne:xs≠[]):∃ b cap,u=.slice (some ⟨b,0,none⟩) xs.length cap/\w.ownsRow b 5 1 u xs.length (bV xs)/\b∈f:=by
 cases m with
 | zero=>exact h.elim
 | succ m=>
  obtain⟨us,fpl,hrow,hf,hul,hfl,h⟩:=h;have hrow:w.ownsRow 0 5 1 u xs.length us:=hrow;have hul:us.length=(xs.flatMap (bH.enc 5 true)).length:=hul;have h:∀ (j:Nat) (l:L bH.ty) (c:Value) (f:List Nat),(xs.flatMap (bH.enc 5 true))[j]?=some l->us[j]?=some c->fpl[j]?=some f->OwnL bH w m l c f:=h;rw[aEN]at hul h;have hus:us=bV xs:=by
   apply cM;intro j;by_cases hj:j < xs.length
   ·have h1:us[j]?=some (us[j]'(by rw[hul];simpa using hj)):=aC _;have h2:fpl[j]?=some (fpl[j]'(by rw[hfl,hul];simpa using hj)):=aC _;have h3:=h j (lv (.int .u8 xs[j])) _ _ (by rw[aL,aC hj];rfl) h1 h2;have h4:us[j]'(by rw[hul];simpa using hj)=.int .u8 xs[j]:=by
     cases m<;>exact h3.1
    rw[h1,h4,aL,aC hj]
    rfl
   ·rw[aX (by rw[hul];simpa using hj),aX (by simpa using hj)]
  subst hus;rcases hrow.2 with⟨rfl,hz⟩ | ⟨b,cap,cur,rfl,q1,q2,q3,q4,q5,q6⟩
  ·exact absurd (nO.1 hz) hne
  ·exact⟨b,cap,rfl,⟨hrow.1,.inr ⟨b,cap,cur,rfl,aS _,q2,q3,q4,q5,q6⟩⟩,by rw[hf];simp[Value.ownBlock]⟩
theorem vC {w:World}{b cap:Nat}{xs:List Int}(h:w.ownsRow b 5 1 (.slice (some ⟨b,0,none⟩) xs.length cap) xs.length (bV xs)):OwnL bH w 1 (oB xs) (.slice (some ⟨b,0,none⟩) xs.length cap) [b]:=by
 obtain⟨cur,hg,hs,hB,hn,hm,ht⟩:=eD h;refine⟨bV xs,xs.map (λ_=>[]),⟨h.1,.inr ⟨b,cap,cur,rfl,gX _,hg,hn,hm,hs,ht.symm⟩⟩,?_,?_,by simp[bV],λj l c f e1 e2 e3=>?_⟩
 ·have:(List.map (λ_=>([]:List Nat)) xs).flatten=[]:=by
   induction xs with
   | nil=>rfl
   | cons x r ih=>simp
  rw[this]
  rfl
 ·show(bV xs).length=(xs.flatMap (bH.enc 5 true)).length;rw[aEN];simp[bV]
 ·have e1:(xs.flatMap (bH.enc 5 true))[j]?=some l:=e1;rw[aEN]at e1;rw[aL]at e1 e2 e3;cases e0:xs[j]? with
  | none=>rw[e0]at e1;simp at e1
  | some x=>
   rw[e0]at e1 e2 e3;simp only[aF,aA]at e1 e2 e3;subst e1;subst e2;subst e3;exact⟨rfl,rfl⟩
theorem aEm {w:World}{S:Nat->Prop}{gb n cap k:Nat}{xs:List Int}(h:w.ownsRow gb 5 1 (.slice (some ⟨gb,0,none⟩) n cap) n (bV xs))(hk:k<=n)(hS:S gb):ArgA bH w S (.inl (ls (ro 5 (xs.take k)))) (.slice (some ⟨gb,0,none⟩) k cap):=by
 have hxs:=aCA h;obtain⟨cur,hg,hs,hB,hn,hm,ht⟩:=eD h;have hl:(xs.take k).length=k:=by rw[cF];omega
 refine ArgA.leaf rfl ⟨rfl,1,?_⟩;refine⟨some ⟨gb,0,none⟩,cap,by rw[show(ro 5 (xs.take k):SlD bH.ty).xs.length=k from hl],by rw[show(ro 5 (xs.take k):SlD bH.ty).xs.length=k from hl];omega,.inr ⟨gb,0,rfl,hS,λi x hx j l hj=>?_⟩⟩;have hx:(xs.take k)[i]?=some x:=hx;have hi:i < (xs.take k).length:=(aG.1 hx).1;have hj:([lv (.int .u8 x)]:List (L bH.ty))[j]?=some l:=hj
 match j,hj with
 | 0,hj=>
  simp only[aI,aA]at hj;subst hj;obtain⟨h1,_,_⟩:=kZ h (i:=i) (by omega);refine⟨_,?_,rfl⟩;show w.cell? ⟨gb,0+(i * 1+0),none⟩=some (.int .u8 x);rw[show 0+(i * 1+0)=i by omega,h1];rw[cA,if_pos (by omega)]at hx;simp[List.getD,hx]
  rfl
 | j+1,hj=>simp at hj
theorem xB {w:World}{A0:Nat->Prop}{a:A bH.ty}{u:Value}(h:ArgA bH w A0 a u):ArgAs bH w A0 [a] [u]:=by
 refine⟨rfl,λj b v h1 h2=>?_⟩
 match j,h1,h2 with
 | 0,h1,h2=>
  simp only[aI,aA]at h1 h2;subst h1;subst h2;exact h
 | j+1,h1,h2=>simp at h1
theorem aEn {w:World}{S:Nat->Prop}(hS:S w.heap.size):ArgA bH (w.alloc (.cells #[.int .i64 1,.int .i64 4,.int .i64 6,.int .i64 7,.int .i64 8,.int .i64 9] 2)) S (.inl (ls (ro 2 ([1,4,6,7,8,9]:List Int)))) (.slice (some ⟨w.heap.size,0,none⟩) 6 6):=by
 refine ArgA.leaf rfl ⟨rfl,1,?_⟩;refine⟨some ⟨w.heap.size,0,none⟩,6,rfl,aS _,.inr ⟨w.heap.size,0,rfl,hS,λi x hx j l hj=>?_⟩⟩;have hx:([1,4,6,7,8,9]:List Int)[i]?=some x:=hx;have hj:([lv (.int .i64 x)]:List (L bH.ty))[j]?=some l:=hj
 match j,hj with
 | 0,hj=>
  simp only[aI,aA]at hj;subst hj;refine⟨.int .i64 x,?_,rfl⟩;show(w.alloc (.cells #[.int .i64 1,.int .i64 4,.int .i64 6,.int .i64 7,.int .i64 8,.int .i64 9] 2)).cell? ⟨w.heap.size,0+(i * 1+0),none⟩=_
  match i,hx with
  | 0,hx | 1,hx | 2,hx | 3,hx | 4,hx | 5,hx=>
   have e:=jE hx;subst e;have hg:(w.alloc (.cells #[.int .i64 1,.int .i64 4,.int .i64 6,.int .i64 7,.int .i64 8,.int .i64 9] 2)).heap[w.heap.size]?=some (.cells #[.int .i64 1,.int .i64 4,.int .i64 6,.int .i64 7,.int .i64 8,.int .i64 9] 2 (0,0)):=Array.getElem?_push_size;rw[cell_of_row _ _ _ _ 2 (0,0) hg]
   rfl
  | i+6,hx=>simp at hx
 | j+1,hj=>simp at hj
end Go.Proofs.Try
set_option maxHeartbeats 0
namespace Go.Proofs.Try
open Go Go.VM Go.RowKit
def aAK (v1 v2:Int)(xs:List Int):List Int:=((xs.set v1.toNat (v2 % 256)).set 10 0).set 11 0
def uO (v1 v2:Int)(xs:List Int):List Int:=((aAK v1 v2 xs).set 10 (wrap64 ((lJ ((aAK v1 v2 xs).take 20)).tdiv 256) % 256)).set 11 ((lJ ((aAK v1 v2 xs).take 20)).tmod 256 % 256)
theorem qX {xs:List Int}(h:gE xs=true)(i:Nat)(v:Int):gE (xs.set i (v % 256))=true:=by
 refine aY.2 λx hx=>?_
 rcases List.mem_or_eq_of_mem_set hx with hx | rfl
 ·exact aY.1 h x hx
 ·have:0<=v % 256/\v % 256<=255:=by omega
  simp[this.1,this.2]
theorem aAJ {v1 v2:Int}{xs:List Int}(h:gE xs=true):gE (aAK v1 v2 xs)=true:=qX (qX (qX h _ _) 10 0) 11 0
theorem aDY {v1 v2:Int}{xs:List Int}(h:gE xs=true):gE (uO v1 v2 xs)=true:=qX (qX (aAJ h) 10 _) 11 _
theorem aDi (v1 v2:Int)(xs:List Int):(uO v1 v2 xs).length=xs.length:=by simp[uO,aAK]
def oF (s:Src):Option (List Int×List Int×Int):=if okZ s 700000000 then
  match m72 s with
  | none=>none
  | some (f,t,p,fp,tp,o,c1,a1)=>
   match m63 (f,t,p,fp,tp,o)with
   | none=>none
   | some xs=>
    match pI ((c1,a1),6)with
    | none=>none
    | some (q,c2,a2)=>if q=false then qZ ((c2,a2),xs)else
     match eE ((c2,a2),[1,4,6,7,8,9])with
     | none=>none
     | some (v1,c3,a3)=>
      match dF ((c3,a3),3)with
      | none=>none
      | some (v2,c4,a4)=>qZ ((c4,a4),uO v1 v2 xs)
 else none
theorem aF7 {s:Src}{b:Int}(h:okZ s b)(hb:b<=700000000):∃ f t p fp tp o a1 xs q v1 v2,m72 s=some (f,t,p,fp,tp,o,s.1,a1)/\m63 (f,t,p,fp,tp,o)=some xs/\24<=xs.length/\xs.length<=32/\gE xs=true/\pI ((s.1,a1),6)=some (q,s.1,a1+1) ∧
  eE ((s.1,a1+1),[1,4,6,7,8,9])=some (v1,s.1,a1+2)/\v1∈([1,4,6,7,8,9]:List Int)/\dF ((s.1,a1+2),3)=some (v2,s.1,a1+3)/\s.2<=a1/\a1<=s.2+100 ∧
  (q=false->oF s=qZ ((s.1,a1+1),xs))/\(q=true->oF s=qZ ((s.1,a1+3),uO v1 v2 xs)):=by
 obtain⟨f,t,p,fp,tp,o,a1,e1,ho,hl,h1,h2⟩:=aHW h (by omega);have hb2:=h.2.2.2;have s1:okZ (s.1,a1) 700000100:=h.at h1 (by omega);have e2:m63 (f,t,p,fp,tp,o)=some (sJ (f,t,p,fp,tp,o)):=if_pos (by show o.length<=100000;omega);have hlen:(sJ (f,t,p,fp,tp,o)).length=24+o.length:=aCn _;have hok:gE (sJ (f,t,p,fp,tp,o))=true:=fO (fO (fO (aBe ..) (jC _ _)) (jC _ _)) ho;obtain⟨q,e3⟩:=chance s1 (by omega) 6;have s2:=s1.add (k:=1) (by omega);obtain⟨v1,hm,e4⟩:=pick s2 (by omega) [1,4,6,7,8,9] (by simp) (by simp);have s3:=s2.add (k:=1) (by omega);obtain⟨v2,e5,_⟩:=nx s3 (by omega) 3;simp only[rO,show(1:Int)+1=2 from rfl,show(1:Int)+2=3 from rfl]at e3 e4 e5;refine⟨f,t,p,fp,tp,o,a1,_,q,v1,v2,e1,e2,by omega,by omega,hok,e3,e4,hm,e5,h1,h2,λhq=>?_,λhq=>?_⟩
 ·unfold oF;rw[if_pos (h.up hb),e1];simp only;rw[e2];simp only;rw[e3];simp only;rw[if_pos hq]
 ·unfold oF;rw[if_pos (h.up hb),e1];simp only;rw[e2];simp only;rw[e3];simp only;rw[if_neg (by rw[hq];decide),e4];simp only;rw[e5]
  rfl
theorem aAN (q:Bool)(k:Int):xW q k<=4:=by
 unfold xW;split
 ·omega
 ·split<;>omega
theorem aE1 {s:Src}{b:Int}(h:okZ s b)(hb:b<=700000000):∃ R a2,oF s=some (R,s.1,a2)/\gE R=true/\R.length<=33/\s.2<=a2/\a2<=s.2+120:=by
 obtain⟨f,t,p,fp,tp,o,a1,xs,q,v1,v2,e1,e2,h1,h2,hok,e3,e4,hm,e5,h3,h4,h5,h6⟩:=aF7 h hb;have hb2:=h.2.2.2;cases q with
 | false=>
  obtain⟨q,i,k,v,_,_,_,_,_,_,eT⟩:=aCt (s:=(s.1,a1+1)) (okZ.at h (by omega) (c:=800000000) (by omega)) (by omega) (xs:=xs) (by omega);have:=uS (q:=q) (i:=i) (k:=k) (v:=v) hok;have hj:=aAN q k;exact⟨_,_,(h5 rfl).trans eT,this.1,by omega,by simp only;omega,by simp only;omega⟩
 | true=>
  have hl:=aDi v1 v2 xs;obtain⟨q,i,k,v,_,_,_,_,_,_,eT⟩:=aCt (s:=(s.1,a1+3)) (okZ.at h (by omega) (c:=800000000) (by omega)) (by omega) (xs:=uO v1 v2 xs) (by omega);have:=uS (q:=q) (i:=i) (k:=k) (v:=v) (aDY (v1:=v1) (v2:=v2) hok);have hj:=aAN q k;exact⟨_,_,(h6 rfl).trans eT,this.1,by omega,by simp only;omega,by simp only;omega⟩
structure Sr (w0:World) (A0:Nat->Prop) (g:Nat) (c:List Int) (a:Int) (W:World):Prop where
 box:Bq W g (λb=>A0 b\/(w0.heap.size<=b/\b < W.heap.size)) c a
 kept:Kept (λb=>w0.heap.size<=b\/b=g) w0 W
section
variable {w0 : World} {A0 : Nat → Prop} {g : Nat} {c : List Int} (hA : ∀ b, A0 b → b < w0.heap.size ∧ b ≠ g) (hg : g < w0.heap.size)
include hA hg
theorem Sq.below {gb n cap:Nat}{xs:List Int}{a:Int}{W W':World}(h:Sq w0 A0 g c gb n cap xs a W)(hb:Below W.heap.size W W'):Sq w0 A0 g c gb n cap xs a W':=by
 have hlt:=oC h.row;have hle:=h.le;have hsz:=h.kept.size;have h3:=hb.size;refine⟨h.box.mono (hb.block g (by omega)) (λb hb'=>hb.block b ?_) (λb hb'=>hb'.imp id λh=>⟨h.1,by omega,h.2.2⟩),h.kept.trans ⟨hb.os,hb.tape,hb.output,hb.size,λk hk=>hb.block k (by omega)⟩,uY h.row (hb.block gb hlt),hle⟩;rcases hb' with hb' | hb'
 ·have:=hA b hb';omega
 ·exact hb'.2.1
theorem Sr.row {a:Int}{W W':World}{xs:List Int}{u:Value}{A:Nat->Prop}(h:Sr w0 A0 g c a W)(hb:Below W.heap.size W W')(hR:ResV bH W' A (λb=>W.heap.size<=b) (.inl (.inl (oB xs))) u)(hne:xs≠[]) :
  ∃ gb cap,u=.slice (some ⟨gb,0,none⟩) xs.length cap/\Sq w0 A0 g c gb xs.length cap xs a W':=by
 obtain⟨fp,hnd,hN,hr⟩:=hR;obtain⟨_,m,hO⟩:_/\∃ n,OwnL bH W' n (oB xs) u fp:=hr;obtain⟨gb,cap,rfl,hrow,hmem⟩:=aEt hO hne;have h1:=(hN gb hmem).1;have hsz:=h.kept.size;have h3:=hb.size;refine⟨gb,cap,rfl,h.box.mono (hb.block g (by omega)) (λb hb'=>hb.block b ?_) (λb hb'=>hb'.imp id λh=>⟨h.1,by omega,by omega⟩),h.kept.trans ⟨hb.os,hb.tape,hb.output,hb.size,λk hk=>hb.block k (by omega)⟩,hrow,by omega⟩;rcases hb' with hb' | hb'
 ·have:=hA b hb';omega
 ·exact hb'.2
theorem Sq.pick6 {gb n cap:Nat}{xs:List Int}{a a' v:Int}{W:World}(h:Sq w0 A0 g c gb n cap xs a W)(e:eE ((c,a),[1,4,6,7,8,9])=some (v,c,a')) :
  Calls prog 57 #[.pointer (some ⟨g,0,none⟩),.slice (some ⟨W.heap.size,0,none⟩) 6 6] (W.alloc (.cells #[.int .i64 1,.int .i64 4,.int .i64 6,.int .i64 7,.int .i64 8,.int .i64 9] 2)) λe W'=>e=.returned (.int .i64 v)/\Sq w0 A0 g c gb n cap xs a' W':=by
 have hlt:=oC h.row;have hle:=h.le;have hsz:=h.kept.size;have hs2:(W.alloc (.cells #[.int .i64 1,.int .i64 4,.int .i64 6,.int .i64 7,.int .i64 8,.int .i64 9] 2)).heap.size=W.heap.size+1:=by simp only[World.alloc,Array.size_push]
 have hb:Below W.heap.size W (W.alloc (.cells #[.int .i64 1,.int .i64 4,.int .i64 6,.int .i64 7,.int .i64 8,.int .i64 9] 2)):=(Below.refl _ W).alloc (aS _) _;have h2:=h.below hA hg hb;refine(aC9 aAR (S:=λb=>A0 b\/(w0.heap.size<=b/\b < W.heap.size+1/\b≠gb)) (h2.box.mono rfl (λ_ _=>rfl) λb hb'=>hb'.imp id λh=>⟨h.1,by omega,h.2.2⟩) (λb hb'=>?_) [.inl (ls (ro 2 ([1,4,6,7,8,9]:List Int)))] [.slice (some ⟨W.heap.size,0,none⟩) 6 6] (xB (aEn (.inr ⟨by omega,by omega,by omega⟩))) (by
  show some ((eE ((c,a),[1,4,6,7,8,9])).isSome,n57 ((eE ((c,a),[1,4,6,7,8,9])).getD aH2))=_;rw[e];rfl)).mono ?_
 ·rcases hb' with hb' | hb'
  ·have:=hA b hb';omega
  ·omega
 ·rintro e W' ⟨rfl,k1,k2⟩;have k3:=k2.size;refine⟨rfl,k1.mono rfl (λ_ _=>rfl) (λb hb=>?_),h2.kept.trans ⟨k2.os,k2.tape,k2.output,k2.size,λk hk=>k2.block k (by omega)⟩,uY h2.row (k2.block gb (by omega)),hle⟩;rcases hb with(hb | hb) | hb
  ·exact .inl hb
  ·exact .inr ⟨hb.1,by omega,hb.2.2⟩
  ·exact .inr ⟨by omega,hb.2,by omega⟩
theorem Sq.sum {gb n cap:Nat}{xs:List Int}{a:Int}{W:World}(h:Sq w0 A0 g c gb n cap xs a W)(hn:20<=n)(hok:gE xs=true) :
  Calls prog 73 #[.slice (some ⟨gb,0,none⟩) 20 cap] W λe W'=>e=.returned (.int .i64 (lJ (xs.take 20)))/\Sq w0 A0 g c gb n cap xs a W':=by
 have hlen:(xs.take 20).length<=20:=by rw[cF];omega
 have e:tP (xs.take 20)=some (lJ (xs.take 20)):=if_pos ⟨kO hok λx hx=>dA hx,by omega⟩;refine(aGd W (λb=>b < W.heap.size) (a73.enc (xs.take 20)) [.slice (some ⟨gb,0,none⟩) 20 cap] (n73 (lJ (xs.take 20))) (λ_ h=>h) (xB (aEm h.row hn (oC h.row))) (by
  show some ((tP (xs.take 20)).isSome,n73 ((tP (xs.take 20)).getD aHZ))=_;rw[e];rfl)).mono ?_
 rintro e W' ⟨u,rfl,hb,hr⟩;have hr:ResV bH W' (λb=>b < W.heap.size) _ (.inl (.inl (lv (.int .i64 (lJ (xs.take 20)))))) u:=hr;rw[aFA hr];exact⟨rfl,h.below hA hg hb⟩
end
end Go.Proofs.Try
