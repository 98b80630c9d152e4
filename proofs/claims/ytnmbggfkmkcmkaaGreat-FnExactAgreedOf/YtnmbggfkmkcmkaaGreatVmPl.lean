/- A part of the proof of FnExactLeaderOf: VmPl, VmPm, VmPn. -/
import Derived.Test.YtnmbggfkmkcmkaaGreatVmJ
set_option linter.unusedSimpArgs false
set_option linter.unusedVariables false
namespace Go.VM
open Go.IntKind (wrap)
open Go
section
variable {α : Type}
theorem yU (d:α){a:List α}{i:Nat}(h:i < a.length):a.getD i d=a[i]:=by simp[List.getD,aC h]
theorem mT (d:α){a:List α}{i:Nat}(h:i < a.length):a.getD i d∈a:=by rw[yU d h];exact gE h
def fst (f:Nat->Int):Nat->Nat->Int
 | 0,_=>0
 | n+1,i=>if f i=0 then fst f n (i+1)else f i
theorem aDO (f:Nat->Int)(n i:Nat):fst f (n+1) i=if f i=0 then fst f n (i+1)else f i:=rfl
def eqL (d:α)(f:α×α->Option Bool)(a b:List α):Nat->Int->Option Bool->Option Bool
 | 0,_,_=>none
 | n+1,i,k=>bif decide (i < (Nat.cast a.length:Int))then bif (decide ((0:Int)<=i)&&decide (i < (Nat.cast a.length:Int)))then bif (decide ((0:Int)<=i)&&decide (i < (Nat.cast b.length:Int)))then
   cU (f (a.getD i.toNat d,b.getD i.toNat d)) false λq=>bif !q then some false else eqL d f a b n (wrap .i64 (i+1)) k
  else none else none else k
theorem aAR [DecidableEq α](d:α)(f:α×α->Option Bool)(a b:List α)(hl:a.length=b.length)(ha:a.length<=1000000000000000000)(hf:∀ x∈a,∀ y∈b,f (x,y)=some (decide (x=y)))(k:Option Bool) :
  ∀ (n i:Nat),i<=a.length->a.length < n+i->eqL d f a b n i k=if a.drop i=b.drop i then k else some false
 | 0,i,h2,h3=>by omega
 | n+1,i,h2,h3=>by
  unfold eqL;by_cases hi:i < a.length
  ·simp(disch:=omega) only[dt,wi,cond_true,bM,bB];rw[hf _ (mT d hi) _ (mT d (by omega)),aP,wJ d hi,wJ d (show i < b.length by omega)];have:=aAR d f a b hl ha hf k n (i+1) (by omega) (by omega);rw[show(i:Int)+1=((i+1:Nat):Int) from rfl,this];by_cases hx:a.getD i d=b.getD i d
   ·rw[hx];simp
   ·rw[dt_not hx,if_neg (λh=>hx (List.cons.inj h).1)];rfl
  ·simp(disch:=omega) only[df,cond_false];rw[dY (by omega),dY (by omega)];simp
where dt_not {x y:α} (h:¬ x=y):(!decide (x=y))=true:=by simp[h]
def toL (d:α)(f:α->Option α)(a:List α):Nat->List α->Int->(List α->Option (List α))->Option (List α)
 | 0,_,_,_=>none
 | n+1,o,i,k=>bif decide (i < (Nat.cast a.length:Int))then bif (decide ((0:Int)<=i)&&decide (i < (Nat.cast a.length:Int)))then cU (f (a.getD i.toNat d)) d λq=>
   bif (decide ((0:Int)<=i)&&decide (i < (Nat.cast o.length:Int)))then toL d f a n (o.set i.toNat q) (wrap .i64 (i+1)) k else none else none else k o
theorem aCu (d:α)(f:α->Option α)(a:List α)(ha:a.length<=1000000000000000000)(hf:∀ x∈a,f x=some x)(k:List α->Option (List α)) :
  ∀ (n i:Nat) (o:List α),o.length=a.length->i<=a.length->a.length < n+i->o.take i=a.take i->toL d f a n o i k=k a
 | 0,i,o,_,h2,h3,_=>by omega
 | n+1,i,o,h1,h2,h3,h4=>by
  unfold toL;by_cases hi:i < a.length
  ·simp(disch:=omega) only[dt,wi,cond_true,bM,bB];rw[hf _ (mT d hi),aP,show(i:Int)+1=((i+1:Nat):Int) from rfl];refine aCu d f a ha hf k n (i+1) _ (by rw[cM];exact h1) (by omega) (by omega) ?_;rw[oL,oL,List.take_set_of_le (aH _),h4];congr 1;rw[gQ (by omega),aC hi,yU d hi]
  ·simp(disch:=omega) only[df,cond_false];have hil:i=a.length:=by omega
   rw[hil,pR,<-h1,pR]at h4;rw[h4]
def pM (acc w:Int):Int:=if acc-w < 0 then -1 else acc-w
def szL (d:α)(f:α×Int->Option Int)(a:List α):Nat->Int->Int->(Int->Option Int)->Option Int
 | 0,_,_,_=>none
 | n+1,v,i,k=>bif decide (i < (Nat.cast a.length:Int))then bif (decide ((0:Int)<=i)&&decide (i < (Nat.cast a.length:Int)))then cU (f (a.getD i.toNat d,v)) 0 λq=>
   bif decide (q < 0)then some (-1)else szL d f a n q (wrap .i64 (i+1)) k else none else k v
def dF (w:α->Int):List α->Int
 | []=>0
 | x::r=>w x+dF w r
theorem gU {w:α->Int}:∀ {l:List α},(∀ x∈l,0<=w x)->0<=dF w l
 | [],_=>by simp[dF]
 | x::r,h=>by
  have h1:=h x (bD ..);have h2:=gU (l:=r) λy hy=>h y (aU _ hy)
  simp only[dF];omega
theorem nS {w:α->Int}:∀ {l:List α},(∀ x∈l,0<=w x)->∀ x∈l,w x<=dF w l
 | [],_,x,hx=>by simp at hx
 | y::r,h,x,hx=>by
  have h1:=h y (bD ..);have h2:=gU (l:=r) λy hy=>h y (aU _ hy)
  simp only[dF];rcases bK.1 hx with rfl | hx
  ·omega
  ·have:=nS (l:=r) (λy hy=>h y (aU _ hy)) x hx;omega
theorem aHr (d:α)(f:α×Int->Option Int)(a:List α)(w:α->Int)(B:Int)(ha:a.length<=1000000000000000000)(hw:∀ x∈a,0<=w x)(hf:∀ x∈a,∀ v:Int,0<=v->v<=B->f (x,v)=some (pM v (w x)))(k:Int->Option Int) :
  ∀ (n i:Nat) (v:Int),0<=v->v<=B->i<=a.length->a.length < n+i->szL d f a n v i k=if v-dF w (a.drop i) < 0 then some (-1)else k (v-dF w (a.drop i))
 | 0,i,v,_,_,h2,h3=>by omega
 | n+1,i,v,h0,h1,h2,h3=>by
  unfold szL;by_cases hi:i < a.length
  ·simp(disch:=omega) only[dt,wi,cond_true,bM,bB];have hx:=hw _ (mT d hi);have hr:0<=dF w (a.drop (i+1)):=gU λy hy=>hw y (lQ hy)
   have e:v-dF w (a.drop i)=v-w (a.getD i d)-dF w (a.drop (i+1)):=by rw[wJ d hi];simp only[dF];omega
   rw[hf _ (mT d hi) v h0 h1,aP,show(i:Int)+1=((i+1:Nat):Int) from rfl,e];unfold pM;by_cases hc:v-w (a.getD i d) < 0
   ·rw[if_pos hc,if_pos (show v-w (a.getD i d)-dF w (a.drop (i+1)) < 0 by omega)];rfl
   ·rw[if_neg hc,df hc,cond_false,aHr d f a w B ha hw hf k n (i+1) _ (by omega) (by omega) (by omega) (by omega)]
  ·simp(disch:=omega) only[df,cond_false];have e:v-dF w (a.drop i)=v:=by rw[dY (by omega)];simp only[dF];omega
   rw[e,if_neg (by omega)]
end
end Go.VM
namespace Go.VM
open Go.IntKind (wrap)
open Go
theorem gN {α:Type}(l:List α)(i:Nat)(f g:α->α):(l.modify i f).modify i g=l.modify i (λy=>g (f y)):=by
 apply dK;intro j;rw[fH,fH,fH];cases l[j]? with
 | none=>rfl
 | some y=>
  show some _=some _;by_cases h:i=j<;>simp[h]
theorem lT {α:Type}(l:List α)(i:Nat)(x:α):l.modify i (λ_=>x)=l.set i x:=by
 apply dK;intro j;rw[fH,oM];by_cases h:i=j
 ·subst h;by_cases hi:i < l.length
  ·simp[hi]
  ·simp[hi]
 ·cases l[j]?<;>simp[h]
def oA {α:Type}(f:Int->α)(s:Int):Nat->Int->List α
 | 0,_=>[]
 | n+1,c=>f c::oA f s n (c+s)
theorem yC {α:Type}(f:Int->α)(s:Int):∀ (n:Nat) (c:Int),(oA f s n c).length=n
 | 0,_=>rfl
 | n+1,c=>by simp[oA,yC f s n]
theorem aFI {α:Type}(f:Int->α)(s:Int)(d:α):∀ (n i:Nat) (c:Int),i < n->(oA f s n c).getD i d=f (c+s * (i:Int))
 | 0,i,c,h=>by omega
 | n+1,0,c,_=>by simp[oA]
 | n+1,i+1,c,h=>by
  have:=aFI f s d n i (c+s) (by omega);simp only[oA,List.getD_cons_succ];rw[this];congr 1;rw[show((i+1:Nat):Int)=(i:Int)+1 by omega,Int.mul_add];omega
theorem uS {α R:Type}(f:Int->α)(s:Int)(B:Int)(N:Nat)(hs:0<=s)(g:Nat->List α->Int->Int->(List α->Int->Option R)->Option R)
  (hstep:∀ n (o:List α) (v:Int) (i:Nat) K,o.length=N->i < o.length->0<=v->v<=B->g (n+1) o v i K=g n (o.set i (f v)) (v+s) ((i+1:Nat):Int) K)
  (hend:∀ n (o:List α) (v:Int) (i:Nat) K,o.length=N->¬ i < o.length->g (n+1) o v i K=K o v) (K:List α->Int->Option R) :
  ∀ (n i:Nat) (o:List α) (v:Int),o.length=N->i<=o.length->o.length < n+i->0<=v->v+s * ((o.length-i:Nat):Int)<=B->g n o v i K=K (o.take i++oA f s (o.length-i) v) (v+s * ((o.length-i:Nat):Int))
 | 0,i,o,v,_,h1,h2,_,_=>by omega
 | n+1,i,o,v,hN,h1,h2,h3,h4=>by
  by_cases hi:i < o.length
  ·have hm:0<=s * ((o.length-i:Nat):Int):=Int.mul_nonneg hs (by omega);rw[hstep n o v i K hN hi h3 (by omega)];have e:o.length-i=(o.length-(i+1))+1:=by omega
   have e2:s * ((o.length-i:Nat):Int)=s+s * ((o.length-(i+1):Nat):Int):=by
    rw[e];rw[show(((o.length-(i+1))+1:Nat):Int)=((o.length-(i+1):Nat):Int)+1 by omega,Int.mul_add];omega
   have ih:=uS f s B N hs g hstep hend K n (i+1) (o.set i (f v)) (v+s) (by simp;omega) (by simp;omega) (by simp;omega) (by omega) (by
    rw[cM];omega)
   rw[ih,cM,e2,e];simp only[oA];congr 1
   ·rw[oL,List.take_set_of_le (aH _),gQ hi];simp
   ·omega
  ·rw[hend n o v i K hN hi];have e:o.length-i=0:=by omega
   rw[e];simp only[oA,eQ];rw[eN (by omega)];congr 1;simp
theorem aFN {α R:Type}(d:α)(f:Int->α)(s:Int)(B:Int)(hs:0<=s)(N:Nat)(c:Int)(g:Nat->Int->Int->(Int->Option R)->Option R)(hc:0<=c)
  (hstep:∀ n (v:Int) (i:Nat) K,i < N->0<=v->v<=B->(oA f s N c).getD i d=f v->g (n+1) v i K=g n (v+s) ((i+1:Nat):Int) K)
  (hend:∀ n (v:Int) (i:Nat) K,¬ i < N->g (n+1) v i K=K v) (hB:c+s * (N:Int)<=B) (K:Int->Option R) :
  ∀ (n i:Nat),i<=N->N < n+i->g n (c+s * (i:Int)) i K=K (c+s * (N:Int))
 | 0,i,h1,h2=>by omega
 | n+1,i,h1,h2=>by
  by_cases hi:i < N
  ·have h0:0<=s * (i:Int):=Int.mul_nonneg hs (by omega);have h9:s * (i:Int)<=s * (N:Int):=Int.mul_le_mul_of_nonneg_left (by omega) hs;rw[hstep n _ i K hi (by omega) (by omega) (aFI f s d N i c hi)];have ih:=aFN d f s B hs N c g hc hstep hend hB K n (i+1) (by omega) (by omega);rw[show c+s * (i:Int)+s=c+s * ((i+1:Nat):Int)by rw[show((i+1:Nat):Int)=(i:Int)+1 by omega,Int.mul_add];omega];exact ih
  ·rw[hend n _ i K hi,show i=N by omega]
end Go.VM
namespace Go.VM
open Go.IntKind (wrap)
open Go Go.RowKit
def mkV {α:Type}(f:α->Int->α)(w:α->Int):List α->Int->List α
 | [],_=>[]
 | x::r,c=>f x c::mkV f w r (c+w x)
theorem zY {α R:Type}(d:α)(f:α->Int->α)(w:α->Int)(B:Int)(hw:∀ x,0<=w x)(Q:α->Prop)(N:Nat)(g:Nat->List α->Int->Int->(List α->Int->Option R)->Option R)
  (hs:∀ n (o:List α) v (i:Nat) K,o.length=N->i < o.length->0<=v->v<=B->Q (o.getD i d)->g (n+1) o v (i:Int) K=g n (o.set i (f (o.getD i d) v)) (v+w (o.getD i d)) ((i+1:Nat):Int) K)
  (he:∀ n (o:List α) v (i:Nat) K,o.length=N->i=o.length->g (n+1) o v (i:Int) K=K o v) (K:List α->Int->Option R) :
  ∀ (suf pre:List α) (v:Int) (n:Nat),(pre++suf).length=N->suf.length < n->0<=v->v+dF w suf<=B->(∀ x∈suf,Q x)->g n (pre++suf) v (pre.length:Int) K=K (pre++mkV f w suf v) (v+dF w suf)
 | _,_,_,0,_,h,_,_,_=>absurd h (Nat.not_lt_zero _)
 | [],pre,v,n+1,hN,hn,h0,hB,hQ=>by
  rw[he n _ v pre.length K hN (by simp)];show K (pre++[]) v=K (pre++[]) (v+0);rw[Int.add_zero]
 | x::r,pre,v,n+1,hN,hn,h0,hB,hQ=>by
  have hr:=gU (w:=w) (l:=r) λy _=>hw y
  have hB:v+(w x+dF w r)<=B:=hB;have hx:=hw x;have e1:(pre++x::r).getD pre.length d=x:=by simp[List.getD]
  have e2:(pre++x::r).set pre.length (f x v)=(pre++[f x v])++r:=by simp
  rw[hs n _ v pre.length K hN (by simp) h0 (by omega) (by rw[e1];exact hQ x (bD ..)),e1,e2];have:=zY d f w B hw Q N g hs he K r (pre++[f x v]) (v+w x) n (by simp at hN ⊢;omega) (by simp at hn;omega) (by omega) (by omega) λy hy=>hQ y (aU _ hy)
  rw[eE]at this;refine this.trans ?_;show K (pre++[f x v]++mkV f w r (v+w x)) (v+w x+dF w r)=K (pre++f x v::mkV f w r (v+w x)) (v+(w x+dF w r));rw[eX,vJ]
  rfl
theorem lE {α:Type}(d:α)(l:List α)(i:Nat)(f:α->α)(h:i < l.length):(l.modify i f).getD i d=f (l.getD i d):=by
 simp[List.getD,fH,h]
end Go.VM
