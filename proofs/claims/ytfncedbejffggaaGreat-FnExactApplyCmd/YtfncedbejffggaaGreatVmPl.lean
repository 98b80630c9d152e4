/- A part of the proof of FnExactApplyCmd: VmPl, VmPm, VmPn, VmCb, VmGr, VmGs, VmGt, VmGu, VmGw, VmOpen, VmOpen2. -/
import Derived.Test.YtfncedbejffggaaGreatVmJ
import Derived.Below
import Derived.WalkKit
import Derived.OwnWalkIn
import Derived.WalkMore
import Derived.Laws.CopyOwn
import Derived.Deep.AppendSrc
import Derived.Lib.AppendZerosOnto
import Derived.Lib.Overlaps
import Derived.Laws.Externs
import Derived.OrdersHeld
import Derived.Deep.RegionWith
import Derived.ProofKit
set_option linter.unusedSimpArgs false
set_option linter.unusedVariables false
namespace Go.VM
open Go.IntKind (wrap)
open Go
section
variable {α : Type}
theorem fT (d:α){a:List α}{i:Nat}(h:i < a.length):a.getD i d=a[i]:=by simp[List.getD,aC h]
theorem eG (d:α){a:List α}{i:Nat}(h:i < a.length):a.getD i d∈a:=by rw[fT d h];exact iD h
def oL (f:Nat->Int):Nat->Nat->Int
 | 0,_=>0
 | n+1,i=>if f i=0 then oL f n (i+1)else f i
theorem vG (f:Nat->Int)(n i:Nat):oL f (n+1) i=if f i=0 then oL f n (i+1)else f i:=rfl
theorem oS {f:Nat->Int}:∀ {n i:Nat},oL f n i=0↔∀ j,i<=j->j < i+n->f j=0
 | 0,i=>by simp only[oL,true_iff];intro j h1 h2;omega
 | n+1,i=>by
  rw[vG];by_cases h:f i=0
  ·rw[if_pos h,oS];constructor
   ·intro k j h1 h2;by_cases h3:j=i
    ·rw[h3];exact h
    ·exact k j (by omega) (by omega)
   ·intro k j h1 h2;exact k j (by omega) (by omega)
  ·rw[if_neg h];constructor
   ·intro k;exact absurd k h
   ·intro k;exact k i (aK _) (by omega)
theorem aF7 {f:Nat->Int}:∀ {n i:Nat},oL f n i≠0->∃ j,i<=j/\j < i+n/\f j=oL f n i
 | 0,_,h=>absurd rfl h
 | n+1,i,h=>by
  rw[vG]at h ⊢;by_cases h1:f i=0
  ·rw[if_pos h1]at h ⊢;obtain⟨j,k1,k2,k3⟩:=aF7 h;exact⟨j,by omega,by omega,k3⟩
  ·rw[if_neg h1]at h ⊢;exact⟨i,aK _,by omega,rfl⟩
def eqL (d:α)(f:α×α->Option Bool)(a b:List α):Nat->Int->Option Bool->Option Bool
 | 0,_,_=>none
 | n+1,i,k=>bif decide (i < (Nat.cast a.length:Int))then bif (decide ((0:Int)<=i)&&decide (i < (Nat.cast a.length:Int)))then bif (decide ((0:Int)<=i)&&decide (i < (Nat.cast b.length:Int)))then
   cZ (f (a.getD i.toNat d,b.getD i.toNat d)) false λq=>bif !q then some false else eqL d f a b n (wrap .i64 (i+1)) k
  else none else none else k
theorem aC4 [DecidableEq α](d:α)(f:α×α->Option Bool)(a b:List α)(hl:a.length=b.length)(ha:a.length<=1000000000000000000)(hf:∀ x∈a,∀ y∈b,f (x,y)=some (decide (x=y)))(k:Option Bool) :
  ∀ (n i:Nat),i<=a.length->a.length < n+i->eqL d f a b n i k=if a.drop i=b.drop i then k else some false
 | 0,i,h2,h3=>by omega
 | n+1,i,h2,h3=>by
  unfold eqL;by_cases hi:i < a.length
  ·simp(disch:=omega) only[dt,wi,cond_true,bO,aV];rw[hf _ (eG d hi) _ (eG d (by omega)),bT,oW d hi,oW d (show i < b.length by omega)];have:=aC4 d f a b hl ha hf k n (i+1) (by omega) (by omega);rw[show(i:Int)+1=((i+1:Nat):Int) from rfl,this];by_cases hx:a.getD i d=b.getD i d
   ·rw[hx];simp
   ·rw[dt_not hx,if_neg (λh=>hx (List.cons.inj h).1)];rfl
  ·simp(disch:=omega) only[df,cond_false];rw[cM (by omega),cM (by omega)];simp
where dt_not {x y:α} (h:¬ x=y):(!decide (x=y))=true:=by simp[h]
def toL (d:α)(f:α->Option α)(a:List α):Nat->List α->Int->(List α->Option (List α))->Option (List α)
 | 0,_,_,_=>none
 | n+1,o,i,k=>bif decide (i < (Nat.cast a.length:Int))then bif (decide ((0:Int)<=i)&&decide (i < (Nat.cast a.length:Int)))then cZ (f (a.getD i.toNat d)) d λq=>
   bif (decide ((0:Int)<=i)&&decide (i < (Nat.cast o.length:Int)))then toL d f a n (o.set i.toNat q) (wrap .i64 (i+1)) k else none else none else k o
theorem aCj (d:α)(f:α->Option α)(a:List α)(ha:a.length<=1000000000000000000)(hf:∀ x∈a,f x=some x)(k:List α->Option (List α)) :
  ∀ (n i:Nat) (o:List α),o.length=a.length->i<=a.length->a.length < n+i->o.take i=a.take i->toL d f a n o i k=k a
 | 0,i,o,_,h2,h3,_=>by omega
 | n+1,i,o,h1,h2,h3,h4=>by
  unfold toL;by_cases hi:i < a.length
  ·simp(disch:=omega) only[dt,wi,cond_true,bO,aV];rw[hf _ (eG d hi),bT,show(i:Int)+1=((i+1:Nat):Int) from rfl];refine aCj d f a ha hf k n (i+1) _ (by rw[bW];exact h1) (by omega) (by omega) ?_;rw[oZ,oZ,List.take_set_of_le (aK _),h4];congr 1;rw[eL (by omega),aC hi,fT d hi]
  ·simp(disch:=omega) only[df,cond_false];have hil:i=a.length:=by omega
   rw[hil,qC,<-h1,qC]at h4;rw[h4]
def qF (acc w:Int):Int:=if acc-w < 0 then -1 else acc-w
def szL (d:α)(f:α×Int->Option Int)(a:List α):Nat->Int->Int->(Int->Option Int)->Option Int
 | 0,_,_,_=>none
 | n+1,v,i,k=>bif decide (i < (Nat.cast a.length:Int))then bif (decide ((0:Int)<=i)&&decide (i < (Nat.cast a.length:Int)))then cZ (f (a.getD i.toNat d,v)) 0 λq=>
   bif decide (q < 0)then some (-1)else szL d f a n q (wrap .i64 (i+1)) k else none else k v
def gJ (w:α->Int):List α->Int
 | []=>0
 | x::r=>w x+gJ w r
theorem iG {w:α->Int}:∀ {l:List α},(∀ x∈l,0<=w x)->0<=gJ w l
 | [],_=>by simp[gJ]
 | x::r,h=>by
  have h1:=h x (bR ..);have h2:=iG (l:=r) λy hy=>h y (bG _ hy)
  simp only[gJ];omega
theorem aDx {w:α->Int}:∀ {l:List α},(∀ x∈l,0<=w x)->∀ x∈l,w x<=gJ w l
 | [],_,x,hx=>by simp at hx
 | y::r,h,x,hx=>by
  have h1:=h y (bR ..);have h2:=iG (l:=r) λy hy=>h y (bG _ hy)
  simp only[gJ];rcases bS.1 hx with rfl | hx
  ·omega
  ·have:=aDx (l:=r) (λy hy=>h y (bG _ hy)) x hx;omega
theorem aHv (d:α)(f:α×Int->Option Int)(a:List α)(w:α->Int)(B:Int)(ha:a.length<=1000000000000000000)(hw:∀ x∈a,0<=w x)(hf:∀ x∈a,∀ v:Int,0<=v->v<=B->f (x,v)=some (qF v (w x)))(k:Int->Option Int) :
  ∀ (n i:Nat) (v:Int),0<=v->v<=B->i<=a.length->a.length < n+i->szL d f a n v i k=if v-gJ w (a.drop i) < 0 then some (-1)else k (v-gJ w (a.drop i))
 | 0,i,v,_,_,h2,h3=>by omega
 | n+1,i,v,h0,h1,h2,h3=>by
  unfold szL;by_cases hi:i < a.length
  ·simp(disch:=omega) only[dt,wi,cond_true,bO,aV];have hx:=hw _ (eG d hi);have hr:0<=gJ w (a.drop (i+1)):=iG λy hy=>hw y (cC hy)
   have e:v-gJ w (a.drop i)=v-w (a.getD i d)-gJ w (a.drop (i+1)):=by rw[oW d hi];simp only[gJ];omega
   rw[hf _ (eG d hi) v h0 h1,bT,show(i:Int)+1=((i+1:Nat):Int) from rfl,e];unfold qF;by_cases hc:v-w (a.getD i d) < 0
   ·rw[if_pos hc,if_pos (show v-w (a.getD i d)-gJ w (a.drop (i+1)) < 0 by omega)];rfl
   ·rw[if_neg hc,df hc,cond_false,aHv d f a w B ha hw hf k n (i+1) _ (by omega) (by omega) (by omega) (by omega)]
  ·simp(disch:=omega) only[df,cond_false];have e:v-gJ w (a.drop i)=v:=by rw[cM (by omega)];simp only[gJ];omega
   rw[e,if_neg (by omega)]
def bsL {R:Type}(len:Nat)(p:Nat->Option Int):Nat->Int->Int->(Int->Option R)->Option R
 | 0,_,_,_=>none
 | n+1,lo,hi,k=>bif decide (lo < hi)then bif (decide ((0:Int)<=wrap .i64 (Int.fdiv (wrap .u64 (wrap .i64 (lo+hi))) ((2:Int) ^ (min (Int.toNat (1:Int)) (IntKind.bits .u64)))))&&decide (wrap .i64 (Int.fdiv (wrap .u64 (wrap .i64 (lo+hi))) ((2:Int) ^ (min (Int.toNat (1:Int)) (IntKind.bits .u64)))) < (Nat.cast len:Int)))then
   cZ (p (wrap .i64 (Int.fdiv (wrap .u64 (wrap .i64 (lo+hi))) ((2:Int) ^ (min (Int.toNat (1:Int)) (IntKind.bits .u64))))).toNat) 0 λq=>
    bif decide (q < 0)then bsL len p n (wrap .i64 (wrap .i64 (Int.fdiv (wrap .u64 (wrap .i64 (lo+hi))) ((2:Int) ^ (min (Int.toNat (1:Int)) (IntKind.bits .u64))))+1)) hi k
    else bsL len p n lo (wrap .i64 (Int.fdiv (wrap .u64 (wrap .i64 (lo+hi))) ((2:Int) ^ (min (Int.toNat (1:Int)) (IntKind.bits .u64))))) k else none else k lo
theorem aR4 {lo hi:Nat}(h:lo+hi<=1000000000000000000):wrap .i64 (Int.fdiv (wrap .u64 (wrap .i64 ((lo:Int)+(hi:Int)))) ((2:Int) ^ (min (Int.toNat (1:Int)) (IntKind.bits .u64))))=(((lo+hi) / 2:Nat):Int):=by
 rw[wi (x:=(lo:Int)+hi) (by omega) (by omega),wu (by omega) (by omega)];rw[show((2:Int) ^ (min (Int.toNat (1:Int)) (IntKind.bits .u64)))=2 from rfl];rw[Int.fdiv_eq_ediv_of_nonneg _ (by decide),wi (by omega) (by omega)];omega
theorem aA1 {R:Type}(len:Nat)(p:Nat->Option Int)(c:Nat->Int)(hlen:len<=100000000000000000)(hp:∀ j,j < len->p j=some (c j))(r:Nat)(hlow:∀ j,j < r->c j < 0)(hhigh:∀ j,r<=j->j < len->0<=c j)(k:Int->Option R) :
  ∀ (n lo hi:Nat),lo<=r->r<=hi->hi<=len->hi-lo < n->bsL len p n lo hi k=k r
 | 0,lo,hi,_,_,_,h=>by omega
 | n+1,lo,hi,h1,h2,h3,h4=>by
  unfold bsL;by_cases hlt:lo < hi
  ·rw[aR4 (by omega),dt (show(lo:Int) < hi by omega),cond_true];rw[dt (show(0:Int)<=(((lo+hi) / 2:Nat):Int)by omega),dt (show(((lo+hi) / 2:Nat):Int) < (len:Int)by omega),bO,cond_true,aV];rw[hp _ (by omega),bT];by_cases hc:c ((lo+hi) / 2) < 0
   ·rw[dt hc,cond_true,wi (by omega) (by omega)];have hr:(lo+hi) / 2 < r:=by
     rcases eR ((lo+hi) / 2) r with h | h
     ·exact h
     ·have:=hhigh _ h (by omega);omega
    exact aA1 len p c hlen hp r hlow hhigh k n ((lo+hi) / 2+1) hi (by omega) h2 h3 (by omega)
   ·rw[df hc,cond_false];have hr:r<=(lo+hi) / 2:=by
     rcases eR ((lo+hi) / 2) r with h | h
     ·have:=hlow _ h;omega
     ·exact h
    exact aA1 len p c hlen hp r hlow hhigh k n lo ((lo+hi) / 2) h1 hr (by omega) (by omega)
  ·have e1:¬ (lo:Int) < (hi:Int):=by omega
   rw[df e1,cond_false,show lo=r by omega]
end
def idx {α:Type}(p:α->Bool):List α->Nat->Int
 | [],_=>-1
 | x::r,i=>if p x then(i:Int)else idx p r (i+1)
theorem rC {α:Type}(p:α->Bool)(x:α)(r:List α)(i:Nat):idx p (x::r) i=if p x then(i:Int)else idx p r (i+1):=rfl
theorem yZ {α:Type}{p:α->Bool}:∀ {l:List α} {i:Nat},idx p l i < 0↔l.any p=false
 | [],i=>by simp[idx]
 | x::r,i=>by
  rw[rC,mM];by_cases h:p x
  ·rw[if_pos h,h];simp
  ·rw[if_neg h,yZ];simp[h]
theorem vA {α:Type}{p:α->Bool}(d:α):∀ {l:List α} {i:Nat},l.any p=true->∃ j,idx p l i=((i+j:Nat):Int)/\j < l.length/\p (l.getD j d)=true/\∀ k,k < j->p (l.getD k d)=false
 | [],i,h=>by simp at h
 | x::r,i,h=>by
  rw[rC];by_cases hx:p x
  ·exact⟨0,by rw[if_pos hx];simp,by simp,by simpa using hx,λk hk=>by omega⟩
  ·rw[if_neg hx];obtain⟨j,h1,h2,h3,h4⟩:=vA d (l:=r) (i:=i+1) (by simpa[hx]using h);refine⟨j+1,by rw[h1];omega,by simp;omega,by simpa using h3,λk hk=>?_⟩;cases k with
   | zero=>simpa using hx
   | succ k=>simpa using h4 k (by omega)
def mG (a b:Int):Int:=if a < b then -1 else if b < a then 1 else 0
theorem aA0 {a b:Int}:mG a b < 0↔a < b:=by unfold mG;split<;>(try split)<;>omega
theorem kO {a b:Int}:mG a b=0↔a=b:=by unfold mG;split<;>(try split)<;>omega
theorem aEh {a b:Int}:0<=mG a b↔b<=a:=by unfold mG;split<;>(try split)<;>omega
def mkR {α:Type}(f:Int->α)(s:Int):Nat->Int->List α
 | 0,_=>[]
 | n+1,c=>f c::mkR f s n (c+s)
theorem rY {α:Type}(f:Int->α)(s:Int):∀ (n:Nat) (c:Int),(mkR f s n c).length=n
 | 0,_=>rfl
 | n+1,c=>by simp[mkR,rY f s n]
theorem aF0 {α:Type}(f:Int->α)(s:Int)(d:α):∀ (n i:Nat) (c:Int),i < n->(mkR f s n c).getD i d=f (c+s * (i:Int))
 | 0,i,c,h=>by omega
 | n+1,0,c,_=>by simp[mkR]
 | n+1,i+1,c,h=>by
  have:=aF0 f s d n i (c+s) (by omega);simp only[mkR,List.getD_cons_succ];rw[this];congr 1;rw[show((i+1:Nat):Int)=(i:Int)+1 by omega,Int.mul_add];omega
theorem aCA {α R:Type}(f:Int->α)(s:Int)(B:Int)(N:Nat)(hs:0<=s)(g:Nat->List α->Int->Int->(List α->Int->Option R)->Option R)
  (hstep:∀ n (o:List α) (v:Int) (i:Nat) K,o.length=N->i < o.length->0<=v->v<=B->g (n+1) o v i K=g n (o.set i (f v)) (v+s) ((i+1:Nat):Int) K)
  (hend:∀ n (o:List α) (v:Int) (i:Nat) K,o.length=N->¬ i < o.length->g (n+1) o v i K=K o v) (K:List α->Int->Option R) :
  ∀ (n i:Nat) (o:List α) (v:Int),o.length=N->i<=o.length->o.length < n+i->0<=v->v+s * ((o.length-i:Nat):Int)<=B->g n o v i K=K (o.take i++mkR f s (o.length-i) v) (v+s * ((o.length-i:Nat):Int))
 | 0,i,o,v,_,h1,h2,_,_=>by omega
 | n+1,i,o,v,hN,h1,h2,h3,h4=>by
  by_cases hi:i < o.length
  ·have hm:0<=s * ((o.length-i:Nat):Int):=Int.mul_nonneg hs (by omega);rw[hstep n o v i K hN hi h3 (by omega)];have e:o.length-i=(o.length-(i+1))+1:=by omega
   have e2:s * ((o.length-i:Nat):Int)=s+s * ((o.length-(i+1):Nat):Int):=by
    rw[e];rw[show(((o.length-(i+1))+1:Nat):Int)=((o.length-(i+1):Nat):Int)+1 by omega,Int.mul_add];omega
   have ih:=aCA f s B N hs g hstep hend K n (i+1) (o.set i (f v)) (v+s) (by simp;omega) (by simp;omega) (by simp;omega) (by omega) (by
    rw[bW];omega)
   rw[ih,bW,e2,e];simp only[mkR];congr 1
   ·rw[oZ,List.take_set_of_le (aK _),eL hi];simp
   ·omega
  ·rw[hend n o v i K hN hi];have e:o.length-i=0:=by omega
   rw[e];simp only[mkR,dR];rw[cT (by omega)];congr 1;simp
theorem aCF {α R:Type}(d:α)(f:Int->α)(s:Int)(B:Int)(hs:0<=s)(N:Nat)(c:Int)(g:Nat->Int->Int->(Int->Option R)->Option R)(hc:0<=c)
  (hstep:∀ n (v:Int) (i:Nat) K,i < N->0<=v->v<=B->(mkR f s N c).getD i d=f v->g (n+1) v i K=g n (v+s) ((i+1:Nat):Int) K)
  (hend:∀ n (v:Int) (i:Nat) K,¬ i < N->g (n+1) v i K=K v) (hB:c+s * (N:Int)<=B) (K:Int->Option R) :
  ∀ (n i:Nat),i<=N->N < n+i->g n (c+s * (i:Int)) i K=K (c+s * (N:Int))
 | 0,i,h1,h2=>by omega
 | n+1,i,h1,h2=>by
  by_cases hi:i < N
  ·have h0:0<=s * (i:Int):=Int.mul_nonneg hs (by omega);have h9:s * (i:Int)<=s * (N:Int):=Int.mul_le_mul_of_nonneg_left (by omega) hs;rw[hstep n _ i K hi (by omega) (by omega) (aF0 f s d N i c hi)];have ih:=aCF d f s B hs N c g hc hstep hend hB K n (i+1) (by omega) (by omega);rw[show c+s * (i:Int)+s=c+s * ((i+1:Nat):Int)by rw[show((i+1:Nat):Int)=(i:Int)+1 by omega,Int.mul_add];omega];exact ih
  ·rw[hend n _ i K hi,show i=N by omega]
open Go Go.RowKit
def wR {α:Type}(f:α->Int->α)(w:α->Int):List α->Int->List α
 | [],_=>[]
 | x::r,c=>f x c::wR f w r (c+w x)
theorem aFZ {α:Type}(f:α->Int->α)(w:α->Int):∀ (l:List α) (c:Int),(wR f w l c).length=l.length
 | [],_=>rfl
 | x::r,c=>by show(wR f w r _).length+1=r.length+1;rw[aFZ f w r]
theorem aFY {α:Type}{f:α->Int->α}{w:α->Int}:∀ {l:List α} {c:Int} {y:α},y∈wR f w l c->∃ x∈l,∃ v,y=f x v
 | [],_,y,h=>by cases h
 | x::r,c,y,h=>by
  rcases bS.1 h with h | h
  ·exact⟨x,bR ..,c,h⟩
  ·obtain⟨z,h1,h2⟩:=aFY h;exact⟨z,bG _ h1,h2⟩
theorem aFX {α:Type}{f:α->Int->α}{w:α->Int}(hw:∀ x v,w (f x v)=w x):∀ (l:List α) (c:Int),gJ w (wR f w l c)=gJ w l
 | [],_=>rfl
 | x::r,c=>by show w (f x c)+gJ w (wR f w r _)=w x+gJ w r;rw[hw,aFX hw r]
theorem aId {α:Type}{f:α->Int->α}{w:α->Int}(hw:∀ x v,w (f x v)=w x)(hf:∀ x v,f (f x v) v=f x v):∀ (l:List α) (c:Int),wR f w (wR f w l c) c=wR f w l c
 | [],_=>rfl
 | x::r,c=>by show f (f x c) c::wR f w (wR f w r _) _=f x c::wR f w r _;rw[hf,hw,aId hw hf r]
theorem aDT {α R:Type}(d:α)(f:α->Int->α)(w:α->Int)(B:Int)(hw:∀ x,0<=w x)(Q:α->Prop)(N:Nat)(g:Nat->List α->Int->Int->(List α->Int->Option R)->Option R)
  (hs:∀ n (o:List α) v (i:Nat) K,o.length=N->i < o.length->0<=v->v<=B->Q (o.getD i d)->g (n+1) o v (i:Int) K=g n (o.set i (f (o.getD i d) v)) (v+w (o.getD i d)) ((i+1:Nat):Int) K)
  (he:∀ n (o:List α) v (i:Nat) K,o.length=N->i=o.length->g (n+1) o v (i:Int) K=K o v) (K:List α->Int->Option R) :
  ∀ (suf pre:List α) (v:Int) (n:Nat),(pre++suf).length=N->suf.length < n->0<=v->v+gJ w suf<=B->(∀ x∈suf,Q x)->g n (pre++suf) v (pre.length:Int) K=K (pre++wR f w suf v) (v+gJ w suf)
 | _,_,_,0,_,h,_,_,_=>absurd h (Nat.not_lt_zero _)
 | [],pre,v,n+1,hN,hn,h0,hB,hQ=>by
  rw[he n _ v pre.length K hN (by simp)];show K (pre++[]) v=K (pre++[]) (v+0);rw[rS]
 | x::r,pre,v,n+1,hN,hn,h0,hB,hQ=>by
  have hr:=iG (w:=w) (l:=r) λy _=>hw y
  have hB:v+(w x+gJ w r)<=B:=hB;have hx:=hw x;have e1:(pre++x::r).getD pre.length d=x:=by simp[List.getD]
  have e2:(pre++x::r).set pre.length (f x v)=(pre++[f x v])++r:=by simp
  rw[hs n _ v pre.length K hN (by simp) h0 (by omega) (by rw[e1];exact hQ x (bR ..)),e1,e2];have:=aDT d f w B hw Q N g hs he K r (pre++[f x v]) (v+w x) n (by simp at hN ⊢;omega) (by simp at hn;omega) (by omega) (by omega) λy hy=>hQ y (bG _ hy)
  rw[aW]at this;refine this.trans ?_;show K (pre++[f x v]++wR f w r (v+w x)) (v+w x+gJ w r)=K (pre++f x v::wR f w r (v+w x)) (v+(w x+gJ w r));rw[dB,vM]
  rfl
theorem aDY {α R:Type}(d:α)(f:α->Int->α)(w:α->Int)(B:Int)(hw:∀ x,0<=w x)(hwf:∀ x v,w (f x v)=w x)(Q:α->Prop)(a:List α)(g:Nat->Int->Int->(Int->Option R)->Option R)
  (hs:∀ n v (i:Nat) K,i < a.length->0<=v->v<=B->Q (a.getD i d)->a.getD i d=f (a.getD i d) v->g (n+1) v (i:Int) K=g n (v+w (a.getD i d)) ((i+1:Nat):Int) K)
  (he:∀ n v (i:Nat) K,i=a.length->g (n+1) v (i:Int) K=K v) (K:Int->Option R) :
  ∀ (suf pre:List α) (v:Int) (n:Nat),pre++suf=a->suf.length < n->0<=v->v+gJ w suf<=B->(∀ x∈suf,Q x)->suf=wR f w suf v->g n v (pre.length:Int) K=K (v+gJ w suf)
 | _,_,_,0,_,h,_,_,_,_=>absurd h (Nat.not_lt_zero _)
 | [],pre,v,n+1,ha,hn,h0,hB,hQ,hm=>by
  rw[he n v pre.length K (by rw[<-ha];simp)];show K v=K (v+0);rw[rS]
 | x::r,pre,v,n+1,ha,hn,h0,hB,hQ,hm=>by
  have hr:=iG (w:=w) (l:=r) λy _=>hw y
  have hB:v+(w x+gJ w r)<=B:=hB;have hx:=hw x;have e1:a.getD pre.length d=x:=by rw[<-ha];simp[List.getD]
  have hm':x=f x v/\r=wR f w r (v+w x):=List.cons.inj hm;rw[hs n v pre.length K (by rw[<-ha];simp) h0 (by omega) (by rw[e1];exact hQ x (bR ..)) (by rw[e1];exact hm'.1),e1];have:=aDY d f w B hw hwf Q a g hs he K r (pre++[x]) (v+w x) n (by rw[<-ha];simp) (by simp at hn;omega) (by omega) (by omega) (λy hy=>hQ y (bG _ hy)) hm'.2;rw[aW]at this;refine this.trans ?_;show K (v+w x+gJ w r)=K (v+(w x+gJ w r));rw[vM]
section
variable {cx : Cx}
theorem iZ {w:World}{S:Nat->Prop}(vs:List Value):ArgAs cx w S (vs.map λv=>(.inl (lv v):A cx.ty)) vs:=⟨by simp,λj a u h1 h2=>by
 rw[aX,h2]at h1;simp only[aD,aB]at h1;subst h1;exact rfl⟩
theorem aGj {w:World}{S:Nat->Prop}(vs:List Value):ArgA cx w S (.inr (vs.map lv)) (.agg vs.toArray):=⟨vs,rfl,by simp,λj a u h1 h2=>by
 rw[aX,h2]at h1;simp only[aD,aB]at h1;subst h1;exact rfl⟩
theorem aEq {w:World}{S:Nat->Prop}(vs:List Value):ArgAs cx w S [.inr (vs.map lv)] [.agg vs.toArray]:=⟨rfl,λj a u h1 h2=>by
 match j with
 | 0=>simp only[aP,aB]at h1 h2;subst h1;subst h2;exact aGj vs
 | j+1=>simp at h1⟩
theorem rU {vs us:List Value}(hl:us.length=vs.length)(h:∀ (j:Nat) v u,vs[j]?=some v->us[j]?=some u->u=v):us=vs:=
 List.ext_getElem hl λj h1 h2=>h j _ _ (aC h2) (aC h1)
theorem aGm {w:World}{S:Nat->Prop}{vs:List Value}{u:Value}(h:ArgA cx w S (.inr (vs.map lv)) u):u=.agg vs.toArray:=by
 obtain⟨us,rfl,hl,h⟩:=h;rw[rU (by simpa using hl) λj v u h1 h2=>h j (lv v) u (by rw[aX,h1];rfl) h2]
theorem uR {w:World}{A0 N:Nat->Prop}{v u:Value}(h:ResV cx w A0 N (.inl (.inl (lv v))) u):u=v:=by
 obtain⟨fp,_,_,h⟩:=h;exact h.1
theorem aKJ {w:World}{A0 N:Nat->Prop}{vs:List Value}{u:Value}(h:ResV cx w A0 N (.inl (.inr (vs.map lv))) u):u=.agg vs.toArray:=by
 obtain⟨fp,_,_,us,fps,rfl,_,hl,hf,h⟩:=h;have e:us=vs:=rU (by simpa using hl) λj v u h1 h2=>by
  have hj:j < fps.length:=by rw[hf];simpa using(aI.1 h1).1
  exact(h j (lv v) u fps[j] (by rw[aX,h1];rfl) h2 (aC hj)).1
 rw[e]
theorem yU {w:World}{A0 N:Nat->Prop}{vs:List Value}{u:Value}(h:ResV cx w A0 N (.inr (.inl (vs.map λv=>.inl (lv v)))) u):u=.tuple vs.toArray:=by
 obtain⟨fp,_,_,us,fps,rfl,_,hl,hf,h⟩:=h;have e:us=vs:=rU (by simpa using hl) λj v u h1 h2=>by
  have hj:j < fps.length:=by rw[hf];simpa using(aI.1 h1).1
  exact(h j (.inl (lv v)) u fps[j] (by rw[aX,h1];rfl) h2 (aC hj)).1
 rw[e]
theorem aHT {w:World}{A0 N:Nat->Prop}(v:Value):ResV cx w A0 N (.inl (.inl (lv v))) v:=⟨[],List.nodup_nil,by simp,rfl,rfl⟩
theorem aJR {w:World}{S:Nat->Prop}{a:A cx.ty}{us:List Value}(h:ArgAs cx w S [a] us):∃ u,us=[u]/\ArgA cx w S a u:=by
 match us,h with
 | [u],h=>exact⟨u,rfl,h.2 0 a u rfl rfl⟩
 | [],h=>exact absurd h.1 (by simp)
 | _::_::r,h=>exact absurd h.1 (by simp)
theorem gZ {P:Program}{f:FuncId}{F:List (A cx.ty)->Option (Bool×V cx.ty)}(h:Sat P cx f F){l:List (A cx.ty)}{us:List Value}{v:Value}(hl:∀ w,ArgAs cx w (λ_=>False) l us)(hF:F l=some (true,.inl (.inl (lv v))))(w:World) :
  Calls P f us.toArray w λe w'=>e=.returned v/\Below w.heap.size w w':=
 (h w (λ_=>False) l us _ (λ_ h=>h.elim) (hl w) hF).mono λe w' ⟨u,he,hb,hr⟩=>⟨by rw[he,uR hr],hb⟩
theorem aIX {P:Program}{f:FuncId}{F:List (A cx.ty)->Option (Bool×V cx.ty)}(h:Sat P cx f F){l:List (A cx.ty)}{us vs:List Value}(hl:∀ w,ArgAs cx w (λ_=>False) l us)(hF:F l=some (true,.inl (.inr (vs.map lv))))(w:World) :
  Calls P f us.toArray w λe w'=>e=.returned (.agg vs.toArray)/\Below w.heap.size w w':=
 (h w (λ_=>False) l us _ (λ_ h=>h.elim) (hl w) hF).mono λe w' ⟨u,he,hb,hr⟩=>⟨by rw[he,aKJ hr],hb⟩
theorem aIW {P:Program}{f:FuncId}{F:List (A cx.ty)->Option (Bool×V cx.ty)}(h:Sat P cx f F){l:List (A cx.ty)}{us vs:List Value}(hl:∀ w,ArgAs cx w (λ_=>False) l us)(hF:F l=some (true,.inr (.inl (vs.map λv=>.inl (lv v)))))(w:World) :
  Calls P f us.toArray w λe w'=>e=.returned (.tuple vs.toArray)/\Below w.heap.size w w':=
 (h w (λ_=>False) l us _ (λ_ h=>h.elim) (hl w) hF).mono λe w' ⟨u,he,hb,hr⟩=>⟨by rw[he,yU hr],hb⟩
end
end Go.VM
namespace Go
open Go.VM
open Go.IntKind (wrap)
open Go.RowKit
section
variable {P : Program} (w : World)
end
end Go
namespace Go.VM
open Go.IntKind (wrap)
open Go Go.RowKit
section
variable {cx : Cx}
theorem aFF {w:World}{S:Nat->Prop}{n:Nat}{e:Nat}{xs:List (cx.ty e)}{u:Value}(h:RepL cx w S n (some (.inr (ro e xs))) u) :
  ∃ q c,u=.slice q xs.length c/\xs.length<=c/\(xs=[]\/∃ b off,q=some ⟨b,off,none⟩/\S b/\∀ i x,xs[i]?=some x->∀ j l,(cx.enc e false x)[j]?=some l->∃ v m,w.cell? ⟨b,off+(i * cx.size e+j),none⟩=some v/\RepL cx w S m l v):=by
 cases n with
 | zero=>exact h.elim
 | succ n=>
  obtain⟨a,cap,hu,hc,h⟩:=h;refine⟨a,cap,hu,hc,?_⟩;rcases h with h | ⟨b,off,ha,hS,h⟩
  ·exact .inl h
  ·refine .inr ⟨b,off,ha,hS,λi x hx j l hl=>?_⟩;obtain⟨v,h1,h2⟩:=h i x hx j l hl;exact⟨v,n,h1,h2⟩
theorem aAG {α β:Type}(f:α->List β)(k:Nat)(hk:0 < k)(hf:∀ x,(f x).length=k)(xs:List α)(j:Nat)(y:β)(h:(xs.flatMap f)[j]?=some y):∃ x,xs[j / k]?=some x/\(f x)[j % k]?=some y:=by
 have hj:j < (xs.flatMap f).length:=(aI.1 h).1;rw[eX f k hf]at hj;have hi:j / k < xs.length:=Nat.div_lt_of_lt_mul (by rw[nU];exact hj);have hx:=aC hi;refine⟨_,hx,?_⟩;have:=gS f k hf xs (j / k) _ hx (j % k) (wN _ hk);rw[nU,nB]at this;rw[<-this];exact h
end
end Go.VM
namespace Go
open Go.VM
open Go.IntKind (wrap)
open Go.RowKit
theorem fB {P:Program}(w:World)(dT sT ty elem:TypeId)(g o dLen dCap:Nat)(a:Addr)(sLen sCap:Nat)(cur:Array Value)(t:TypeId)(cs:List Value)(K:Nat)
  (hu:P.underlying dT=some (.slice elem)) (hs:(P.info? elem).map (·.size)=some K)
  (hg:w.heap[g]?=some (.cells cur t (0,0))) (hn:cs.length=Nat.min sLen dLen * K)
  (hsrc:∀ j v,cs[j]?=some v->w.cell? (a.add j)=some v) (hfit:o+cs.length<=cur.size) (h1:∀ v∈cs,v.oneCell'=true) :
  (Builtin.copy_ #[dT,sT] ty #[.slice (some ⟨g,o,none⟩) dLen dCap,.slice (some a) sLen sCap]).run P w=
   .ok (goInt (Nat.min sLen dLen:Nat)) (w.setRow g (cur.toList.take o++cs++cur.toList.drop (o+cs.length)).toArray):=by
 have hl:=run_loadCells_list (P:=P) w a cs hsrc;have hst:=run_storeCells_at P g o t cs 0 cur w hg (by simpa using hfit) h1;cases hq:P.info? elem with
 | none=>simp[hq]at hs
 | some i=>
  have hi:i.size=K:=by simpa[hq]using hs
  rw[hn]at hl;simp[Builtin.copy_,run_underlying hu,Builtin.lenOf,Builtin.firstCells,sizeOf,typeInfo,hq,hi,hl,hst]
theorem fQ {w:World}{B e K n g cap':Nat}{xs:List Value}(h:w.ownsRow B e K (.slice (some ⟨g,0,none⟩) n cap') n xs) :
  ∃ cur,w.heap[g]?=some (.cells cur e (0,0))/\cur.size=cap' * K/\B<=g/\n<=cap'/\cap'<=maxLen/\xs=cur.toList.take (n * K):=by
 rcases h.2 with⟨hx,_⟩ | ⟨g',cap,cur,hv,hbg,hg,hnc,hcm,hcs,htake⟩
 ·injection hx with h1 h2 h3;cases h1
 ·injection hv with h1 h2 h3
  injection h1 with h1
  injection h1 with h1 h4 h5
  subst h1;subst h3;exact⟨cur,hg,hcs,hbg,hnc,hcm,htake.symm⟩
end Go
namespace Go.VM
open Go.IntKind (wrap)
open Go Go.RowKit
section
variable {cx : Cx}
theorem lR {α β:Type}(f:α->List (List β)):∀ l:List α,(l.flatMap f).flatten=l.flatMap λx=>(f x).flatten
 | []=>rfl
 | a::l=>by simp only[aR,eK,lR f l]
theorem aH4 (ok:cx.Ok){w:World}{e K m:Nat}(hK:cx.size e=K)(hp:0 < K){xs:List (cx.ty e)}{v:Value}{us:List Value}(F:Nat->List (List Nat))(hF:∀ i,(F i).length=K)
  (hrow:w.ownsRow 0 e K v xs.length us)
  (hel:∀ (i:Nat) x,xs[i]?=some x->∀ (t:Nat) l c f,(cx.enc e true x)[t]?=some l->us[i * K+t]?=some c->(F i)[t]?=some f->OwnL cx w m l c f) :
  OwnL cx w (m+1) (some (.inr { own:=2,nm:=0,e:=e,o:=true,xs:=xs })) v (v.ownBlock.toList++(List.range xs.length).flatMap λi=>(F i).flatten):=by
 subst hK;have hl1:(xs.flatMap (cx.enc e true)).length=xs.length * cx.size e:=by rw[eX _ _ (λx=>ok.len e true x)]
 have hl2:((List.range xs.length).flatMap F).length=xs.length * cx.size e:=by rw[eX _ _ hF,List.length_range]
 refine⟨us,(List.range xs.length).flatMap F,hrow,by rw[lR],by rw[hl1];exact hrow.1,by rw[hl2];exact hrow.1.symm,λj l c f h1 h2 h3=>?_⟩;obtain⟨x,hx,hl⟩:=aAG _ _ hp (λx=>ok.len e true x) xs j _ h1;obtain⟨i,hi,hf⟩:=aAG _ _ hp hF (List.range xs.length) j _ h3;have e1:j / cx.size e * cx.size e+j % cx.size e=j:=by rw[nU];exact nB ..
 have hi2:i=j / cx.size e:=by
  obtain⟨_,h⟩:=aI.1 hi;simpa using h.symm
 subst hi2;exact hel _ x hx _ l c f hl (by rw[e1];exact h2) hf
end
end Go.VM
namespace Go
open Go.VM
open Go.IntKind (wrap)
open Go.RowKit
def dJ (cur:List Value)(o:Nat)(cs:List Value):List Value:=cur.take o++cs++cur.drop (o+cs.length)
theorem lP {P:Program}(w:World)(t ty e:TypeId)(i:TypeInfo)(K:Nat)(ht:P.underlying t=some (.slice e))(hi:P.info? e=some i)(hK:i.size=K)
  (g sLen sCap n c:Nat) (a:Addr) (cur:Array Value) (te:TypeId) (hg:w.heap[g]?=some (.cells cur te (0,0))) (news:List Value) (hl:news.length=n * K) (hnews:∀ j u,news[j]?=some u->w.cell? (a.add j)=some u)
  (h1:∀ u∈news,u.oneCell'=true) (hroom:sLen+n<=sCap) (hfit:sLen * K+news.length<=cur.size) :
  (Builtin.append_ #[t,t] ty #[.slice (some ⟨g,0,none⟩) sLen sCap,.slice (some a) n c]).run P w=.ok (.slice (some ⟨g,0,none⟩) (sLen+n) sCap) (w.setRow g (dJ cur.toList (sLen * K) news).toArray):=by
 subst hK;have hs:Src P i.size t (.slice (some a) n c) n news w:=Src.ofSlice w ht a n c news hl hnews h1;have hst:=run_storeCells_at P g (sLen * i.size) te news 0 cur w hg (by simpa using hfit) h1;simp only[jR]at hst;simp[Builtin.append_,run_underlying ht,sizeOf,typeInfo,hi,hs.len,hroom,hs.cells,Addr.add_lit,hst,dJ]
theorem tK {P:Program}(w:World)(t ty e:TypeId)(z:Value)(hz:∀ w,(zeroValue e).run P w=.ok z w)(ht:P.underlying t=some (.slice e))(g o n c:Nat)(h0:n≠0)(cur:Array Value)(te:TypeId)(hg:w.heap[g]?=some (.cells cur te (0,0)))
  (zs:List Value) (hzs:(Builtin.zeroCells z.cells n).toList=zs) (h1:∀ u∈zs,u.oneCell'=true) (hfit:o+zs.length<=cur.size) :
  (Builtin.clear_ #[t] ty #[.slice (some ⟨g,o,none⟩) n c]).run P w=.ok (.tuple #[]) (w.setRow g (dJ cur.toList o zs).toArray):=by
 have hst:=run_storeCells_at P g o te zs 0 cur w hg (by simpa using hfit) h1;simp only[jR]at hst;cases n with
 | zero=>exact absurd rfl h0
 | succ n=>simp[Builtin.clear_,run_underlying ht,hz,hzs,hst,dJ]
theorem hJ {cur cs:List Value}{o:Nat}(h:o+cs.length<=cur.length):(dJ cur o cs).length=cur.length:=by
 unfold dJ;simp only[aW,bA,bL];omega
theorem wE {cur us es:List Value}{K n i:Nat}(hus:us=cur.take (n * K))(hcl:(n+1) * K<=cur.length)(hi:i<=n)(he:es.length=K) :
  (dJ (dJ cur ((i+1) * K) (us.drop (i * K))) (i * K) es).take ((n+1) * K)=us.take (i * K)++es++us.drop (i * K):=by
 have k1:i * K<=n * K:=aQ K hi;have k2:(i+1) * K=i * K+K:=eQ i K;have k3:(n+1) * K=n * K+K:=eQ n K;have hd:(us.drop (i * K)).length=n * K-i * K:=by rw[bL,hus,bA];omega
 have ht:us.take (i * K)=cur.take (i * K):=by rw[hus,List.take_take,Nat.min_eq_left k1]
 rw[ht]
 generalize us.drop (i * K)=D at hd ⊢
 unfold dJ;rw[he,k2];have e0:(cur.take (i * K+K)).length=i * K+K:=by rw[bA];omega
 have e1:(cur.take (i * K+K)++D++cur.drop (i * K+K+D.length)).take (i * K)=cur.take (i * K):=by
  rw[dB,cP (by omega),List.take_take,Nat.min_eq_left (by omega)]
 have e2:(cur.take (i * K+K)++D++cur.drop (i * K+K+D.length)).drop (i * K+K)=D++cur.drop (i * K+K+D.length):=by
  rw[dB,mH (by omega),List.drop_of_length_le (by omega),eO]
 rw[e1,e2];have e3:(cur.take (i * K)++es++D).length=(n+1) * K:=by
  simp only[aW,bA,hd,he];omega
 rw[<-dB,cP (by rw[e3];exact aK _),cT (by rw[e3];exact aK _)]
theorem wA {A Z es D:List Value}{K n i:Nat}(hA:A.length=i * K)(hD:D.length=n * K-i * K)(hi:i<=n)(he:es.length=K)(hZ:(n+1) * K<=i * K+Z.length) :
  (dJ (dJ (A++Z) (i * K) es) ((i+1) * K) D).take ((n+1) * K)=A++es++D:=by
 have k1:i * K<=n * K:=aQ K hi;have k2:(i+1) * K=i * K+K:=eQ i K;have k3:(n+1) * K=n * K+K:=eQ n K;have e1:dJ (A++Z) (i * K) es=A++es++Z.drop K:=by
  unfold dJ;rw[cP (by omega),cT (by omega),he,List.drop_append,List.drop_of_length_le (by omega),eO,hA,pQ]
 rw[e1];unfold dJ;have e2:(A++es).length=i * K+K:=by rw[aW,hA,he]
 have e4:(A++es++Z.drop K).take (i * K+K)=A++es:=by rw[cP (by omega),cT (by omega)]
 rw[k2,e4];have e3:(A++es++D).length=(n+1) * K:=by rw[aW,e2,hD];omega
 rw[cP (by rw[e3];exact aK _),cT (by rw[e3];exact aK _)]
theorem jF {P:Program}{ops:Array Oper}{o:Oper}{a:Act}{w:World}{K:Act->World->Prop}{Q:Exit->Act->World->Prop}{E:Prop}
  (hg:o.guard=none) (d x:Operand) (dT sT:TypeId) (hop:o.op=Op.call { callee:=Callee.builtin Builtin.copy,args:=#[d,x],argTypes:=#[dT,sT] })
  (v u:Value) (hd:a.eval d=v) (hx:a.eval x=u) {v':Value} {w':World} (hr:(Builtin.copy_ #[dT,sT] o.type #[v,u]).run P w=.ok v' w') (hK:K (a.put o.dst v') w') :
  if Region.wanted o (yielded ops a.tmps)=true then Oper.wp P o a w K Q else E:=by
 have hw:Region.wanted o (yielded ops a.tmps)=true:=by simp[Region.wanted,hg]
 rw[if_pos hw];unfold Oper.wp;simp[execOp,hop,resolve,invoke,builtin,hd,hx,hr,Result.andThen];exact hK
theorem hI {P:Program}{w:World}{ops:Array Oper}{rest:List Oper}{o:Oper}{a:Act}{Q:Exit->Act->World->Prop}(hgd:o.guard=none)(d s:Operand)(t t':TypeId)
  (ho:o.op=.call { callee:=.builtin .copy,args:=#[d,s],argTypes:=#[t,t'] }) (v u:Value) (hd:a.eval d=v) (hs:a.eval s=u) {v':Value} {w':World}
  (hr:(Builtin.copy_ #[t,t'] o.type #[v,u]).run P w=.ok v' w') (h:wpList P ops Q rest (a.put o.dst v') w'):wpList P ops Q (o::rest) a w:=
 wpList_plain hgd λ_ hK=>by
  unfold Oper.wp execOp;simp only[ho,resolve,invoke,builtin,Sem.run_bind,Sem.run_pure,Result.andThen_ok,iC,cU,kR,hd,hs,hr];exact hK _ _ h
theorem mE {P:Program}{ops:Array Oper}{o:Oper}{a:Act}{w:World}{K:Act->World->Prop}{Q:Exit->Act->World->Prop}{E:Prop}
  (hg:o.guard=none) (d x:Operand) (dT sT:TypeId) (hop:o.op=Op.call { callee:=Callee.builtin Builtin.append,args:=#[d,x],argTypes:=#[dT,sT] })
  (v u:Value) (hd:a.eval d=v) (hx:a.eval x=u) {v':Value} {w':World} (hr:(Builtin.append_ #[dT,sT] o.type #[v,u]).run P w=.ok v' w') (hK:K (a.put o.dst v') w') :
  if Region.wanted o (yielded ops a.tmps)=true then Oper.wp P o a w K Q else E:=by
 have hw:Region.wanted o (yielded ops a.tmps)=true:=by simp[Region.wanted,hg]
 rw[if_pos hw];unfold Oper.wp;simp[execOp,hop,resolve,invoke,builtin,hd,hx,hr,Result.andThen];exact hK
theorem kU {P:Program}{w:World}{ops:Array Oper}{rest:List Oper}{o:Oper}{a:Act}{Q:Exit->Act->World->Prop}(hgd:o.guard=none)(d s:Operand)(t t':TypeId)
  (ho:o.op=.call { callee:=.builtin .append,args:=#[d,s],argTypes:=#[t,t'] }) (v u:Value) (hd:a.eval d=v) (hs:a.eval s=u) {v':Value} {w':World}
  (hr:(Builtin.append_ #[t,t'] o.type #[v,u]).run P w=.ok v' w') (h:wpList P ops Q rest (a.put o.dst v') w'):wpList P ops Q (o::rest) a w:=
 wpList_plain hgd λ_ hK=>by
  unfold Oper.wp execOp;simp only[ho,resolve,invoke,builtin,Sem.run_bind,Sem.run_pure,Result.andThen_ok,iC,cU,kR,hd,hs,hr];exact hK _ _ h
theorem lM {P:Program}{w:World}{ops:Array Oper}{rest:List Oper}{o:Oper}{a:Act}{Q:Exit->Act->World->Prop}(hgd:o.guard=none)(d:Operand)(t:TypeId)
  (ho:o.op=.call { callee:=.builtin .clear,args:=#[d],argTypes:=#[t] }) (v:Value) (hd:a.eval d=v) {v':Value} {w':World}
  (hr:(Builtin.clear_ #[t] o.type #[v]).run P w=.ok v' w') (h:wpList P ops Q rest (a.put o.dst v') w'):wpList P ops Q (o::rest) a w:=
 wpList_plain hgd λ_ hK=>by
  unfold Oper.wp execOp;simp only[ho,resolve,invoke,builtin,Sem.run_bind,Sem.run_pure,Result.andThen_ok,iC,cU,kR,hd,hr];exact hK _ _ h
section
variable {P : Program} {md : Region.Mode} {ops : Array Oper} {Q : Exit → Act → World → Prop} {S : World → Prop}
def iW (P:Program)(md:Region.Mode)(ops:Array Oper)(Q:Exit->Act->World->Prop)(S:World->Prop)(d:Nat):Nat->Array Bool->Act->World->Prop
 | 0,listed,a,w=>Region.ready md ops listed=[]/\Q .normal a w
 | fuel+1,listed,a,w=>
  (Region.ready md ops listed=[]->Q .normal a w) ∧
  ∀ i∈Region.ready md ops listed,wpOp P ops Q i (λa' w'=>(i≠d->S w')/\iW P md ops Q S d fuel (listed.setIfInBounds i true) a' w') a w
theorem zD {d:Nat}:∀ (fuel:Nat) (listed:Array Bool) (a:Act) (w:World),iW P md ops Q S d fuel listed a w->wpAny P md ops Q fuel listed a w
 | 0,_,_,_,h=>h
 | fuel+1,_,_,_,h=>⟨h.1,λi hi=>wpOp_mono (λa' w' h'=>zD fuel _ a' w' h'.2) (h.2 i hi)⟩
theorem aCc {d i:Nat}{oi:Oper}{v:Value}(hi:ops[i]?=some oi)(hd:∃ od,ops[d]?=some od/\∃ e∈od.after,Region.binds md e=true/\e.on=i)(hsel:∀ (j:Nat) (o:Oper) cs b,ops[j]?=some o->o.op≠.select cs b)
  (hQ:∀ c a w,Q (.panic c) (a.put oi.dst v) w->Q (.panic c) a w) :
  ∀ (fuel:Nat) (listed:Array Bool) (a:Act) (w:World),
   (∀ j oj,ops[j]?=some oj->j≠i->listed.getD j true=false->(∀ e∈oj.after,Region.binds md e=true->e.on≠i)->oi.apart ops oj=true)->
   i∈Region.ready md ops listed->YieldsIf P ops S oi v a->S w->
   iW P md ops Q S d fuel (listed.setIfInBounds i true) (a.put oi.dst v) w->iW P md ops Q S d (fuel+1) listed a w:=by
 have hnl:∀ (listed:Array Bool),i∈Region.ready md ops listed->∀ j,j∈Region.ready md ops listed->j≠d:=λlisted hr j hj e=>by
  subst e;obtain⟨od,hod,e,he,hb,hon⟩:=hd;obtain⟨_,oj,hoj,hall⟩:=mem_ready.1 hj;rw[hod]at hoj;cases hoj;have h1:=hall e he hb;have h0:=(mem_ready.1 hr).1;rw[hon]at h1;rcases eR i listed.size with h' | h'
  ·simp[h']at h0 h1;rw[h0]at h1;cases h1
  ·simp[Array.getElem?_eq_none h']at h1
 intro fuel
 induction fuel with
 | zero=>
  intro listed a w _ hr hy hS H;refine⟨λh=>(by rw[h]at hr;cases hr),λj hj=>?_⟩;by_cases hji:j=i
  ·subst hji;exact hy.wpOp hi hS ⟨λ_=>hS,H⟩
  ·have:=ready_mono hj hji;rw[H.1]at this;cases this
 | succ fuel ih=>
  intro listed a w hfree hr hy hS H;refine⟨λh=>(by rw[h]at hr;cases hr),λj hj=>?_⟩;by_cases hji:j=i
  ·subst hji;exact hy.wpOp hi hS ⟨λ_=>hS,H⟩
  ·have h1:=H.2 j (ready_mono hj hji);have hjd:=hnl listed hr j hj;obtain⟨hjun,oj,hoj,hall⟩:=mem_ready.1 hj;have hnot:∀ e∈oj.after,Region.binds md e=true->e.on≠i:=λe he hb heq=>by
    have h1:=hall e he hb;have h0:=(mem_ready.1 hr).1;rw[heq]at h1;rcases eR i listed.size with h' | h'
    ·simp[h']at h0 h1;rw[h0]at h1;cases h1
    ·simp[Array.getElem?_eq_none h']at h1
   have h2:=wpOp_putIf hoj (hfree j oj hoj hji hjun hnot) (λcs b=>hsel i oi cs b hi) (λcs b=>hsel j oj cs b hoj) hQ hy h1;have hfree':∀ k ok,ops[k]?=some ok->k≠i->(listed.setIfInBounds j true).getD k true=false->
     (∀ e∈ok.after,Region.binds md e=true->e.on≠i)->oi.apart ops ok=true:=λk ok hk hki hun hno=>by
    refine hfree k ok hk hki ?_ hno;by_cases hjk:j=k
    ·subst hjk;exact hjun
    ·rw[getD_set_ne true hjk]at hun;exact hun
   refine wpOp_mono (λa' w' h3=>⟨h3.2.1,ih (listed.setIfInBounds j true) a' w' hfree' (ready_mono hr (Ne.symm hji)) h3.1 (h3.2.1 hjd) ?_⟩) h2;rw[Array.setIfInBounds_comm _ _ hji];exact h3.2.2
def aEx (md:Region.Mode)(ops:Array Oper)(d i:Nat):Bool:=((ops[d]?).map λo=>o.after.toList.any λe=>Region.binds md e&&e.on == i).getD false
theorem aDr {d i:Nat}(h:aEx md ops d i=true):∃ od,ops[d]?=some od/\∃ e∈od.after,Region.binds md e=true/\e.on=i:=by
 unfold aEx at h;cases ho:ops[d]? with
 | none=>rw[ho]at h;cases h
 | some od=>
  rw[ho]at h;simp only[aD,fK,eN,aJ,beq_iff_eq,Array.mem_toList_iff]at h;obtain⟨e,h1,h2,h3⟩:=h;exact⟨od,rfl,e,h1,h2,h3⟩
theorem bD {d i:Nat}{oi:Oper}{v:Value}{fuel:Nat}{listed:Array Bool}{a:Act}{w:World}(hi:ops[i]?=some oi)(hd:aEx md ops d i=true)
  (hs:Region.noSelect ops=true) (hf:Region.free md ops listed i=true) (hr:(Region.ready md ops listed).contains i=true)
  (hQ:∀ c a w,Q (.panic c) (a.put oi.dst v) w->Q (.panic c) a w) (hw:Region.wanted oi (yielded ops a.tmps)=true) (hy:∀ w,S w->(execOp a.eval oi).run P w=.ok (.value v) w) (hS:S w)
  (h:iW P md ops Q S d fuel (listed.setIfInBounds i true) (a.put oi.dst v) w):iW P md ops Q S d (fuel+1) listed a w:=
 aCc hi (aDr hd) (Region.noSelect_spec hs) hQ fuel listed a w (Region.free_spec hi hf) (by simpa using hr) (.inl ⟨hw,hy⟩) hS h
theorem zF {d:Nat}{rs:List Nat}{fuel:Nat}{listed:Array Bool}{a:Act}{w:World}(hr:Region.ready md ops listed=rs)(hne:rs≠[])
  (h:∀ i∈rs,wpOp P ops Q i (λa' w'=>(i≠d->S w')/\iW P md ops Q S d fuel (listed.setIfInBounds i true) a' w') a w):iW P md ops Q S d (fuel+1) listed a w:=
 ⟨λh0=>absurd (hr▸h0) hne,hr▸h⟩
def aFw (P:Program)(md:Region.Mode)(ops:Array Oper)(Q:Exit->Act->World->Prop)(S:World->Prop)(d:Nat)(o:Oper)(i fuel:Nat)(listed:Array Bool)(a:Act)(w:World):Prop:=
 ∀ K:Act->World->Prop,(∀ a' w',((i≠d->S w')/\iW P md ops Q S d fuel (listed.setIfInBounds i true) a' w')->K a' w')->if Region.wanted o (yielded ops a.tmps)=true then Oper.wp P o a w K Q else K (a.put o.dst undef) w
theorem tG {d i fuel:Nat}{o:Oper}{listed:Array Bool}{a:Act}{w:World}(hi:ops[i]?=some o)(h:aFw P md ops Q S d o i fuel listed a w):wpOp P ops Q i (λa' w'=>(i≠d->S w')/\iW P md ops Q S d fuel (listed.setIfInBounds i true) a' w') a w:=by
 have h:=h _ λ_ _ h=>h
 unfold wpOp;simp only[hi];split<;>rename_i hw
 ·rw[if_pos hw]at h;exact .inl h
 ·rw[if_neg hw]at h;exact h
theorem cD {d i fuel:Nat}{o:Oper}{listed:Array Bool}{a:Act}{w:World}(hr:Region.ready md ops listed=[i])(hi:ops[i]?=some o)(h:aFw P md ops Q S d o i fuel listed a w):iW P md ops Q S d (fuel+1) listed a w:=
 zF hr (by simp) λj hj=>by
  obtain rfl:j=i:=by simpa using hj
  exact tG hi h
theorem zE {d i j fuel:Nat}{o o':Oper}{listed:Array Bool}{a:Act}{w:World}(hr:Region.ready md ops listed=[i,j])(hi:ops[i]?=some o)(hj:ops[j]?=some o')(h:aFw P md ops Q S d o i fuel listed a w)(h':aFw P md ops Q S d o' j fuel listed a w):iW P md ops Q S d (fuel+1) listed a w:=
 zF hr (by simp) λk hk=>by
  rcases(show k=i\/k=j by simpa using hk)with rfl | rfl
  ·exact tG hi h
  ·exact tG hj h'
theorem jP {d:Nat}{listed:Array Bool}{a:Act}{w:World}(hr:Region.ready md ops listed=[])(h:Q .normal a w) :
  ∀ fuel,iW P md ops Q S d fuel listed a w
 | 0=>⟨hr,h⟩
 | _+1=>⟨λ_=>h,by rw[hr];simp⟩
theorem lV {d id:Nat}{a:Act}{w:World}(hm:P.follows .mixedOrders=true)
  (h:iW P .any ops Q S d ops.size (Array.replicate ops.size false) a w.drew):(Code.region id ops true).wp P Q a w:=
 wp_region_any hm (zD _ _ _ _ h)
end
end Go
namespace Go.VM
open Go.IntKind (wrap)
open Go Go.RowKit
def LeafOk {ty:Nat->Type}(l:L ty):Prop:=(∃ v,l=lv v)\/∃ s:SlD ty,l=ls s/\s.own=0
def Opens (P:Program)(cx:Cx)(t:TypeId){T:Type}(enc:T->List (L cx.ty))(good:T->Prop):Prop:=
 ∀ (H:Type) (e':TypeId×Value->H) (w:World) (spare:Nat->Bool) (held:Bool) (fuel:Nat) (cs:List Value) (x:DataW H×List MemPlace),DataW.trod e' P w 0 spare held fuel t cs=some x->
  ∃ y:T,good y/\cs.length=(enc y).length/\(∀ l∈enc y,LeafOk l)/\∃ n,∀ (j:Nat) l c,(enc y)[j]?=some l->cs[j]?=some c->RepL cx w (Lent w) n l c
theorem gB {P:Program}{cx:Cx}{t:TypeId}{k:IntKind}(ht:P.underlying t=some (.int k)):Opens P cx t (λx:Int=>[lv (.int k x)]) (λx=>(Lit.int k x).wf=true):=by
 intro H e' w spare held fuel cs x h;obtain⟨n,rfl,_,hw⟩:=DataW.trod_int ht h;refine⟨n,hw,rfl,λl hl=>.inl ⟨_,by simpa using hl⟩,0,λj l c h1 h2=>?_⟩;cases j with
 | zero=>
  simp only[aP,aB]at h1 h2;subst h1;subst h2
  rfl
 | succ j=>simp at h1
theorem aEN {P:Program}{cx:Cx}{t:TypeId}(ht:P.underlying t=some .bool):Opens P cx t (λx:Bool=>[lv (.bool x)]) (λ_=>True):=by
 intro H e' w spare held fuel cs x h;obtain⟨n,rfl,_⟩:=DataW.trod_bool ht h;refine⟨n,trivial,rfl,λl hl=>.inl ⟨_,by simpa using hl⟩,0,λj l c h1 h2=>?_⟩;cases j with
 | zero=>
  simp only[aP,aB]at h1 h2;subst h1;subst h2
  rfl
 | succ j=>simp at h1
theorem aFj {w:World}{a:Addr}{n:Nat}{cs:List Value}(h:w.cells? 0 a n=some cs):cs.length=n/\∀ (j:Nat) c,cs[j]?=some c->w.cell? (a.add j)=some c:=by
 have h1:=World.cells?_some h;refine⟨h1.2.1,λj c hj=>?_⟩;have hl:j < n:=by rw[<-h1.2.1];exact(aI.1 hj).1
 have:=h1.2.2 j hl;rw[this];exact hj
theorem qO {P:Program}{cx:Cx}{t e:TypeId}(ht:P.underlying t=some (.slice e))(hc:P.cellsOf e=cx.size e)(hpos:0 < cx.size e)(ok:cx.Ok){good:cx.ty e->Prop}(he:Opens P cx e (cx.enc e false) good) :
  Opens P cx t (λx:List (cx.ty e)=>[ls (ro e x)]) (λx=>x.length<=maxLen/\∀ y∈x,good y):=by
 intro H e' w spare held fuel cs x h;rcases DataW.trod_slice ht h with⟨rfl,_⟩ | ⟨a,len,cap,elems,rest,n,_,rfl,_,_,hl,hm,hlen,hel,_,_⟩
 ·refine⟨[],⟨bX _,by simp⟩,rfl,λl hl=>.inr ⟨_,by simpa using hl,rfl⟩,1,λj l c h1 h2=>?_⟩;cases j with
  | zero=>
   simp only[aP,aB]at h1 h2;subst h1;subst h2;exact⟨none,0,rfl,aK _,.inl rfl⟩
  | succ j=>simp at h1
 ·have each:∀ i,i < len->∃ y:cx.ty e,good y/\∃ m,∀ (j:Nat) l,(cx.enc e false y)[j]?=some l->∃ c,w.cell? (a.add (i * cx.size e+j))=some c/\RepL cx w (Lent w) m l c:=by
   intro i hi;have h0:=hel i hi;rw[aC (by omega)]at h0;obtain⟨cs',hcs,hx⟩:=Option.bind_eq_some_iff.1 h0;obtain⟨y,hy,hlen',_,m,hr⟩:=he H e' w spare held n cs' _ hx;obtain⟨hcl,hcg⟩:=aFj hcs;refine⟨y,hy,m,λj l hl=>?_⟩;have hj:j < cs'.length:=by rw[hlen'];exact(aI.1 hl).1
   refine⟨cs'[j],?_,hr j l _ hl (aC hj)⟩;have:=hcg j _ (aC hj);rw[hc]at this;have e:(a.add (i * cx.size e)).add j=a.add (i * cx.size e+j):=by
    by_cases h1:i * cx.size e=0<;>by_cases h2:j=0<;>simp[Addr.add,h1,h2,gT]
   rw[<-e];exact this
  have all:∀ k,k<=len->∃ ys:List (cx.ty e),ys.length=k/\(∀ y∈ys,good y)/\∃ m,∀ (i:Nat) y,ys[i]?=some y->∀ (j:Nat) l,(cx.enc e false y)[j]?=some l->∃ c,w.cell? (a.add (i * cx.size e+j))=some c/\RepL cx w (Lent w) m l c:=by
   intro k
   induction k with
   | zero=>exact λ_=>⟨[],rfl,by simp,0,λi y h=>by simp at h⟩
   | succ k ih=>
    intro hk;obtain⟨ys,h1,h2,m,h3⟩:=ih (by omega);obtain⟨y,hy,m2,hr⟩:=each k (by omega);refine⟨ys++[y],by simp[h1],λz hz=>?_,m+m2,λi z hz j l hl=>?_⟩
    ·rcases aA.1 hz with hz | hz
     ·exact h2 z hz
     ·simp only[aO]at hz;subst hz;exact hy
    ·by_cases hi:i < ys.length
     ·rw[bM hi]at hz;obtain⟨c,hc1,hc2⟩:=h3 i z hz j l hl;exact⟨c,hc1,RepL_up m2 hc2⟩
     ·rw[bJ (by omega)]at hz;have hik:i=k:=by
       have:=(aI.1 hz).1;simp at this;omega
      have:i-ys.length=0:=by omega
      rw[this]at hz;simp only[aP,aB]at hz;subst hz;subst hik;obtain⟨c,hc1,hc2⟩:=hr j l hl;rw[fX m m2];exact⟨c,hc1,RepL_up m hc2⟩
  obtain⟨ys,h1,h2,m,h3⟩:=all len (aK _);refine⟨ys,⟨by rw[h1];omega,h2⟩,rfl,λl hl=>.inr ⟨_,by simpa using hl,rfl⟩,m+1,λj l c g1 g2=>?_⟩;cases j with
  | zero=>
   simp only[aP,aB]at g1 g2;subst g1;subst g2;refine⟨some a,cap,by show _=Value.slice (some a) ys.length cap;rw[h1],by show ys.length<=cap;omega,?_⟩;by_cases h0:ys=[]
   ·exact .inl h0
   ·have hp:0 < ys.length:=List.length_pos_iff.2 h0;obtain⟨y0,hy0⟩:∃ y,ys[0]?=some y:=⟨_,aC hp⟩
    have hel0:0 < (cx.enc e false y0).length:=by rw[ok.len];exact hpos
    obtain⟨c0,hc0,_⟩:=h3 0 y0 hy0 0 _ (aC hel0);have e0:a.add (0 * cx.size e+0)=a:=by simp[Addr.add]
    rw[e0]at hc0;have hs:=aHa hc0;obtain⟨b,off,spot⟩:=a;obtain⟨rfl,hb⟩:=hs;refine .inr ⟨b,off,rfl,hb,λi y hy j l hl=>?_⟩;obtain⟨c,hc1,hc2⟩:=h3 i y hy j l hl;refine⟨c,?_,hc2⟩;show w.cell? ⟨b,off+(i * cx.size e+j),none⟩=some c;simpa[Addr.add_lit]using hc1
  | succ j=>simp at g1
def OpensF (P:Program)(cx:Cx)(fs:List Field)(off:Nat){T:Type}(enc:T->List (L cx.ty))(good:T->Prop):Prop:=
 ∀ (H:Type) (e':TypeId×Value->H) (w:World) (spare:Nat->Bool) (held:Bool) (fuel:Nat) (cs:List Value),off+fs.length<=cs.length->
  (∀ f∈fs,∃ x,DataW.trod e' P w 0 spare held fuel f.type ((cs.drop f.offset).take (P.cellsOf f.type))=some x)->
  ∃ y:T,good y/\(enc y).length=fs.length/\(∀ l∈enc y,LeafOk l)/\∃ n,∀ (j:Nat) l c,(enc y)[j]?=some l->cs[off+j]?=some c->RepL cx w (Lent w) n l c
theorem mT {P:Program}{cx:Cx}{f:Field}{off:Nat}{T:Type}{l:T->L cx.ty}{good:T->Prop}(h:Opens P cx f.type (λx=>[l x]) good)(ho:f.offset=off)(hc:P.cellsOf f.type=1):OpensF P cx [f] off (λx=>[l x]) good:=by
 intro H e' w spare held fuel cs hl ht;obtain⟨x,hx⟩:=ht f (aO.2 rfl);obtain⟨y,hy,hlen,hlf,n,hr⟩:=h H e' w spare held fuel _ x hx;refine⟨y,hy,rfl,hlf,n,λj a c h1 h2=>?_⟩;cases j with
 | zero=>
  refine hr 0 a c h1 ?_;rw[hc,ho,bK,if_pos (by omega),cL];exact h2
 | succ j=>simp at h1
theorem fG {P:Program}{cx:Cx}{f:Field}{fs:List Field}{off:Nat}{T U:Type}{l:T->L cx.ty}{good:T->Prop}{enc:U->List (L cx.ty)}{good2:U->Prop}(h:Opens P cx f.type (λx=>[l x]) good)(ho:f.offset=off)(hc:P.cellsOf f.type=1)
  (h2:OpensF P cx fs (off+1) enc good2):OpensF P cx (f::fs) off (λx:T×U=>l x.1::enc x.2) (λx=>good x.1/\good2 x.2):=by
 intro H e' w spare held fuel cs hl ht;obtain⟨y,hy,hylen,hlf,n,hr⟩:=mT h ho hc H e' w spare held fuel cs (by simp at hl ⊢;omega) (λg hg=>ht g (by simp at hg;subst hg;exact bR ..));obtain⟨z,hz,hzlen,hlf2,m,hr2⟩:=h2 H e' w spare held fuel cs (by simp at hl;omega) (λg hg=>ht g (bG _ hg));refine⟨(y,z),⟨hy,hz⟩,by simp[hzlen],λa ha=>?_,n+m,λj a c h1 h2=>?_⟩
 ·rcases bS.1 ha with ha | ha
  ·exact hlf a (by simp[ha])
  ·exact hlf2 a ha
 ·cases j with
  | zero=>
   simp only[aP,aB]at h1;subst h1;exact RepL_up m (hr 0 _ c rfl h2)
  | succ j=>
   rw[fX n m];refine RepL_up n (hr2 j a c (by simpa using h1) ?_);rw[<-h2];congr 1;omega
theorem mJ {P:Program}{cx:Cx}{t:TypeId}{fs:Array Field}(ht:P.underlying t=some (.struct fs))(hc:P.cellsOf t=fs.size){T:Type}{enc:T->List (L cx.ty)}{good:T->Prop}(h:OpensF P cx fs.toList 0 enc good):Opens P cx t enc good:=by
 intro H e' w spare held fuel cs x hx;obtain⟨xs,n,_,_,hcl,hxl,hf⟩:=DataW.trod_struct ht hx;obtain⟨y,hy,hylen,hlf,m,hr⟩:=h H e' w spare held n cs (by simp;omega) (λf hfm=>by
  obtain⟨i,hi⟩:=dW hfm;have hi2:fs[i]?=some f:=by simpa using hi
  have:=hf i f hi2;have hlt:i < xs.length:=by rw[hxl];exact(aL.1 hi2).1
  rw[aC hlt]at this;exact⟨_,this⟩)
 refine⟨y,hy,by rw[hylen,hcl,hc];simp,hlf,m,λj l c h1 h2=>hr j l c h1 (by simpa using h2)⟩
theorem aKD {cx:Cx}{w:World}{n:Nat}{l:L cx.ty}{u:Value}(h0:LeafOk l)(h:RepL cx w (Lent w) n l u):ArgL cx w (Lent w) l u:=by
 rcases h0 with⟨v,rfl⟩ | ⟨s,rfl,hs⟩
 ·cases n<;>exact h
 ·exact⟨hs,n,h⟩
theorem arg_struct {P:Program}{cx:Cx}{t:TypeId}{T:Type}{enc:T->List (L cx.ty)}{good:T->Prop}(h:Opens P cx t enc good){H:Type}{e':TypeId×Value->H}{w:World}{spare:Nat->Bool}{held:Bool}{fuel:Nat}{cs:Array Value}{x:DataW H×List MemPlace}
  (hx:DataW.trod e' P w 0 spare held fuel t cs.toList=some x):∃ y:T,good y/\ArgA cx w (Lent w) (.inr (enc y)) (.agg cs):=by
 obtain⟨y,hy,hlen,hlf,n,hr⟩:=h H e' w spare held fuel _ x hx;exact⟨y,hy,cs.toList,by simp,hlen,λj a u h1 h2=>aKD (hlf a (bC h1)) (hr j a u h1 h2)⟩
theorem agg_of_wide {P:Program}{w:World}{r:Reach}{base:Nat}{t:TypeId}{v:Value}{fs:Array Field}(ht:P.underlying t=some (.struct fs))(h:Value.okWide P w r base t v):∃ cs,v=.agg cs:=by
 unfold Value.okWide at h;rw[ht]at h;obtain⟨cs,hv,_⟩:=h;exact⟨cs,hv⟩
end Go.VM
