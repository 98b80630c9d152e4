/- A part of the proof of FnExactServeFrom: VmPl, VmPm, VmPn. -/
import Derived.Test.YtnmnomckcjihoaaGreatVmJ
set_option linter.unusedSimpArgs false
set_option linter.unusedVariables false
namespace Go.VM
open Go.IntKind (wrap)
open Go
section
variable {α : Type}
theorem lR (d:α){a:List α}{i:Nat}(h:i < a.length):a.getD i d=a[i]:=by simp[List.getD,aD h]
theorem gO (d:α){a:List α}{i:Nat}(h:i < a.length):a.getD i d∈a:=by rw[lR d h];exact fS h
def kE (f:Nat->Int):Nat->Nat->Int
 | 0,_=>0
 | n+1,i=>if f i=0 then kE f n (i+1)else f i
theorem sM (f:Nat->Int)(n i:Nat):kE f (n+1) i=if f i=0 then kE f n (i+1)else f i:=rfl
theorem lG {f:Nat->Int}:∀ {n i:Nat},kE f n i=0↔∀ j,i<=j->j < i+n->f j=0
 | 0,i=>by simp only[kE,true_iff];intro j h1 h2;omega
 | n+1,i=>by
  rw[sM];by_cases h:f i=0
  ·rw[if_pos h,lG];constructor
   ·intro k j h1 h2;by_cases h3:j=i
    ·rw[h3];exact h
    ·exact k j (by omega) (by omega)
   ·intro k j h1 h2;exact k j (by omega) (by omega)
  ·rw[if_neg h];constructor
   ·intro k;exact absurd k h
   ·intro k;exact k i (aK _) (by omega)
theorem aEz {f:Nat->Int}:∀ {n i:Nat},kE f n i≠0->∃ j,i<=j/\j < i+n/\f j=kE f n i
 | 0,_,h=>absurd rfl h
 | n+1,i,h=>by
  rw[sM]at h ⊢;by_cases h1:f i=0
  ·rw[if_pos h1]at h ⊢;obtain⟨j,k1,k2,k3⟩:=aEz h;exact⟨j,by omega,by omega,k3⟩
  ·rw[if_neg h1]at h ⊢;exact⟨i,aK _,by omega,rfl⟩
def eqL (d:α)(f:α×α->Option Bool)(a b:List α):Nat->Int->Option Bool->Option Bool
 | 0,_,_=>none
 | n+1,i,k=>bif decide (i < (Nat.cast a.length:Int))then bif (decide ((0:Int)<=i)&&decide (i < (Nat.cast a.length:Int)))then bif (decide ((0:Int)<=i)&&decide (i < (Nat.cast b.length:Int)))then
   cK (f (a.getD i.toNat d,b.getD i.toNat d)) false λq=>bif !q then some false else eqL d f a b n (wrap .i64 (i+1)) k
  else none else none else k
theorem tM [DecidableEq α](d:α)(f:α×α->Option Bool)(a b:List α)(hl:a.length=b.length)(ha:a.length<=1000000000000000000)(hf:∀ x∈a,∀ y∈b,f (x,y)=some (decide (x=y)))(k:Option Bool) :
  ∀ (n i:Nat),i<=a.length->a.length < n+i->eqL d f a b n i k=if a.drop i=b.drop i then k else some false
 | 0,i,h2,h3=>by omega
 | n+1,i,h2,h3=>by
  unfold eqL;by_cases hi:i < a.length
  ·simp(disch:=omega) only[dt,wi,cond_true,bL,bA];rw[hf _ (gO d hi) _ (gO d (by omega)),bJ,mV d hi,mV d (show i < b.length by omega)];have:=tM d f a b hl ha hf k n (i+1) (by omega) (by omega);rw[show(i:Int)+1=((i+1:Nat):Int) from rfl,this];by_cases hx:a.getD i d=b.getD i d
   ·rw[hx];simp
   ·rw[dt_not hx,if_neg (λh=>hx (List.cons.inj h).1)];rfl
  ·simp(disch:=omega) only[df,cond_false];rw[cW (by omega),cW (by omega)];simp
where dt_not {x y:α} (h:¬ x=y):(!decide (x=y))=true:=by simp[h]
def toL (d:α)(f:α->Option α)(a:List α):Nat->List α->Int->(List α->Option (List α))->Option (List α)
 | 0,_,_,_=>none
 | n+1,o,i,k=>bif decide (i < (Nat.cast a.length:Int))then bif (decide ((0:Int)<=i)&&decide (i < (Nat.cast a.length:Int)))then cK (f (a.getD i.toNat d)) d λq=>
   bif (decide ((0:Int)<=i)&&decide (i < (Nat.cast o.length:Int)))then toL d f a n (o.set i.toNat q) (wrap .i64 (i+1)) k else none else none else k o
theorem tA (d:α)(f:α->Option α)(a:List α)(ha:a.length<=1000000000000000000)(hf:∀ x∈a,f x=some x)(k:List α->Option (List α)) :
  ∀ (n i:Nat) (o:List α),o.length=a.length->i<=a.length->a.length < n+i->o.take i=a.take i->toL d f a n o i k=k a
 | 0,i,o,_,h2,h3,_=>by omega
 | n+1,i,o,h1,h2,h3,h4=>by
  unfold toL;by_cases hi:i < a.length
  ·simp(disch:=omega) only[dt,wi,cond_true,bL,bA];rw[hf _ (gO d hi),bJ,show(i:Int)+1=((i+1:Nat):Int) from rfl];refine tA d f a ha hf k n (i+1) _ (by rw[cD];exact h1) (by omega) (by omega) ?_;rw[mW,mW,List.take_set_of_le (aK _),h4];congr 1;rw[dY (by omega),aD hi,lR d hi]
  ·simp(disch:=omega) only[df,cond_false];have hil:i=a.length:=by omega
   rw[hil,kF,<-h1,kF]at h4;rw[h4]
def kD (acc w:Int):Int:=if acc-w < 0 then -1 else acc-w
def szL (d:α)(f:α×Int->Option Int)(a:List α):Nat->Int->Int->(Int->Option Int)->Option Int
 | 0,_,_,_=>none
 | n+1,v,i,k=>bif decide (i < (Nat.cast a.length:Int))then bif (decide ((0:Int)<=i)&&decide (i < (Nat.cast a.length:Int)))then cK (f (a.getD i.toNat d,v)) 0 λq=>
   bif decide (q < 0)then some (-1)else szL d f a n q (wrap .i64 (i+1)) k else none else k v
def cZ (w:α->Int):List α->Int
 | []=>0
 | x::r=>w x+cZ w r
theorem dR {w:α->Int}:∀ {l:List α},(∀ x∈l,0<=w x)->0<=cZ w l
 | [],_=>by simp[cZ]
 | x::r,h=>by
  have h1:=h x (bC ..);have h2:=dR (l:=r) λy hy=>h y (aV _ hy)
  simp only[cZ];omega
theorem wZ {w:α->Int}:∀ {l:List α},(∀ x∈l,0<=w x)->∀ x∈l,w x<=cZ w l
 | [],_,x,hx=>by simp at hx
 | y::r,h,x,hx=>by
  have h1:=h y (bC ..);have h2:=dR (l:=r) λy hy=>h y (aV _ hy)
  simp only[cZ];rcases bK.1 hx with rfl | hx
  ·omega
  ·have:=wZ (l:=r) (λy hy=>h y (aV _ hy)) x hx;omega
theorem aC2 (d:α)(f:α×Int->Option Int)(a:List α)(w:α->Int)(B:Int)(ha:a.length<=1000000000000000000)(hw:∀ x∈a,0<=w x)(hf:∀ x∈a,∀ v:Int,0<=v->v<=B->f (x,v)=some (kD v (w x)))(k:Int->Option Int) :
  ∀ (n i:Nat) (v:Int),0<=v->v<=B->i<=a.length->a.length < n+i->szL d f a n v i k=if v-cZ w (a.drop i) < 0 then some (-1)else k (v-cZ w (a.drop i))
 | 0,i,v,_,_,h2,h3=>by omega
 | n+1,i,v,h0,h1,h2,h3=>by
  unfold szL;by_cases hi:i < a.length
  ·simp(disch:=omega) only[dt,wi,cond_true,bL,bA];have hx:=hw _ (gO d hi);have hr:0<=cZ w (a.drop (i+1)):=dR λy hy=>hw y (kN hy)
   have e:v-cZ w (a.drop i)=v-w (a.getD i d)-cZ w (a.drop (i+1)):=by rw[mV d hi];simp only[cZ];omega
   rw[hf _ (gO d hi) v h0 h1,bJ,show(i:Int)+1=((i+1:Nat):Int) from rfl,e];unfold kD;by_cases hc:v-w (a.getD i d) < 0
   ·rw[if_pos hc,if_pos (show v-w (a.getD i d)-cZ w (a.drop (i+1)) < 0 by omega)];rfl
   ·rw[if_neg hc,df hc,cond_false,aC2 d f a w B ha hw hf k n (i+1) _ (by omega) (by omega) (by omega) (by omega)]
  ·simp(disch:=omega) only[df,cond_false];have e:v-cZ w (a.drop i)=v:=by rw[cW (by omega)];simp only[cZ];omega
   rw[e,if_neg (by omega)]
def bsL {R:Type}(len:Nat)(p:Nat->Option Int):Nat->Int->Int->(Int->Option R)->Option R
 | 0,_,_,_=>none
 | n+1,lo,hi,k=>bif decide (lo < hi)then bif (decide ((0:Int)<=wrap .i64 (Int.fdiv (wrap .u64 (wrap .i64 (lo+hi))) ((2:Int) ^ (min (Int.toNat (1:Int)) (IntKind.bits .u64)))))&&decide (wrap .i64 (Int.fdiv (wrap .u64 (wrap .i64 (lo+hi))) ((2:Int) ^ (min (Int.toNat (1:Int)) (IntKind.bits .u64)))) < (Nat.cast len:Int)))then
   cK (p (wrap .i64 (Int.fdiv (wrap .u64 (wrap .i64 (lo+hi))) ((2:Int) ^ (min (Int.toNat (1:Int)) (IntKind.bits .u64))))).toNat) 0 λq=>
    bif decide (q < 0)then bsL len p n (wrap .i64 (wrap .i64 (Int.fdiv (wrap .u64 (wrap .i64 (lo+hi))) ((2:Int) ^ (min (Int.toNat (1:Int)) (IntKind.bits .u64))))+1)) hi k
    else bsL len p n lo (wrap .i64 (Int.fdiv (wrap .u64 (wrap .i64 (lo+hi))) ((2:Int) ^ (min (Int.toNat (1:Int)) (IntKind.bits .u64))))) k else none else k lo
theorem aPK {lo hi:Nat}(h:lo+hi<=1000000000000000000):wrap .i64 (Int.fdiv (wrap .u64 (wrap .i64 ((lo:Int)+(hi:Int)))) ((2:Int) ^ (min (Int.toNat (1:Int)) (IntKind.bits .u64))))=(((lo+hi) / 2:Nat):Int):=by
 rw[wi (x:=(lo:Int)+hi) (by omega) (by omega),wu (by omega) (by omega)];rw[show((2:Int) ^ (min (Int.toNat (1:Int)) (IntKind.bits .u64)))=2 from rfl];rw[Int.fdiv_eq_ediv_of_nonneg _ (by decide),wi (by omega) (by omega)];omega
theorem aDQ {R:Type}(len:Nat)(p:Nat->Option Int)(c:Nat->Int)(hlen:len<=100000000000000000)(hp:∀ j,j < len->p j=some (c j))(r:Nat)(hlow:∀ j,j < r->c j < 0)(hhigh:∀ j,r<=j->j < len->0<=c j)(k:Int->Option R) :
  ∀ (n lo hi:Nat),lo<=r->r<=hi->hi<=len->hi-lo < n->bsL len p n lo hi k=k r
 | 0,lo,hi,_,_,_,h=>by omega
 | n+1,lo,hi,h1,h2,h3,h4=>by
  unfold bsL;by_cases hlt:lo < hi
  ·rw[aPK (by omega),dt (show(lo:Int) < hi by omega),cond_true];rw[dt (show(0:Int)<=(((lo+hi) / 2:Nat):Int)by omega),dt (show(((lo+hi) / 2:Nat):Int) < (len:Int)by omega),bL,cond_true,bA];rw[hp _ (by omega),bJ];by_cases hc:c ((lo+hi) / 2) < 0
   ·rw[dt hc,cond_true,wi (by omega) (by omega)];have hr:(lo+hi) / 2 < r:=by
     rcases fX ((lo+hi) / 2) r with h | h
     ·exact h
     ·have:=hhigh _ h (by omega);omega
    exact aDQ len p c hlen hp r hlow hhigh k n ((lo+hi) / 2+1) hi (by omega) h2 h3 (by omega)
   ·rw[df hc,cond_false];have hr:r<=(lo+hi) / 2:=by
     rcases fX ((lo+hi) / 2) r with h | h
     ·have:=hlow _ h;omega
     ·exact h
    exact aDQ len p c hlen hp r hlow hhigh k n lo ((lo+hi) / 2) h1 hr (by omega) (by omega)
  ·have e1:¬ (lo:Int) < (hi:Int):=by omega
   rw[df e1,cond_false,show lo=r by omega]
end
def idx {α:Type}(p:α->Bool):List α->Nat->Int
 | [],_=>-1
 | x::r,i=>if p x then(i:Int)else idx p r (i+1)
theorem sJ {α:Type}(p:α->Bool)(x:α)(r:List α)(i:Nat):idx p (x::r) i=if p x then(i:Int)else idx p r (i+1):=rfl
theorem aBt {α:Type}{p:α->Bool}:∀ {l:List α} {i:Nat},idx p l i < 0↔l.any p=false
 | [],i=>by simp[idx]
 | x::r,i=>by
  rw[sJ,List.any_cons];by_cases h:p x
  ·rw[if_pos h,h];simp
  ·rw[if_neg h,aBt];simp[h]
theorem aEw {α:Type}{p:α->Bool}(d:α):∀ {l:List α} {i:Nat},l.any p=true->∃ j,idx p l i=((i+j:Nat):Int)/\j < l.length/\p (l.getD j d)=true/\∀ k,k < j->p (l.getD k d)=false
 | [],i,h=>by simp at h
 | x::r,i,h=>by
  rw[sJ];by_cases hx:p x
  ·exact⟨0,by rw[if_pos hx];simp,by simp,by simpa using hx,λk hk=>by omega⟩
  ·rw[if_neg hx];obtain⟨j,h1,h2,h3,h4⟩:=aEw d (l:=r) (i:=i+1) (by simpa[hx]using h);refine⟨j+1,by rw[h1];omega,by simp;omega,by simpa using h3,λk hk=>?_⟩;cases k with
   | zero=>simpa using hx
   | succ k=>simpa using h4 k (by omega)
def oL (a b:Int):Int:=if a < b then -1 else if b < a then 1 else 0
theorem aGT {a b:Int}:oL a b < 0↔a < b:=by unfold oL;split<;>(try split)<;>omega
theorem aA4 {a b:Int}:oL a b=0↔a=b:=by unfold oL;split<;>(try split)<;>omega
theorem aGS {a b:Int}:0<=oL a b↔b<=a:=by unfold oL;split<;>(try split)<;>omega
end Go.VM
namespace Go.VM
open Go.IntKind (wrap)
open Go
theorem xI {α:Type}(l:List α)(i:Nat)(f g:α->α):(l.modify i f).modify i g=l.modify i (λy=>g (f y)):=by
 apply dG;intro j;rw[fI,fI,fI];cases l[j]? with
 | none=>rfl
 | some y=>
  show some _=some _;by_cases h:i=j<;>simp[h]
theorem aBp {α:Type}(l:List α)(i:Nat)(x:α):l.modify i (λ_=>x)=l.set i x:=by
 apply dG;intro j;rw[fI,mY];by_cases h:i=j
 ·subst h;by_cases hi:i < l.length
  ·simp[hi]
  ·simp[hi]
 ·cases l[j]?<;>simp[h]
def pZ {α:Type}(f:Int->α)(s:Int):Nat->Int->List α
 | 0,_=>[]
 | n+1,c=>f c::pZ f s n (c+s)
theorem kR {α:Type}(f:Int->α)(s:Int):∀ (n:Nat) (c:Int),(pZ f s n c).length=n
 | 0,_=>rfl
 | n+1,c=>by simp[pZ,kR f s n]
theorem aEr {α:Type}(f:Int->α)(s:Int)(d:α):∀ (n i:Nat) (c:Int),i < n->(pZ f s n c).getD i d=f (c+s * (i:Int))
 | 0,i,c,h=>by omega
 | n+1,0,c,_=>by simp[pZ]
 | n+1,i+1,c,h=>by
  have:=aEr f s d n i (c+s) (by omega);simp only[pZ,List.getD_cons_succ];rw[this];congr 1;rw[show((i+1:Nat):Int)=(i:Int)+1 by omega,Int.mul_add];omega
theorem wH {α R:Type}(f:Int->α)(s:Int)(B:Int)(N:Nat)(hs:0<=s)(g:Nat->List α->Int->Int->(List α->Int->Option R)->Option R)
  (hstep:∀ n (o:List α) (v:Int) (i:Nat) K,o.length=N->i < o.length->0<=v->v<=B->g (n+1) o v i K=g n (o.set i (f v)) (v+s) ((i+1:Nat):Int) K)
  (hend:∀ n (o:List α) (v:Int) (i:Nat) K,o.length=N->¬ i < o.length->g (n+1) o v i K=K o v) (K:List α->Int->Option R) :
  ∀ (n i:Nat) (o:List α) (v:Int),o.length=N->i<=o.length->o.length < n+i->0<=v->v+s * ((o.length-i:Nat):Int)<=B->g n o v i K=K (o.take i++pZ f s (o.length-i) v) (v+s * ((o.length-i:Nat):Int))
 | 0,i,o,v,_,h1,h2,_,_=>by omega
 | n+1,i,o,v,hN,h1,h2,h3,h4=>by
  by_cases hi:i < o.length
  ·have hm:0<=s * ((o.length-i:Nat):Int):=Int.mul_nonneg hs (by omega);rw[hstep n o v i K hN hi h3 (by omega)];have e:o.length-i=(o.length-(i+1))+1:=by omega
   have e2:s * ((o.length-i:Nat):Int)=s+s * ((o.length-(i+1):Nat):Int):=by
    rw[e];rw[show(((o.length-(i+1))+1:Nat):Int)=((o.length-(i+1):Nat):Int)+1 by omega,Int.mul_add];omega
   have ih:=wH f s B N hs g hstep hend K n (i+1) (o.set i (f v)) (v+s) (by simp;omega) (by simp;omega) (by simp;omega) (by omega) (by
    rw[cD];omega)
   rw[ih,cD,e2,e];simp only[pZ];congr 1
   ·rw[mW,List.take_set_of_le (aK _),dY hi];simp
   ·omega
  ·rw[hend n o v i K hN hi];have e:o.length-i=0:=by omega
   rw[e];simp only[pZ,dV];rw[eR (by omega)];congr 1;simp
theorem wJ {α R:Type}(d:α)(f:Int->α)(s:Int)(B:Int)(hs:0<=s)(N:Nat)(c:Int)(g:Nat->Int->Int->(Int->Option R)->Option R)(hc:0<=c)
  (hstep:∀ n (v:Int) (i:Nat) K,i < N->0<=v->v<=B->(pZ f s N c).getD i d=f v->g (n+1) v i K=g n (v+s) ((i+1:Nat):Int) K)
  (hend:∀ n (v:Int) (i:Nat) K,¬ i < N->g (n+1) v i K=K v) (hB:c+s * (N:Int)<=B) (K:Int->Option R) :
  ∀ (n i:Nat),i<=N->N < n+i->g n (c+s * (i:Int)) i K=K (c+s * (N:Int))
 | 0,i,h1,h2=>by omega
 | n+1,i,h1,h2=>by
  by_cases hi:i < N
  ·have h0:0<=s * (i:Int):=Int.mul_nonneg hs (by omega);have h9:s * (i:Int)<=s * (N:Int):=Int.mul_le_mul_of_nonneg_left (by omega) hs;rw[hstep n _ i K hi (by omega) (by omega) (aEr f s d N i c hi)];have ih:=wJ d f s B hs N c g hc hstep hend hB K n (i+1) (by omega) (by omega);rw[show c+s * (i:Int)+s=c+s * ((i+1:Nat):Int)by rw[show((i+1:Nat):Int)=(i:Int)+1 by omega,Int.mul_add];omega];exact ih
  ·rw[hend n _ i K hi,show i=N by omega]
end Go.VM
namespace Go.VM
open Go.IntKind (wrap)
open Go Go.RowKit
def sW {α:Type}(f:α->Int->α)(w:α->Int):List α->Int->List α
 | [],_=>[]
 | x::r,c=>f x c::sW f w r (c+w x)
theorem aEq {α:Type}(f:α->Int->α)(w:α->Int):∀ (l:List α) (c:Int),(sW f w l c).length=l.length
 | [],_=>rfl
 | x::r,c=>by show(sW f w r _).length+1=r.length+1;rw[aEq f w r]
theorem aEp {α:Type}{f:α->Int->α}{w:α->Int}:∀ {l:List α} {c:Int} {y:α},y∈sW f w l c->∃ x∈l,∃ v,y=f x v
 | [],_,y,h=>by cases h
 | x::r,c,y,h=>by
  rcases bK.1 h with h | h
  ·exact⟨x,bC ..,c,h⟩
  ·obtain⟨z,h1,h2⟩:=aEp h;exact⟨z,aV _ h1,h2⟩
theorem aEo {α:Type}{f:α->Int->α}{w:α->Int}(hw:∀ x v,w (f x v)=w x):∀ (l:List α) (c:Int),cZ w (sW f w l c)=cZ w l
 | [],_=>rfl
 | x::r,c=>by show w (f x c)+cZ w (sW f w r _)=w x+cZ w r;rw[hw,aEo hw r]
theorem aGc {α:Type}{f:α->Int->α}{w:α->Int}(hw:∀ x v,w (f x v)=w x)(hf:∀ x v,f (f x v) v=f x v):∀ (l:List α) (c:Int),sW f w (sW f w l c) c=sW f w l c
 | [],_=>rfl
 | x::r,c=>by show f (f x c) c::sW f w (sW f w r _) _=f x c::sW f w r _;rw[hf,hw,aGc hw hf r]
theorem aCs {α R:Type}(d:α)(f:α->Int->α)(w:α->Int)(B:Int)(hw:∀ x,0<=w x)(Q:α->Prop)(N:Nat)(g:Nat->List α->Int->Int->(List α->Int->Option R)->Option R)
  (hs:∀ n (o:List α) v (i:Nat) K,o.length=N->i < o.length->0<=v->v<=B->Q (o.getD i d)->g (n+1) o v (i:Int) K=g n (o.set i (f (o.getD i d) v)) (v+w (o.getD i d)) ((i+1:Nat):Int) K)
  (he:∀ n (o:List α) v (i:Nat) K,o.length=N->i=o.length->g (n+1) o v (i:Int) K=K o v) (K:List α->Int->Option R) :
  ∀ (suf pre:List α) (v:Int) (n:Nat),(pre++suf).length=N->suf.length < n->0<=v->v+cZ w suf<=B->(∀ x∈suf,Q x)->g n (pre++suf) v (pre.length:Int) K=K (pre++sW f w suf v) (v+cZ w suf)
 | _,_,_,0,_,h,_,_,_=>absurd h (Nat.not_lt_zero _)
 | [],pre,v,n+1,hN,hn,h0,hB,hQ=>by
  rw[he n _ v pre.length K hN (by simp)];show K (pre++[]) v=K (pre++[]) (v+0);rw[lV]
 | x::r,pre,v,n+1,hN,hn,h0,hB,hQ=>by
  have hr:=dR (w:=w) (l:=r) λy _=>hw y
  have hB:v+(w x+cZ w r)<=B:=hB;have hx:=hw x;have e1:(pre++x::r).getD pre.length d=x:=by simp[List.getD]
  have e2:(pre++x::r).set pre.length (f x v)=(pre++[f x v])++r:=by simp
  rw[hs n _ v pre.length K hN (by simp) h0 (by omega) (by rw[e1];exact hQ x (bC ..)),e1,e2];have:=aCs d f w B hw Q N g hs he K r (pre++[f x v]) (v+w x) n (by simp at hN ⊢;omega) (by simp at hn;omega) (by omega) (by omega) λy hy=>hQ y (aV _ hy)
  rw[dN]at this;refine this.trans ?_;show K (pre++[f x v]++sW f w r (v+w x)) (v+w x+cZ w r)=K (pre++f x v::sW f w r (v+w x)) (v+(w x+cZ w r));rw[eH,sV]
  rfl
theorem aCx {α R:Type}(d:α)(f:α->Int->α)(w:α->Int)(B:Int)(hw:∀ x,0<=w x)(hwf:∀ x v,w (f x v)=w x)(Q:α->Prop)(a:List α)(g:Nat->Int->Int->(Int->Option R)->Option R)
  (hs:∀ n v (i:Nat) K,i < a.length->0<=v->v<=B->Q (a.getD i d)->a.getD i d=f (a.getD i d) v->g (n+1) v (i:Int) K=g n (v+w (a.getD i d)) ((i+1:Nat):Int) K)
  (he:∀ n v (i:Nat) K,i=a.length->g (n+1) v (i:Int) K=K v) (K:Int->Option R) :
  ∀ (suf pre:List α) (v:Int) (n:Nat),pre++suf=a->suf.length < n->0<=v->v+cZ w suf<=B->(∀ x∈suf,Q x)->suf=sW f w suf v->g n v (pre.length:Int) K=K (v+cZ w suf)
 | _,_,_,0,_,h,_,_,_,_=>absurd h (Nat.not_lt_zero _)
 | [],pre,v,n+1,ha,hn,h0,hB,hQ,hm=>by
  rw[he n v pre.length K (by rw[<-ha];simp)];show K v=K (v+0);rw[lV]
 | x::r,pre,v,n+1,ha,hn,h0,hB,hQ,hm=>by
  have hr:=dR (w:=w) (l:=r) λy _=>hw y
  have hB:v+(w x+cZ w r)<=B:=hB;have hx:=hw x;have e1:a.getD pre.length d=x:=by rw[<-ha];simp[List.getD]
  have hm':x=f x v/\r=sW f w r (v+w x):=List.cons.inj hm;rw[hs n v pre.length K (by rw[<-ha];simp) h0 (by omega) (by rw[e1];exact hQ x (bC ..)) (by rw[e1];exact hm'.1),e1];have:=aCx d f w B hw hwf Q a g hs he K r (pre++[x]) (v+w x) n (by rw[<-ha];simp) (by simp at hn;omega) (by omega) (by omega) (λy hy=>hQ y (aV _ hy)) hm'.2;rw[dN]at this;refine this.trans ?_;show K (v+w x+cZ w r)=K (v+(w x+cZ w r));rw[sV]
end Go.VM
