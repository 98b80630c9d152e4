/- A part of the proof of FnExactMachineFault: VmPl. -/
import Derived.Test.YtchokegffjaihaaVmJ
set_option linter.unusedSimpArgs false
set_option linter.unusedVariables false
namespace Go.VM
open Go.IntKind (wrap)
open Go
section
variable {α : Type}
theorem sX (d:α){a:List α}{i:Nat}(h:i < a.length):a.getD i d=a[i]:=by simp[List.getD,aC h]
theorem iY (d:α){a:List α}{i:Nat}(h:i < a.length):a.getD i d∈a:=by rw[sX d h];exact fD h
def kH (f:Nat->Int):Nat->Nat->Int
 | 0,_=>0
 | n+1,i=>if f i=0 then kH f n (i+1)else f i
theorem lL (f:Nat->Int)(n i:Nat):kH f (n+1) i=if f i=0 then kH f n (i+1)else f i:=rfl
theorem aAQ {f:Nat->Int}:∀ {n i:Nat},kH f n i=0↔∀ j,i<=j->j < i+n->f j=0
 | 0,i=>by simp only[kH,true_iff];intro j h1 h2;omega
 | n+1,i=>by
  rw[lL];by_cases h:f i=0
  ·rw[if_pos h,aAQ];constructor
   ·intro k j h1 h2;by_cases h3:j=i
    ·rw[h3];exact h
    ·exact k j (by omega) (by omega)
   ·intro k j h1 h2;exact k j (by omega) (by omega)
  ·rw[if_neg h];constructor
   ·intro k;exact absurd k h
   ·intro k;exact k i (aV _) (by omega)
theorem aCC {f:Nat->Int}:∀ {n i:Nat},kH f n i≠0->∃ j,i<=j/\j < i+n/\f j=kH f n i
 | 0,_,h=>absurd rfl h
 | n+1,i,h=>by
  rw[lL]at h ⊢;by_cases h1:f i=0
  ·rw[if_pos h1]at h ⊢;obtain⟨j,k1,k2,k3⟩:=aCC h;exact⟨j,by omega,by omega,k3⟩
  ·rw[if_neg h1]at h ⊢;exact⟨i,aV _,by omega,rfl⟩
def eqL (d:α)(f:α×α->Option Bool)(a b:List α):Nat->Int->Option Bool->Option Bool
 | 0,_,_=>none
 | n+1,i,k=>bif decide (i < (Nat.cast a.length:Int))then bif (decide ((0:Int)<=i)&&decide (i < (Nat.cast a.length:Int)))then bif (decide ((0:Int)<=i)&&decide (i < (Nat.cast b.length:Int)))then
   cU (f (a.getD i.toNat d,b.getD i.toNat d)) false λq=>bif !q then some false else eqL d f a b n (wrap .i64 (i+1)) k
  else none else none else k
theorem vH [DecidableEq α](d:α)(f:α×α->Option Bool)(a b:List α)(hl:a.length=b.length)(ha:a.length<=1000000000000000000)(hf:∀ x∈a,∀ y∈b,f (x,y)=some (decide (x=y)))(k:Option Bool) :
  ∀ (n i:Nat),i<=a.length->a.length < n+i->eqL d f a b n i k=if a.drop i=b.drop i then k else some false
 | 0,i,h2,h3=>by omega
 | n+1,i,h2,h3=>by
  unfold eqL;by_cases hi:i < a.length
  ·simp(disch:=omega) only[dt,wi,cond_true,cE,bW];rw[hf _ (iY d hi) _ (iY d (by omega)),bY,lO d hi,lO d (show i < b.length by omega)];have:=vH d f a b hl ha hf k n (i+1) (by omega) (by omega);rw[show(i:Int)+1=((i+1:Nat):Int) from rfl,this];by_cases hx:a.getD i d=b.getD i d
   ·rw[hx];simp
   ·rw[dt_not hx,if_neg (λh=>hx (List.cons.inj h).1)];rfl
  ·simp(disch:=omega) only[df,cond_false];rw[cT (by omega),cT (by omega)];simp
where dt_not {x y:α} (h:¬ x=y):(!decide (x=y))=true:=by simp[h]
def toL (d:α)(f:α->Option α)(a:List α):Nat->List α->Int->(List α->Option (List α))->Option (List α)
 | 0,_,_,_=>none
 | n+1,o,i,k=>bif decide (i < (Nat.cast a.length:Int))then bif (decide ((0:Int)<=i)&&decide (i < (Nat.cast a.length:Int)))then cU (f (a.getD i.toNat d)) d λq=>
   bif (decide ((0:Int)<=i)&&decide (i < (Nat.cast o.length:Int)))then toL d f a n (o.set i.toNat q) (wrap .i64 (i+1)) k else none else none else k o
theorem tG (d:α)(f:α->Option α)(a:List α)(ha:a.length<=1000000000000000000)(hf:∀ x∈a,f x=some x)(k:List α->Option (List α)) :
  ∀ (n i:Nat) (o:List α),o.length=a.length->i<=a.length->a.length < n+i->o.take i=a.take i->toL d f a n o i k=k a
 | 0,i,o,_,h2,h3,_=>by omega
 | n+1,i,o,h1,h2,h3,h4=>by
  unfold toL;by_cases hi:i < a.length
  ·simp(disch:=omega) only[dt,wi,cond_true,cE,bW];rw[hf _ (iY d hi),bY,show(i:Int)+1=((i+1:Nat):Int) from rfl];refine tG d f a ha hf k n (i+1) _ (by rw[cI];exact h1) (by omega) (by omega) ?_;rw[List.take_add_one,List.take_add_one,List.take_set_of_le (aV _),h4];congr 1;rw[fZ (by omega),aC hi,sX d hi]
  ·simp(disch:=omega) only[df,cond_false];have hil:i=a.length:=by omega
   rw[hil,List.take_length,<-h1,List.take_length]at h4;rw[h4]
def jH (acc w:Int):Int:=if acc-w < 0 then -1 else acc-w
def szL (d:α)(f:α×Int->Option Int)(a:List α):Nat->Int->Int->(Int->Option Int)->Option Int
 | 0,_,_,_=>none
 | n+1,v,i,k=>bif decide (i < (Nat.cast a.length:Int))then bif (decide ((0:Int)<=i)&&decide (i < (Nat.cast a.length:Int)))then cU (f (a.getD i.toNat d,v)) 0 λq=>
   bif decide (q < 0)then some (-1)else szL d f a n q (wrap .i64 (i+1)) k else none else k v
def iK (w:α->Int):List α->Int
 | []=>0
 | x::r=>w x+iK w r
theorem gH {w:α->Int}:∀ {l:List α},(∀ x∈l,0<=w x)->0<=iK w l
 | [],_=>by simp[iK]
 | x::r,h=>by
  have h1:=h x (aY ..);have h2:=gH (l:=r) λy hy=>h y (aU _ hy)
  simp only[iK];omega
theorem aAq {w:α->Int}:∀ {l:List α},(∀ x∈l,0<=w x)->∀ x∈l,w x<=iK w l
 | [],_,x,hx=>by simp at hx
 | y::r,h,x,hx=>by
  have h1:=h y (aY ..);have h2:=gH (l:=r) λy hy=>h y (aU _ hy)
  simp only[iK];rcases bE.1 hx with rfl | hx
  ·omega
  ·have:=aAq (l:=r) (λy hy=>h y (aU _ hy)) x hx;omega
theorem aDA (d:α)(f:α×Int->Option Int)(a:List α)(w:α->Int)(B:Int)(ha:a.length<=1000000000000000000)(hw:∀ x∈a,0<=w x)(hf:∀ x∈a,∀ v:Int,0<=v->v<=B->f (x,v)=some (jH v (w x)))(k:Int->Option Int) :
  ∀ (n i:Nat) (v:Int),0<=v->v<=B->i<=a.length->a.length < n+i->szL d f a n v i k=if v-iK w (a.drop i) < 0 then some (-1)else k (v-iK w (a.drop i))
 | 0,i,v,_,_,h2,h3=>by omega
 | n+1,i,v,h0,h1,h2,h3=>by
  unfold szL;by_cases hi:i < a.length
  ·simp(disch:=omega) only[dt,wi,cond_true,cE,bW];have hx:=hw _ (iY d hi);have hr:0<=iK w (a.drop (i+1)):=gH λy hy=>hw y (jO hy)
   have e:v-iK w (a.drop i)=v-w (a.getD i d)-iK w (a.drop (i+1)):=by rw[lO d hi];simp only[iK];omega
   rw[hf _ (iY d hi) v h0 h1,bY,show(i:Int)+1=((i+1:Nat):Int) from rfl,e];unfold jH;by_cases hc:v-w (a.getD i d) < 0
   ·rw[if_pos hc,if_pos (show v-w (a.getD i d)-iK w (a.drop (i+1)) < 0 by omega)];rfl
   ·rw[if_neg hc,df hc,cond_false,aDA d f a w B ha hw hf k n (i+1) _ (by omega) (by omega) (by omega) (by omega)]
  ·simp(disch:=omega) only[df,cond_false];have e:v-iK w (a.drop i)=v:=by rw[cT (by omega)];simp only[iK];omega
   rw[e,if_neg (by omega)]
def bsL {R:Type}(len:Nat)(p:Nat->Option Int):Nat->Int->Int->(Int->Option R)->Option R
 | 0,_,_,_=>none
 | n+1,lo,hi,k=>bif decide (lo < hi)then bif (decide ((0:Int)<=wrap .i64 (Int.fdiv (wrap .u64 (wrap .i64 (lo+hi))) ((2:Int) ^ (min (Int.toNat (1:Int)) (IntKind.bits .u64)))))&&decide (wrap .i64 (Int.fdiv (wrap .u64 (wrap .i64 (lo+hi))) ((2:Int) ^ (min (Int.toNat (1:Int)) (IntKind.bits .u64)))) < (Nat.cast len:Int)))then
   cU (p (wrap .i64 (Int.fdiv (wrap .u64 (wrap .i64 (lo+hi))) ((2:Int) ^ (min (Int.toNat (1:Int)) (IntKind.bits .u64))))).toNat) 0 λq=>
    bif decide (q < 0)then bsL len p n (wrap .i64 (wrap .i64 (Int.fdiv (wrap .u64 (wrap .i64 (lo+hi))) ((2:Int) ^ (min (Int.toNat (1:Int)) (IntKind.bits .u64))))+1)) hi k
    else bsL len p n lo (wrap .i64 (Int.fdiv (wrap .u64 (wrap .i64 (lo+hi))) ((2:Int) ^ (min (Int.toNat (1:Int)) (IntKind.bits .u64))))) k else none else k lo
theorem aKh {lo hi:Nat}(h:lo+hi<=1000000000000000000):wrap .i64 (Int.fdiv (wrap .u64 (wrap .i64 ((lo:Int)+(hi:Int)))) ((2:Int) ^ (min (Int.toNat (1:Int)) (IntKind.bits .u64))))=(((lo+hi) / 2:Nat):Int):=by
 rw[wi (x:=(lo:Int)+hi) (by omega) (by omega),wu (by omega) (by omega)];rw[show((2:Int) ^ (min (Int.toNat (1:Int)) (IntKind.bits .u64)))=2 from rfl];rw[Int.fdiv_eq_ediv_of_nonneg _ (by decide),wi (by omega) (by omega)];omega
theorem aB1 {R:Type}(len:Nat)(p:Nat->Option Int)(c:Nat->Int)(hlen:len<=100000000000000000)(hp:∀ j,j < len->p j=some (c j))(r:Nat)(hlow:∀ j,j < r->c j < 0)(hhigh:∀ j,r<=j->j < len->0<=c j)(k:Int->Option R) :
  ∀ (n lo hi:Nat),lo<=r->r<=hi->hi<=len->hi-lo < n->bsL len p n lo hi k=k r
 | 0,lo,hi,_,_,_,h=>by omega
 | n+1,lo,hi,h1,h2,h3,h4=>by
  unfold bsL;by_cases hlt:lo < hi
  ·rw[aKh (by omega),dt (show(lo:Int) < hi by omega),cond_true];rw[dt (show(0:Int)<=(((lo+hi) / 2:Nat):Int)by omega),dt (show(((lo+hi) / 2:Nat):Int) < (len:Int)by omega),cE,cond_true,bW];rw[hp _ (by omega),bY];by_cases hc:c ((lo+hi) / 2) < 0
   ·rw[dt hc,cond_true,wi (by omega) (by omega)];have hr:(lo+hi) / 2 < r:=by
     rcases fO ((lo+hi) / 2) r with h | h
     ·exact h
     ·have:=hhigh _ h (by omega);omega
    exact aB1 len p c hlen hp r hlow hhigh k n ((lo+hi) / 2+1) hi (by omega) h2 h3 (by omega)
   ·rw[df hc,cond_false];have hr:r<=(lo+hi) / 2:=by
     rcases fO ((lo+hi) / 2) r with h | h
     ·have:=hlow _ h;omega
     ·exact h
    exact aB1 len p c hlen hp r hlow hhigh k n lo ((lo+hi) / 2) h1 hr (by omega) (by omega)
  ·have e1:¬ (lo:Int) < (hi:Int):=by omega
   rw[df e1,cond_false,show lo=r by omega]
end
def idx {α:Type}(p:α->Bool):List α->Nat->Int
 | [],_=>-1
 | x::r,i=>if p x then(i:Int)else idx p r (i+1)
theorem qB {α:Type}(p:α->Bool)(x:α)(r:List α)(i:Nat):idx p (x::r) i=if p x then(i:Int)else idx p r (i+1):=rfl
theorem zC {α:Type}{p:α->Bool}:∀ {l:List α} {i:Nat},idx p l i < 0↔l.any p=false
 | [],i=>by simp[idx]
 | x::r,i=>by
  rw[qB,List.any_cons];by_cases h:p x
  ·rw[if_pos h,h];simp
  ·rw[if_neg h,zC];simp[h]
theorem aCz {α:Type}{p:α->Bool}(d:α):∀ {l:List α} {i:Nat},l.any p=true->∃ j,idx p l i=((i+j:Nat):Int)/\j < l.length/\p (l.getD j d)=true/\∀ k,k < j->p (l.getD k d)=false
 | [],i,h=>by simp at h
 | x::r,i,h=>by
  rw[qB];by_cases hx:p x
  ·exact⟨0,by rw[if_pos hx];simp,by simp,by simpa using hx,λk hk=>by omega⟩
  ·rw[if_neg hx];obtain⟨j,h1,h2,h3,h4⟩:=aCz d (l:=r) (i:=i+1) (by simpa[hx]using h);refine⟨j+1,by rw[h1];omega,by simp;omega,by simpa using h3,λk hk=>?_⟩;cases k with
   | zero=>simpa using hx
   | succ k=>simpa using h4 k (by omega)
def mW (a b:Int):Int:=if a < b then -1 else if b < a then 1 else 0
theorem aEs {a b:Int}:mW a b < 0↔a < b:=by unfold mW;split<;>(try split)<;>omega
theorem yG {a b:Int}:mW a b=0↔a=b:=by unfold mW;split<;>(try split)<;>omega
theorem aEr {a b:Int}:0<=mW a b↔b<=a:=by unfold mW;split<;>(try split)<;>omega
end Go.VM
