/- A part of the proof of FnExactClusterFault: VmPl, VmPm, VmPn. -/
import Derived.Test.YtalbnpcbmakijaaGreatVmJ
set_option linter.unusedSimpArgs false
set_option linter.unusedVariables false
namespace Go.VM
open Go.IntKind (wrap)
open Go
section
variable {α : Type}
theorem aEr (d:α){a:List α}{i:Nat}(h:i < a.length):a.getD i d=a[i]:=by simp[List.getD,aC h]
theorem mE (d:α){a:List α}{i:Nat}(h:i < a.length):a.getD i d∈a:=by rw[aEr d h];exact gJ h
def fst (f:Nat->Int):Nat->Nat->Int
 | 0,_=>0
 | n+1,i=>if f i=0 then fst f n (i+1)else f i
theorem aCo (f:Nat->Int)(n i:Nat):fst f (n+1) i=if f i=0 then fst f n (i+1)else f i:=rfl
def eqL (d:α)(f:α×α->Option Bool)(a b:List α):Nat->Int->Option Bool->Option Bool
 | 0,_,_=>none
 | n+1,i,k=>bif decide (i < (Nat.cast a.length:Int))then bif (decide ((0:Int)<=i)&&decide (i < (Nat.cast a.length:Int)))then bif (decide ((0:Int)<=i)&&decide (i < (Nat.cast b.length:Int)))then
   dL (f (a.getD i.toNat d,b.getD i.toNat d)) false λq=>bif !q then some false else eqL d f a b n (wrap .i64 (i+1)) k
  else none else none else k
theorem zC [DecidableEq α](d:α)(f:α×α->Option Bool)(a b:List α)(hl:a.length=b.length)(ha:a.length<=1000000000000000000)(hf:∀ x∈a,∀ y∈b,f (x,y)=some (decide (x=y)))(k:Option Bool) :
  ∀ (n i:Nat),i<=a.length->a.length < n+i->eqL d f a b n i k=if a.drop i=b.drop i then k else some false
 | 0,i,h2,h3=>by omega
 | n+1,i,h2,h3=>by
  unfold eqL;by_cases hi:i < a.length
  ·simp(disch:=omega) only[dt,wi,cond_true,cI,cD];rw[hf _ (mE d hi) _ (mE d (by omega)),aV,uK d hi,uK d (show i < b.length by omega)];have:=zC d f a b hl ha hf k n (i+1) (by omega) (by omega);rw[show(i:Int)+1=((i+1:Nat):Int) from rfl,this];by_cases hx:a.getD i d=b.getD i d
   ·rw[hx];simp
   ·rw[dt_not hx,if_neg (λh=>hx (List.cons.inj h).1)];rfl
  ·simp(disch:=omega) only[df,cond_false];rw[dO (by omega),dO (by omega)];simp
where dt_not {x y:α} (h:¬ x=y):(!decide (x=y))=true:=by simp[h]
def toL (d:α)(f:α->Option α)(a:List α):Nat->List α->Int->(List α->Option (List α))->Option (List α)
 | 0,_,_,_=>none
 | n+1,o,i,k=>bif decide (i < (Nat.cast a.length:Int))then bif (decide ((0:Int)<=i)&&decide (i < (Nat.cast a.length:Int)))then dL (f (a.getD i.toNat d)) d λq=>
   bif (decide ((0:Int)<=i)&&decide (i < (Nat.cast o.length:Int)))then toL d f a n (o.set i.toNat q) (wrap .i64 (i+1)) k else none else none else k o
theorem aA5 (d:α)(f:α->Option α)(a:List α)(ha:a.length<=1000000000000000000)(hf:∀ x∈a,f x=some x)(k:List α->Option (List α)) :
  ∀ (n i:Nat) (o:List α),o.length=a.length->i<=a.length->a.length < n+i->o.take i=a.take i->toL d f a n o i k=k a
 | 0,i,o,_,h2,h3,_=>by omega
 | n+1,i,o,h1,h2,h3,h4=>by
  unfold toL;by_cases hi:i < a.length
  ·simp(disch:=omega) only[dt,wi,cond_true,cI,cD];rw[hf _ (mE d hi),aV,show(i:Int)+1=((i+1:Nat):Int) from rfl];refine aA5 d f a ha hf k n (i+1) _ (by rw[cM];exact h1) (by omega) (by omega) ?_;rw[List.take_add_one,List.take_add_one,List.take_set_of_le (aH _),h4];congr 1;rw[iA (by omega),aC hi,aEr d hi]
  ·simp(disch:=omega) only[df,cond_false];have hil:i=a.length:=by omega
   rw[hil,List.take_length,<-h1,List.take_length]at h4;rw[h4]
def pC (acc w:Int):Int:=if acc-w < 0 then -1 else acc-w
def szL (d:α)(f:α×Int->Option Int)(a:List α):Nat->Int->Int->(Int->Option Int)->Option Int
 | 0,_,_,_=>none
 | n+1,v,i,k=>bif decide (i < (Nat.cast a.length:Int))then bif (decide ((0:Int)<=i)&&decide (i < (Nat.cast a.length:Int)))then dL (f (a.getD i.toNat d,v)) 0 λq=>
   bif decide (q < 0)then some (-1)else szL d f a n q (wrap .i64 (i+1)) k else none else k v
def eL (w:α->Int):List α->Int
 | []=>0
 | x::r=>w x+eL w r
theorem gW {w:α->Int}:∀ {l:List α},(∀ x∈l,0<=w x)->0<=eL w l
 | [],_=>by simp[eL]
 | x::r,h=>by
  have h1:=h x (bA ..);have h2:=gW (l:=r) λy hy=>h y (aT _ hy)
  simp only[eL];omega
theorem sY {w:α->Int}:∀ {l:List α},(∀ x∈l,0<=w x)->∀ x∈l,w x<=eL w l
 | [],_,x,hx=>by simp at hx
 | y::r,h,x,hx=>by
  have h1:=h y (bA ..);have h2:=gW (l:=r) λy hy=>h y (aT _ hy)
  simp only[eL];rcases bE.1 hx with rfl | hx
  ·omega
  ·have:=sY (l:=r) (λy hy=>h y (aT _ hy)) x hx;omega
theorem aF4 (d:α)(f:α×Int->Option Int)(a:List α)(w:α->Int)(B:Int)(ha:a.length<=1000000000000000000)(hw:∀ x∈a,0<=w x)(hf:∀ x∈a,∀ v:Int,0<=v->v<=B->f (x,v)=some (pC v (w x)))(k:Int->Option Int) :
  ∀ (n i:Nat) (v:Int),0<=v->v<=B->i<=a.length->a.length < n+i->szL d f a n v i k=if v-eL w (a.drop i) < 0 then some (-1)else k (v-eL w (a.drop i))
 | 0,i,v,_,_,h2,h3=>by omega
 | n+1,i,v,h0,h1,h2,h3=>by
  unfold szL;by_cases hi:i < a.length
  ·simp(disch:=omega) only[dt,wi,cond_true,cI,cD];have hx:=hw _ (mE d hi);have hr:0<=eL w (a.drop (i+1)):=gW λy hy=>hw y (lE hy)
   have e:v-eL w (a.drop i)=v-w (a.getD i d)-eL w (a.drop (i+1)):=by rw[uK d hi];simp only[eL];omega
   rw[hf _ (mE d hi) v h0 h1,aV,show(i:Int)+1=((i+1:Nat):Int) from rfl,e];unfold pC;by_cases hc:v-w (a.getD i d) < 0
   ·rw[if_pos hc,if_pos (show v-w (a.getD i d)-eL w (a.drop (i+1)) < 0 by omega)];rfl
   ·rw[if_neg hc,df hc,cond_false,aF4 d f a w B ha hw hf k n (i+1) _ (by omega) (by omega) (by omega) (by omega)]
  ·simp(disch:=omega) only[df,cond_false];have e:v-eL w (a.drop i)=v:=by rw[dO (by omega)];simp only[eL];omega
   rw[e,if_neg (by omega)]
end
end Go.VM
namespace Go.VM
open Go.IntKind (wrap)
open Go
def mkR {α:Type}(f:Int->α)(s:Int):Nat->Int->List α
 | 0,_=>[]
 | n+1,c=>f c::mkR f s n (c+s)
end Go.VM
namespace Go.VM
open Go.IntKind (wrap)
open Go Go.RowKit
def mkV {α:Type}(f:α->Int->α)(w:α->Int):List α->Int->List α
 | [],_=>[]
 | x::r,c=>f x c::mkV f w r (c+w x)
end Go.VM
