/- A part of the proof of FnExactSameMachines: VmPl. -/
import Derived.Test.YtchokegffjaihaaVmJ
set_option linter.unusedSimpArgs false
set_option linter.unusedVariables false
namespace Go.VM
open Go.IntKind (wrap)
open Go
section
variable {α : Type}
theorem aBO (d:α){a:List α}{i:Nat}(h:i < a.length):a.getD i d=a[i]:=by simp[List.getD,aC h]
theorem kU (d:α){a:List α}{i:Nat}(h:i < a.length):a.getD i d∈a:=by rw[aBO d h];exact eW h
def pM (d:α)(f:α×α->Option Bool)(a b:List α):Nat->Int->Option Bool->Option Bool
 | 0,_,_=>none
 | n+1,i,k=>bif decide (i < (Nat.cast a.length:Int))then bif (decide ((0:Int)<=i)&&decide (i < (Nat.cast a.length:Int)))then bif (decide ((0:Int)<=i)&&decide (i < (Nat.cast b.length:Int)))then
   dK (f (a.getD i.toNat d,b.getD i.toNat d)) false λq=>bif !q then some false else pM d f a b n (wrap .i64 (i+1)) k
  else none else none else k
theorem kE [DecidableEq α](d:α)(f:α×α->Option Bool)(a b:List α)(hl:a.length=b.length)(ha:a.length<=1000000000000000000)(hf:∀ x∈a,∀ y∈b,f (x,y)=some (decide (x=y)))(k:Option Bool) :
  ∀ (n i:Nat),i<=a.length->a.length < n+i->pM d f a b n i k=if a.drop i=b.drop i then k else some false
 | 0,i,h2,h3=>by omega
 | n+1,i,h2,h3=>by
  unfold pM;by_cases hi:i < a.length
  ·simp(disch:=omega) only[dt,wi,cond_true,hU,dR];rw[hf _ (kU d hi) _ (kU d (by omega)),bX,nO d hi,nO d (show i < b.length by omega)];have:=kE d f a b hl ha hf k n (i+1) (by omega) (by omega);rw[show(i:Int)+1=((i+1:Nat):Int) from rfl,this];by_cases hx:a.getD i d=b.getD i d
   ·rw[hx];simp
   ·rw[dt_not hx,if_neg (λh=>hx (List.cons.inj h).1)];rfl
  ·simp(disch:=omega) only[df,cond_false];rw[cP (by omega),cP (by omega)];simp
where dt_not {x y:α} (h:¬ x=y):(!decide (x=y))=true:=by simp[h]
def toL (d:α)(f:α->Option α)(a:List α):Nat->List α->Int->(List α->Option (List α))->Option (List α)
 | 0,_,_,_=>none
 | n+1,o,i,k=>bif decide (i < (Nat.cast a.length:Int))then bif (decide ((0:Int)<=i)&&decide (i < (Nat.cast a.length:Int)))then dK (f (a.getD i.toNat d)) d λq=>
   bif (decide ((0:Int)<=i)&&decide (i < (Nat.cast o.length:Int)))then toL d f a n (o.set i.toNat q) (wrap .i64 (i+1)) k else none else none else k o
theorem sF (d:α)(f:α->Option α)(a:List α)(ha:a.length<=1000000000000000000)(hf:∀ x∈a,f x=some x)(k:List α->Option (List α)) :
  ∀ (n i:Nat) (o:List α),o.length=a.length->i<=a.length->a.length < n+i->o.take i=a.take i->toL d f a n o i k=k a
 | 0,i,o,_,h2,h3,_=>by omega
 | n+1,i,o,h1,h2,h3,h4=>by
  unfold toL;by_cases hi:i < a.length
  ·simp(disch:=omega) only[dt,wi,cond_true,hU,dR];rw[hf _ (kU d hi),bX,show(i:Int)+1=((i+1:Nat):Int) from rfl];refine sF d f a ha hf k n (i+1) _ (by rw[bZ];exact h1) (by omega) (by omega) ?_;rw[List.take_add_one,List.take_add_one,List.take_set_of_le (aU _),h4];congr 1;rw[fT (by omega),aC hi,aBO d hi]
  ·simp(disch:=omega) only[df,cond_false];have hil:i=a.length:=by omega
   rw[hil,List.take_length,<-h1,List.take_length]at h4;rw[h4]
def iB (acc w:Int):Int:=if acc-w < 0 then -1 else acc-w
def szL (d:α)(f:α×Int->Option Int)(a:List α):Nat->Int->Int->(Int->Option Int)->Option Int
 | 0,_,_,_=>none
 | n+1,v,i,k=>bif decide (i < (Nat.cast a.length:Int))then bif (decide ((0:Int)<=i)&&decide (i < (Nat.cast a.length:Int)))then dK (f (a.getD i.toNat d,v)) 0 λq=>
   bif decide (q < 0)then some (-1)else szL d f a n q (wrap .i64 (i+1)) k else none else k v
def iE (w:α->Int):List α->Int
 | []=>0
 | x::r=>w x+iE w r
theorem fZ {w:α->Int}:∀ {l:List α},(∀ x∈l,0<=w x)->0<=iE w l
 | [],_=>by simp[iE]
 | x::r,h=>by
  have h1:=h x (aV ..);have h2:=fZ (l:=r) λy hy=>h y (aR _ hy)
  simp only[iE];omega
theorem zH {w:α->Int}:∀ {l:List α},(∀ x∈l,0<=w x)->∀ x∈l,w x<=iE w l
 | [],_,x,hx=>by simp at hx
 | y::r,h,x,hx=>by
  have h1:=h y (aV ..);have h2:=fZ (l:=r) λy hy=>h y (aR _ hy)
  simp only[iE];rcases bB.1 hx with rfl | hx
  ·omega
  ·have:=zH (l:=r) (λy hy=>h y (aR _ hy)) x hx;omega
theorem aCF (d:α)(f:α×Int->Option Int)(a:List α)(w:α->Int)(B:Int)(ha:a.length<=1000000000000000000)(hw:∀ x∈a,0<=w x)(hf:∀ x∈a,∀ v:Int,0<=v->v<=B->f (x,v)=some (iB v (w x)))(k:Int->Option Int) :
  ∀ (n i:Nat) (v:Int),0<=v->v<=B->i<=a.length->a.length < n+i->szL d f a n v i k=if v-iE w (a.drop i) < 0 then some (-1)else k (v-iE w (a.drop i))
 | 0,i,v,_,_,h2,h3=>by omega
 | n+1,i,v,h0,h1,h2,h3=>by
  unfold szL;by_cases hi:i < a.length
  ·simp(disch:=omega) only[dt,wi,cond_true,hU,dR];have hx:=hw _ (kU d hi);have hr:0<=iE w (a.drop (i+1)):=fZ λy hy=>hw y (jD hy)
   have e:v-iE w (a.drop i)=v-w (a.getD i d)-iE w (a.drop (i+1)):=by rw[nO d hi];simp only[iE];omega
   rw[hf _ (kU d hi) v h0 h1,bX,show(i:Int)+1=((i+1:Nat):Int) from rfl,e];unfold iB;by_cases hc:v-w (a.getD i d) < 0
   ·rw[if_pos hc,if_pos (show v-w (a.getD i d)-iE w (a.drop (i+1)) < 0 by omega)];rfl
   ·rw[if_neg hc,df hc,cond_false,aCF d f a w B ha hw hf k n (i+1) _ (by omega) (by omega) (by omega) (by omega)]
  ·simp(disch:=omega) only[df,cond_false];have e:v-iE w (a.drop i)=v:=by rw[cP (by omega)];simp only[iE];omega
   rw[e,if_neg (by omega)]
end
def uP (a b:Int):Int:=if a < b then -1 else if b < a then 1 else 0
theorem jO {a b:Int}:uP a b=0↔a=b:=by unfold uP;split<;>(try split)<;>omega
end Go.VM
