/- A part of the proof of FnExactSafeCluster: VmPl, VmPm, VmPn. -/
import Derived.Test.YtnmbggfkmkcmkaaGreatVmJ
set_option linter.unusedSimpArgs false
set_option linter.unusedVariables false
namespace Go.VM
open Go.IntKind (wrap)
open Go
section
variable {α : Type}
theorem vQ (d:α){a:List α}{i:Nat}(h:i < a.length):a.getD i d=a[i]:=by simp[List.getD,aC h]
theorem iC (d:α){a:List α}{i:Nat}(h:i < a.length):a.getD i d∈a:=by rw[vQ d h];exact gT h
def fst (f:Nat->Int):Nat->Nat->Int
 | 0,_=>0
 | n+1,i=>if f i=0 then fst f n (i+1)else f i
theorem aDY (f:Nat->Int)(n i:Nat):fst f (n+1) i=if f i=0 then fst f n (i+1)else f i:=rfl
def eqL (d:α)(f:α×α->Option Bool)(a b:List α):Nat->Int->Option Bool->Option Bool
 | 0,_,_=>none
 | n+1,i,k=>bif decide (i < (Nat.cast a.length:Int))then bif (decide ((0:Int)<=i)&&decide (i < (Nat.cast a.length:Int)))then bif (decide ((0:Int)<=i)&&decide (i < (Nat.cast b.length:Int)))then
   cM (f (a.getD i.toNat d,b.getD i.toNat d)) false λq=>bif !q then some false else eqL d f a b n (wrap .i64 (i+1)) k
  else none else none else k
theorem aAU [DecidableEq α](d:α)(f:α×α->Option Bool)(a b:List α)(hl:a.length=b.length)(ha:a.length<=1000000000000000000)(hf:∀ x∈a,∀ y∈b,f (x,y)=some (decide (x=y)))(k:Option Bool) :
  ∀ (n i:Nat),i<=a.length->a.length < n+i->eqL d f a b n i k=if a.drop i=b.drop i then k else some false
 | 0,i,h2,h3=>by omega
 | n+1,i,h2,h3=>by
  unfold eqL;by_cases hi:i < a.length
  ·simp(disch:=omega) only[dt,wi,cond_true,bK,aY];rw[hf _ (iC d hi) _ (iC d (by omega)),aR,oU d hi,oU d (show i < b.length by omega)];have:=aAU d f a b hl ha hf k n (i+1) (by omega) (by omega);rw[show(i:Int)+1=((i+1:Nat):Int) from rfl,this];by_cases hx:a.getD i d=b.getD i d
   ·rw[hx];simp
   ·rw[dt_not hx,if_neg (λh=>hx (List.cons.inj h).1)];rfl
  ·simp(disch:=omega) only[df,cond_false];rw[cR (by omega),cR (by omega)];simp
where dt_not {x y:α} (h:¬ x=y):(!decide (x=y))=true:=by simp[h]
def toL (d:α)(f:α->Option α)(a:List α):Nat->List α->Int->(List α->Option (List α))->Option (List α)
 | 0,_,_,_=>none
 | n+1,o,i,k=>bif decide (i < (Nat.cast a.length:Int))then bif (decide ((0:Int)<=i)&&decide (i < (Nat.cast a.length:Int)))then cM (f (a.getD i.toNat d)) d λq=>
   bif (decide ((0:Int)<=i)&&decide (i < (Nat.cast o.length:Int)))then toL d f a n (o.set i.toNat q) (wrap .i64 (i+1)) k else none else none else k o
theorem aCu (d:α)(f:α->Option α)(a:List α)(ha:a.length<=1000000000000000000)(hf:∀ x∈a,f x=some x)(k:List α->Option (List α)) :
  ∀ (n i:Nat) (o:List α),o.length=a.length->i<=a.length->a.length < n+i->o.take i=a.take i->toL d f a n o i k=k a
 | 0,i,o,_,h2,h3,_=>by omega
 | n+1,i,o,h1,h2,h3,h4=>by
  unfold toL;by_cases hi:i < a.length
  ·simp(disch:=omega) only[dt,wi,cond_true,bK,aY];rw[hf _ (iC d hi),aR,show(i:Int)+1=((i+1:Nat):Int) from rfl];refine aCu d f a ha hf k n (i+1) _ (by rw[cW];exact h1) (by omega) (by omega) ?_;rw[List.take_add_one,List.take_add_one,List.take_set_of_le (aK _),h4];congr 1;rw[iR (by omega),aC hi,vQ d hi]
  ·simp(disch:=omega) only[df,cond_false];have hil:i=a.length:=by omega
   rw[hil,qM,<-h1,qM]at h4;rw[h4]
def qV (acc w:Int):Int:=if acc-w < 0 then -1 else acc-w
def szL (d:α)(f:α×Int->Option Int)(a:List α):Nat->Int->Int->(Int->Option Int)->Option Int
 | 0,_,_,_=>none
 | n+1,v,i,k=>bif decide (i < (Nat.cast a.length:Int))then bif (decide ((0:Int)<=i)&&decide (i < (Nat.cast a.length:Int)))then cM (f (a.getD i.toNat d,v)) 0 λq=>
   bif decide (q < 0)then some (-1)else szL d f a n q (wrap .i64 (i+1)) k else none else k v
def eS (w:α->Int):List α->Int
 | []=>0
 | x::r=>w x+eS w r
theorem iE {w:α->Int}:∀ {l:List α},(∀ x∈l,0<=w x)->0<=eS w l
 | [],_=>by simp[eS]
 | x::r,h=>by
  have h1:=h x (bG ..);have h2:=iE (l:=r) λy hy=>h y (aZ _ hy)
  simp only[eS];omega
theorem uW {w:α->Int}:∀ {l:List α},(∀ x∈l,0<=w x)->∀ x∈l,w x<=eS w l
 | [],_,x,hx=>by simp at hx
 | y::r,h,x,hx=>by
  have h1:=h y (bG ..);have h2:=iE (l:=r) λy hy=>h y (aZ _ hy)
  simp only[eS];rcases bL.1 hx with rfl | hx
  ·omega
  ·have:=uW (l:=r) (λy hy=>h y (aZ _ hy)) x hx;omega
theorem aHK (d:α)(f:α×Int->Option Int)(a:List α)(w:α->Int)(B:Int)(ha:a.length<=1000000000000000000)(hw:∀ x∈a,0<=w x)(hf:∀ x∈a,∀ v:Int,0<=v->v<=B->f (x,v)=some (qV v (w x)))(k:Int->Option Int) :
  ∀ (n i:Nat) (v:Int),0<=v->v<=B->i<=a.length->a.length < n+i->szL d f a n v i k=if v-eS w (a.drop i) < 0 then some (-1)else k (v-eS w (a.drop i))
 | 0,i,v,_,_,h2,h3=>by omega
 | n+1,i,v,h0,h1,h2,h3=>by
  unfold szL;by_cases hi:i < a.length
  ·simp(disch:=omega) only[dt,wi,cond_true,bK,aY];have hx:=hw _ (iC d hi);have hr:0<=eS w (a.drop (i+1)):=iE λy hy=>hw y (lV hy)
   have e:v-eS w (a.drop i)=v-w (a.getD i d)-eS w (a.drop (i+1)):=by rw[oU d hi];simp only[eS];omega
   rw[hf _ (iC d hi) v h0 h1,aR,show(i:Int)+1=((i+1:Nat):Int) from rfl,e];unfold qV;by_cases hc:v-w (a.getD i d) < 0
   ·rw[if_pos hc,if_pos (show v-w (a.getD i d)-eS w (a.drop (i+1)) < 0 by omega)];rfl
   ·rw[if_neg hc,df hc,cond_false,aHK d f a w B ha hw hf k n (i+1) _ (by omega) (by omega) (by omega) (by omega)]
  ·simp(disch:=omega) only[df,cond_false];have e:v-eS w (a.drop i)=v:=by rw[cR (by omega)];simp only[eS];omega
   rw[e,if_neg (by omega)]
end
end Go.VM
namespace Go.VM
open Go.IntKind (wrap)
open Go
def mkR {α:Type}(f:Int->α)(s:Int):Nat->Int->List α
 | 0,_=>[]
 | n+1,c=>f c::mkR f s n (c+s)
def qK {α:Type}(p:α->α->Bool):List α->List α->Nat
 | x::a,y::b=>if p x y then qK p a b+1 else 0
 | _,_=>0
theorem aFp {α:Type}(p:α->α->Bool):∀ (a b:List α),qK p a b<=a.length/\qK p a b<=b.length
 | [],b=>by simp[qK]
 | x::a,[]=>by simp[qK]
 | x::a,y::b=>by
  have:=aFp p a b;simp only[qK,eE];split<;>omega
theorem aEe {α:Type}(d:α)(p:α->α->Bool){a b:List α}{i:Nat}(ha:i < a.length)(hb:i < b.length):qK p (a.drop i) (b.drop i)=if p (a.getD i d) (b.getD i d)then qK p (a.drop (i+1)) (b.drop (i+1))+1 else 0:=by
 rw[oU d ha,oU d hb];rfl
theorem aGb {α:Type}(p:α->α->Bool){a b:List α}(h:a=[]\/b=[]):qK p a b=0:=by
 rcases h with rfl | rfl
 ·simp[qK]
 ·cases a<;>rfl
end Go.VM
namespace Go.VM
open Go.IntKind (wrap)
open Go Go.RowKit
def mkV {α:Type}(f:α->Int->α)(w:α->Int):List α->Int->List α
 | [],_=>[]
 | x::r,c=>f x c::mkV f w r (c+w x)
end Go.VM
