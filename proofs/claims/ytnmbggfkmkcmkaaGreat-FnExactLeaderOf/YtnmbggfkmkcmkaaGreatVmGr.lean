/- A part of the proof of FnExactLeaderOf: VmGr, VmGs, VmGt. -/
import Derived.Test.YtnmbggfkmkcmkaaGreatVmPl
import Derived.WalkKit
import Derived.OwnWalkIn
import Derived.Below
import Derived.WalkMore
import Derived.Test.YtnmbggfkmkcmkaaGreatVmCb
import Derived.Laws.CopyOwn
set_option linter.unusedSimpArgs false
set_option linter.unusedVariables false
namespace Go
open Go.RowKit
section
variable {P : Program} (w : World)
end
end Go
namespace Go.VM
open Go Go.RowKit
section
variable {cx : Cx}
theorem uI {w:World}{S:Nat->Prop}{n:Nat}{e:Nat}{xs:List (cx.ty e)}{u:Value}(h:RepL cx w S n (some (.inr (ro e xs))) u) :
  ∃ q c,u=.slice q xs.length c/\xs.length<=c/\(xs=[]\/∃ b off,q=some ⟨b,off,none⟩/\S b/\∀ i x,xs[i]?=some x->∀ j l,(cx.enc e false x)[j]?=some l->∃ v m,w.cell? ⟨b,off+(i * cx.size e+j),none⟩=some v/\RepL cx w S m l v):=by
 cases n with
 | zero=>exact h.elim
 | succ n=>
  obtain⟨a,cap,hu,hc,h⟩:=h;refine⟨a,cap,hu,hc,?_⟩;rcases h with h | ⟨b,off,ha,hS,h⟩
  ·exact .inl h
  ·refine .inr ⟨b,off,ha,hS,λi x hx j l hl=>?_⟩;obtain⟨v,h1,h2⟩:=h i x hx j l hl;exact⟨v,n,h1,h2⟩
end
end Go.VM
namespace Go
open Go.RowKit
end Go
namespace Go.VM
open Go Go.RowKit
section
variable {cx : Cx}
theorem aHR (ok:cx.Ok){w:World}{S:Nat->Prop}{m e:Nat}{o:Bool}{x:cx.ty e}{l:L cx.ty}(hl:l∈cx.enc e o x){v:Value}(h:RepL cx w S m l v):v.oneCell'=true:=by
 rcases ok.leaf e o x l hl with⟨v',rfl,hv⟩ | ⟨s,rfl,_⟩
 ·have:v=v':=by cases m<;>simpa[RepL]using h
  rw[this];exact hv
 ·cases m with
  | zero=>exact h.elim
  | succ m=>obtain⟨a,cap,hu,_⟩:=h;rw[hu];rfl
theorem aHQ (ok:cx.Ok){w:World}{S:Nat->Prop}{n e K:Nat}(hK:cx.size e=K)(hp:0 < K){xs:List (cx.ty e)}{u:Value}(h:RepL cx w S n (some (.inr (ro e xs))) u) :
  ∃ (q:Option Addr) (c:Nat) (us:List Value),u=.slice q xs.length c/\xs.length<=c/\us.length=xs.length * K/\(∀ x∈us,x.oneCell'=true) ∧
   (xs.length≠0->∃ b off,q=some ⟨b,off,none⟩/\S b/\∀ (j:Nat) v,us[j]?=some v->w.cell? ⟨b,off+j,none⟩=some v) ∧
   ∀ (i:Nat) x,xs[i]?=some x->∀ (t:Nat) l,(cx.enc e false x)[t]?=some l->∃ v m,us[i * K+t]?=some v/\RepL cx w S m l v:=by
 obtain⟨q,c,hu,hc,h⟩:=uI h;subst hK;rcases h with rfl | ⟨b,off,rfl,hS,h⟩
 ·exact⟨q,c,[],hu,hc,by simp,by simp,λh=>absurd rfl h,λi x hx=>by simp at hx⟩
 ·have hget:∀ (i:Nat) x,xs[i]?=some x->∀ t,t < cx.size e->i * cx.size e+t < xs.length * cx.size e:=λi x hx t ht=>by
   have hi:i < xs.length:=(aE.1 hx).1;have:(i+1) * cx.size e<=xs.length * cx.size e:=bV _ hi;rw[gP]at this;omega
  have hall:∀ j,j < xs.length * cx.size e->∃ v,w.cell? ⟨b,off+j,none⟩=some v/\v.oneCell'=true:=λj hj=>by
   have hi:j / cx.size e < xs.length:=Nat.div_lt_of_lt_mul (by rw[rO];exact hj);have hx:=aC hi;have hm:j % cx.size e < (cx.enc e false xs[j / cx.size e]).length:=by rw[ok.len];exact wQ _ hp
   obtain⟨v,m,h1,h2⟩:=h _ _ hx _ _ (aC hm);have e1:j / cx.size e * cx.size e+j % cx.size e=j:=by rw[rO];exact rP ..
   rw[e1]at h1;exact⟨v,h1,aHR ok (gE hm) h2⟩
  refine⟨_,c,(List.range (xs.length * cx.size e)).map λj=>(w.cell? ⟨b,off+j,none⟩).getD undef,hu,hc,by simp,λx hx=>?_,λ_=>⟨b,off,rfl,hS,λj v hj=>?_⟩,λi x hx t l hl=>?_⟩
  ·obtain⟨j,hj,rfl⟩:=aG.1 hx;obtain⟨v,h1,h2⟩:=hall j (fB.1 hj);rw[h1];exact h2
  ·obtain⟨k,hk,rfl⟩:∃ k,(List.range (xs.length * cx.size e))[j]?=some k/\(w.cell? ⟨b,off+k,none⟩).getD undef=v:=by simpa using hj
   obtain⟨hk1,hk2⟩:=aE.1 hk;simp only[List.length_range]at hk1;simp only[List.getElem_range]at hk2;subst hk2;obtain⟨v,h1,h2⟩:=hall j hk1;rw[h1];rfl
  ·have ht:t < cx.size e:=by
    have:=(aE.1 hl).1
    rwa [ok.len]at this
   obtain⟨v,m,h1,h2⟩:=h i x hx t l hl;refine⟨v,m,?_,h2⟩;have:=hget i x hx t ht;simp[this,h1]
end
end Go.VM
