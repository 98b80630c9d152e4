/- A part of the proof of FnExactServeFrom: VmCb. -/
import Derived.Test.YtnmnomckcjihoaaGreatVmJ
import Derived.Below
set_option linter.unusedSimpArgs false
set_option linter.unusedVariables false
namespace Go.VM
open Go Go.RowKit
section
variable {cx : Cx}
theorem gL {w:World}{S:Nat->Prop}(vs:List Value):ArgAs cx w S (vs.map λv=>(.inl (lv v):A cx.ty)) vs:=⟨by simp,λj a u h1 h2=>by
 rw[aR,h2]at h1;simp only[aC,aB]at h1;subst h1;exact rfl⟩
theorem aIz {w:World}{S:Nat->Prop}(vs:List Value):ArgA cx w S (.inr (vs.map lv)) (.agg vs.toArray):=⟨vs,rfl,by simp,λj a u h1 h2=>by
 rw[aR,h2]at h1;simp only[aC,aB]at h1;subst h1;exact rfl⟩
theorem aG8 {w:World}{S:Nat->Prop}(vs:List Value):ArgAs cx w S [.inr (vs.map lv)] [.agg vs.toArray]:=⟨rfl,λj a u h1 h2=>by
 match j with
 | 0=>simp only[aM,aB]at h1 h2;subst h1;subst h2;exact aIz vs
 | j+1=>simp at h1⟩
theorem aBb {vs us:List Value}(hl:us.length=vs.length)(h:∀ (j:Nat) v u,vs[j]?=some v->us[j]?=some u->u=v):us=vs:=
 List.ext_getElem hl λj h1 h2=>h j _ _ (aD h2) (aD h1)
theorem aID {w:World}{S:Nat->Prop}{vs:List Value}{u:Value}(h:ArgA cx w S (.inr (vs.map lv)) u):u=.agg vs.toArray:=by
 obtain⟨us,rfl,hl,h⟩:=h;rw[aBb (by simpa using hl) λj v u h1 h2=>h j (lv v) u (by rw[aR,h1];rfl) h2]
theorem aHM {w:World}{A0 N:Nat->Prop}{v u:Value}(h:ResV cx w A0 N (.inl (.inl (lv v))) u):u=v:=by
 obtain⟨fp,_,_,h⟩:=h;exact h.1
theorem aIC {w:World}{A0 N:Nat->Prop}{vs:List Value}{u:Value}(h:ResV cx w A0 N (.inl (.inr (vs.map lv))) u):u=.agg vs.toArray:=by
 obtain⟨fp,_,_,us,fps,rfl,_,hl,hf,h⟩:=h;have e:us=vs:=aBb (by simpa using hl) λj v u h1 h2=>by
  have hj:j < fps.length:=by rw[hf];simpa using(aG.1 h1).1
  exact(h j (lv v) u fps[j] (by rw[aR,h1];rfl) h2 (aD hj)).1
 rw[e]
theorem aHp {w:World}{A0 N:Nat->Prop}{vs:List Value}{u:Value}(h:ResV cx w A0 N (.inr (.inl (vs.map λv=>.inl (lv v)))) u):u=.tuple vs.toArray:=by
 obtain⟨fp,_,_,us,fps,rfl,_,hl,hf,h⟩:=h;have e:us=vs:=aBb (by simpa using hl) λj v u h1 h2=>by
  have hj:j < fps.length:=by rw[hf];simpa using(aG.1 h1).1
  exact(h j (.inl (lv v)) u fps[j] (by rw[aR,h1];rfl) h2 (aD hj)).1
 rw[e]
theorem aFR {w:World}{A0 N:Nat->Prop}(v:Value):ResV cx w A0 N (.inl (.inl (lv v))) v:=⟨[],List.nodup_nil,by simp,rfl,rfl⟩
theorem aHN {w:World}{S:Nat->Prop}{a:A cx.ty}{us:List Value}(h:ArgAs cx w S [a] us):∃ u,us=[u]/\ArgA cx w S a u:=by
 match us,h with
 | [u],h=>exact⟨u,rfl,h.2 0 a u rfl rfl⟩
 | [],h=>exact absurd h.1 (by simp)
 | _::_::r,h=>exact absurd h.1 (by simp)
theorem fV {P:Program}{f:FuncId}{F:List (A cx.ty)->Option (Bool×V cx.ty)}(h:Sat P cx f F){l:List (A cx.ty)}{us:List Value}{v:Value}(hl:∀ w,ArgAs cx w (λ_=>False) l us)(hF:F l=some (true,.inl (.inl (lv v))))(w:World) :
  Calls P f us.toArray w λe w'=>e=.returned v/\Below w.heap.size w w':=
 (h w (λ_=>False) l us _ (λ_ h=>h.elim) (hl w) hF).mono λe w' ⟨u,he,hb,hr⟩=>⟨by rw[he,aHM hr],hb⟩
theorem aGZ {P:Program}{f:FuncId}{F:List (A cx.ty)->Option (Bool×V cx.ty)}(h:Sat P cx f F){l:List (A cx.ty)}{us vs:List Value}(hl:∀ w,ArgAs cx w (λ_=>False) l us)(hF:F l=some (true,.inl (.inr (vs.map lv))))(w:World) :
  Calls P f us.toArray w λe w'=>e=.returned (.agg vs.toArray)/\Below w.heap.size w w':=
 (h w (λ_=>False) l us _ (λ_ h=>h.elim) (hl w) hF).mono λe w' ⟨u,he,hb,hr⟩=>⟨by rw[he,aIC hr],hb⟩
theorem aGY {P:Program}{f:FuncId}{F:List (A cx.ty)->Option (Bool×V cx.ty)}(h:Sat P cx f F){l:List (A cx.ty)}{us vs:List Value}(hl:∀ w,ArgAs cx w (λ_=>False) l us)(hF:F l=some (true,.inr (.inl (vs.map λv=>.inl (lv v)))))(w:World) :
  Calls P f us.toArray w λe w'=>e=.returned (.tuple vs.toArray)/\Below w.heap.size w w':=
 (h w (λ_=>False) l us _ (λ_ h=>h.elim) (hl w) hF).mono λe w' ⟨u,he,hb,hr⟩=>⟨by rw[he,aHp hr],hb⟩
end
end Go.VM
