/- MachineFault answers as its model at every argument -/
import Derived.Test.YtchokegffjaihaaRows
import Derived.WalkKit
import Derived.ProofKit
import Derived.OpenShut
import Derived.ShutString
import Derived.ChangeOld
import Derived.Below
import Derived.Test.YtchokegffjaihaaLnTop
set_option linter.unusedSimpArgs false
set_option linter.unusedVariables false
namespace Go.Proofs.Ytchokegffjaihaa.fnExactMachineFault
open Go.ChangeShapes Go.WideShapes Go.ChangeAt Go.RowKit
open Go.ChangeMaps (open_string shut_string)
theorem own:ownKnob Try.prog.godebug=none:=by kernel_rfl
theorem aFf:laidOutB Try.prog=true:=by kernel_rfl
theorem aMU (w:World)(cs0:Array Value)(y0:Go.Proofs.Try.Mg)(g0:Go.Proofs.Try.opG_good y0)(A0:Go.VM.ArgA Go.Proofs.Try.cxT w (Go.VM.Lent w) (.inr (Go.Proofs.Try.encG y0)) (.agg cs0)) :
  Calls Try.prog 3 #[.agg cs0] w λe w'=>e=.returned (.bool true)/\Below w.heap.size w w':=by
 exact Go.VM.calls_true rfl Go.Proofs.Try.sat3 (l:=[.inr (Go.Proofs.Try.encG y0)]) (x:=y0) rfl (if_pos (Go.Proofs.Try.zG_of g0)) (Go.VM.args_cons A0 Go.VM.args_nil)
set_option maxRecDepth 100000 in
theorem aGQ (os:Os)(started:os.Started)(H:Type)(enc:TypeId×Value->H) :
  ReturnsInHanded {} Try.checked os 3 .any (Rows.fnExactMachineFaultSpec.pre6 enc Try.prog Try.f3 Rows.fnExactMachineFaultRow.domain false) (Rows.fnExactMachineFaultSpec.post enc Try.prog Try.f3 false true false false):=by
 refine returnsInHanded_of_change (C:=Try.checked) own started (by kernel_rfl) Try.func3
  (ChangeSpec.witness6 (enc:=enc) (C:=Try.checked) false ⟨#[],#[.agg #[.int .i64 0,.slice none 0 0,.slice none 0 0,.slice none 0 0]],[]⟩ 8 (by kernel_rfl) (by kernel_rfl) (by kernel_rfl) (by kernel_rfl)) ?_
 intro W base args ds gs before hval0 hW hcnd _;have hval:∀ (j:Nat) t v,Try.f3.params[j]?=some t->args[j]?=some v->Value.okWide Try.prog W .any base t v:=hval0;have hW':=hW;obtain⟨p,q,hA0,hV,rfl,hfz,hnd⟩:=hW;have hA:DataW.TrodAll enc Try.prog W 0 (λ_=>true) true Try.f3.params.toList args.toList ds p:=hA0;rw[Try.params3]at hA hval;obtain⟨v0,vs0,d0,ds0,p0,q0,hargs,rfl,rfl,h0,r0⟩:=trodAll_cons hA;obtain⟨rfl,rfl,rfl⟩:=trodAll_nil r0;obtain rfl:args=#[v0]:=by cases args;simp_all
 obtain⟨rfl,rfl⟩:=trodVars_none hV;obtain⟨cs0,rfl⟩:=Go.VM.agg_of_wide Try.underlying28 (hval 0 28 v0 rfl rfl);have k0:=h0;have lt0:∀ x∈p0,x.block < W.heap.size:=by obtain⟨m,hm⟩:=k0;exact DataW.trod_lt m _ _ _ hm
 obtain⟨y0,g0,A0⟩:=(by
  obtain⟨fuel,hf⟩:=h0;exact Go.VM.arg_struct Go.Proofs.Try.opG hf:∃ y:Go.Proofs.Try.Mg,Go.Proofs.Try.opG_good y/\Go.VM.ArgA Go.Proofs.Try.cxT W (Go.VM.Lent W) (.inr (Go.Proofs.Try.encG y)) (.agg cs0))
 clear hA0 hval0;refine(aMU W cs0 y0 g0 A0).mono λe W' ⟨he,bel⟩=>?_
 subst he;exact⟨_,rfl,_,_,_,[],_,[],hW',trodAll_mk1 (shut_bool Try.underlying4 _),(trodAll_cons_mk (Below.trod aFf (by kernel_rfl) (of_decide_eq_true (by kernel_rfl)) k0 bel lt0) trodAll_mk0),rfl,bel.frame _,λh=>by cases h⟩
theorem aNa:Rows.fnExactMachineFaultRow.holds Try.pinned (OpenSpec.ofChange Rows.fnExactMachineFaultSpec):=
 OpenClaim.holds_of_wide 3 Try.f3 rfl rfl rfl rfl rfl rfl rfl ⟨rfl,rfl,rfl,rfl,rfl⟩ rfl rfl rfl rfl rfl (by kernel_rfl) Try.func3 (by kernel_rfl)
  (of_decide_eq_true (by kernel_rfl)) (by unfold Func.isWrapper;first | (rw[if_pos (by decide +kernel)];kernel_rfl) | (rw[if_neg (by decide +kernel)];exact⟨rfl,rfl⟩))
  (λos started H enc _=>aGQ os started H enc)
theorem proved:Rows.FnExactMachineFaultSaid:=aNa
#print axioms proved
end Go.Proofs.Ytchokegffjaihaa.fnExactMachineFault
