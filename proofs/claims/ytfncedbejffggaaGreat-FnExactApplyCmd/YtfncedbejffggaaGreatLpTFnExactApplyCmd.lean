/- ApplyCmd answers as its model at every argument -/
import Derived.Test.YtfncedbejffggaaGreatRows
import Derived.WalkKit
import Derived.ProofKit
import Derived.OpenShut
import Derived.ShutString
import Derived.ChangeOld
import Derived.Below
import Derived.Test.YtfncedbejffggaaGreatLpOg
set_option linter.unusedSimpArgs false
set_option linter.unusedVariables false
namespace Go.Proofs.YtfncedbejffggaaGreat.fnExactApplyCmd
open Go.ChangeShapes Go.WideShapes Go.ChangeAt Go.RowKit
open Go.ChangeMaps (open_string shut_string)
theorem own:ownKnob Tryz.prog.godebug=none:=by kernel_rfl
theorem aF3:laidOutB Tryz.prog=true:=by kernel_rfl
theorem aU8 (w:World)(cs0:Array Value)(y0:Go.Proofs.Tryz.Cg)(g0:Go.Proofs.Tryz.opC_good y0)(A0:Go.VM.ArgA Go.Proofs.Tryz.cxT w (Go.VM.Lent w) (.inr (Go.Proofs.Tryz.encC y0)) (.agg cs0))(cs1:Array Value)(y1:Go.Proofs.Tryz.Cm)(g1:Go.Proofs.Tryz.opX_good y1)(A1:Go.VM.ArgA Go.Proofs.Tryz.cxT w (Go.VM.Lent w) (.inr (Go.Proofs.Tryz.encX y1)) (.agg cs1)) :
  Calls Tryz.prog 3 #[.agg cs0,.agg cs1] w λe w'=>e=.returned (.bool true)/\Below w.heap.size w w':=by
 exact Go.VM.calls_true rfl Go.Proofs.Tryz.sat3 (l:=[.inr (Go.Proofs.Tryz.encC y0),.inr (Go.Proofs.Tryz.encX y1)]) (x:=(y0,y1)) rfl (if_pos (Go.Proofs.Tryz.okZ_of g0)) (Go.VM.args_cons A0 (Go.VM.args_cons A1 Go.VM.args_nil))
set_option maxRecDepth 100000 in
theorem aMU (os:Os)(started:os.Started)(H:Type)(enc:TypeId×Value->H) :
  ReturnsInHanded {} Tryz.checked os 3 .any (Rows.fnExactApplyCmdSpec.pre6 enc Tryz.prog Tryz.f3 Rows.fnExactApplyCmdRow.domain false) (Rows.fnExactApplyCmdSpec.post enc Tryz.prog Tryz.f3 false true false false):=by
 refine returnsInHanded_of_change (C:=Tryz.checked) own started (by kernel_rfl) Tryz.func3
  (ChangeSpec.witness6 (enc:=enc) (C:=Tryz.checked) false ⟨#[],#[.agg #[.int .i64 0,.slice none 0 0,.slice none 0 0],.agg #[.int .i64 0,.int .i64 0,.int .i64 0,.int .i64 0,.int .i64 0,.int .i64 0]],[]⟩ 8 (by kernel_rfl) (by kernel_rfl) (by kernel_rfl) (by kernel_rfl)) ?_
 intro W base args ds gs before hval0 hW hcnd _;have hval:∀ (j:Nat) t v,Tryz.f3.params[j]?=some t->args[j]?=some v->Value.okWide Tryz.prog W .any base t v:=hval0;have hW':=hW;obtain⟨p,q,hA0,hV,rfl,hfz,hnd⟩:=hW;have hA:DataW.TrodAll enc Tryz.prog W 0 (λ_=>true) true Tryz.f3.params.toList args.toList ds p:=hA0;rw[Tryz.params3]at hA hval;obtain⟨v0,vs0,d0,ds0,p0,q0,hargs,rfl,rfl,h0,r0⟩:=trodAll_cons hA;obtain⟨v1,vs1,d1,ds1,p1,q1,rfl,rfl,rfl,h1,r1⟩:=trodAll_cons r0;obtain⟨rfl,rfl,rfl⟩:=trodAll_nil r1;obtain rfl:args=#[v0,v1]:=by cases args;simp_all
 obtain⟨rfl,rfl⟩:=trodVars_none hV;obtain⟨cs0,rfl⟩:=Go.VM.agg_of_wide Tryz.underlying25 (hval 0 25 v0 rfl rfl);have k0:=h0;have lt0:∀ x∈p0,x.block < W.heap.size:=by obtain⟨m,hm⟩:=k0;exact DataW.trod_lt m _ _ _ hm
 obtain⟨y0,g0,A0⟩:=(by
  obtain⟨fuel,hf⟩:=h0;exact Go.VM.arg_struct Go.Proofs.Tryz.opC hf:∃ y:Go.Proofs.Tryz.Cg,Go.Proofs.Tryz.opC_good y/\Go.VM.ArgA Go.Proofs.Tryz.cxT W (Go.VM.Lent W) (.inr (Go.Proofs.Tryz.encC y)) (.agg cs0))
 obtain⟨cs1,rfl⟩:=Go.VM.agg_of_wide Tryz.underlying27 (hval 1 27 v1 rfl rfl);have k1:=h1;have lt1:∀ x∈p1,x.block < W.heap.size:=by obtain⟨m,hm⟩:=k1;exact DataW.trod_lt m _ _ _ hm
 obtain⟨y1,g1,A1⟩:=(by
  obtain⟨fuel,hf⟩:=h1;exact Go.VM.arg_struct Go.Proofs.Tryz.opX hf:∃ y:Go.Proofs.Tryz.Cm,Go.Proofs.Tryz.opX_good y/\Go.VM.ArgA Go.Proofs.Tryz.cxT W (Go.VM.Lent W) (.inr (Go.Proofs.Tryz.encX y)) (.agg cs1))
 clear hA0 hval0;refine(aU8 W cs0 y0 g0 A0 cs1 y1 g1 A1).mono λe W' ⟨he,bel⟩=>?_
 subst he;exact⟨_,rfl,_,_,_,[],_,[],hW',trodAll_mk1 (shut_bool Tryz.underlying4 _),(trodAll_cons_mk (Below.trod aF3 (by kernel_rfl) (of_decide_eq_true (by kernel_rfl)) k0 bel lt0) (trodAll_cons_mk (Below.trod aF3 (by kernel_rfl) (of_decide_eq_true (by kernel_rfl)) k1 bel lt1) trodAll_mk0)),rfl,bel.frame _,λh=>by cases h⟩
theorem aVu:Rows.fnExactApplyCmdRow.holds Tryz.pinned (OpenSpec.ofChange Rows.fnExactApplyCmdSpec):=
 OpenClaim.holds_of_wide 3 Tryz.f3 rfl rfl rfl rfl rfl rfl rfl ⟨rfl,rfl,rfl,rfl,rfl⟩ rfl rfl rfl rfl rfl (by kernel_rfl) Tryz.func3 (by kernel_rfl)
  (of_decide_eq_true (by kernel_rfl)) (by unfold Func.isWrapper;first | (rw[if_pos (by decide +kernel)];kernel_rfl) | (rw[if_neg (by decide +kernel)];exact⟨rfl,rfl⟩))
  (λos started H enc _=>aMU os started H enc)
theorem proved:Rows.FnExactApplyCmdSaid:=aVu
#print axioms proved
end Go.Proofs.YtfncedbejffggaaGreat.fnExactApplyCmd
