/- ReplyOf answers as its model at every argument -/
import Derived.Test.YtchokegffjaihaaRows
import Derived.WalkKit
import Derived.ProofKit
import Derived.OpenShut
import Derived.ShutString
import Derived.ChangeOld
import Derived.Below
import Derived.Test.YtchokegffjaihaaLnTop
import Derived.Test.YtchokegffjaihaaLnRc
set_option linter.unusedSimpArgs false
set_option linter.unusedVariables false
namespace Go.Proofs.Ytchokegffjaihaa.fnExactReplyOf
open Go.ChangeShapes Go.WideShapes Go.ChangeAt Go.RowKit
open Go.ChangeMaps (open_string shut_string)
theorem own:ownKnob Try.prog.godebug=none:=by kernel_rfl
theorem aFS:laidOutB Try.prog=true:=by kernel_rfl
theorem aNX (w:World)(cs0:Array Value)(y0:Go.Proofs.Try.Mg)(g0:Go.Proofs.Try.opG_good y0)(A0:Go.VM.ArgA Go.Proofs.Try.cxT w (Go.VM.Lent w) (.inr (Go.Proofs.Try.encG y0)) (.agg cs0))(a1:Int)(w1:(Lit.int .i64 a1).wf=true)(a2:Int)(w2:(Lit.int .i64 a2).wf=true) :
  Calls Try.prog 4 #[.agg cs0,.int .i64 a1,.int .i64 a2] w λe w'=>e=.returned (.bool true)/\Below w.heap.size w w':=by
 exact Go.VM.calls_true rfl Go.Proofs.Try.sat4 (l:=[.inr (Go.Proofs.Try.encG y0),.inl (Go.VM.lv (.int .i64 a1)),.inl (Go.VM.lv (.int .i64 a2))]) (x:=(y0,a1,a2)) rfl (if_pos ⟨Go.Proofs.Try.zG_of g0,w1⟩) (Go.VM.args_cons A0 (Go.VM.args_cons rfl (Go.VM.args_cons rfl Go.VM.args_nil)))
set_option maxRecDepth 100000 in
theorem aHB (os:Os)(started:os.Started)(H:Type)(enc:TypeId×Value->H) :
  ReturnsInHanded {} Try.checked os 4 .any (Rows.fnExactReplyOfSpec.pre6 enc Try.prog Try.f4 Rows.fnExactReplyOfRow.domain false) (Rows.fnExactReplyOfSpec.post enc Try.prog Try.f4 false true false false):=by
 refine returnsInHanded_of_change (C:=Try.checked) own started (by kernel_rfl) Try.func4
  (ChangeSpec.witness6 (enc:=enc) (C:=Try.checked) false ⟨#[],#[.agg #[.int .i64 0,.slice none 0 0,.slice none 0 0,.slice none 0 0],.int .i64 0,.int .i64 0],[]⟩ 8 (by kernel_rfl) (by kernel_rfl) (by kernel_rfl) (by kernel_rfl)) ?_
 intro W base args ds gs before hval0 hW hcnd _;have hval:∀ (j:Nat) t v,Try.f4.params[j]?=some t->args[j]?=some v->Value.okWide Try.prog W .any base t v:=hval0;have hW':=hW;obtain⟨p,q,hA0,hV,rfl,hfz,hnd⟩:=hW;have hA:DataW.TrodAll enc Try.prog W 0 (λ_=>true) true Try.f4.params.toList args.toList ds p:=hA0;rw[Try.params4]at hA hval;obtain⟨v0,vs0,d0,ds0,p0,q0,hargs,rfl,rfl,h0,r0⟩:=trodAll_cons hA;obtain⟨v1,vs1,d1,ds1,p1,q1,rfl,rfl,rfl,h1,r1⟩:=trodAll_cons r0;obtain⟨v2,vs2,d2,ds2,p2,q2,rfl,rfl,rfl,h2,r2⟩:=trodAll_cons r1;obtain⟨rfl,rfl,rfl⟩:=trodAll_nil r2;obtain rfl:args=#[v0,v1,v2]:=by cases args;simp_all
 obtain⟨rfl,rfl⟩:=trodVars_none hV;obtain⟨cs0,rfl⟩:=Go.VM.agg_of_wide Try.underlying28 (hval 0 28 v0 rfl rfl);have k0:=h0;have lt0:∀ x∈p0,x.block < W.heap.size:=by obtain⟨m,hm⟩:=k0;exact DataW.trod_lt m _ _ _ hm
 obtain⟨y0,g0,A0⟩:=(by
  obtain⟨fuel,hf⟩:=h0;exact Go.VM.arg_struct Go.Proofs.Try.opG hf:∃ y:Go.Proofs.Try.Mg,Go.Proofs.Try.opG_good y/\Go.VM.ArgA Go.Proofs.Try.cxT W (Go.VM.Lent W) (.inr (Go.Proofs.Try.encG y)) (.agg cs0))
 obtain⟨a1,rfl,rfl,rfl,w1⟩:=open_int Try.underlying2 (hval 1 2 v1 rfl rfl) h1;obtain⟨a2,rfl,rfl,rfl,w2⟩:=open_int Try.underlying2 (hval 2 2 v2 rfl rfl) h2;clear hA0 hval0;refine(aNX W cs0 y0 g0 A0 a1 w1 a2 w2).mono λe W' ⟨he,bel⟩=>?_
 subst he;exact⟨_,rfl,_,_,_,[],_,[],hW',trodAll_mk1 (shut_bool Try.underlying4 _),(trodAll_cons_mk (Below.trod aFS (by kernel_rfl) (of_decide_eq_true (by kernel_rfl)) k0 bel lt0) (trodAll_cons_mk (shut_int Try.underlying2 w1) (trodAll_cons_mk (shut_int Try.underlying2 w2) trodAll_mk0))),rfl,bel.frame _,λh=>by cases h⟩
theorem aOc:Rows.fnExactReplyOfRow.holds Try.pinned (OpenSpec.ofChange Rows.fnExactReplyOfSpec):=
 OpenClaim.holds_of_wide 4 Try.f4 rfl rfl rfl rfl rfl rfl rfl ⟨rfl,rfl,rfl,rfl,rfl⟩ rfl rfl rfl rfl rfl (by kernel_rfl) Try.func4 (by kernel_rfl)
  (of_decide_eq_true (by kernel_rfl)) (by unfold Func.isWrapper;first | (rw[if_pos (by decide +kernel)];kernel_rfl) | (rw[if_neg (by decide +kernel)];exact⟨rfl,rfl⟩))
  (λos started H enc _=>aHB os started H enc)
theorem proved:Rows.FnExactReplyOfSaid:=aOc
#print axioms proved
end Go.Proofs.Ytchokegffjaihaa.fnExactReplyOf
