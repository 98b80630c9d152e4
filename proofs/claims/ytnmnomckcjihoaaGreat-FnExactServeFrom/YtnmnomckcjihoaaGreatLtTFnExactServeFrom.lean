/- ServeFrom answers as its model at every argument, writes into nothing that it is handed, and what it answers owns its memory. -/
import Derived.Test.YtnmnomckcjihoaaGreatRows
import Derived.WalkKit
import Derived.ProofKit
import Derived.OpenShut
import Derived.ShutString
import Derived.ChangeOld
import Derived.Below
import Derived.Test.YtnmnomckcjihoaaGreatLtTop2
set_option linter.unusedSimpArgs false
set_option linter.unusedVariables false
namespace Go.Proofs.YtnmnomckcjihoaaGreat.fnExactServeFrom
open Go.ChangeShapes Go.WideShapes Go.ChangeAt Go.RowKit
open Go.ChangeMaps (open_string shut_string)
theorem own:ownKnob Tryz.prog.godebug=none:=by kernel_rfl
theorem aEu:laidOutB Tryz.prog=true:=by kernel_rfl
theorem aS9 (w:World)(u0:Value)(y0:List Go.Proofs.Tryz.Cg)(g0:Go.Proofs.Tryz.opL_good y0)(A0:Go.VM.ArgA Go.Proofs.Tryz.cxT w (Go.VM.Lent w) (.inl (Go.Proofs.Tryz.row25 y0)) u0)(u1:Value)(y1:List Go.Proofs.Tryz.Cm)(g1:Go.Proofs.Tryz.opG_good y1)(A1:Go.VM.ArgA Go.Proofs.Tryz.cxT w (Go.VM.Lent w) (.inl (Go.Proofs.Tryz.row72 y1)) u1)(a2:Int)(w2:(Lit.int .i64 a2).wf=true) :
  Calls Tryz.prog 4 #[u0,u1,.int .i64 a2] w λe w'=>e=.returned (.bool true)/\Below w.heap.size w w':=by
 exact Go.VM.calls_true rfl Go.Proofs.Tryz.sat4 (l:=[.inl (Go.Proofs.Tryz.row25 y0),.inl (Go.Proofs.Tryz.row72 y1),.inl (Go.VM.lv (.int .i64 a2))]) (x:=(y0,y1,a2)) rfl (if_pos (Go.Proofs.Tryz.zS_of g0 g1)) (Go.VM.args_cons A0 (Go.VM.args_cons A1 (Go.VM.args_cons rfl Go.VM.args_nil)))
set_option maxRecDepth 100000 in
theorem aKS (os:Os)(started:os.Started)(H:Type)(enc:TypeId×Value->H) :
  ReturnsInHanded {} Tryz.checked os 4 .any (Rows.fnExactServeFromSpec.pre6 enc Tryz.prog Tryz.f4 Rows.fnExactServeFromRow.domain false) (Rows.fnExactServeFromSpec.post enc Tryz.prog Tryz.f4 false true false false):=by
 refine returnsInHanded_of_change (C:=Tryz.checked) own started (by kernel_rfl) Tryz.func4
  (ChangeSpec.witness6 (enc:=enc) (C:=Tryz.checked) false ⟨#[],#[.slice none 0 0,.slice none 0 0,.int .i64 0],[]⟩ 8 (by kernel_rfl) (by kernel_rfl) (by kernel_rfl) (by kernel_rfl)) ?_
 intro W base args ds gs before hval0 hW hcnd _;have hval:∀ (j:Nat) t v,Tryz.f4.params[j]?=some t->args[j]?=some v->Value.okWide Tryz.prog W .any base t v:=hval0;have hW':=hW;obtain⟨p,q,hA0,hV,rfl,hfz,hnd⟩:=hW;have hA:DataW.TrodAll enc Tryz.prog W 0 (λ_=>true) true Tryz.f4.params.toList args.toList ds p:=hA0;rw[Tryz.params4]at hA hval;obtain⟨v0,vs0,d0,ds0,p0,q0,hargs,rfl,rfl,h0,r0⟩:=trodAll_cons hA;obtain⟨v1,vs1,d1,ds1,p1,q1,rfl,rfl,rfl,h1,r1⟩:=trodAll_cons r0;obtain⟨v2,vs2,d2,ds2,p2,q2,rfl,rfl,rfl,h2,r2⟩:=trodAll_cons r1;obtain⟨rfl,rfl,rfl⟩:=trodAll_nil r2;obtain rfl:args=#[v0,v1,v2]:=by cases args;simp_all
 obtain⟨rfl,rfl⟩:=trodVars_none hV;obtain⟨a0,len0,cap0,rfl⟩:=okWide_slice Tryz.underlying41 (hval 0 41 v0 rfl rfl);have k0:=h0;have lt0:∀ x∈p0,x.block < W.heap.size:=by obtain⟨m,hm⟩:=k0;exact DataW.trod_lt m _ _ _ hm
 obtain⟨y0,g0,A0⟩:=(by
  obtain⟨fuel,hf⟩:=h0;exact Go.VM.arg_leaf Go.Proofs.Tryz.opL hf:∃ y:List Go.Proofs.Tryz.Cg,Go.Proofs.Tryz.opL_good y/\Go.VM.ArgA Go.Proofs.Tryz.cxT W (Go.VM.Lent W) (.inl (Go.Proofs.Tryz.row25 y)) _)
 obtain⟨a1,len1,cap1,rfl⟩:=okWide_slice Tryz.underlying26 (hval 1 26 v1 rfl rfl);have k1:=h1;have lt1:∀ x∈p1,x.block < W.heap.size:=by obtain⟨m,hm⟩:=k1;exact DataW.trod_lt m _ _ _ hm
 obtain⟨y1,g1,A1⟩:=(by
  obtain⟨fuel,hf⟩:=h1;exact Go.VM.arg_leaf Go.Proofs.Tryz.opG hf:∃ y:List Go.Proofs.Tryz.Cm,Go.Proofs.Tryz.opG_good y/\Go.VM.ArgA Go.Proofs.Tryz.cxT W (Go.VM.Lent W) (.inl (Go.Proofs.Tryz.row72 y)) _)
 obtain⟨a2,rfl,rfl,rfl,w2⟩:=open_int Tryz.underlying2 (hval 2 2 v2 rfl rfl) h2;clear hA0 hval0;refine(aS9 W _ y0 g0 A0 _ y1 g1 A1 a2 w2).mono λe W' ⟨he,bel⟩=>?_
 subst he;exact⟨_,rfl,_,_,_,[],_,[],hW',trodAll_mk1 (shut_bool Tryz.underlying4 _),(trodAll_cons_mk (Below.trod aEu (by kernel_rfl) (of_decide_eq_true (by kernel_rfl)) k0 bel lt0) (trodAll_cons_mk (Below.trod aEu (by kernel_rfl) (of_decide_eq_true (by kernel_rfl)) k1 bel lt1) (trodAll_cons_mk (shut_int Tryz.underlying2 w2) trodAll_mk0))),rfl,bel.frame _,λh=>by cases h⟩
theorem aTw:Rows.fnExactServeFromRow.holds Tryz.pinned (OpenSpec.ofChange Rows.fnExactServeFromSpec):=
 OpenClaim.holds_of_wide 4 Tryz.f4 rfl rfl rfl rfl rfl rfl rfl ⟨rfl,rfl,rfl,rfl,rfl⟩ rfl rfl rfl rfl rfl (by kernel_rfl) Tryz.func4 (by kernel_rfl)
  (of_decide_eq_true (by kernel_rfl)) (by unfold Func.isWrapper;first | (rw[if_pos (by decide +kernel)];kernel_rfl) | (rw[if_neg (by decide +kernel)];exact⟨rfl,rfl⟩))
  (λos started H enc _=>aKS os started H enc)
theorem proved:Rows.FnExactServeFromSaid:=aTw
#print axioms proved
end Go.Proofs.YtnmnomckcjihoaaGreat.fnExactServeFrom
