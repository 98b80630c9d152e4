/- FullUpdate answers as its model at every argument, writes into nothing that it is handed, and what it answers owns its memory. -/
import Derived.Test.YtnmnomckcjihoaaRows
import Derived.WalkKit
import Derived.ProofKit
import Derived.OpenShut
import Derived.ShutString
import Derived.ChangeOld
import Derived.Below
import Derived.Test.YtnmnomckcjihoaaLrTop
set_option linter.unusedVariables false
/- The frame is built as the kit's own shells are; the walk is ours. -/
namespace Go.Proofs.Ytnmnomckcjihoaa.fnExactFullUpdate
open Go.ChangeShapes Go.WideShapes Go.ChangeAt Go.RowKit
open Go.ChangeMaps (open_string shut_string)
set_option linter.unusedVariables false

theorem own : ownKnob Try.prog.godebug = none := by kernel_rfl
theorem laidOut : laidOutB Try.prog = true := by kernel_rfl

theorem walk (w : World) (cs0 : Array Value) (y0 : Go.Proofs.Try.Cg) (g0 : Go.Proofs.Try.opC_good y0) (A0 : Go.VM.ArgA Go.Proofs.Try.cxT w (Go.VM.Lent w) (.inr (Go.Proofs.Try.encC y0)) (.agg cs0)) :
    Calls Try.prog 4 #[.agg cs0] w fun e w' => e = .returned (.bool true) ∧ Below w.heap.size w w' := by
  exact Go.VM.calls_true rfl Go.Proofs.Try.sat4 (l := [.inr (Go.Proofs.Try.encC y0)]) (x := y0) rfl (if_pos (Go.Proofs.Try.zC_of g0)) (Go.VM.args_cons A0 Go.VM.args_nil)

set_option maxRecDepth 100000 in
theorem lifted (os : Os) (started : os.Started) (H : Type) (enc : TypeId × Value → H) :
    ReturnsInHanded {} Try.checked os 4 .any (Rows.fnExactFullUpdateSpec.pre6 enc Try.prog Try.f4 Rows.fnExactFullUpdateRow.domain false) (Rows.fnExactFullUpdateSpec.post enc Try.prog Try.f4 false true false false) := by
  refine returnsInHanded_of_change (C := Try.checked) own started (by kernel_rfl) Try.func4
    (ChangeSpec.witness6 (enc := enc) (C := Try.checked) false ⟨#[], #[.agg #[.int .i64 0, .slice none 0 0, .slice none 0 0]], []⟩ 8 (by kernel_rfl) (by kernel_rfl) (by kernel_rfl) (by kernel_rfl)) ?_
  intro W base args ds gs before hval0 hW hcnd _
  have hval : ∀ (j : Nat) t v, Try.f4.params[j]? = some t → args[j]? = some v → Value.okWide Try.prog W .any base t v := hval0
  have hW' := hW
  obtain ⟨p, q, hA0, hV, rfl, hfz, hnd⟩ := hW
  have hA : DataW.TrodAll enc Try.prog W 0 (fun _ => true) true Try.f4.params.toList args.toList ds p := hA0
  rw [Try.params4] at hA hval
  obtain ⟨v0, vs0, d0, ds0, p0, q0, hargs, rfl, rfl, h0, r0⟩ := trodAll_cons hA
  obtain ⟨rfl, rfl, rfl⟩ := trodAll_nil r0
  obtain rfl : args = #[v0] := by cases args; simp_all
  obtain ⟨rfl, rfl⟩ := trodVars_none hV
  obtain ⟨cs0, rfl⟩ := Go.VM.agg_of_wide Try.underlying25 (hval 0 25 v0 rfl rfl)
  have k0 := h0
  have lt0 : ∀ x ∈ p0, x.block < W.heap.size := by obtain ⟨m, hm⟩ := k0; exact DataW.trod_lt m _ _ _ hm
  obtain ⟨y0, g0, A0⟩ := (by
    obtain ⟨fuel, hf⟩ := h0
    exact Go.VM.arg_struct Go.Proofs.Try.opC hf : ∃ y : Go.Proofs.Try.Cg, Go.Proofs.Try.opC_good y ∧ Go.VM.ArgA Go.Proofs.Try.cxT W (Go.VM.Lent W) (.inr (Go.Proofs.Try.encC y)) (.agg cs0))
  clear hA0 hval0
  refine (walk W cs0 y0 g0 A0).mono fun e W' ⟨he, bel⟩ => ?_
  subst he
  exact ⟨_, rfl, _, _, _, [], _, [], hW', trodAll_mk1 (shut_bool Try.underlying4 _), (trodAll_cons_mk (Below.trod laidOut (by kernel_rfl) (of_decide_eq_true (by kernel_rfl)) k0 bel lt0) trodAll_mk0), rfl, bel.frame _, fun h => by cases h⟩

theorem over : Rows.fnExactFullUpdateRow.holds Try.pinned (OpenSpec.ofChange Rows.fnExactFullUpdateSpec) :=
  OpenClaim.holds_of_wide 4 Try.f4 rfl rfl rfl rfl rfl rfl rfl ⟨rfl, rfl, rfl, rfl, rfl⟩ rfl rfl rfl rfl rfl (by kernel_rfl) Try.func4 (by kernel_rfl)
    (of_decide_eq_true (by kernel_rfl)) (by unfold Func.isWrapper; first | (rw [if_pos (by decide +kernel)]; kernel_rfl) | (rw [if_neg (by decide +kernel)]; exact ⟨rfl, rfl⟩))
    (fun os started H enc _ => lifted os started H enc)

theorem proved : Rows.FnExactFullUpdateSaid := over
#print axioms proved
end Go.Proofs.Ytnmnomckcjihoaa.fnExactFullUpdate
