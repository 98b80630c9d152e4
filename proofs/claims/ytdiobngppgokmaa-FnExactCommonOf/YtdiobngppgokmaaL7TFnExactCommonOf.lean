/- Proved: called with any two lists of entries, in whatever memory, FnExactCommonOf answers true: CommonOf answers as its specification and writes into no argument. No condition. -/
import Derived.Test.YtdiobngppgokmaaRows
import Derived.WalkKit
import Derived.ProofKit
import Derived.OpenShut
import Derived.ShutString
import Derived.ChangeOld
import Derived.Below
import Derived.Test.YtdiobngppgokmaaL7Pc
/- The frame is built as the kit's own shells are; the walk is ours. -/
namespace Go.Proofs.Ytdiobngppgokmaa.fnExactCommonOf
open Go.ChangeShapes Go.WideShapes Go.ChangeAt Go.RowKit
open Go.ChangeMaps (open_string shut_string)
set_option linter.unusedVariables false

theorem own : ownKnob Try.prog.godebug = none := by kernel_rfl
theorem laidOut : laidOutB Try.prog = true := by kernel_rfl

theorem walk (w : World) (u0 : Value) (y0 : List Go.Proofs.Try.En) (g0 : Go.Proofs.Try.opEs_good y0) (A0 : Go.VM.ArgA Go.Proofs.Try.cxT w (Go.VM.Lent w) (.inl (Go.Proofs.Try.row25 y0)) u0) (u1 : Value) (y1 : List Go.Proofs.Try.En) (g1 : Go.Proofs.Try.opEs_good y1) (A1 : Go.VM.ArgA Go.Proofs.Try.cxT w (Go.VM.Lent w) (.inl (Go.Proofs.Try.row25 y1)) u1) :
    Calls Try.prog 9 #[u0, u1] w fun e w' => e = .returned (.bool true) ∧ Below w.heap.size w w' := by
  exact Go.VM.calls_true rfl Go.Proofs.Try.sat9 (l := [.inl (Go.Proofs.Try.row25 y0), .inl (Go.Proofs.Try.row25 y1)]) (x := (y0, y1)) rfl (if_pos ⟨Go.Proofs.Try.top_of g0, Go.Proofs.Try.top_of g1⟩) (Go.VM.args_cons A0 (Go.VM.args_cons A1 Go.VM.args_nil))

set_option maxRecDepth 100000 in
theorem lifted (os : Os) (started : os.Started) (H : Type) (enc : TypeId × Value → H) :
    ReturnsInHanded {} Try.checked os 9 .any (Rows.fnExactCommonOfSpec.pre6 enc Try.prog Try.f9 Rows.fnExactCommonOfRow.domain false) (Rows.fnExactCommonOfSpec.post enc Try.prog Try.f9 false true false false) := by
  refine returnsInHanded_of_change (C := Try.checked) own started (by kernel_rfl) Try.func9
    (ChangeSpec.witness6 (enc := enc) (C := Try.checked) false ⟨#[], #[.slice none 0 0, .slice none 0 0], []⟩ 8 (by kernel_rfl) (by kernel_rfl) (by kernel_rfl) (by kernel_rfl)) ?_
  intro W base args ds gs before hval0 hW hcnd _
  have hval : ∀ (j : Nat) t v, Try.f9.params[j]? = some t → args[j]? = some v → Value.okWide Try.prog W .any base t v := hval0
  have hW' := hW
  obtain ⟨p, q, hA0, hV, rfl, hfz, hnd⟩ := hW
  have hA : DataW.TrodAll enc Try.prog W 0 (fun _ => true) true Try.f9.params.toList args.toList ds p := hA0
  rw [Try.params9] at hA hval
  obtain ⟨v0, vs0, d0, ds0, p0, q0, hargs, rfl, rfl, h0, r0⟩ := trodAll_cons hA
  obtain ⟨v1, vs1, d1, ds1, p1, q1, rfl, rfl, rfl, h1, r1⟩ := trodAll_cons r0
  obtain ⟨rfl, rfl, rfl⟩ := trodAll_nil r1
  obtain rfl : args = #[v0, v1] := by cases args; simp_all
  obtain ⟨rfl, rfl⟩ := trodVars_none hV
  obtain ⟨a0, len0, cap0, rfl⟩ := okWide_slice Try.underlying32 (hval 0 32 v0 rfl rfl)
  have k0 := h0
  have lt0 : ∀ x ∈ p0, x.block < W.heap.size := by obtain ⟨m, hm⟩ := k0; exact DataW.trod_lt m _ _ _ hm
  obtain ⟨y0, g0, A0⟩ := (by
    obtain ⟨fuel, hf⟩ := h0
    exact Go.VM.arg_leaf Go.Proofs.Try.opEs hf : ∃ y : List Go.Proofs.Try.En, Go.Proofs.Try.opEs_good y ∧ Go.VM.ArgA Go.Proofs.Try.cxT W (Go.VM.Lent W) (.inl (Go.Proofs.Try.row25 y)) _)
  obtain ⟨a1, len1, cap1, rfl⟩ := okWide_slice Try.underlying32 (hval 1 32 v1 rfl rfl)
  have k1 := h1
  have lt1 : ∀ x ∈ p1, x.block < W.heap.size := by obtain ⟨m, hm⟩ := k1; exact DataW.trod_lt m _ _ _ hm
  obtain ⟨y1, g1, A1⟩ := (by
    obtain ⟨fuel, hf⟩ := h1
    exact Go.VM.arg_leaf Go.Proofs.Try.opEs hf : ∃ y : List Go.Proofs.Try.En, Go.Proofs.Try.opEs_good y ∧ Go.VM.ArgA Go.Proofs.Try.cxT W (Go.VM.Lent W) (.inl (Go.Proofs.Try.row25 y)) _)
  clear hA0 hval0
  refine (walk W _ y0 g0 A0 _ y1 g1 A1).mono fun e W' ⟨he, bel⟩ => ?_
  subst he
  exact ⟨_, rfl, _, _, _, [], _, [], hW', trodAll_mk1 (shut_bool Try.underlying4 _), (trodAll_cons_mk (Below.trod laidOut (by kernel_rfl) (of_decide_eq_true (by kernel_rfl)) k0 bel lt0) (trodAll_cons_mk (Below.trod laidOut (by kernel_rfl) (of_decide_eq_true (by kernel_rfl)) k1 bel lt1) trodAll_mk0)), rfl, bel.frame _, fun h => by cases h⟩

theorem over : Rows.fnExactCommonOfRow.holds Try.pinned (OpenSpec.ofChange Rows.fnExactCommonOfSpec) :=
  OpenClaim.holds_of_wide 9 Try.f9 rfl rfl rfl rfl rfl rfl rfl ⟨rfl, rfl, rfl, rfl, rfl⟩ rfl rfl rfl rfl rfl (by kernel_rfl) Try.func9 (by kernel_rfl)
    (of_decide_eq_true (by kernel_rfl)) (by unfold Func.isWrapper; first | (rw [if_pos (by decide +kernel)]; kernel_rfl) | (rw [if_neg (by decide +kernel)]; exact ⟨rfl, rfl⟩))
    (fun os started H enc _ => lifted os started H enc)

theorem proved : Rows.FnExactCommonOfSaid := over
#print axioms proved
end Go.Proofs.Ytdiobngppgokmaa.fnExactCommonOf
