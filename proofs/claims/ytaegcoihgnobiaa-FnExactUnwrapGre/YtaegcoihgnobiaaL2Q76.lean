/- A part of the proof of FnExactUnwrapGre: L2Q76. -/
import Derived.WalkKit
import Derived.OwnWalkIn
import Derived.TacticsInMore
import Derived.LoopNIn
import Derived.LoopIn
import Derived.Recover
import Derived.Test.YtaegcoihgnobiaaVmL
import Derived.Test.YtaegcoihgnobiaaL2Base
set_option linter.unusedVariables false
set_option linter.unusedSimpArgs false
namespace Go.Proofs.Try
open Go Go.VM Go.RowKit
attribute [local go_sem] Oper.semAt_some
theorem demand_in (so : Bool) (code : Int) (w : World) (n : Nat) : CallsIn Fence.wide n prog 76 #[.bool so, .int .i64 code] w fun e w' => Below w.heap.size w w' ∧ bif !so then e = .panicked [{ v := .iface 85 (.agg #[.int .i64 code]), recovered := false }] else e = .returned (.tuple #[]) := by
  refine callsIn_of_wp func76 rfl trivial ?_ rfl
  simp only [ntmps76, List.size_toArray, List.length_cons, List.length_nil, Nat.reduceAdd, Nat.reduceSub, Array.replicate_succ, Array.replicate_zero, List.push_toArray, List.append_toArray, List.nil_append, List.cons_append]
  cases so
  · gi_wp2
    have hp : (Instr.panic (Value.iface 85 (Value.agg #[Value.int IntKind.i64 code]))).run prog w = .halt (.panic (Value.iface 85 (Value.agg #[Value.int IntKind.i64 code]))) w := by kernel_rfl
    rw [hp]
    exact ⟨rfl, Below.refl _ _, rfl⟩
  · gi_wp2
    exact ⟨rfl, .tuple #[], by kernel_rfl, Below.refl _ _, rfl⟩
theorem demand_calls (so : Bool) (code : Int) (w : World) : Calls prog 76 #[.bool so, .int .i64 code] w fun e w' => Below w.heap.size w w' ∧ bif !so then e = .panicked [{ v := .iface 85 (.agg #[.int .i64 code]), recovered := false }] else e = .returned (.tuple #[]) :=
  callsIn_wide.1 (demand_in so code w 1)

def m76 (x : Bool × Int) : Option (Bool × Int) := some (!x.1, x.2)
theorem sat76 : SatT prog cxT 76 (c76 m76).F := by
  intro w A0 l us thr v rs hA hargs hF
  obtain ⟨⟨so, code⟩, t, rfl, hx, hcs⟩ := fnW_inv hF
  cases hx
  have hus : us = [.bool so, .int .i64 code] := by
    match us, hargs with
    | [u1, u2], h =>
      have h1 : u1 = .bool so := h.2 0 _ u1 rfl rfl
      have h2 : u2 = .int .i64 code := h.2 1 _ u2 rfl rfl
      rw [h1, h2]
    | [], h => exact absurd (show 0 = 2 from h.1) (by decide)
    | [_], h => exact absurd (show 1 = 2 from h.1) (by decide)
    | _ :: _ :: _ :: r, h => exact absurd (show r.length + 3 = 2 from h.1) (by omega)
  subst hus
  unfold n76 at hcs
  simp only [List.cons.injEq, lv, Sum.inl.injEq, Option.some.injEq, Value.bool.injEq] at hcs
  obtain ⟨rfl, rfl, rfl⟩ := hcs
  refine (demand_calls so code w).mono fun e w' ⟨hb, he⟩ => ⟨hb, ?_⟩
  cases so with
  | false => exact he
  | true => exact ⟨_, he, [], List.nodup_nil, by simp, [], [], rfl, by simp, rfl, rfl, fun j a u f e1 => by simp at e1⟩
end Go.Proofs.Try
