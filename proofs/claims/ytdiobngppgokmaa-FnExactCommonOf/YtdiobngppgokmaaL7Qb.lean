/- A part of the proof of FnExactCommonOf: L7Qb, L7Qd. -/
import Derived.Test.YtdiobngppgokmaaL7Qa
import Derived.WalkKit
import Derived.OwnWalkIn
import Derived.Below
import Derived.WalkMore
import Derived.Deep.LoopGhost
import Derived.RangeFuncRecord
set_option linter.unusedVariables false
set_option linter.unusedSimpArgs false
namespace Go.Proofs.Try
open Go Go.VM Go.RowKit
section
attribute [local go_sem] Oper.semAt_some
end
end Go.Proofs.Try

set_option linter.unusedVariables false
set_option linter.unusedSimpArgs false
namespace Go.Proofs.Try
open Go Go.VM Go.RowKit
theorem run_store_func (P : Program) (w : World) (a : Addr) (m : Mode) (f : Fn) (x y : Array Value) : (store a (.func f x y) m).run P w = stored P w a (.func f x y) m := run_store P w a _ m rfl
theorem run_store_nilf (P : Program) (w : World) (a : Addr) (m : Mode) : (store a .nilFunc m).run P w = stored P w a .nilFunc m := run_store P w a _ m rfl
section
attribute [local go_sem] Oper.semAt_some run_store_func run_store_nilf
abbrev CB (f : Nat) (us : Array Value) (v : Value) : Prop := ∀ w : World, Calls prog f us w fun e w' => e = .returned v ∧ Below w.heap.size w w'
/-- A value of a function, and what it asks of a number. -/
inductive Rl (n : Int) : Value → Option Bool → Prop
  | no : Rl n .nilFunc none
  | yes (f : Nat) (b : Bool) (hE : ∀ args w, (callFunc f args).run prog w = .ok (.enter f args) w) (h : CB f #[.int .i64 n] (.bool b)) : Rl n (.func (.func f) #[] #[]) (some b)
theorem Rl.store {n : Int} {v : Value} {o : Option Bool} (h : Rl n v o) (w : World) (a : Addr) (m : Mode) : (Go.store a v m).run prog w = stored prog w a v m := by
  cases h
  · exact run_store_nilf _ _ _ _
  · exact run_store_func _ _ _ _ _ _ _
end
end Go.Proofs.Try
