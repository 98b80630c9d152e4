/- A part of the proof of FnExactSpreadNode: LgQb, LgQd. -/
import Derived.Test.YtdnjjhambjafoaaGreatLgQa
import Derived.WalkKit
import Derived.OwnWalkIn
import Derived.Below
import Derived.WalkMore
import Derived.Deep.LoopGhost
import Derived.RangeFuncRecord
set_option linter.unusedVariables false
set_option linter.unusedSimpArgs false
namespace Go.Proofs.Tryz
open Go Go.VM Go.RowKit
theorem res_one {w : World} {A0 N : Nat → Prop} {v u : Value} (h : ResV cxT w A0 N (.inl (.inl (lv v))) u) : u = v := by
  obtain ⟨fp, _, _, h⟩ := h
  exact h.1
theorem args3 {w : World} {S : Nat → Prop} (a b c : Int) : ArgAs cxT w S [.inl (lv (.int .i64 a)), .inl (lv (.int .i64 b)), .inl (lv (.int .i64 c))] [.int .i64 a, .int .i64 b, .int .i64 c] := ⟨rfl, fun j x u h1 h2 => by
  match j with
  | 0 => simp only [List.getElem?_cons_zero, Option.some.injEq] at h1 h2; subst h1; subst h2; exact rfl
  | 1 => simp only [List.getElem?_cons_succ, List.getElem?_cons_zero, Option.some.injEq] at h1 h2; subst h1; subst h2; exact rfl
  | 2 => simp only [List.getElem?_cons_succ, List.getElem?_cons_zero, Option.some.injEq] at h1 h2; subst h1; subst h2; exact rfl
  | j + 3 => simp at h1⟩
theorem in_calls (a b c : Int) (w : World) : Calls prog 94 #[.int .i64 a, .int .i64 b, .int .i64 c] w fun e w' => e = .returned (.bool (decide (b ≤ a ∧ a ≤ c))) ∧ Below w.heap.size w w' := by
  have := sat94 w (fun _ => False) [.inl (lv (.int .i64 a)), .inl (lv (.int .i64 b)), .inl (lv (.int .i64 c))] [.int .i64 a, .int .i64 b, .int .i64 c] (n94 (decide (b ≤ a ∧ a ≤ c))) (fun _ h => h.elim) (args3 a b c) rfl
  exact this.mono fun e w' ⟨u, he, hb, hr⟩ => ⟨by rw [he, res_one hr], hb⟩
section
attribute [local go_sem] Oper.semAt_some
set_option maxRecDepth 100000 in
set_option maxHeartbeats 4000000 in
theorem out58 (k b c d e f : Int) (hk : ¬ (1 ≤ k ∧ k ≤ 9)) (w : World) : Calls prog 118 #[.agg #[.int .i64 k, .int .i64 b, .int .i64 c, .int .i64 d, .int .i64 e, .int .i64 f]] w fun e w' => e = .returned (.int .i64 1) ∧ Below w.heap.size w w' := by
  go_enter func118, ntmps118
  by_cases h1 : k < 1
  · go_wp2
    go_ret
    exact ⟨rfl, (Below.refl _ _).alloc (Nat.le_refl _) _⟩
  · have h9 : 9 < k := by omega
    go_wp2
    go_ret
    exact ⟨rfl, (Below.refl _ _).alloc (Nat.le_refl _) _⟩
set_option maxRecDepth 100000 in
set_option maxHeartbeats 4000000 in
theorem bad58 (k b c d e f : Int) (hk : 1 ≤ k ∧ k ≤ 9) (hb : ¬ b = -1) (h91 : ∀ w : World, Calls prog 141 #[.int .i64 b] w fun e w' => e = .returned (.bool false) ∧ Below w.heap.size w w') (w : World) : Calls prog 118 #[.agg #[.int .i64 k, .int .i64 b, .int .i64 c, .int .i64 d, .int .i64 e, .int .i64 f]] w fun e w' => e = .returned (.int .i64 3) ∧ Below w.heap.size w w' := by
  have hk1 : ¬ k < 1 := by omega
  have hk9 : ¬ 9 < k := by omega
  go_enter func118, ntmps118
  go_wp2_with (go_at_call 141; refine (h91 _).mono ?_; clear h91; rintro _ w1 ⟨rfl, hb1⟩)
  go_ret
  exact ⟨rfl, ((Below.refl _ w).alloc (Nat.le_refl _) _).trans (hb1.mono (by simp))⟩
set_option maxRecDepth 100000 in
set_option maxHeartbeats 4000000 in
theorem out56 (k b c d e f : Int) (hk : ¬ (1 ≤ k ∧ k ≤ 9)) (w : World) : Calls prog 115 #[.agg #[.int .i64 k, .int .i64 b, .int .i64 c, .int .i64 d, .int .i64 e, .int .i64 f]] w fun e w' => e = .returned (.int .i64 1) ∧ Below w.heap.size w w' := by
  have h := in_calls k 1 9 (w.alloc (.cells #[.int .i64 k, .int .i64 b, .int .i64 c, .int .i64 d, .int .i64 e, .int .i64 f] 55))
  rw [df hk] at h
  go_enter func115, ntmps115
  go_wp2_with (go_at_call 94; refine h.mono ?_; clear h; rintro e w1 ⟨rfl, hb1⟩)
  go_ret
  exact ⟨rfl, ((Below.refl _ w).alloc (Nat.le_refl _) _).trans (hb1.mono (by simp))⟩
end
end Go.Proofs.Tryz

namespace Go.Proofs.Tryz
open Go Go.VM Go.RowKit
theorem run_store_func (P : Program) (w : World) (a : Addr) (m : Mode) (f : Fn) (x y : Array Value) : (store a (.func f x y) m).run P w = stored P w a (.func f x y) m := run_store P w a _ m rfl
theorem run_store_nilf (P : Program) (w : World) (a : Addr) (m : Mode) : (store a .nilFunc m).run P w = stored P w a .nilFunc m := run_store P w a _ m rfl
section
attribute [local go_sem] Oper.semAt_some run_store_func run_store_nilf
abbrev CB (f : Nat) (us : Array Value) (v : Value) : Prop := ∀ w : World, Calls prog f us w fun e w' => e = .returned v ∧ Below w.heap.size w w'
inductive Rl (n : Int) : Value → Option Bool → Prop
  | no : Rl n .nilFunc none
  | yes (f : Nat) (b : Bool) (hE : ∀ args w, (callFunc f args).run prog w = .ok (.enter f args) w) (h : CB f #[.int .i64 n] (.bool b)) : Rl n (.func (.func f) #[] #[]) (some b)
theorem box6 {w w1 : World} {t : TypeId} {v0 v1 v2 v3 v4 v5 : Value} (h : Below (w.alloc (.cells #[v0, v1, v2, v3, v4, v5] t)).heap.size (w.alloc (.cells #[v0, v1, v2, v3, v4, v5] t)) w1) :
    ∀ o, (w1.alloc o).cell? ⟨w.heap.size, 2, none⟩ = some v2 ∧ (w1.alloc o).cell? ⟨w.heap.size, 3, none⟩ = some v3 ∧ (w1.alloc o).cell? ⟨w.heap.size, 4, none⟩ = some v4 ∧ (w1.alloc o).cell? ⟨w.heap.size, 5, none⟩ = some v5 := by
  intro o
  have hs := h.size
  have q : (w1.alloc o).heap[w.heap.size]? = some (.cells #[v0, v1, v2, v3, v4, v5] t (0, 0)) := (Below.heap_alloc _ _ _ (by simp at hs; omega)).trans ((h.block w.heap.size (by simp)).trans (World.alloc_heap_new w _))
  refine ⟨?_, ?_, ?_, ?_⟩ <;> simp [World.cell?, q]
theorem box6z {w w1 : World} {t : TypeId} {v0 v1 v2 v3 v4 v5 : Value} (h : Below (w.alloc (.cells #[v0, v1, v2, v3, v4, v5] t)).heap.size (w.alloc (.cells #[v0, v1, v2, v3, v4, v5] t)) w1) :
    w1.cell? ⟨w.heap.size, 0, none⟩ = some v0 := by
  have q := (h.block w.heap.size (by simp)).trans (World.alloc_heap_new w _)
  simp [World.cell?, q]
theorem Rl.store {n : Int} {v : Value} {o : Option Bool} (h : Rl n v o) (w : World) (a : Addr) (m : Mode) : (Go.store a v m).run prog w = stored prog w a v m := by
  cases h
  · exact run_store_nilf _ _ _ _
  · exact run_store_func _ _ _ _ _ _ _
def res58 (os : List (Option Bool)) (ns : List Int) (e : Ending) : Prop :=
  (e = .returned (.int .i64 3) ∧ ∃ p, p < 4 ∧ os.getD p none = some false) ∨
  ((∀ p, p < 4 → os.getD p none ≠ some false) ∧ ((e = .returned (.int .i64 1) ∧ ∃ p, p < 4 ∧ os.getD p none = none ∧ ns.getD p 0 ≠ 0) ∨ (e = .returned (.int .i64 0) ∧ ∀ p, p < 4 → os.getD p none = none → ns.getD p 0 = 0)))
end
end Go.Proofs.Tryz
