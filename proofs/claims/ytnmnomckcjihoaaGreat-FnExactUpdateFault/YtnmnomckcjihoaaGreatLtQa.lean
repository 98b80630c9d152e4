/- A part of the proof of FnExactUpdateFault: LtQa, LtQb, LtQd. -/
import Derived.Test.YtnmnomckcjihoaaGreatLtPe
import Derived.Test.YtnmnomckcjihoaaGreatLtFc
import Derived.WalkKit
import Derived.OwnWalkIn
import Derived.Below
import Derived.WalkMore
import Derived.Deep.LoopGhost
import Derived.RangeFuncRecord
set_option linter.unusedVariables false
set_option linter.unusedVariables false
set_option linter.unusedSimpArgs false
set_option maxRecDepth 100000
namespace Go.Proofs.Tryz
open Go Go.VM Go.RowKit

abbrev Cm := Int × Int × Int × Int × Int × Int
theorem beqF {a b : Int} (h : ¬ a = b) : (a == b) = false := by simpa using h
/-! ### Rules of commands: values of functions -/
def fnV (f : Nat) : Value := .func (.func f) #[] #[]
/-- The rules that a kind has, and what it does. -/
def ruL (k : Int) : List Value :=
  if k = 1 then [fnV 85, fnV 86, fnV 87, .nilFunc, fnV 97] else
  if k = 2 then [fnV 85, .nilFunc, fnV 87, .nilFunc, fnV 98] else
  if k = 3 then [fnV 85, .nilFunc, fnV 88, .nilFunc, fnV 99] else
  if k = 4 then [fnV 85, .nilFunc, .nilFunc, .nilFunc, fnV 100] else
  if k = 5 then [.nilFunc, fnV 86, fnV 89, fnV 90, fnV 101] else
  if k = 6 then [.nilFunc, fnV 86, fnV 89, fnV 90, fnV 102] else
  if k = 7 then [fnV 85, fnV 86, fnV 89, fnV 90, fnV 103] else
  if k = 8 then [fnV 85, fnV 86, fnV 89, fnV 90, fnV 104] else
  [fnV 85, .nilFunc, fnV 105, .nilFunc, fnV 106]
def F78 (l : List (A cxT.ty)) : Option (Bool × V cxT.ty) := match l with
  | [.inl (some (.inl (.int .i64 k)))] => if 1 ≤ k ∧ k ≤ 9 then some (true, .inl (.inr ((ruL k).map lv))) else none
  | _ => none
def ev78 : Env cxT := { Kc := kcOf [], Kw := kwOf [], lv := fun i => [], xv := fun i => none }
theorem i78_1 : evF prog ev78 (loopN 0) f78 [.inl (lv (.int .i64 1))] = some (.inl (.inr ((ruL 1).map lv))) := by kernel_rfl
theorem i78_2 : evF prog ev78 (loopN 0) f78 [.inl (lv (.int .i64 2))] = some (.inl (.inr ((ruL 2).map lv))) := by kernel_rfl
theorem i78_3 : evF prog ev78 (loopN 0) f78 [.inl (lv (.int .i64 3))] = some (.inl (.inr ((ruL 3).map lv))) := by kernel_rfl
theorem i78_4 : evF prog ev78 (loopN 0) f78 [.inl (lv (.int .i64 4))] = some (.inl (.inr ((ruL 4).map lv))) := by kernel_rfl
theorem i78_5 : evF prog ev78 (loopN 0) f78 [.inl (lv (.int .i64 5))] = some (.inl (.inr ((ruL 5).map lv))) := by kernel_rfl
theorem i78_6 : evF prog ev78 (loopN 0) f78 [.inl (lv (.int .i64 6))] = some (.inl (.inr ((ruL 6).map lv))) := by kernel_rfl
theorem i78_7 : evF prog ev78 (loopN 0) f78 [.inl (lv (.int .i64 7))] = some (.inl (.inr ((ruL 7).map lv))) := by kernel_rfl
theorem i78_8 : evF prog ev78 (loopN 0) f78 [.inl (lv (.int .i64 8))] = some (.inl (.inr ((ruL 8).map lv))) := by kernel_rfl
theorem i78_9 : evF prog ev78 (loopN 0) f78 [.inl (lv (.int .i64 9))] = some (.inl (.inr ((ruL 9).map lv))) := by kernel_rfl
theorem sat78 : Sat prog cxT 78 F78 := sat_of_ev cxT_ok cxT_pok (by rfl) (fn := f78) rfl fun xs r h => by
  unfold F78 at h
  split at h
  · rename_i k
    split at h
    · rename_i hk
      cases h
      refine ⟨ev78, 0, kok_nil, kwok_nil, ?_, .inl ?_⟩
      · have h9 : k = 1 ∨ k = 2 ∨ k = 3 ∨ k = 4 ∨ k = 5 ∨ k = 6 ∨ k = 7 ∨ k = 8 ∨ k = 9 := by omega
        rcases h9 with rfl | rfl | rfl | rfl | rfl | rfl | rfl | rfl | rfl
        · exact i78_1
        · exact i78_2
        · exact i78_3
        · exact i78_4
        · exact i78_5
        · exact i78_6
        · exact i78_7
        · exact i78_8
        · exact i78_9
      · unfold ruL
        repeat' split
        all_goals rfl
    · cases h
  · cases h

/-- What a kind needs. -/
def nd (k : Int) : Bool × Bool × Bool × Bool := (k != 5 && k != 6, k == 1 || (decide (5 ≤ k) && decide (k ≤ 8)), k != 4, decide (5 ≤ k) && decide (k ≤ 8))
def m50 (k : Int) : Option (Bool × Bool × Bool × Bool) := some (nd k)
theorem sat50 : Sat prog cxT 50 (c50 m50) := s50 _ sat34 m50 fun k t h => by
  cases h
  refine ⟨0, ?_⟩
  show g50 _ 0 k = some (nd k)
  unfold g50 nd
  simp only [tst_some]
  by_cases h5 : k = 5
  · subst h5; rfl
  by_cases h6 : k = 6
  · subst h6; rfl
  by_cases h1 : k = 1
  · subst h1; rfl
  have e5 : (k != 5) = true := bneT h5
  have e6 : (k != 6) = true := bneT h6
  have e1 : (k == 1) = false := beqF h1
  simp only [e5, e6, e1, cond_true, cond_false, Bool.true_and, Bool.false_or, Bool.and_self]
  by_cases a : 5 ≤ k <;> by_cases b : k ≤ 8 <;> simp [a, b]
end Go.Proofs.Tryz

set_option linter.unusedVariables false
set_option linter.unusedSimpArgs false
namespace Go.Proofs.Tryz
open Go Go.VM Go.RowKit
theorem res_one {w : World} {A0 N : Nat → Prop} {v u : Value} (h : ResV cxT w A0 N (.inl (.inl (lv v))) u) : u = v := by
  obtain ⟨fp, _, _, h⟩ := h
  exact h.1
theorem args3 {w : World} {S : Nat → Prop} (a b c : Int) : ArgAs cxT w S [.inl (lv (.int .i64 a)), .inl (lv (.int .i64 b)), .inl (lv (.int .i64 c))] [.int .i64 a, .int .i64 b, .int .i64 c] := ⟨rfl, fun j x u h1 h2 => by
  match j with
  | 0 => simp only [List.getElem?_cons_zero, Option.some.injEq] at h1 h2; subst h1; subst h2; exact rfl
  | 1 => simp only [List.getElem?_cons_succ, List.getElem?_cons_zero, Option.some.injEq] at h1 h2; subst h1; subst h2; exact rfl
  | 2 => simp only [List.getElem?_cons_succ, List.getElem?_cons_zero, Option.some.injEq] at h1 h2; subst h1; subst h2; exact rfl
  | j + 3 => simp at h1⟩
theorem in_calls (a b c : Int) (w : World) : Calls prog 34 #[.int .i64 a, .int .i64 b, .int .i64 c] w fun e w' => e = .returned (.bool (decide (b ≤ a ∧ a ≤ c))) ∧ Below w.heap.size w w' := by
  have := sat34 w (fun _ => False) [.inl (lv (.int .i64 a)), .inl (lv (.int .i64 b)), .inl (lv (.int .i64 c))] [.int .i64 a, .int .i64 b, .int .i64 c] (n34 (decide (b ≤ a ∧ a ≤ c))) (fun _ h => h.elim) (args3 a b c) rfl
  exact this.mono fun e w' ⟨u, he, hb, hr⟩ => ⟨by rw [he, res_one hr], hb⟩
section
attribute [local go_sem] Oper.semAt_some
set_option maxRecDepth 100000 in
set_option maxHeartbeats 4000000 in
theorem out58 (k b c d e f : Int) (hk : ¬ (1 ≤ k ∧ k ≤ 9)) (w : World) : Calls prog 59 #[.agg #[.int .i64 k, .int .i64 b, .int .i64 c, .int .i64 d, .int .i64 e, .int .i64 f]] w fun e w' => e = .returned (.int .i64 1) ∧ Below w.heap.size w w' := by
  go_enter func59, ntmps59
  by_cases h1 : k < 1
  · go_wp2
    go_ret
    exact ⟨rfl, (Below.refl _ _).alloc (Nat.le_refl _) _⟩
  · have h9 : 9 < k := by omega
    go_wp2
    go_ret
    exact ⟨rfl, (Below.refl _ _).alloc (Nat.le_refl _) _⟩
set_option maxRecDepth 100000 in
set_option maxHeartbeats 4000000 in
theorem bad58 (k b c d e f : Int) (hk : 1 ≤ k ∧ k ≤ 9) (hb : ¬ b = -1) (h91 : ∀ w : World, Calls prog 29 #[.int .i64 b] w fun e w' => e = .returned (.bool false) ∧ Below w.heap.size w w') (w : World) : Calls prog 59 #[.agg #[.int .i64 k, .int .i64 b, .int .i64 c, .int .i64 d, .int .i64 e, .int .i64 f]] w fun e w' => e = .returned (.int .i64 3) ∧ Below w.heap.size w w' := by
  have hk1 : ¬ k < 1 := by omega
  have hk9 : ¬ 9 < k := by omega
  go_enter func59, ntmps59
  go_wp2_with (go_at_call 29; refine (h91 _).mono ?_; clear h91; rintro _ w1 ⟨rfl, hb1⟩)
  go_ret
  exact ⟨rfl, ((Below.refl _ w).alloc (Nat.le_refl _) _).trans (hb1.mono (by simp))⟩
set_option maxRecDepth 100000 in
set_option maxHeartbeats 4000000 in
theorem out56 (k b c d e f : Int) (hk : ¬ (1 ≤ k ∧ k ≤ 9)) (w : World) : Calls prog 27 #[.agg #[.int .i64 k, .int .i64 b, .int .i64 c, .int .i64 d, .int .i64 e, .int .i64 f]] w fun e w' => e = .returned (.int .i64 1) ∧ Below w.heap.size w w' := by
  have h := in_calls k 1 9 (w.alloc (.cells #[.int .i64 k, .int .i64 b, .int .i64 c, .int .i64 d, .int .i64 e, .int .i64 f] 64))
  rw [df hk] at h
  go_enter func27, ntmps27
  go_wp2_with (go_at_call 34; refine h.mono ?_; clear h; rintro e w1 ⟨rfl, hb1⟩)
  go_ret
  exact ⟨rfl, ((Below.refl _ w).alloc (Nat.le_refl _) _).trans (hb1.mono (by simp))⟩
end
end Go.Proofs.Tryz

set_option linter.unusedVariables false
set_option linter.unusedSimpArgs false
namespace Go.Proofs.Tryz
open Go Go.VM Go.RowKit
theorem run_store_func (P : Program) (w : World) (a : Addr) (m : Mode) (f : Fn) (x y : Array Value) : (store a (.func f x y) m).run P w = stored P w a (.func f x y) m := run_store P w a _ m rfl
theorem run_store_nilf (P : Program) (w : World) (a : Addr) (m : Mode) : (store a .nilFunc m).run P w = stored P w a .nilFunc m := run_store P w a _ m rfl
section
attribute [local go_sem] Oper.semAt_some run_store_func run_store_nilf
abbrev CB (f : Nat) (us : Array Value) (v : Value) : Prop := ∀ w : World, Calls prog f us w fun e w' => e = .returned v ∧ Below w.heap.size w w'
/-- A value of a function, and what it asks of a number. -/
inductive Rl (n : Int) : Value → Option Bool → Prop
  | no : Rl n .nilFunc none
  | yes (f : Nat) (b : Bool) (hE : ∀ args w, (callFunc f args).run prog w = .ok (.enter f args) w) (h : CB f #[.int .i64 n] (.bool b)) : Rl n (.func (.func f) #[] #[]) (some b)
theorem box6 {w w1 : World} {t : TypeId} {v0 v1 v2 v3 v4 v5 : Value} (h : Below (w.alloc (.cells #[v0, v1, v2, v3, v4, v5] t)).heap.size (w.alloc (.cells #[v0, v1, v2, v3, v4, v5] t)) w1) :
    ∀ o, (w1.alloc o).cell? ⟨w.heap.size, 2, none⟩ = some v2 ∧ (w1.alloc o).cell? ⟨w.heap.size, 3, none⟩ = some v3 ∧ (w1.alloc o).cell? ⟨w.heap.size, 4, none⟩ = some v4 ∧ (w1.alloc o).cell? ⟨w.heap.size, 5, none⟩ = some v5 := by
  intro o
  have hs := h.size
  have q : (w1.alloc o).heap[w.heap.size]? = some (.cells #[v0, v1, v2, v3, v4, v5] t (0, 0)) := (Below.heap_alloc _ _ _ (by simp at hs; omega)).trans ((h.block w.heap.size (by simp)).trans (World.alloc_heap_new w _))
  refine ⟨?_, ?_, ?_, ?_⟩ <;> simp [World.cell?, q]
theorem box6z {w w1 : World} {t : TypeId} {v0 v1 v2 v3 v4 v5 : Value} (h : Below (w.alloc (.cells #[v0, v1, v2, v3, v4, v5] t)).heap.size (w.alloc (.cells #[v0, v1, v2, v3, v4, v5] t)) w1) :
    w1.cell? ⟨w.heap.size, 0, none⟩ = some v0 := by
  have q := (h.block w.heap.size (by simp)).trans (World.alloc_heap_new w _)
  simp [World.cell?, q]
theorem Rl.store {n : Int} {v : Value} {o : Option Bool} (h : Rl n v o) (w : World) (a : Addr) (m : Mode) : (Go.store a v m).run prog w = stored prog w a v m := by
  cases h
  · exact run_store_nilf _ _ _ _
  · exact run_store_func _ _ _ _ _ _ _
def res58 (os : List (Option Bool)) (ns : List Int) (e : Ending) : Prop :=
  (e = .returned (.int .i64 3) ∧ ∃ p, p < 4 ∧ os.getD p none = some false) ∨
  ((∀ p, p < 4 → os.getD p none ≠ some false) ∧ ((e = .returned (.int .i64 1) ∧ ∃ p, p < 4 ∧ os.getD p none = none ∧ ns.getD p 0 ≠ 0) ∨ (e = .returned (.int .i64 0) ∧ ∀ p, p < 4 → os.getD p none = none → ns.getD p 0 = 0)))
end
end Go.Proofs.Tryz
