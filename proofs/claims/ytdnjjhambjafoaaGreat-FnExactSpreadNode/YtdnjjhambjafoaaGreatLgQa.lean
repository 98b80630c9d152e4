/- A part of the proof of FnExactSpreadNode: LgQa. -/
import Derived.Test.YtdnjjhambjafoaaGreatLgPa
set_option linter.unusedVariables false
set_option linter.unusedSimpArgs false
set_option maxRecDepth 100000
namespace Go.Proofs.Tryz
open Go Go.VM Go.RowKit
def fnV (f : Nat) : Value := .func (.func f) #[] #[]
def ruL (k : Int) : List Value :=
  if k = 1 then [fnV 157, fnV 158, fnV 159, .nilFunc, fnV 160] else
  if k = 2 then [fnV 157, .nilFunc, fnV 159, .nilFunc, fnV 161] else
  if k = 3 then [fnV 157, .nilFunc, fnV 162, .nilFunc, fnV 163] else
  if k = 4 then [fnV 157, .nilFunc, .nilFunc, .nilFunc, fnV 164] else
  if k = 5 then [.nilFunc, fnV 158, fnV 165, fnV 166, fnV 167] else
  if k = 6 then [.nilFunc, fnV 158, fnV 165, fnV 166, fnV 168] else
  if k = 7 then [fnV 157, fnV 158, fnV 165, fnV 166, fnV 169] else
  if k = 8 then [fnV 157, fnV 158, fnV 165, fnV 166, fnV 170] else
  [fnV 157, .nilFunc, fnV 171, .nilFunc, fnV 172]
def F142 (l : List (A cxT.ty)) : Option (Bool × V cxT.ty) := match l with
  | [.inl (some (.inl (.int .i64 k)))] => if 1 ≤ k ∧ k ≤ 9 then some (true, .inl (.inr ((ruL k).map lv))) else none
  | _ => none
def ev142 : Env cxT := { Kc := kcOf [], Kw := kwOf [], lv := fun i => [], xv := fun i => none }
theorem i142_1 : evF prog ev142 (loopN 0) f142 [.inl (lv (.int .i64 1))] = some (.inl (.inr ((ruL 1).map lv))) := by kernel_rfl
theorem i142_2 : evF prog ev142 (loopN 0) f142 [.inl (lv (.int .i64 2))] = some (.inl (.inr ((ruL 2).map lv))) := by kernel_rfl
theorem i142_3 : evF prog ev142 (loopN 0) f142 [.inl (lv (.int .i64 3))] = some (.inl (.inr ((ruL 3).map lv))) := by kernel_rfl
theorem i142_4 : evF prog ev142 (loopN 0) f142 [.inl (lv (.int .i64 4))] = some (.inl (.inr ((ruL 4).map lv))) := by kernel_rfl
theorem i142_5 : evF prog ev142 (loopN 0) f142 [.inl (lv (.int .i64 5))] = some (.inl (.inr ((ruL 5).map lv))) := by kernel_rfl
theorem i142_6 : evF prog ev142 (loopN 0) f142 [.inl (lv (.int .i64 6))] = some (.inl (.inr ((ruL 6).map lv))) := by kernel_rfl
theorem i142_7 : evF prog ev142 (loopN 0) f142 [.inl (lv (.int .i64 7))] = some (.inl (.inr ((ruL 7).map lv))) := by kernel_rfl
theorem i142_8 : evF prog ev142 (loopN 0) f142 [.inl (lv (.int .i64 8))] = some (.inl (.inr ((ruL 8).map lv))) := by kernel_rfl
theorem i142_9 : evF prog ev142 (loopN 0) f142 [.inl (lv (.int .i64 9))] = some (.inl (.inr ((ruL 9).map lv))) := by kernel_rfl
theorem sat142 : Sat prog cxT 142 F142 := sat_of_ev cxT_ok cxT_pok (by rfl) (fn := f142) rfl fun xs r h => by
  unfold F142 at h
  split at h
  · rename_i k
    split at h
    · rename_i hk
      cases h
      refine ⟨ev142, 0, kok_nil, kwok_nil, ?_, .inl ?_⟩
      · have h9 : k = 1 ∨ k = 2 ∨ k = 3 ∨ k = 4 ∨ k = 5 ∨ k = 6 ∨ k = 7 ∨ k = 8 ∨ k = 9 := by omega
        rcases h9 with rfl | rfl | rfl | rfl | rfl | rfl | rfl | rfl | rfl
        · exact i142_1
        · exact i142_2
        · exact i142_3
        · exact i142_4
        · exact i142_5
        · exact i142_6
        · exact i142_7
        · exact i142_8
        · exact i142_9
      · unfold ruL
        repeat' split
        all_goals rfl
    · cases h
  · cases h
def nd (k : Int) : Bool × Bool × Bool × Bool := (k != 5 && k != 6, k == 1 || (decide (5 ≤ k) && decide (k ≤ 8)), k != 4, decide (5 ≤ k) && decide (k ≤ 8))
def m135 (k : Int) : Option (Bool × Bool × Bool × Bool) := some (nd k)
theorem sat135 : Sat prog cxT 135 (c135 m135) := s135 _ sat94 m135 fun k t h => by
  cases h
  refine ⟨0, ?_⟩
  show g135 _ 0 k = some (nd k)
  unfold g135 nd
  simp only [tst_some]
  by_cases h5 : k = 5
  · subst h5; rfl
  by_cases h6 : k = 6
  · subst h6; rfl
  by_cases h1 : k = 1
  · subst h1; rfl
  have e5 : (k != 5) = true := bneT h5
  have e6 : (k != 6) = true := bneT h6
  have e1 : (k == 1) = false := beqF h1
  simp only [e5, e6, e1, cond_true, cond_false, Bool.true_and, Bool.false_or, Bool.and_self]
  by_cases a : 5 ≤ k <;> by_cases b : k ≤ 8 <;> simp [a, b]
end Go.Proofs.Tryz
