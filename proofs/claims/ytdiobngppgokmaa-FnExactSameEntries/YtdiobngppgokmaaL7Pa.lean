/- A part of the proof of FnExactSameEntries: L7Pa, L7Pb. -/
import Derived.Test.YtdiobngppgokmaaVmPl
import Derived.Test.YtdiobngppgokmaaL7Fa
import Derived.Test.YtdiobngppgokmaaL7Fc
import Derived.Test.YtdiobngppgokmaaL7Fd
set_option maxHeartbeats 0
set_option linter.unusedVariables false
set_option linter.unusedSimpArgs false
namespace Go.Proofs.Try
open Go Go.VM Go.RowKit

abbrev Cm := Int × Int × Int × Int × Int × Int

/-! ### Numbers -/
def nmOk (x : Int) : Bool := decide (1 ≤ x ∧ x ≤ 999)
def adOk (x : Int) : Bool := decide (0 ≤ x ∧ x ≤ 4294967295)
def wtOk (x : Int) : Bool := decide (0 ≤ x ∧ x ≤ 9)
def stOk (x : Int) : Bool := decide (1 ≤ x ∧ x ≤ 3)
def ptOk (x : Int) : Bool := decide (0 ≤ x ∧ x ≤ 65535)
def prOk (x : Int) : Bool := decide (x = 6 ∨ x = 17)
def vrOk (x : Int) : Bool := decide (0 ≤ x ∧ x ≤ 1000000)

def top : Nat := 9223372036854775807
def mid : Nat := 1000000000
theorem szv_eq {v : Int} {n : Nat} (h0 : 0 ≤ v) (h1 : v ≤ 1048576) (hn : n ≤ top) : (bif decide (IntKind.wrap .i64 (v - (n : Int)) < 0) then some (-1) else some (IntKind.wrap .i64 (v - (n : Int)))) = some (szv v n) := by
  unfold top at hn
  rw [wi (by omega) (by omega)]
  unfold szv
  by_cases h : v - (n : Int) < 0
  · rw [dt h, if_pos h]; rfl
  · rw [df h, if_neg h]; rfl
theorem make_ok {n : Nat} (h : n ≤ mid) : ((decide ((0 : Int) ≤ (n : Int)) && decide ((n : Int) ≤ (n : Int))) && decide ((n : Int) ≤ (1000000000 : Int))) = true := by
  unfold mid at h
  rw [dt (by omega), dt (Int.le_refl _), dt (by omega)]; rfl
theorem bifeq {α : Type} [DecidableEq α] [BEq α] [LawfulBEq α] {a b : α} {o : Option Bool} {p : Prop} [Decidable p] (h : a = b → o = some (decide p)) (h2 : ¬ a = b → ¬ p) : (bif a != b then some false else o) = some (decide p) := by
  by_cases e : a = b
  · rw [bneF e, cond_false, h e]
  · rw [bneT e, cond_true, df (h2 e)]
theorem bifn {b : Bool} : (bif !b then some false else some true) = some b := by cases b <;> rfl
theorem beqF {a b : Int} (h : ¬ a = b) : (a == b) = false := by simpa using h
end Go.Proofs.Try

set_option maxHeartbeats 0
set_option linter.unusedVariables false
set_option linter.unusedSimpArgs false
namespace Go.Proofs.Try
open Go Go.VM Go.RowKit

/-! ### Entries: what laws do with them -/
abbrev En := Int × Int × Int × Int × Int × Int × Int × Int × Int
def dEn : En := (0, 0, 0, 0, 0, 0, 0, 0, 0)
instance decCm : DecidableEq Cm := inferInstance
instance decE1 : DecidableEq (Int × Cm) := instDecidableEqProd
instance decE2 : DecidableEq (Int × Int × Cm) := instDecidableEqProd
instance decEn : DecidableEq En := (instDecidableEqProd : DecidableEq (Int × Int × Int × Cm))
theorem sat38 : Sat prog cxT 38 (c38 fun x => some x) := s38 _ fun x t h => by cases h; exact ⟨0, rfl⟩
theorem sat12 : Sat prog cxT 12 (c12 fun x => some x) := s12 _ sat38 _ fun x t h => by cases h; exact ⟨0, rfl⟩
theorem sat45 : Sat prog cxT 45 (c45 fun x => some (decide (x.1 = x.2))) := s45 _ fun x t h => by
  obtain ⟨⟨a, b, c, d, e, f⟩, a', b', c', d', e', f'⟩ := x
  cases h
  refine ⟨0, ?_⟩
  show g45 0 a b c d e f a' b' c' d' e' f' = _
  unfold g45
  refine bifeq (fun e1 => bifeq (fun e2 => bifeq (fun e3 => bifeq (fun e4 => bifeq (fun e5 => bifeq (fun e6 => ?_) ?_) ?_) ?_) ?_) ?_) ?_
  · simp [e1, e2, e3, e4, e5, e6]
  · intro e h; simp at h; exact e h.2.2.2.2.2
  · intro e h; simp at h; exact e h.2.2.2.2.1
  · intro e h; simp at h; exact e h.2.2.2.1
  · intro e h; simp at h; exact e h.2.2.1
  · intro e h; simp at h; exact e h.2.1
  · intro e h; simp at h; exact e h.1
theorem sat21 : Sat prog cxT 21 (c21 fun x => some (decide (x.1 = x.2))) := s21 _ sat45 _ fun x t h => by
  obtain ⟨⟨t, c, s, q⟩, t', c', s', q'⟩ := x
  cases h
  refine ⟨0, ?_⟩
  show g21 (fun x => some (decide (x.1 = x.2))) 0 t c s q.1 q.2.1 q.2.2.1 q.2.2.2.1 q.2.2.2.2.1 q.2.2.2.2.2 t' c' s' q'.1 q'.2.1 q'.2.2.1 q'.2.2.2.1 q'.2.2.2.2.1 q'.2.2.2.2.2 = _
  unfold g21
  refine bifeq (fun e1 => bifeq (fun e2 => bifeq (fun e3 => ?_) ?_) ?_) ?_
  · rw [tst_some, bifn]; subst e1; subst e2; subst e3
    show some (decide (q = q')) = _
    simp
  · intro e h; simp at h; exact e h.2.2.1
  · intro e h; simp at h; exact e h.2.1
  · intro e h; simp at h; exact e h.1
def m14 (x : List En × Int) : Option Int := if x.1.length ≤ top ∧ 0 ≤ x.2 ∧ x.2 ≤ 1048576 then some (szv x.2 (x.1.length : Int)) else none
theorem sat14 : Sat prog cxT 14 (c14 m14) := s14 m14 fun x t h => by
  obtain ⟨a, v⟩ := x
  unfold m14 at h
  split at h
  · rename_i hc
    cases h
    exact ⟨0, szv_eq hc.2.1 hc.2.2 hc.1⟩
  · cases h
theorem el16 (L : Nat) (a : List En) : ∀ (n : Nat) (o : List En) (i : Int) (k : List En → Option (List En)), l16_0 (fun x => some x) L a n o i k = toL dEn (fun x => some x) a n o i k
  | 0, _, _, _ => rfl
  | n + 1, o, i, k => by
    unfold l16_0 toL
    simp only [tst_some, el16 L a n]
    rfl
def m16 (a : List En) : Option (List En) := if a.length ≤ mid then some a else none
theorem sat16 : Sat prog cxT 16 (c16 m16) := s16 _ sat12 m16 fun x t h => by
  unfold m16 at h
  split at h
  · rename_i ha
    cases h
    refine ⟨x.length + 1, ?_⟩
    unfold g16
    have ha' : x.length ≤ 1000000000 := ha
    rw [make_ok ha, cond_true, el16]
    exact toL_ok dEn (fun x => some x) x (by omega) (fun _ _ => rfl) (fun w => some w) _ 0 _ (by simp) (by omega) (by omega) rfl
  · cases h
theorem el18 (L : Nat) (a b : List En) : ∀ (n : Nat) (i : Int) (k : Option Bool), l18_0 (fun x => some (decide (x.1 = x.2))) L a b n i k = eqL dEn (fun x => some (decide (x.1 = x.2))) a b n i k
  | 0, _, _ => rfl
  | n + 1, i, k => by
    unfold l18_0 eqL
    simp only [tst_some, el18 L a b n]
    rfl
def m18 (x : List En × List En) : Option Bool := if x.1.length ≤ 1000000000000 then some (decide (x.1 = x.2)) else none
theorem sat18 : Sat prog cxT 18 (c18 m18) := s18 _ sat21 m18 fun x t h => by
  obtain ⟨a, b⟩ := x
  unfold m18 at h
  split at h
  · rename_i hc
    cases h
    refine ⟨a.length + 1, ?_⟩
    show g18 _ (a.length + 1) a b = _
    unfold g18
    by_cases e : a.length = b.length
    · rw [bneF (show ((a.length : Nat) : Int) = (b.length : Int) by omega), cond_false, el18]
      refine (eqL_ok dEn _ a b e (by simp only at hc; omega) (fun x _ y _ => rfl) (some true) _ 0 (by omega) (by omega)).trans ?_
      simp only [List.drop_zero]
      split <;> rename_i hh <;> simp [hh]
    · rw [bneT (show ¬ ((a.length : Nat) : Int) = (b.length : Int) by omega), cond_true]
      simp only
      rw [df (fun h => e (by rw [h]))]
  · cases h

/-! ### Marks -/
def mkE (v : Int) : En := (v, v + 1, v + 2, v + 3, v + 4, v + 5, v + 6, v + 7, v + 8)
def m27 (x : List En × Int) : Option (Int × List En) := if x.1.length ≤ 1000000000 ∧ 0 ≤ x.2 ∧ x.2 ≤ 100000000000 then some (x.2 + 9 * (x.1.length : Int), mkR mkE 9 x.1.length x.2) else none
def m28 (x : (Int × List En) × Int) : Option (Int × Int × List En) := if x.1.2.length ≤ 1000000000 ∧ 0 ≤ x.2 ∧ x.2 ≤ 100000000000 then some (x.2 + 9 * (x.1.2.length : Int), x.1.1, mkR mkE 9 x.1.2.length x.2) else none
/-- Rows that were marked hold their marks. -/
def hdE (x : List En × Int) : Prop := x.1.length ≤ 1000000000 ∧ 0 ≤ x.2 ∧ x.2 ≤ 100000000000 ∧ x.1 = mkR mkE 9 x.1.length x.2
instance (x : List En × Int) : Decidable (hdE x) := by unfold hdE; infer_instance
def m29 (x : (Int × List En) × Int) : Option Int := if hdE (x.1.2, x.2) then some (x.2 + 9 * (x.1.2.length : Int)) else none
def m26 (x : (Int × List En) × (Int × List En)) : Option Bool := if x.1.2.length ≤ 1000000000000 then some (decide (x.1 = x.2)) else none
end Go.Proofs.Try
