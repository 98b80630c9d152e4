/- A part of the proof of FnExactVerdictFor: LqPa, LqPb. -/
import Derived.Test.YtklmlomaleaaaaaLqPce
import Derived.Test.YtklmlomaleaaaaaLqFb
set_option linter.unusedVariables false
set_option maxHeartbeats 0
set_option linter.unusedVariables false
set_option linter.unusedSimpArgs false
namespace Go.Proofs.Try
open Go Go.VM Go.RowKit

/-! ### Healths -/
abbrev Hl := Int × Bool × Int
def hB (b : Bool) : Int := if b then 3 else 2
def hF (h : Hl) : Int := if nmOk h.1 = true ∧ 0 ≤ h.2.2 ∧ h.2.2 ≤ hB h.2.1 - 1 then 0 else 3
def mIn (x : Int × Int × Int) : Option Bool := some (decide (x.2.1 ≤ x.1 ∧ x.1 ≤ x.2.2))
theorem pIn (a b c : Int) : (bif (decide (a ≥ b)) then some (decide (a ≤ c)) else some Bool.false) = some (decide (b ≤ a ∧ a ≤ c)) := by
  by_cases h1 : b ≤ a
  · rw [dt (show a ≥ b from h1), cond_true]
    by_cases h2 : a ≤ c
    · rw [dt h2, dt ⟨h1, h2⟩]
    · rw [df h2, df (fun h => h2 h.2)]
  · rw [df (show ¬ a ≥ b from h1), cond_false, df (fun h => h1 h.1)]
theorem sat41' : Sat prog cxT 41 (c41 mIn) := sat41
theorem sat44 : Sat prog cxT 44 (c44 mIn) := s44 mIn fun x t h => by
  obtain ⟨a, b, c⟩ := x
  cases h; exact ⟨0, pIn a b c⟩
def mN (x : Int) : Option Bool := some (nmOk x)
theorem sat40' : Sat prog cxT 40 (c40 mN) := sat40
theorem sat43' : Sat prog cxT 43 (c43 mN) := sat43
/-- One answer. -/
def pS (x : Hl × Bool) : Int × Bool × Int × Bool :=
  if x.2 = x.1.2.1 then (x.1.1, x.1.2.1, 0, false) else if x.1.2.2 + 1 = hB x.1.2.1 then (x.1.1, !x.1.2.1, 0, true) else (x.1.1, x.1.2.1, x.1.2.2 + 1, false)
def m46 (x : Hl × Bool) : Option (Int × Bool × Int × Bool) := if hF x.1 = 0 then some (pS x) else none
theorem beqB {a b : Bool} (h : a = b) : (a == b) = true := by subst h; cases a <;> rfl
theorem beqBn {a b : Bool} (h : ¬ a = b) : (a == b) = false := by cases a <;> cases b <;> simp_all
/-! The laws FnExactHealthFault and FnExactProbeHealth -/
def m3 (h : Hl) : Option Bool := some true
def m4 (x : Hl × Bool) : Option Bool := some true
/-! ### Many answers -/
end Go.Proofs.Try

set_option maxHeartbeats 0
set_option linter.unusedVariables false
set_option linter.unusedSimpArgs false
namespace Go.Proofs.Try
open Go Go.VM Go.RowKit

/-! ### Lists of answers and of verdicts -/
def m17 (a : List Bool) : Option (List Bool) := if a.length ≤ mid then some a else none
def m19 (x : List Bool × List Bool) : Option Bool := if x.1.length ≤ big then some (decide (x.1 = x.2)) else none
/-! Verdicts -/
def dVd : Vd := ((0 : Int), ((0 : Int), (Bool.false, (0 : Int))))
theorem sat48 : Sat prog cxT 48 (c48 fun b => some b) := s48 _ fun x t h => by
  obtain ⟨a, b, c, d⟩ := x; cases h; exact ⟨0, rfl⟩
theorem el22 (L : Nat) (a : List Vd) : ∀ (n : Nat) (o : List Vd) (i : Int) (k : List Vd → Option (List Vd)), l22_0 (fun b => some b) L a n o i k = toL dVd (fun b => some b) a n o i k
  | 0, _, _, _ => rfl
  | n + 1, o, i, k => by unfold l22_0 toL; simp only [el22 L a n]; rfl
def m22 (a : List Vd) : Option (List Vd) := if a.length ≤ mid then some a else none
theorem sat22 : Sat prog cxT 22 (c22 m22) := s22 _ sat48 m22 fun x t h => by
  unfold m22 at h
  split at h
  · rename_i ha
    cases h
    refine ⟨x.length + 1, ?_⟩
    unfold g22
    rw [make_ok ha, cond_true, el22, Int.toNat_natCast]
    unfold mid at ha
    exact toL_ok dVd _ x (by omega) (fun v hv => rfl) _ _ 0 _ (by simp) (by omega) (by omega) rfl
  · cases h
theorem bifneB {a b : Bool} {o : Option Bool} {p : Prop} [Decidable p] (h : a = b → o = some (decide p)) (h2 : ¬ a = b → ¬ p) : (bif !(a == b) then some false else o) = some (decide p) := by
  by_cases e : a = b
  · rw [beqB e, Bool.not_true, cond_false, h e]
  · rw [beqBn e, Bool.not_false, cond_true, df (h2 e)]
theorem sat50 : Sat prog cxT 50 (c50 fun x => some (decide (x.1 = x.2))) := s50 _ fun x t h => by
  obtain ⟨⟨a, b, c, d⟩, a', b', c', d'⟩ := x
  cases h
  refine ⟨0, ?_⟩
  show g50 0 a b c d a' b' c' d' = some (decide ((a, b, c, d) = (a', b', c', d')))
  unfold g50
  refine bifeq (fun e1 => ?_) (fun e h => by simp at h; exact e h.1)
  refine bifeq (fun e2 => ?_) (fun e h => by simp at h; exact e h.2.1)
  refine bifneB (fun e3 => ?_) (fun e h => by simp at h; exact e h.2.2.1)
  refine bifeq (fun e4 => ?_) (fun e h => by simp at h; exact e h.2.2.2)
  subst e1 e2 e3 e4
  simp
theorem el24 (L : Nat) (a b : List Vd) : ∀ (n : Nat) (i : Int) (k : Option Bool), l24_0 (fun x => some (decide (x.1 = x.2))) L a b n i k = eqL dVd (fun x => some (decide (x.1 = x.2))) a b n i k
  | 0, _, _ => rfl
  | n + 1, i, k => by unfold l24_0 eqL; simp only [el24 L a b n]; rfl
def m24 (x : List Vd × List Vd) : Option Bool := if x.1.length ≤ big then some (decide (x.1 = x.2)) else none
theorem sat24 : Sat prog cxT 24 (c24 m24) := s24 _ sat50 m24 fun x t h => by
  obtain ⟨a, b⟩ := x
  unfold m24 at h
  split at h
  · rename_i hc
    cases h
    have hc1 : a.length ≤ 1000000000000 := hc
    refine ⟨a.length + 1, ?_⟩
    show g24 _ (a.length + 1) a b = some (decide (a = b))
    unfold g24
    refine bifeq (fun e => ?_) fun e h => e (by rw [h])
    rw [el24]
    refine (eqL_ok dVd _ a b (by omega) (by omega) (fun x hx y _ => rfl) _ _ 0 (by omega) (by omega)).trans ?_
    simp only [List.drop_zero]
    split <;> rename_i hh <;> simp [hh]
  · cases h
def m20 (x : List Vd × Int) : Option Int := if 0 ≤ x.2 ∧ x.2 ≤ 1048576 ∧ x.1.length ≤ top then some (szv x.2 x.1.length) else none
theorem sat20 : Sat prog cxT 20 (c20 m20) := s20 m20 fun x t h => by
  obtain ⟨a, v⟩ := x
  unfold m20 at h
  split at h
  · rename_i hc; cases h; exact ⟨0, szv_eq hc.1 hc.2.1 hc.2.2⟩
  · cases h
def vdOk (v : Vd) : Bool := decide (0 ≤ v.1 ∧ v.1 ≤ 9) && nmOk v.2.1 && decide (0 ≤ v.2.2.2 ∧ v.2.2.2 ≤ 1000000)
theorem sat49 : Sat prog cxT 49 (c49 fun v => some (vdOk v)) := s49 mIn mN sat44 sat43' _ fun x t h => by
  obtain ⟨a, b, c, d⟩ := x
  cases h
  refine ⟨0, ?_⟩
  show g49 mIn mN 0 a b c d = some (vdOk (a, b, c, d))
  unfold g49 vdOk mIn mN
  simp only [tst_some]
  cases decide (0 ≤ a ∧ a ≤ 9) <;> cases nmOk b <;> cases decide (0 ≤ d ∧ d ≤ 1000000) <;> rfl
def vsF (l : List Vd) : Int := if l.length > 60 then 2 else if l.all vdOk = true then 0 else 3
def mVF (l : List Vd) : Option Int := if l.length ≤ big then some (vsF l) else none
theorem lp23 (L : Nat) (l : List Vd) (hl : l.length ≤ 1000) : ∀ (n i : Nat), i ≤ l.length → l.length < n + i → l23_0 (fun v => some (vdOk v)) L l n i (some 0) = some (if (l.drop i).all vdOk = true then 0 else 3)
  | 0, i, h1, h2 => by omega
  | n + 1, i, h1, h2 => by
    unfold l23_0
    by_cases hi : i < l.length
    · rw [dt (show (i : Int) < (l.length : Int) by omega), dt (show (0 : Int) ≤ (i : Int) by omega), Bool.and_self, cond_true, cond_true, Int.toNat_natCast, wi (by omega) (by omega), show ((i : Int) + 1) = ((i + 1 : Nat) : Int) by omega]
      rw [lp23 L l hl n (i + 1) (by omega) (by omega), List.drop_eq_getElem_cons hi, List.all_cons]
      show tst (some (vdOk (List.getD l i dVd))) false _ = _
      rw [tst_some, getD_at dVd hi]
      generalize (List.drop (i + 1) l).all vdOk = Q
      cases vdOk l[i] <;> cases Q <;> rfl
    · rw [df (show ¬ (i : Int) < (l.length : Int) by omega), cond_false, List.drop_eq_nil_of_le (by omega)]
      rfl
theorem sat23 : Sat prog cxT 23 (c23 mVF) := s23 _ sat49 mVF fun l t h => by
  unfold mVF at h
  split at h
  · cases h
    refine ⟨1000, ?_⟩
    unfold g23 vsF
    by_cases h1 : l.length > 60
    · rw [if_pos h1, dt (show (l.length : Int) > 60 by omega), cond_true]
    · rw [if_neg h1, df (show ¬ (l.length : Int) > 60 by omega), cond_false]
      exact lp23 1000 l (by omega) 1000 0 (by omega) (by omega)
  · cases h
theorem lp21 (L : Nat) (l : List Vd) (hl : l.length ≤ 1000) : ∀ (n i : Nat), i ≤ l.length → l.length < n + i → l21_0 mIn mN L l n i (some 0) = some (if (l.drop i).all vdOk = true then 0 else 3)
  | 0, i, h1, h2 => by omega
  | n + 1, i, h1, h2 => by
    unfold l21_0
    by_cases hi : i < l.length
    · rw [dt (show (i : Int) < (l.length : Int) by omega), dt (show (0 : Int) ≤ (i : Int) by omega), Bool.and_self, cond_true, cond_true, Int.toNat_natCast, wi (by omega) (by omega), show ((i : Int) + 1) = ((i + 1 : Nat) : Int) by omega]
      rw [lp21 L l hl n (i + 1) (by omega) (by omega), List.drop_eq_getElem_cons hi, List.all_cons, show (((0 : Int), ((0 : Int), (Bool.false, (0 : Int)))) : Vd) = dVd from rfl]
      rw [getD_at dVd hi]
      generalize (List.drop (i + 1) l).all vdOk = Q
      generalize l[i] = v
      unfold mIn mN vdOk
      simp only [tst_some]
      cases decide (0 ≤ v.1 ∧ v.1 ≤ 9) <;> cases nmOk v.2.1 <;> cases decide (0 ≤ v.2.2.2 ∧ v.2.2.2 ≤ 1000000) <;> cases Q <;> rfl
    · rw [df (show ¬ (i : Int) < (l.length : Int) by omega), cond_false, List.drop_eq_nil_of_le (by omega)]
      rfl
theorem sat21 : Sat prog cxT 21 (c21 mVF) := s21 mIn mN sat41' sat40' mVF fun l t h => by
  unfold mVF at h
  split at h
  · cases h
    refine ⟨1000, ?_⟩
    unfold g21 vsF
    by_cases h1 : l.length > 60
    · rw [if_pos h1, dt (show (l.length : Int) > 60 by omega), cond_true]
    · rw [if_neg h1, df (show ¬ (l.length : Int) > 60 by omega), cond_false]
      exact lp21 1000 l (by omega) 1000 0 (by omega) (by omega)
  · cases h
/-! The law FnExactVerdictsFault -/
end Go.Proofs.Try
