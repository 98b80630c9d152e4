/- A part of the proof of FnHealths: LqPa, LqPb. -/
import Derived.Test.YtklmlomaleaaaaaLqPce
import Derived.Test.YtklmlomaleaaaaaLqFb
set_option maxHeartbeats 0
set_option linter.unusedVariables false
set_option linter.unusedSimpArgs false
namespace Go.Proofs.Try
open Go Go.VM Go.RowKit

/-! ### Healths -/
abbrev Hl := Int × Bool × Int
abbrev Hr := Int × Bool × Int × Bool × Int
def hB (b : Bool) : Int := if b then 3 else 2
def hF (h : Hl) : Int := if nmOk h.1 = true ∧ 0 ≤ h.2.2 ∧ h.2.2 ≤ hB h.2.1 - 1 then 0 else 3
def mIn (x : Int × Int × Int) : Option Bool := some (decide (x.2.1 ≤ x.1 ∧ x.1 ≤ x.2.2))
theorem pIn (a b c : Int) : (bif (decide (a ≥ b)) then some (decide (a ≤ c)) else some Bool.false) = some (decide (b ≤ a ∧ a ≤ c)) := by
  by_cases h1 : b ≤ a
  · rw [dt (show a ≥ b from h1), cond_true]
    by_cases h2 : a ≤ c
    · rw [dt h2, dt ⟨h1, h2⟩]
    · rw [df h2, df (fun h => h2 h.2)]
  · rw [df (show ¬ a ≥ b from h1), cond_false, df (fun h => h1 h.1)]
theorem sat41' : Sat prog cxT 41 (c41 mIn) := sat41
theorem sat44 : Sat prog cxT 44 (c44 mIn) := s44 mIn fun x t h => by
  obtain ⟨a, b, c⟩ := x
  cases h; exact ⟨0, pIn a b c⟩
def mN (x : Int) : Option Bool := some (nmOk x)
theorem sat40' : Sat prog cxT 40 (c40 mN) := sat40
theorem sat43' : Sat prog cxT 43 (c43 mN) := sat43
def mB (h : Hl) : Option Int := some (hB h.2.1)
theorem sat42 : Sat prog cxT 42 (c42 mB) := s42 mB fun x t h => by
  obtain ⟨a, b, c⟩ := x
  cases h; refine ⟨0, ?_⟩
  show g42 0 a b c = some (hB b)
  cases b <;> rfl
def mB2 (b : Bool) : Option Int := some (hB b)
theorem sat45 : Sat prog cxT 45 (c45 mB2) := s45 mB2 fun x t h => by
  cases h; refine ⟨0, ?_⟩
  show g45 0 x = some (hB x)
  cases x <;> rfl
theorem hB_r (b : Bool) : 2 ≤ hB b ∧ hB b ≤ 3 := by cases b <;> simp [hB]
def mHF (h : Hl) : Option Int := some (hF h)
theorem pHF (a : Int) (b : Bool) (c : Int) : (tst (mN a) false fun (q1 : Bool) => bif (!q1) then some (3 : Int) else tst (some (hB b)) (0 : Int) fun (q2 : Int) => tst (mIn (c, ((0 : Int), (Go.IntKind.wrap Go.IntKind.i64 (q2 - (1 : Int)))))) false fun (q3 : Bool) => bif (!q3) then some (3 : Int) else some (0 : Int)) = some (hF (a, b, c)) := by
  have := hB_r b
  simp only [mN, mIn, tst_some, hF]
  rw [wi (by omega) (by omega)]
  cases h1 : nmOk a
  · rfl
  · by_cases h2 : 0 ≤ c ∧ c ≤ hB b - 1
    · rw [if_pos ⟨rfl, h2⟩, dt h2]; rfl
    · rw [if_neg (fun h => h2 h.2), df h2]; rfl
theorem sat10 : Sat prog cxT 10 (c10 mHF) := s10 mN mB mIn sat40' sat42 sat41' mHF fun x t h => by
  obtain ⟨a, b, c⟩ := x
  cases h; exact ⟨0, pHF a b c⟩
theorem sat12 : Sat prog cxT 12 (c12 mHF) := s12 mN mB2 mIn sat43' sat45 sat44 mHF fun x t h => by
  obtain ⟨a, b, c⟩ := x
  cases h; exact ⟨0, pHF a b c⟩
/-- One answer. -/
def pS (x : Hl × Bool) : Int × Bool × Int × Bool :=
  if x.2 = x.1.2.1 then (x.1.1, x.1.2.1, 0, false) else if x.1.2.2 + 1 = hB x.1.2.1 then (x.1.1, !x.1.2.1, 0, true) else (x.1.1, x.1.2.1, x.1.2.2 + 1, false)
def hl4 (r : Int × Bool × Int × Bool) : Hl := (r.1, r.2.1, r.2.2.1)
theorem hF_zero {h : Hl} (h0 : hF h = 0) : nmOk h.1 = true ∧ 0 ≤ h.2.2 ∧ h.2.2 ≤ hB h.2.1 - 1 := by
  unfold hF at h0
  split at h0
  · assumption
  · cases h0
theorem pS_ok {h : Hl} (h0 : hF h = 0) (b : Bool) : hF (hl4 (pS (h, b))) = 0 := by
  obtain ⟨h1, h2, h3⟩ := hF_zero h0
  have r1 := hB_r h.2.1
  have r2 := hB_r (!h.2.1)
  unfold pS hl4
  simp only
  split
  · exact if_pos ⟨h1, by simp only; omega, by simp only; omega⟩
  · split
    · exact if_pos ⟨h1, by simp only; omega, by simp only; omega⟩
    · exact if_pos ⟨h1, by simp only; omega, by simp only; omega⟩
def m46 (x : Hl × Bool) : Option (Int × Bool × Int × Bool) := if hF x.1 = 0 then some (pS x) else none
theorem beqB {a b : Bool} (h : a = b) : (a == b) = true := by subst h; cases a <;> rfl
theorem beqBn {a b : Bool} (h : ¬ a = b) : (a == b) = false := by cases a <;> cases b <;> simp_all
theorem sat46 : Sat prog cxT 46 (c46 m46) := s46 mB sat42 m46 fun x t h => by
  obtain ⟨⟨a, b, c⟩, k⟩ := x
  unfold m46 at h
  split at h
  · rename_i h0
    cases h
    refine ⟨0, ?_⟩
    show g46 mB 0 a b c k = some (pS ((a, b, c), k))
    obtain ⟨h1, h2, h3⟩ := hF_zero h0
    have r1 := hB_r b
    simp only at h1 h2 h3
    unfold g46 pS mB
    simp only [tst_some]
    rw [wi (by omega) (by omega)]
    by_cases hk : k = b
    · rw [if_pos hk, beqB hk]; rfl
    · rw [if_neg hk, beqBn hk, cond_false]
      by_cases he : c + 1 = hB b
      · rw [if_pos he, beq_iff_eq.2 he]; rfl
      · rw [if_neg he, beq_eq_false_iff_ne.2 he]; rfl
  · cases h
def pM (x : Hl × Bool) : Hr := if hF x.1 = 0 then (0, (pS x).2.2.2, (pS x).1, (pS x).2.1, (pS x).2.2.1) else (3, false, 0, false, 0)
def mM (x : Hl × Bool) : Option Hr := some (pM x)
theorem hF_three {h : Hl} (h0 : ¬ hF h = 0) : hF h = 3 := by
  unfold hF at h0 ⊢
  split
  · rename_i hc; rw [if_pos hc] at h0; exact absurd rfl h0
  · rfl
theorem sat13 : Sat prog cxT 13 (c13 mM) := s13 mHF m46 sat10 sat46 mM fun x t h => by
  obtain ⟨⟨a, b, c⟩, k⟩ := x
  cases h
  refine ⟨0, ?_⟩
  show g13 mHF m46 0 a b c k = some (pM ((a, b, c), k))
  unfold g13 mHF pM
  simp only [tst_some]
  by_cases h0 : hF (a, b, c) = 0
  · rw [if_pos h0, h0, show m46 ((a, b, c), k) = some (pS ((a, b, c), k)) from if_pos h0, tst_some]; rfl
  · rw [if_neg h0, hF_three h0]; rfl
theorem sat14 : Sat prog cxT 14 (c14 mM) := s14 mHF mB2 sat12 sat45 mM fun x t h => by
  obtain ⟨⟨a, b, c⟩, k⟩ := x
  cases h
  refine ⟨0, ?_⟩
  show g14 mHF mB2 0 a b c k = some (pM ((a, b, c), k))
  unfold g14 mHF mB2 pM
  simp only [tst_some]
  by_cases h0 : hF (a, b, c) = 0
  · rw [if_pos h0, h0]
    obtain ⟨h1, h2, h3⟩ := hF_zero h0
    have r1 := hB_r b
    simp only at h1 h2 h3
    unfold pS
    simp only
    rw [wi (by omega) (by omega)]
    by_cases hk : k = b
    · rw [if_pos hk, beqB hk]; rfl
    · rw [if_neg hk, beqBn hk, cond_false]
      by_cases he : c + 1 = hB b
      · rw [if_pos he, df (show ¬ c + 1 < hB b by omega)]; rfl
      · rw [if_neg he, dt (show c + 1 < hB b by omega)]; rfl
  · rw [if_neg h0, hF_three h0]; rfl
/-! The laws FnExactHealthFault and FnExactProbeHealth -/
def m3 (h : Hl) : Option Bool := some true
def m4 (x : Hl × Bool) : Option Bool := some true
/-! ### Many answers -/
def stp (h : Hl) (b : Bool) : Hl := hl4 (pS (h, b))
def pL (h : Hl) (l : List Bool) : Hl := l.foldl stp h
def pK (x : Hl × List Bool) : Hr := if hF x.1 = 0 then (if x.2.length > 100 then (2, false, 0, false, 0) else (0, (!((pL x.1 x.2).2.1 == x.1.2.1)), pL x.1 x.2)) else (3, false, 0, false, 0)
def mK (x : Hl × List Bool) : Option Hr := if x.2.length ≤ big then some (pK x) else none
theorem lp18 (L : Nat) (a0 : Int) (a1 : Bool) (a2 : Int) (l : List Bool) (hl : l.length ≤ 1000) (r0 : Int) (r1 : Bool) (r2 : Int) (r3 : Bool) (r4 : Int) (k : Int → Bool → Int → Int → Bool → Int → Bool → Int → Option Hr) : ∀ (n i : Nat) (h : Hl), hF h = 0 → i ≤ l.length → l.length < n + i →
    l18_0 mHF mM L a0 a1 a2 l n h.1 h.2.1 h.2.2 r0 r1 r2 r3 r4 i k = k (pL h (l.drop i)).1 (pL h (l.drop i)).2.1 (pL h (l.drop i)).2.2 r0 r1 r2 r3 r4
  | 0, i, h, h0, h1, h2 => by omega
  | n + 1, i, h, h0, h1, h2 => by
    unfold l18_0
    by_cases hi : i < l.length
    · rw [dt (show (i : Int) < (l.length : Int) by omega), dt (show (0 : Int) ≤ (i : Int) by omega), Bool.and_self, cond_true, cond_true, Int.toNat_natCast, wi (by omega) (by omega), show ((i : Int) + 1) = ((i + 1 : Nat) : Int) by omega]
      rw [show mM ((h.1, h.2.1, h.2.2), List.getD l i false) = some (0, (pS (h, List.getD l i false)).2.2.2, stp h (List.getD l i false)) from congrArg some (if_pos h0), tst_some]
      rw [lp18 L a0 a1 a2 l hl r0 r1 r2 r3 r4 k n (i + 1) (stp h (List.getD l i false)) (pS_ok h0 _) (by omega) (by omega), List.drop_eq_getElem_cons hi, getD_at false hi]
      rfl
    · rw [df (show ¬ (i : Int) < (l.length : Int) by omega), cond_false, List.drop_eq_nil_of_le (by omega)]
      rfl
theorem sat18 : Sat prog cxT 18 (c18 mK) := s18 mHF mM sat12 sat14 mK fun x t h => by
  obtain ⟨⟨a, b, c⟩, l⟩ := x
  unfold mK at h
  split at h
  · rename_i hl
    cases h
    refine ⟨1000, ?_⟩
    show g18 mHF mM 1000 a b c l = some (pK ((a, b, c), l))
    unfold g18 pK
    rw [show mHF (a, b, c) = some (hF (a, b, c)) from rfl, tst_some]
    by_cases h0 : hF (a, b, c) = 0
    · rw [if_pos h0, h0, bneF rfl, cond_false]
      by_cases h1 : l.length > 100
      · rw [if_pos h1, dt (show (l.length : Int) > 100 by omega), cond_true]
      · rw [if_neg h1, df (show ¬ (l.length : Int) > 100 by omega), cond_false]
        rw [show ((0 : Int)) = ((0 : Nat) : Int) from rfl, lp18 1000 a b c l (by omega) _ _ _ _ _ _ 1000 0 (a, b, c) h0 (by omega) (by omega)]
        rfl
    · rw [if_neg h0, hF_three h0]; rfl
  · cases h
end Go.Proofs.Try

set_option maxHeartbeats 0
set_option linter.unusedVariables false
set_option linter.unusedSimpArgs false
namespace Go.Proofs.Try
open Go Go.VM Go.RowKit

/-! ### Lists of answers and of verdicts -/
def m17 (a : List Bool) : Option (List Bool) := if a.length ≤ mid then some a else none
def m19 (x : List Bool × List Bool) : Option Bool := if x.1.length ≤ big then some (decide (x.1 = x.2)) else none
/-! Verdicts -/
def m22 (a : List Vd) : Option (List Vd) := if a.length ≤ mid then some a else none
def m24 (x : List Vd × List Vd) : Option Bool := if x.1.length ≤ big then some (decide (x.1 = x.2)) else none
def m20 (x : List Vd × Int) : Option Int := if 0 ≤ x.2 ∧ x.2 ≤ 1048576 ∧ x.1.length ≤ top then some (szv x.2 x.1.length) else none
/-! The law FnExactVerdictsFault -/
end Go.Proofs.Try
