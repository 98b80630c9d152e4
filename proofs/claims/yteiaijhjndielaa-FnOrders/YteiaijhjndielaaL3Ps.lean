/- A part of the proof of FnOrders: L3Ps. -/
import Derived.Test.YteiaijhjndielaaL3Pr
import Derived.Test.YteiaijhjndielaaL3Fb
set_option maxHeartbeats 0
set_option linter.unusedVariables false
set_option linter.unusedSimpArgs false
namespace Go.Proofs.Try
open Go Go.VM Go.RowKit

def m55 (x : List Int × List Int) : Option Bool := if x.1.length ≤ 1000000000000 ∧ x.2.length ≤ 1000000000000 then some (decide (x.1 = x.2)) else none
theorem p55 (L : Nat) (a b : List Int) (hl : a.length = b.length) (ha : a.length ≤ 1000000000000) (k : Option Bool) : ∀ (n i : Nat), i ≤ a.length → a.length < n + i →
    l55_0 L a b n i k = if a.drop i = b.drop i then k else some false
  | 0, i, h2, h3 => by omega
  | n + 1, i, h2, h3 => by
    unfold l55_0
    by_cases hi : i < a.length
    · simp (disch := omega) only [dt, df, wi, cond_true, Bool.and_self, Int.toNat_natCast]
      rw [drop_cons 0 hi, drop_cons 0 (show i < b.length by omega)]
      have := p55 L a b hl ha k n (i + 1) (by omega) (by omega)
      simp only [Int.natCast_add, Int.cast_ofNat_Int] at this
      rw [this]
      by_cases hx : a.getD i 0 = b.getD i 0
      · rw [hx]; simp
      · have h2 : (a.getD i 0 != b.getD i 0) = true := by simpa using hx
        rw [h2, if_neg (fun h => hx (List.cons.inj h).1)]
        rfl
    · simp (disch := omega) only [df, cond_false]
      rw [List.drop_eq_nil_of_le (by omega), List.drop_eq_nil_of_le (by omega)]
      simp
theorem sat55 : Sat prog cxT 55 (c55 m55) := s55 m55 fun x t h => by
  unfold m55 at h
  split at h
  · rename_i ha
    cases h
    refine ⟨x.1.length + 1, ?_⟩
    unfold g55
    by_cases hl : x.1.length = x.2.length
    · have e1 : ((Nat.cast x.1.length : Int) != (Nat.cast x.2.length : Int)) = false := by simp [hl]
      have := p55 (x.1.length + 1) x.1 x.2 hl ha.1 (some true) (x.1.length + 1) 0 (by omega) (by omega)
      rw [e1]
      simp only [cond_false]
      refine this.trans ?_
      simp only [List.drop_zero]
      split <;> simp [*]
    · have e1 : ((Nat.cast x.1.length : Int) != (Nat.cast x.2.length : Int)) = true := by simp; omega
      rw [e1]
      have : x.1 ≠ x.2 := fun h => hl (by rw [h])
      simp [this]
  · cases h

/-! markByteS, heldByteS -/
def mkI (k : Int) (n : Nat) : List Int := (List.range n).map fun (i : Nat) => k + (i : Int)
theorem mkI_len (k : Int) (n : Nat) : (mkI k n).length = n := by simp [mkI]
theorem mkI_get (k : Int) (n i : Nat) (h : i < n) : (mkI k n).getD i 0 = k + (i : Int) := by
  simp [mkI, List.getD, h]
def m56 (x : List Int × Int) : Option (Int × List Int) := if 0 ≤ x.2 ∧ x.2 ≤ 1000000000000 ∧ x.1.length ≤ 1000000000000 then some (x.2 + x.1.length, mkI x.2 x.1.length) else none
theorem p56 (L : Nat) (a b : List Int) (c k0 : Int) (h0 : 0 ≤ k0) (h1 : k0 ≤ 1000000000000) (hb : b.length ≤ 1000000000000) (k : List Int → Int → Option (Int × List Int)) : ∀ (n i : Nat) (o : List Int), o.length = b.length → i ≤ b.length → b.length < n + i → o.take i = (mkI k0 b.length).take i →
    l56_0 L a c n o (k0 + i) i k = k (mkI k0 b.length) (k0 + b.length)
  | 0, i, o, _, h3, h4, _ => by omega
  | n + 1, i, o, h2, h3, h4, h5 => by
    unfold l56_0
    by_cases hi : i < b.length
    · simp (disch := omega) only [dt, df, wi, cond_true, Bool.and_self, Int.toNat_natCast]
      have := p56 L a b c k0 h0 h1 hb k n (i + 1) (o.set i (k0 + i)) (by rw [List.length_set]; exact h2) (by omega) (by omega) (by
        rw [List.take_add_one, List.take_add_one, List.take_set_of_le (Nat.le_refl _), h5]
        congr 1
        rw [List.getElem?_set_self (by omega)]
        have := mkI_get k0 b.length i hi
        have hl : i < (mkI k0 b.length).length := by rw [mkI_len]; exact hi
        simp only [List.getD, List.getElem?_eq_getElem hl, Option.getD_some] at this
        rw [List.getElem?_eq_getElem hl, this])
      simp only [Int.natCast_add, Int.cast_ofNat_Int] at this
      rw [show k0 + (i : Int) + 1 = k0 + ((i : Int) + 1) by omega]
      exact this
    · simp (disch := omega) only [df, cond_false]
      have hil : i = b.length := by omega
      have : o = mkI k0 b.length := by
        rw [hil] at h5
        rw [← h2, List.take_length, h2] at h5
        rw [h5]
        exact List.take_of_length_le (by rw [mkI_len]; exact Nat.le_refl _)
      rw [this, hil]
theorem sat56 : SatW prog cxT 56 (c56 m56).nres (c56 m56).n (c56 m56).F := s56 m56 fun x t h => by
  obtain ⟨a, k⟩ := x
  unfold m56 at h
  split at h
  · rename_i hc
    obtain ⟨h1, h2, h3⟩ := hc
    simp only at h1 h2 h3 h
    cases h
    refine ⟨a.length + 1, ?_⟩
    unfold g56
    have := p56 (a.length + 1) a a k k h1 h2 h3 (fun o k => some (k, o)) (a.length + 1) 0 a rfl (by omega) (by omega) rfl
    simpa using this
  · cases h

def m57 (x : List Int × Int) : Option Int := if 0 ≤ x.2 ∧ x.2 ≤ 1000000000000 ∧ x.1.length ≤ 1000000000000 ∧ x.1 = mkI x.2 x.1.length then some (x.2 + x.1.length) else none
theorem p57 (L : Nat) (a : List Int) (c k0 : Int) (h0 : 0 ≤ k0) (h1 : k0 ≤ 1000000000000) (hb : a.length ≤ 1000000000000) (ha : ∀ i, i < a.length → a.getD i 0 = k0 + i) (k : Int → Option Int) : ∀ (n i : Nat), i ≤ a.length → a.length < n + i →
    l57_0 L a c n (k0 + i) i k = k (k0 + a.length)
  | 0, i, h3, h4 => by omega
  | n + 1, i, h3, h4 => by
    unfold l57_0
    by_cases hi : i < a.length
    · simp (disch := omega) only [dt, df, wi, cond_true, Bool.and_self, Int.toNat_natCast]
      rw [bneF (ha i hi)]
      have := p57 L a c k0 h0 h1 hb ha k n (i + 1) (by omega) (by omega)
      simp only [Int.natCast_add, Int.cast_ofNat_Int] at this
      rw [show k0 + (i : Int) + 1 = k0 + ((i : Int) + 1) by omega]
      exact this
    · simp (disch := omega) only [df, cond_false]
      rw [show i = a.length by omega]
theorem sat57 : Sat prog cxT 57 (c57 m57) := s57 m57 fun x t h => by
  obtain ⟨a, k⟩ := x
  unfold m57 at h
  split at h
  · rename_i hc
    obtain ⟨h1, h2, h3, h4⟩ := hc
    simp only at h1 h2 h3 h4 h
    cases h
    refine ⟨a.length + 1, ?_⟩
    unfold g57
    have := p57 (a.length + 1) a k k h1 h2 h3 (fun i hi => by
      have e := mkI_get k a.length i hi
      rw [← h4] at e
      exact e) (fun k => some k) (a.length + 1) 0 (by omega) (by omega)
    simpa using this
  · cases h

/-! results of bytes -/
def m32 (x : (Int × List Int) × Int) : Option (Int × Int × List Int) := if 0 ≤ x.2 ∧ x.2 ≤ 1000000000000 ∧ x.1.2.length ≤ 1000000000000 then some (x.2 + x.1.2.length, x.1.1, mkI x.2 x.1.2.length) else none
theorem sat32 : SatW prog cxT 32 (c32 m32).nres (c32 m32).n (c32 m32).F := s32 m56 sat56 m32 fun x t h => by
  obtain ⟨⟨c, a⟩, k⟩ := x
  unfold m32 at h
  split at h
  · rename_i hc
    cases h
    refine ⟨0, ?_⟩
    have e : m56 (a, k) = some (k + a.length, mkI k a.length) := if_pos hc
    unfold g32
    simp only [e, tst_some]
  · cases h
def m33 (x : (Int × List Int) × Int) : Option Int := m57 (x.1.2, x.2)
theorem sat33 : Sat prog cxT 33 (c33 m33) := s33 m57 sat57 m33 fun x t h => by
  obtain ⟨⟨c, a⟩, k⟩ := x
  have h : m57 (a, k) = some t := h
  refine ⟨0, ?_⟩
  unfold g33
  simp only [h, tst_some]
  have : ¬ t < 0 := by
    unfold m57 at h
    split at h
    · rename_i hc
      cases h
      have := hc.1
      simp only at this ⊢
      omega
    · cases h
  rw [df this]
  rfl
def m31 (x : (Int × List Int) × Int × List Int) : Option Bool := if x.1.2.length ≤ 1000000000000 ∧ x.2.2.length ≤ 1000000000000 then some (decide (x.1 = x.2)) else none
theorem sat31 : Sat prog cxT 31 (c31 m31) := s31 m55 sat55 m31 fun x t h => by
  obtain ⟨⟨c, a⟩, d, b⟩ := x
  unfold m31 at h
  split at h
  · rename_i hc
    cases h
    refine ⟨0, ?_⟩
    unfold g31
    have e : m55 (a, b) = some (decide (a = b)) := if_pos hc
    simp only [e, tst_some]
    by_cases h1 : c = d
    · rw [bneF h1]
      by_cases h2 : a = b <;> simp [h1, h2]
    · rw [bneT h1]
      simp [h1]
  · cases h


/-! spec.Permutation -/
def m40 (x : Int × Int) : Option Int := if 0 ≤ x.2 ∧ x.2 ≤ 30 then some ((offI x.1 + x.2 * skipI x.1) % 31) else none
theorem sat40 : Sat prog cxT 40 (c40 m40) := s40 mOffI mSkipI sat58 sat59 m40 fun x t h => by
  obtain ⟨a, k⟩ := x
  unfold m40 at h
  split at h
  · rename_i hc
    simp only at hc
    cases h
    refine ⟨0, ?_⟩
    unfold g40
    have h1 := off_in a
    obtain ⟨j, rfl⟩ := Int.eq_ofNat_of_zero_le hc.1
    have h2 := mul_in (k := j) (by omega) (skip_in a)
    simp only [mOffI, mSkipI, tst_some]
    rw [wi (x := (j : Int) * skipI a) (by omega) (by omega), wi (by omega) (by omega), Int.tmod_eq_emod_of_nonneg (by omega)]
  · cases h
theorem m40_at (a : Int) {k : Nat} (hk : k < 31) : m40 (a, (k : Int)) = some (pl a k) := if_pos ⟨by simp only; omega, by simp only; omega⟩
theorem loop14 (L : Nat) (a x z : Int) (y : List Int) (K : Int → List Int → Int → List Int → Option (Int × List Int)) : ∀ (n k : Nat), k ≤ 31 → 31 < n + k →
    l14_0 mName m40 L a n x y z (upto (pl a) k) (k : Int) K = K x y z (upto (pl a) 31)
  | 0, k, h1, h2 => by omega
  | n + 1, k, h1, h2 => by
    rw [l14_0]
    by_cases hk : k < 31
    · rw [dt (by omega), cond_true, m40_at a hk, tst_some, dt (by rw [upto_length]; simp; omega), cond_true]
      have w : IntKind.wrap .i64 ((k : Int) + 1) = ((k + 1 : Nat) : Int) := by rw [wi (by omega) (by omega)]; omega
      rw [w, ← upto_succ]
      exact loop14 L a x z y K n (k + 1) (by omega) (by omega)
    · obtain rfl : k = 31 := by omega
      rw [df (by omega), cond_false]
theorem sat14 : Sat prog cxT 14 (c14 mPerm) := s14 mName m40 sat39 sat40 mPerm fun x t h => by
  cases h
  refine ⟨32, ?_⟩
  unfold g14
  rw [show mName x = some (decide (isN x)) from rfl, tst_some]
  unfold permI
  by_cases hn : isN x
  · rw [dt hn, if_pos hn]
    simp only [Bool.not_true, cond_false]
    exact loop14 32 x 0 0 [] _ 32 0 (by omega) (by omega)
  · rw [df hn, if_neg hn]
    rfl

/-! FnExactPermutation -/
theorem permI_len (a : Int) : (permI a).2.length ≤ 31 := by
  unfold permI
  split
  · simp only; rw [upto_length]; omega
  · simp
theorem mark_held (a : List Int) (k : Int) (h0 : 0 ≤ k) (h1 : k ≤ 1000000000000) (h2 : a.length ≤ 1000000000000) : m57 (mkI k a.length, k) = some (k + a.length) := by
  unfold m57
  rw [if_pos ⟨h0, h1, by show (mkI k a.length).length ≤ _; rw [mkI_len]; exact h2, by show mkI k a.length = mkI k (mkI k a.length).length; rw [mkI_len]⟩]
  simp only [mkI_len]
def m8 (x : Int) : Option Bool := some true
theorem sat8 : Sat prog cxT 8 (c8 m8) := s8 mPerm mPerm m31 m32 m33 sat14 sat13 sat31 sat32 sat33 m8 fun x t h => by
  cases h
  refine ⟨0, ?_⟩
  have hl := permI_len x
  have e1 : mPerm x = some (permI x) := rfl
  generalize permI x = p at e1 hl
  obtain ⟨c, a⟩ := p
  simp only at hl
  have e31 : m31 ((c, a), c, a) = some true := (if_pos ⟨by show a.length ≤ 1000000000000; omega, by show a.length ≤ 1000000000000; omega⟩).trans (by simp)
  have e32 : m32 ((c, a), 1) = some ((1 : Int) + (a.length : Int), c, mkI 1 a.length) := if_pos ⟨by show (0 : Int) ≤ 1; decide, by show (1 : Int) ≤ 1000000000000; decide, by show a.length ≤ 1000000000000; omega⟩
  have e33 : m33 ((c, mkI 1 a.length), 1) = some ((1 : Int) + (a.length : Int)) := mark_held a 1 (by decide) (by decide) (by omega)
  unfold g8
  simp (disch := omega) only [e1, e31, e32, e33, tst_some, cond_true, cond_false, Bool.not_true, df, bneF]
end Go.Proofs.Try
