/- A part of the proof of FnFrames: L1Pb. -/
import Derived.Test.YtggncacoajjjhaaL1Pa
set_option maxHeartbeats 0
set_option linter.unusedVariables false
set_option linter.unusedSimpArgs false
namespace Go.Proofs.Try
open Go Go.VM Go.RowKit

def nrm (t : Int) : Int := if t > 65535 then t - 65535 else t
def sw : List Int → Int → Int
  | [], h => h
  | [x], h => nrm (h + x * 256)
  | x :: y :: r, h => sw r (nrm (h + (x * 256 + y)))
theorem nrm_bound {t : Int} (h0 : 0 ≤ t) (h1 : t ≤ 131070) : 0 ≤ nrm t ∧ nrm t ≤ 65535 := by
  unfold nrm; split <;> omega
def sumW (a : List Int) : Int := 65535 - sw a 0
theorem sw_bound : ∀ (a : List Int) (h : Int), okB a = true → 0 ≤ h → h ≤ 65535 → 0 ≤ sw a h ∧ sw a h ≤ 65535
  | [], h, _, h0, h1 => ⟨h0, h1⟩
  | [x], h, hb, h0, h1 => by
    have hx := (okB_cons.1 hb).1
    exact nrm_bound (by omega) (by omega)
  | x :: y :: r, h, hb, h0, h1 => by
    have hx := (okB_cons.1 hb).1
    have hy := okB_cons.1 (okB_cons.1 hb).2
    have := nrm_bound (t := h + (x * 256 + y)) (by omega) (by omega)
    exact sw_bound r _ hy.2 this.1 this.2

theorem p20i (L : Nat) (a : List Int) (u v : Int) (k : Int → Option Int) (n : Nat) (t : Int) (h0 : 0 ≤ t) (h1 : t ≤ 131070) : l20_2 L a u v (n + 2) t k = k (nrm t) := by
  unfold l20_2
  by_cases ht : t > 65535
  · simp (disch := omega) only [dt, wi, cond_true]
    unfold l20_2
    simp (disch := omega) only [df, cond_false]
    unfold nrm
    rw [if_pos ht]
  · simp (disch := omega) only [df, cond_false]
    unfold nrm
    rw [if_neg ht]

theorem p20 (M : Nat) (a : List Int) (hb : okB a = true) (hl : a.length ≤ 1000000000000) (k : Int → Option Int) : ∀ (n i : Nat) (h : Int), i ≤ a.length + 1 → a.length + 1 < n + i → 0 ≤ h → h ≤ 65535 →
    l20_0 (M + 2) a n h i k = k (sw (a.drop i) h)
  | 0, i, h, h2, h3, _, _ => by
    omega
  | n + 1, i, h, h2, h3, h4, h5 => by
    unfold l20_0
    by_cases hi : i < a.length
    · have hx := okB_get hb hi
      have e1 : ((i : Int) + 1) = ((i + 1 : Nat) : Int) := by simp
      simp (disch := omega) only [dt, df, wi, cond_true, Bool.and_self, Int.toNat_natCast]
      rw [drop_cons 0 hi]
      by_cases hj : i + 1 < a.length
      · have hy := okB_get hb hj
        rw [e1]
        simp (disch := omega) only [dt, df, wi, cond_true, Bool.and_self, Int.toNat_natCast]
        rw [p20i _ _ _ _ _ _ _ (by omega) (by omega), drop_cons 0 hj]
        have hn := nrm_bound (t := h + 256 * a.getD i 0 + a.getD (i + 1) 0) (by omega) (by omega)
        have := p20 M a hb hl k n (i + 2) (nrm (h + 256 * a.getD i 0 + a.getD (i + 1) 0)) (by omega) (by omega) hn.1 hn.2
        simp only [Int.natCast_add, Int.cast_ofNat_Int] at this
        rw [this, show h + 256 * a.getD i 0 + a.getD (i + 1) 0 = h + (a.getD i 0 * 256 + a.getD (i + 1) 0) by omega]
        rfl
      · simp (disch := omega) only [df, cond_false]
        rw [p20i _ _ _ _ _ _ _ (by omega) (by omega), List.drop_eq_nil_of_le (show a.length ≤ i + 1 by omega)]
        have hn := nrm_bound (t := h + 256 * a.getD i 0) (by omega) (by omega)
        have := p20 M a hb hl k n (i + 2) (nrm (h + 256 * a.getD i 0)) (by omega) (by omega) hn.1 hn.2
        simp only [Int.natCast_add, Int.cast_ofNat_Int] at this
        rw [this, List.drop_eq_nil_of_le (show a.length ≤ i + 2 by omega), show h + 256 * a.getD i 0 = h + a.getD i 0 * 256 by omega]
        rfl
    · simp (disch := omega) only [df, cond_false]
      rw [List.drop_eq_nil_of_le (by omega)]
      rfl

def m20 (a : List Int) : Option Int := if okB a = true ∧ a.length ≤ 1000000000000 then some (sumW a) else none
theorem sat20 : Sat prog cxT 20 (c20 m20) := s20 m20 fun a t h => by
  unfold m20 at h
  split at h
  · rename_i hc
    cases h
    refine ⟨a.length + 2, ?_⟩
    unfold g20
    refine (p20 a.length a hc.1 hc.2 _ _ 0 0 (by omega) (by omega) (by omega) (by omega)).trans ?_
    have := sw_bound a 0 hc.1 (by omega) (by omega)
    simp (disch := omega) only [List.drop_zero, wi]
    rfl
  · cases h

/-! impl -/
def m50 (x : List Int × Int) : Option Int :=
  if okB x.1 = true ∧ x.1.length ≤ 1000000000000 ∧ 0 ≤ x.2 ∧ x.2 < x.1.length then
    some (x.1.getD x.2.toNat 0 * 256 + (if x.2.toNat + 1 < x.1.length then x.1.getD (x.2.toNat + 1) 0 else 0)) else none
theorem sat50 : Sat prog cxT 50 (c50 m50) := s50 m50 fun x t h => by
  obtain ⟨a, i⟩ := x
  unfold m50 at h
  split at h
  · rename_i hc
    obtain ⟨h1, h2, h3, h4⟩ := hc
    simp only at h1 h2 h3 h4 h
    cases h
    refine ⟨0, ?_⟩
    obtain ⟨i, rfl⟩ := Int.eq_ofNat_of_zero_le h3
    have hi : i < a.length := by omega
    have hx := okB_get h1 hi
    have e1 : ((i : Int) + 1) = ((i + 1 : Nat) : Int) := by simp
    unfold g50
    simp (disch := omega) only [dt, df, wi, cond_true, Bool.and_self, Int.toNat_natCast]
    by_cases hj : i + 1 < a.length
    · have hy := okB_get h1 hj
      rw [e1]
      simp (disch := omega) only [dt, df, wi, cond_true, Bool.and_self, Int.toNat_natCast, shl8, wu, or_byte, if_pos hj]
    · simp (disch := omega) only [df, cond_false, shl8, wu, if_neg hj, Int.add_zero]
  · cases h

theorem p18i (mm : List Int × Int → Option Int) (L : Nat) (a : List Int) (u v : Int) (k : Int → Option Int) (n : Nat) (t : Int) (h0 : 0 ≤ t) (h1 : t ≤ 131070) : l18_2 mm L a u v (n + 2) t k = k (nrm t) := by
  unfold l18_2
  by_cases ht : t > 65535
  · simp (disch := omega) only [dt, wu, cond_true]
    unfold l18_2
    simp (disch := omega) only [df, cond_false]
    unfold nrm
    rw [if_pos ht]
  · simp (disch := omega) only [df, cond_false]
    unfold nrm
    rw [if_neg ht]

theorem p18 (M : Nat) (a : List Int) (hb : okB a = true) (hl : a.length ≤ 1000000000000) (k : Int → Option Int) : ∀ (n i : Nat) (h : Int), i ≤ a.length + 1 → a.length + 1 < n + i → 0 ≤ h → h ≤ 65535 →
    l18_0 m50 (M + 2) a n h i k = k (sw (a.drop i) h)
  | 0, i, h, h2, h3, _, _ => by
    omega
  | n + 1, i, h, h2, h3, h4, h5 => by
    unfold l18_0
    by_cases hi : i < a.length
    · have hx := okB_get hb hi
      have e50 : m50 (a, (i : Int)) = some (a.getD i 0 * 256 + (if i + 1 < a.length then a.getD (i + 1) 0 else 0)) := by
        unfold m50
        rw [if_pos ⟨hb, hl, by show (0 : Int) ≤ (i : Int); omega, by show (i : Int) < (a.length : Int); omega⟩]
        rfl
      simp (disch := omega) only [dt, e50, wi, cond_true, Option.isSome_some, Option.getD_some]
      rw [drop_cons 0 hi]
      by_cases hj : i + 1 < a.length
      · have hy := okB_get hb hj
        simp (disch := omega) only [if_pos hj, wu]
        rw [p18i _ _ _ _ _ _ _ _ (by omega) (by omega), drop_cons 0 hj]
        have hn := nrm_bound (t := h + (a.getD i 0 * 256 + a.getD (i + 1) 0)) (by omega) (by omega)
        have := p18 M a hb hl k n (i + 2) (nrm (h + (a.getD i 0 * 256 + a.getD (i + 1) 0))) (by omega) (by omega) hn.1 hn.2
        simp only [Int.natCast_add, Int.cast_ofNat_Int] at this
        rw [this]
        rfl
      · simp (disch := omega) only [if_neg hj, wu, Int.add_zero]
        rw [p18i _ _ _ _ _ _ _ _ (by omega) (by omega), List.drop_eq_nil_of_le (show a.length ≤ i + 1 by omega)]
        have hn := nrm_bound (t := h + a.getD i 0 * 256) (by omega) (by omega)
        have := p18 M a hb hl k n (i + 2) (nrm (h + a.getD i 0 * 256)) (by omega) (by omega) hn.1 hn.2
        simp only [Int.natCast_add, Int.cast_ofNat_Int] at this
        rw [this, List.drop_eq_nil_of_le (show a.length ≤ i + 2 by omega)]
        rfl
    · simp (disch := omega) only [df, cond_false]
      rw [List.drop_eq_nil_of_le (by omega)]
      rfl

def m18 (a : List Int) : Option Int := if okB a = true ∧ a.length ≤ 1000000000000 then some (sumW a) else none
theorem sat18 : Sat prog cxT 18 (c18 m18) := s18 m50 sat50 m18 fun a t h => by
  unfold m18 at h
  split at h
  · rename_i hc
    cases h
    refine ⟨a.length + 2, ?_⟩
    unfold g18
    refine (p18 a.length a hc.1 hc.2 _ _ 0 0 (by omega) (by omega) (by omega) (by omega)).trans ?_
    have := sw_bound a 0 hc.1 (by omega) (by omega)
    simp (disch := omega) only [List.drop_zero, wi]
    rfl
  · cases h

def m19 (a : List Int) : Option Bool := if okB a = true ∧ a.length ≤ 1000000000000 then some (sumW a == 0) else none
theorem sat19 : Sat prog cxT 19 (c19 m19) := s19 m18 sat18 m19 fun a t h => by
  unfold m19 at h
  split at h
  · rename_i hc
    cases h
    refine ⟨0, ?_⟩
    unfold g19 m18
    rw [if_pos hc]
    rfl
  · cases h
def m33 (a : List Int) : Option Bool := if okB a = true ∧ a.length ≤ 1000000000000 then some (sumW a == 0) else none
theorem sat33 : Sat prog cxT 33 (c33 m33) := s33 m20 sat20 m33 fun a t h => by
  unfold m33 at h
  split at h
  · rename_i hc
    cases h
    refine ⟨0, ?_⟩
    unfold g33 m20
    rw [if_pos hc]
    rfl
  · cases h

def mOk (x : List Int) : Option Bool := if okB x = true then some true else none
theorem m32_self {a : List Int} (h : (a.length : Int) ≤ 1048576) : m32 (a, a) = some true := (if_pos ⟨by show a.length ≤ 1000000000000; omega, by show a.length ≤ 1000000000000; omega⟩).trans (by simp)
theorem sat8 : Sat prog cxT 8 (c8 mOk) := s8 m30 m20 m18 m32 sat30 sat20 sat18 sat32 mOk fun a t h => by
  unfold mOk at h
  split at h
  · rename_i h1
    cases h
    refine ⟨0, ?_⟩
    unfold g8
    by_cases hl : (a.length : Int) > 1048576
    · simp (disch := omega) only [dt, cond_true]
    · have e30 : m30 a = some a := if_pos (by omega)
      have e20 : m20 a = some (sumW a) := if_pos ⟨h1, by omega⟩
      have e18 : m18 a = some (sumW a) := if_pos ⟨h1, by omega⟩
      have e32 := m32_self (a := a) (by omega)
      simp (disch := omega) only [df, cond_false, e30, e20, e18, e32, Option.isSome_some, Option.getD_some, cond_true]
      simp
  · cases h
theorem sat9 : Sat prog cxT 9 (c9 mOk) := s9 m30 m33 m19 m32 sat30 sat33 sat19 sat32 mOk fun a t h => by
  unfold mOk at h
  split at h
  · rename_i h1
    cases h
    refine ⟨0, ?_⟩
    unfold g9
    by_cases hl : (a.length : Int) > 1048576
    · simp (disch := omega) only [dt, cond_true]
    · have e30 : m30 a = some a := if_pos (by omega)
      have e20 : m33 a = some (sumW a == 0) := if_pos ⟨h1, by omega⟩
      have e18 : m19 a = some (sumW a == 0) := if_pos ⟨h1, by omega⟩
      have e32 := m32_self (a := a) (by omega)
      simp (disch := omega) only [df, cond_false, e30, e20, e18, e32, Option.isSome_some, Option.getD_some, cond_true]
      simp
  · cases h
end Go.Proofs.Try
