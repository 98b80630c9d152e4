/- A part of the proof of FnExactTakeFrames: L1Pb, L1Pc, L1Pd. -/
import Derived.Test.YtggncacoajjjhaaL1Fa
set_option maxHeartbeats 0
set_option linter.unusedVariables false
set_option linter.unusedSimpArgs false
namespace Go.Proofs.Try
open Go Go.VM Go.RowKit

def nrm (t : Int) : Int := if t > 65535 then t - 65535 else t
def sw : List Int → Int → Int
  | [], h => h
  | [x], h => nrm (h + x * 256)
  | x :: y :: r, h => sw r (nrm (h + (x * 256 + y)))
theorem nrm_bound {t : Int} (h0 : 0 ≤ t) (h1 : t ≤ 131070) : 0 ≤ nrm t ∧ nrm t ≤ 65535 := by
  unfold nrm; split <;> omega
def sumW (a : List Int) : Int := 65535 - sw a 0
theorem sw_bound : ∀ (a : List Int) (h : Int), okB a = true → 0 ≤ h → h ≤ 65535 → 0 ≤ sw a h ∧ sw a h ≤ 65535
  | [], h, _, h0, h1 => ⟨h0, h1⟩
  | [x], h, hb, h0, h1 => by
    have hx := (okB_cons.1 hb).1
    exact nrm_bound (by omega) (by omega)
  | x :: y :: r, h, hb, h0, h1 => by
    have hx := (okB_cons.1 hb).1
    have hy := okB_cons.1 (okB_cons.1 hb).2
    have := nrm_bound (t := h + (x * 256 + y)) (by omega) (by omega)
    exact sw_bound r _ hy.2 this.1 this.2

theorem p20i (L : Nat) (a : List Int) (u v : Int) (k : Int → Option Int) (n : Nat) (t : Int) (h0 : 0 ≤ t) (h1 : t ≤ 131070) : l20_2 L a u v (n + 2) t k = k (nrm t) := by
  unfold l20_2
  by_cases ht : t > 65535
  · simp (disch := omega) only [dt, wi, cond_true]
    unfold l20_2
    simp (disch := omega) only [df, cond_false]
    unfold nrm
    rw [if_pos ht]
  · simp (disch := omega) only [df, cond_false]
    unfold nrm
    rw [if_neg ht]

theorem p20 (M : Nat) (a : List Int) (hb : okB a = true) (hl : a.length ≤ 1000000000000) (k : Int → Option Int) : ∀ (n i : Nat) (h : Int), i ≤ a.length + 1 → a.length + 1 < n + i → 0 ≤ h → h ≤ 65535 →
    l20_0 (M + 2) a n h i k = k (sw (a.drop i) h)
  | 0, i, h, h2, h3, _, _ => by
    omega
  | n + 1, i, h, h2, h3, h4, h5 => by
    unfold l20_0
    by_cases hi : i < a.length
    · have hx := okB_get hb hi
      have e1 : ((i : Int) + 1) = ((i + 1 : Nat) : Int) := by simp
      simp (disch := omega) only [dt, df, wi, cond_true, Bool.and_self, Int.toNat_natCast]
      rw [drop_cons 0 hi]
      by_cases hj : i + 1 < a.length
      · have hy := okB_get hb hj
        rw [e1]
        simp (disch := omega) only [dt, df, wi, cond_true, Bool.and_self, Int.toNat_natCast]
        rw [p20i _ _ _ _ _ _ _ (by omega) (by omega), drop_cons 0 hj]
        have hn := nrm_bound (t := h + 256 * a.getD i 0 + a.getD (i + 1) 0) (by omega) (by omega)
        have := p20 M a hb hl k n (i + 2) (nrm (h + 256 * a.getD i 0 + a.getD (i + 1) 0)) (by omega) (by omega) hn.1 hn.2
        simp only [Int.natCast_add, Int.cast_ofNat_Int] at this
        rw [this, show h + 256 * a.getD i 0 + a.getD (i + 1) 0 = h + (a.getD i 0 * 256 + a.getD (i + 1) 0) by omega]
        rfl
      · simp (disch := omega) only [df, cond_false]
        rw [p20i _ _ _ _ _ _ _ (by omega) (by omega), List.drop_eq_nil_of_le (show a.length ≤ i + 1 by omega)]
        have hn := nrm_bound (t := h + 256 * a.getD i 0) (by omega) (by omega)
        have := p20 M a hb hl k n (i + 2) (nrm (h + 256 * a.getD i 0)) (by omega) (by omega) hn.1 hn.2
        simp only [Int.natCast_add, Int.cast_ofNat_Int] at this
        rw [this, List.drop_eq_nil_of_le (show a.length ≤ i + 2 by omega), show h + 256 * a.getD i 0 = h + a.getD i 0 * 256 by omega]
        rfl
    · simp (disch := omega) only [df, cond_false]
      rw [List.drop_eq_nil_of_le (by omega)]
      rfl

def m20 (a : List Int) : Option Int := if okB a = true ∧ a.length ≤ 1000000000000 then some (sumW a) else none
theorem sat20 : Sat prog cxT 20 (c20 m20) := s20 m20 fun a t h => by
  unfold m20 at h
  split at h
  · rename_i hc
    cases h
    refine ⟨a.length + 2, ?_⟩
    unfold g20
    refine (p20 a.length a hc.1 hc.2 _ _ 0 0 (by omega) (by omega) (by omega) (by omega)).trans ?_
    have := sw_bound a 0 hc.1 (by omega) (by omega)
    simp (disch := omega) only [List.drop_zero, wi]
    rfl
  · cases h

/-! impl -/
def m50 (x : List Int × Int) : Option Int :=
  if okB x.1 = true ∧ x.1.length ≤ 1000000000000 ∧ 0 ≤ x.2 ∧ x.2 < x.1.length then
    some (x.1.getD x.2.toNat 0 * 256 + (if x.2.toNat + 1 < x.1.length then x.1.getD (x.2.toNat + 1) 0 else 0)) else none
theorem sat50 : Sat prog cxT 50 (c50 m50) := s50 m50 fun x t h => by
  obtain ⟨a, i⟩ := x
  unfold m50 at h
  split at h
  · rename_i hc
    obtain ⟨h1, h2, h3, h4⟩ := hc
    simp only at h1 h2 h3 h4 h
    cases h
    refine ⟨0, ?_⟩
    obtain ⟨i, rfl⟩ := Int.eq_ofNat_of_zero_le h3
    have hi : i < a.length := by omega
    have hx := okB_get h1 hi
    have e1 : ((i : Int) + 1) = ((i + 1 : Nat) : Int) := by simp
    unfold g50
    simp (disch := omega) only [dt, df, wi, cond_true, Bool.and_self, Int.toNat_natCast]
    by_cases hj : i + 1 < a.length
    · have hy := okB_get h1 hj
      rw [e1]
      simp (disch := omega) only [dt, df, wi, cond_true, Bool.and_self, Int.toNat_natCast, shl8, wu, or_byte, if_pos hj]
    · simp (disch := omega) only [df, cond_false, shl8, wu, if_neg hj, Int.add_zero]
  · cases h

theorem p18i (mm : List Int × Int → Option Int) (L : Nat) (a : List Int) (u v : Int) (k : Int → Option Int) (n : Nat) (t : Int) (h0 : 0 ≤ t) (h1 : t ≤ 131070) : l18_2 mm L a u v (n + 2) t k = k (nrm t) := by
  unfold l18_2
  by_cases ht : t > 65535
  · simp (disch := omega) only [dt, wu, cond_true]
    unfold l18_2
    simp (disch := omega) only [df, cond_false]
    unfold nrm
    rw [if_pos ht]
  · simp (disch := omega) only [df, cond_false]
    unfold nrm
    rw [if_neg ht]

theorem p18 (M : Nat) (a : List Int) (hb : okB a = true) (hl : a.length ≤ 1000000000000) (k : Int → Option Int) : ∀ (n i : Nat) (h : Int), i ≤ a.length + 1 → a.length + 1 < n + i → 0 ≤ h → h ≤ 65535 →
    l18_0 m50 (M + 2) a n h i k = k (sw (a.drop i) h)
  | 0, i, h, h2, h3, _, _ => by
    omega
  | n + 1, i, h, h2, h3, h4, h5 => by
    unfold l18_0
    by_cases hi : i < a.length
    · have hx := okB_get hb hi
      have e50 : m50 (a, (i : Int)) = some (a.getD i 0 * 256 + (if i + 1 < a.length then a.getD (i + 1) 0 else 0)) := by
        unfold m50
        rw [if_pos ⟨hb, hl, by show (0 : Int) ≤ (i : Int); omega, by show (i : Int) < (a.length : Int); omega⟩]
        rfl
      simp (disch := omega) only [dt, e50, wi, cond_true, Option.isSome_some, Option.getD_some]
      rw [drop_cons 0 hi]
      by_cases hj : i + 1 < a.length
      · have hy := okB_get hb hj
        simp (disch := omega) only [if_pos hj, wu]
        rw [p18i _ _ _ _ _ _ _ _ (by omega) (by omega), drop_cons 0 hj]
        have hn := nrm_bound (t := h + (a.getD i 0 * 256 + a.getD (i + 1) 0)) (by omega) (by omega)
        have := p18 M a hb hl k n (i + 2) (nrm (h + (a.getD i 0 * 256 + a.getD (i + 1) 0))) (by omega) (by omega) hn.1 hn.2
        simp only [Int.natCast_add, Int.cast_ofNat_Int] at this
        rw [this]
        rfl
      · simp (disch := omega) only [if_neg hj, wu, Int.add_zero]
        rw [p18i _ _ _ _ _ _ _ _ (by omega) (by omega), List.drop_eq_nil_of_le (show a.length ≤ i + 1 by omega)]
        have hn := nrm_bound (t := h + a.getD i 0 * 256) (by omega) (by omega)
        have := p18 M a hb hl k n (i + 2) (nrm (h + a.getD i 0 * 256)) (by omega) (by omega) hn.1 hn.2
        simp only [Int.natCast_add, Int.cast_ofNat_Int] at this
        rw [this, List.drop_eq_nil_of_le (show a.length ≤ i + 2 by omega)]
        rfl
    · simp (disch := omega) only [df, cond_false]
      rw [List.drop_eq_nil_of_le (by omega)]
      rfl

def m18 (a : List Int) : Option Int := if okB a = true ∧ a.length ≤ 1000000000000 then some (sumW a) else none
theorem sat18 : Sat prog cxT 18 (c18 m18) := s18 m50 sat50 m18 fun a t h => by
  unfold m18 at h
  split at h
  · rename_i hc
    cases h
    refine ⟨a.length + 2, ?_⟩
    unfold g18
    refine (p18 a.length a hc.1 hc.2 _ _ 0 0 (by omega) (by omega) (by omega) (by omega)).trans ?_
    have := sw_bound a 0 hc.1 (by omega) (by omega)
    simp (disch := omega) only [List.drop_zero, wi]
    rfl
  · cases h

def m19 (a : List Int) : Option Bool := if okB a = true ∧ a.length ≤ 1000000000000 then some (sumW a == 0) else none
theorem sat19 : Sat prog cxT 19 (c19 m19) := s19 m18 sat18 m19 fun a t h => by
  unfold m19 at h
  split at h
  · rename_i hc
    cases h
    refine ⟨0, ?_⟩
    unfold g19 m18
    rw [if_pos hc]
    rfl
  · cases h
def m33 (a : List Int) : Option Bool := if okB a = true ∧ a.length ≤ 1000000000000 then some (sumW a == 0) else none
theorem sat33 : Sat prog cxT 33 (c33 m33) := s33 m20 sat20 m33 fun a t h => by
  unfold m33 at h
  split at h
  · rename_i hc
    cases h
    refine ⟨0, ?_⟩
    unfold g33 m20
    rw [if_pos hc]
    rfl
  · cases h

def mOk (x : List Int) : Option Bool := if okB x = true then some true else none
theorem m32_self {a : List Int} (h : (a.length : Int) ≤ 1048576) : m32 (a, a) = some true := (if_pos ⟨by show a.length ≤ 1000000000000; omega, by show a.length ≤ 1000000000000; omega⟩).trans (by simp)
theorem sat8 : Sat prog cxT 8 (c8 mOk) := s8 m30 m20 m18 m32 sat30 sat20 sat18 sat32 mOk fun a t h => by
  unfold mOk at h
  split at h
  · rename_i h1
    cases h
    refine ⟨0, ?_⟩
    unfold g8
    by_cases hl : (a.length : Int) > 1048576
    · simp (disch := omega) only [dt, cond_true]
    · have e30 : m30 a = some a := if_pos (by omega)
      have e20 : m20 a = some (sumW a) := if_pos ⟨h1, by omega⟩
      have e18 : m18 a = some (sumW a) := if_pos ⟨h1, by omega⟩
      have e32 := m32_self (a := a) (by omega)
      simp (disch := omega) only [df, cond_false, e30, e20, e18, e32, Option.isSome_some, Option.getD_some, cond_true]
      simp
  · cases h
theorem sat9 : Sat prog cxT 9 (c9 mOk) := s9 m30 m33 m19 m32 sat30 sat33 sat19 sat32 mOk fun a t h => by
  unfold mOk at h
  split at h
  · rename_i h1
    cases h
    refine ⟨0, ?_⟩
    unfold g9
    by_cases hl : (a.length : Int) > 1048576
    · simp (disch := omega) only [dt, cond_true]
    · have e30 : m30 a = some a := if_pos (by omega)
      have e20 : m33 a = some (sumW a == 0) := if_pos ⟨h1, by omega⟩
      have e18 : m19 a = some (sumW a == 0) := if_pos ⟨h1, by omega⟩
      have e32 := m32_self (a := a) (by omega)
      simp (disch := omega) only [df, cond_false, e30, e20, e18, e32, Option.isSome_some, Option.getD_some, cond_true]
      simp
  · cases h
end Go.Proofs.Try

set_option maxHeartbeats 0
set_option linter.unusedVariables false
set_option linter.unusedSimpArgs false
namespace Go.Proofs.Try
open Go Go.VM Go.RowKit

/-! markByteS, heldByteS -/
def mkB (k : Int) (n : Nat) : List Int := (List.range n).map fun (i : Nat) => IntKind.wrap .u8 (k + (i : Int))
theorem mkB_len (k : Int) (n : Nat) : (mkB k n).length = n := by simp [mkB]
theorem mkB_get (k : Int) (n i : Nat) (h : i < n) : (mkB k n).getD i 0 = IntKind.wrap .u8 (k + (i : Int)) := by
  simp [mkB, List.getD, h]
def m34 (x : List Int × Int) : Option (Int × List Int) := if 0 ≤ x.2 ∧ x.2 ≤ 1000000000000 ∧ x.1.length ≤ 1000000000000 then some (x.2 + x.1.length, mkB x.2 x.1.length) else none
theorem p34 (L : Nat) (a b : List Int) (c k0 : Int) (h0 : 0 ≤ k0) (h1 : k0 ≤ 1000000000000) (hb : b.length ≤ 1000000000000) (k : List Int → Int → Option (Int × List Int)) : ∀ (n i : Nat) (o : List Int), o.length = b.length → i ≤ b.length → b.length < n + i → o.take i = (mkB k0 b.length).take i →
    l34_0 L a c n o (k0 + i) i k = k (mkB k0 b.length) (k0 + b.length)
  | 0, i, o, _, h3, h4, _ => by omega
  | n + 1, i, o, h2, h3, h4, h5 => by
    unfold l34_0
    by_cases hi : i < b.length
    · simp (disch := omega) only [dt, df, wi, cond_true, Bool.and_self, Int.toNat_natCast]
      have := p34 L a b c k0 h0 h1 hb k n (i + 1) (o.set i (IntKind.wrap .u8 (k0 + i))) (by rw [List.length_set]; exact h2) (by omega) (by omega) (by
        rw [List.take_add_one, List.take_add_one, List.take_set_of_le (Nat.le_refl _), h5]
        congr 1
        rw [List.getElem?_set_self (by omega)]
        have := mkB_get k0 b.length i hi
        have hl : i < (mkB k0 b.length).length := by rw [mkB_len]; exact hi
        simp only [List.getD, List.getElem?_eq_getElem hl, Option.getD_some] at this
        rw [List.getElem?_eq_getElem hl, this])
      simp only [Int.natCast_add, Int.cast_ofNat_Int] at this
      rw [show k0 + (i : Int) + 1 = k0 + ((i : Int) + 1) by omega]
      exact this
    · simp (disch := omega) only [df, cond_false]
      have hil : i = b.length := by omega
      have : o = mkB k0 b.length := by
        rw [hil] at h5
        rw [← h2, List.take_length, h2] at h5
        rw [h5]
        exact List.take_of_length_le (by rw [mkB_len]; exact Nat.le_refl _)
      rw [this, hil]
theorem sat34 : SatW prog cxT 34 (c34 m34).nres (c34 m34).n (c34 m34).F := s34 m34 fun x t h => by
  obtain ⟨a, k⟩ := x
  unfold m34 at h
  split at h
  · rename_i hc
    obtain ⟨h1, h2, h3⟩ := hc
    simp only at h1 h2 h3 h
    cases h
    refine ⟨a.length + 1, ?_⟩
    unfold g34
    have := p34 (a.length + 1) a a k k h1 h2 h3 (fun o k => some (k, o)) (a.length + 1) 0 a rfl (by omega) (by omega) rfl
    simpa using this
  · cases h

def m54 (x : List Int × Int) : Option Int := if 0 ≤ x.2 ∧ x.2 ≤ 1000000000000 ∧ x.1.length ≤ 1000000000000 ∧ x.1 = mkB x.2 x.1.length then some (x.2 + x.1.length) else none
theorem p54 (L : Nat) (a : List Int) (c k0 : Int) (h0 : 0 ≤ k0) (h1 : k0 ≤ 1000000000000) (hb : a.length ≤ 1000000000000) (ha : ∀ i, i < a.length → a.getD i 0 = IntKind.wrap .u8 (k0 + i)) (k : Int → Option Int) : ∀ (n i : Nat), i ≤ a.length → a.length < n + i →
    l54_0 L a c n (k0 + i) i k = k (k0 + a.length)
  | 0, i, h3, h4 => by omega
  | n + 1, i, h3, h4 => by
    unfold l54_0
    by_cases hi : i < a.length
    · simp (disch := omega) only [dt, df, wi, cond_true, Bool.and_self, Int.toNat_natCast]
      rw [bneF (ha i hi)]
      have := p54 L a c k0 h0 h1 hb ha k n (i + 1) (by omega) (by omega)
      simp only [Int.natCast_add, Int.cast_ofNat_Int] at this
      rw [show k0 + (i : Int) + 1 = k0 + ((i : Int) + 1) by omega]
      exact this
    · simp (disch := omega) only [df, cond_false]
      rw [show i = a.length by omega]
theorem sat54 : Sat prog cxT 54 (c54 m54) := s54 m54 fun x t h => by
  obtain ⟨a, k⟩ := x
  unfold m54 at h
  split at h
  · rename_i hc
    obtain ⟨h1, h2, h3, h4⟩ := hc
    simp only at h1 h2 h3 h4 h
    cases h
    refine ⟨a.length + 1, ?_⟩
    unfold g54
    have := p54 (a.length + 1) a k k h1 h2 h3 (fun i hi => by
      have e := mkB_get k a.length i hi
      rw [← h4] at e
      exact e) (fun k => some k) (a.length + 1) 0 (by omega) (by omega)
    simpa using this
  · cases h

/-! results of bytes -/
def m27 (x : (Int × List Int) × Int) : Option (Int × Int × List Int) := if 0 ≤ x.2 ∧ x.2 ≤ 1000000000000 ∧ x.1.2.length ≤ 1000000000000 then some (x.2 + x.1.2.length, x.1.1, mkB x.2 x.1.2.length) else none
theorem sat27 : SatW prog cxT 27 (c27 m27).nres (c27 m27).n (c27 m27).F := s27 m34 sat34 m27 fun x t h => by
  obtain ⟨⟨c, a⟩, k⟩ := x
  unfold m27 at h
  split at h
  · rename_i hc
    cases h
    refine ⟨0, ?_⟩
    have e : m34 (a, k) = some (k + a.length, mkB k a.length) := if_pos hc
    unfold g27
    simp only [e, Option.isSome_some, Option.getD_some, cond_true]
  · cases h
def m28 (x : (Int × List Int) × Int) : Option Int := m54 (x.1.2, x.2)
theorem sat28 : Sat prog cxT 28 (c28 m28) := s28 m54 sat54 m28 fun x t h => by
  obtain ⟨⟨c, a⟩, k⟩ := x
  have h : m54 (a, k) = some t := h
  refine ⟨0, ?_⟩
  unfold g28
  simp only [h, Option.isSome_some, Option.getD_some, cond_true]
  have : ¬ t < 0 := by
    unfold m54 at h
    split at h
    · rename_i hc
      cases h
      have := hc.1
      simp only at this ⊢
      omega
    · cases h
  rw [df this]
  rfl
def m26 (x : (Int × List Int) × Int × List Int) : Option Bool := if x.1.2.length ≤ 1000000000000 ∧ x.2.2.length ≤ 1000000000000 then some (decide (x.1 = x.2)) else none
theorem sat26 : Sat prog cxT 26 (c26 m26) := s26 m32 sat32 m26 fun x t h => by
  obtain ⟨⟨c, a⟩, d, b⟩ := x
  unfold m26 at h
  split at h
  · rename_i hc
    cases h
    refine ⟨0, ?_⟩
    unfold g26
    have e : m32 (a, b) = some (decide (a = b)) := if_pos hc
    simp only [e, Option.isSome_some, Option.getD_some, cond_true]
    by_cases h1 : c = d
    · rw [bneF h1]
      by_cases h2 : a = b <;> simp [h1, h2]
    · rw [bneT h1]
      simp [h1]
  · cases h

/-! numbers into bytes -/
def numB (n : Int) (z : Nat) : List Int := (List.range z).map fun i => IntKind.wrap .u8 (Int.fdiv n ((2 : Int) ^ (8 * (z - 1 - i))))
theorem numB_len (n : Int) (z : Nat) : (numB n z).length = z := by simp [numB]
theorem six {z : Int} (h : 1 ≤ z ∧ z ≤ 6) : z = 1 ∨ z = 2 ∨ z = 3 ∨ z = 4 ∨ z = 5 ∨ z = 6 := by omega
def m46 (x : Int × Int) : Option (List Int) := if 1 ≤ x.2 ∧ x.2 ≤ 6 then some (numB x.1 x.2.toNat) else none
theorem sat46 : Sat prog cxT 46 (c46 m46) := s46 m46 fun x t h => by
  obtain ⟨n, z⟩ := x
  unfold m46 at h
  split at h
  · rename_i hc
    cases h
    refine ⟨8, ?_⟩
    rcases six hc with h | h | h | h | h | h <;> simp only at h <;> subst h <;> kernel_rfl
  · cases h
def m48 (x : Int × Int) : Option (List Int) := if 1 ≤ x.2 ∧ x.2 ≤ 6 then some (numB x.1 x.2.toNat) else none
theorem sat48 : Sat prog cxT 48 (c48 m48) := s48 m48 fun x t h => by
  obtain ⟨n, z⟩ := x
  unfold m48 at h
  split at h
  · rename_i hc
    cases h
    refine ⟨8, ?_⟩
    rcases six hc with h | h | h | h | h | h <;> simp only at h <;> subst h <;> kernel_rfl
  · cases h
def m45 (z : Int) : Option Int := if 1 ≤ z ∧ z ≤ 6 then some (256 ^ z.toNat - 1) else none
theorem sat45 : Sat prog cxT 45 (c45 m45) := s45 m45 fun z t h => by
  unfold m45 at h
  split at h
  · rename_i hc
    cases h
    refine ⟨0, ?_⟩
    rcases six hc with h | h | h | h | h | h <;> subst h <;> kernel_rfl
  · cases h
def m41 (x : Int × Int) : Option Int := some (if x.1 > x.2 then x.1 else x.2)
theorem sat41 : Sat prog cxT 41 (c41 m41) := s41 m41 fun x t h => by
  cases h
  refine ⟨0, ?_⟩
  unfold g41
  by_cases h : x.1 > x.2 <;> simp [h]
def m42 (x : Int × Int) : Option Int := some (if x.1 < x.2 then x.1 else x.2)
theorem sat42 : Sat prog cxT 42 (c42 m42) := s42 m42 fun x t h => by
  cases h
  refine ⟨0, ?_⟩
  unfold g42
  by_cases h : x.1 < x.2 <;> simp [h]
def putN (n z : Int) : Int × List Int := if 1 ≤ z ∧ z ≤ 6 ∧ 0 ≤ n ∧ n ≤ 256 ^ z.toNat - 1 then (0, numB n z.toNat) else (3, [])
theorem putN_in {n z : Int} (h : 1 ≤ z ∧ z ≤ 6 ∧ 0 ≤ n ∧ n ≤ 256 ^ z.toNat - 1) : putN n z = (0, numB n z.toNat) := if_pos h
theorem putN_out {n z : Int} (h : ¬ (1 ≤ z ∧ z ≤ 6 ∧ 0 ≤ n ∧ n ≤ 256 ^ z.toNat - 1)) : putN n z = (3, []) := if_neg h
theorem pow_six {z : Int} (h : 1 ≤ z ∧ z ≤ 6) : (256 : Int) ^ z.toNat ≤ 281474976710656 := by
  rcases six h with h | h | h | h | h | h <;> subst h <;> decide
def mPut (x : Int × Int) : Option (Int × List Int) := if iv x.1 = true ∧ iv x.2 = true then some (putN x.1 x.2) else none
theorem sat14 : Sat prog cxT 14 (c14 mPut) := s14 m44 m45 m46 sat44 sat45 sat46 mPut fun x t h => by
  obtain ⟨n, z⟩ := x
  unfold mPut at h
  split at h
  · rename_i hc
    simp only [iv, Bool.and_eq_true, decide_eq_true_eq] at hc h
    cases h
    refine ⟨0, ?_⟩
    unfold g14 m44
    simp only [Option.isSome_some, Option.getD_some, cond_true]
    by_cases hz : 1 ≤ z ∧ z ≤ 6
    · have e45 : m45 z = some (256 ^ z.toNat - 1) := if_pos hz
      have e46 : m46 (n, z) = some (numB n z.toNat) := if_pos hz
      have hp := pow_six hz
      simp only [dt hz, Bool.not_true, cond_false]
      by_cases h0 : n < 0
      · rw [putN_out (by omega), dt h0]
        rfl
      · simp (disch := omega) only [df, wu, cond_false, e45, e46, Option.isSome_some, Option.getD_some, cond_true]
        by_cases h1 : n > 256 ^ z.toNat - 1
        · rw [putN_out (by omega), dt h1]
          rfl
        · rw [putN_in (by omega), df h1]
          rfl
    · rw [putN_out (fun h => hz ⟨h.1, h.2.1⟩), df hz]
      rfl
  · cases h
theorem e15k (n : Int) : ∀ z : Int, 1 ≤ z ∧ z ≤ 6 → g15 m47 m42 m41 m48 0 n z = bif !(decide ((0 : Int) ≤ n ∧ n ≤ 256 ^ z.toNat - 1)) then some (3, []) else some (0, numB n z.toNat) := by
  intro z hz
  rcases six hz with h | h | h | h | h | h <;> subst h <;> kernel_rfl
theorem sat15 : Sat prog cxT 15 (c15 mPut) := s15 m47 m42 m41 m48 sat47 sat42 sat41 sat48 mPut fun x t h => by
  obtain ⟨n, z⟩ := x
  unfold mPut at h
  split at h
  · rename_i hc
    cases h
    refine ⟨0, ?_⟩
    by_cases hz : 1 ≤ z ∧ z ≤ 6
    · show g15 m47 m42 m41 m48 0 n z = some (putN n z)
      rw [e15k n z hz]
      by_cases hn : 0 ≤ n ∧ n ≤ 256 ^ z.toNat - 1
      · rw [dt hn, putN_in ⟨hz.1, hz.2, hn⟩]
        rfl
      · rw [df hn, putN_out (fun h => hn h.2.2)]
        rfl
    · show g15 m47 m42 m41 m48 0 n z = some (putN n z)
      rw [putN_out (fun h => hz ⟨h.1, h.2.1⟩)]
      have e47 : m47 (z, 1, 6) = some false := by
        unfold m47
        rw [df (by simp only; omega)]
      unfold g15
      simp only [e47, Option.isSome_some, Option.getD_some, cond_true, Bool.not_false]
  · cases h
theorem putN_len (n z : Int) : (putN n z).2.length ≤ 6 := by
  unfold putN
  split
  · rename_i h
    simp only [numB_len]
    omega
  · simp

/-! FnExactPutNumber -/
def m6 (x : Int × Int) : Option Bool := if iv x.1 = true ∧ iv x.2 = true then some true else none
theorem mark_held (a : List Int) (k : Int) (h0 : 0 ≤ k) (h1 : k ≤ 1000000000000) (h2 : a.length ≤ 1000000000000) : m54 (mkB k a.length, k) = some (k + a.length) := by
  unfold m54
  rw [if_pos ⟨h0, h1, by show (mkB k a.length).length ≤ _; rw [mkB_len]; exact h2, by show mkB k a.length = mkB k (mkB k a.length).length; rw [mkB_len]⟩]
  simp only [mkB_len]
theorem sat6 : Sat prog cxT 6 (c6 m6) := s6 mPut mPut m26 m27 m28 sat15 sat14 sat26 sat27 sat28 m6 fun x t h => by
  obtain ⟨n, z⟩ := x
  unfold m6 at h
  split at h
  · rename_i hc
    cases h
    refine ⟨0, ?_⟩
    have e1 : mPut (n, z) = some (putN n z) := if_pos hc
    have hl := putN_len n z
    generalize putN n z = p at e1 hl
    obtain ⟨c, a⟩ := p
    simp only at hl
    have e26 : m26 ((c, a), c, a) = some true := (if_pos ⟨by show a.length ≤ 1000000000000; omega, by show a.length ≤ 1000000000000; omega⟩).trans (by simp)
    have e27 : m27 ((c, a), 1) = some ((1 : Int) + (a.length : Int), c, mkB 1 a.length) := if_pos ⟨by show (0 : Int) ≤ 1; decide, by show (1 : Int) ≤ 1000000000000; decide, by show a.length ≤ 1000000000000; omega⟩
    have e28 : m28 ((c, mkB 1 a.length), 1) = some ((1 : Int) + (a.length : Int)) := mark_held a 1 (by decide) (by decide) (by omega)
    unfold g6
    simp (disch := omega) only [e1, e26, e27, e28, Option.isSome_some, Option.getD_some, cond_true, cond_false, Bool.not_true, df, bneF]
  · cases h
end Go.Proofs.Try

set_option maxHeartbeats 0
set_option linter.unusedVariables false
set_option linter.unusedSimpArgs false
namespace Go.Proofs.Try
open Go Go.VM Go.RowKit

/-! joinPieces -/
def m51 (x : List (List Int)) : Option (List Int) := if x.length ≤ 1000000 ∧ x.flatten.length ≤ 1000000000 then some x.flatten else none
theorem p51 (L : Nat) (a : List (List Int)) (ha : a.length ≤ 1000000) (k : List Int → Option (List Int)) : ∀ (n i : Nat) (o : List Int), i ≤ a.length → a.length < n + i → (o ++ (a.drop i).flatten).length ≤ 1000000000 →
    l51_0 L a n o i k = k (o ++ (a.drop i).flatten)
  | 0, i, o, h2, h3, _ => by omega
  | n + 1, i, o, h2, h3, h4 => by
    unfold l51_0
    by_cases hi : i < a.length
    · rw [drop_cons [] hi, List.flatten_cons] at h4
      simp only [List.length_append] at h4
      simp (disch := omega) only [dt, df, wi, cond_true, Bool.and_self, Int.toNat_natCast]
      have := p51 L a ha k n (i + 1) (o ++ a.getD i []) (by omega) (by omega) (by simp only [List.length_append]; omega)
      simp only [Int.natCast_add, Int.cast_ofNat_Int] at this
      rw [this, drop_cons [] hi, List.flatten_cons, List.append_assoc]
    · simp (disch := omega) only [df, cond_false]
      rw [List.drop_eq_nil_of_le (by omega)]
      simp
theorem sat51 : Sat prog cxT 51 (c51 m51) := s51 m51 fun x t h => by
  unfold m51 at h
  split at h
  · rename_i hc
    cases h
    refine ⟨x.length + 1, ?_⟩
    unfold g51
    have := p51 (x.length + 1) x hc.1 some (x.length + 1) 0 [] (by omega) (by omega) (by simpa using hc.2)
    simpa using this
  · cases h

/-! frames -/
def frm (a : List Int) : List Int := numB a.length 2 ++ numB (sumW a) 2 ++ a
theorem frm_len (a : List Int) : (frm a).length = 4 + a.length := by simp [frm, numB_len]; omega
theorem m46_two (n : Int) : m46 (n, 2) = some (numB n 2) := rfl
theorem m48_two (n : Int) : m48 (n, 2) = some (numB n 2) := rfl
def m52 (a : List Int) : Option (List Int) := if okB a = true ∧ a.length ≤ 1000000 then some (frm a) else none
theorem sat52 : Sat prog cxT 52 (c52 m52) := s52 m48 m20 sat48 sat20 m52 fun a t h => by
  unfold m52 at h
  split at h
  · rename_i hc
    cases h
    refine ⟨0, ?_⟩
    have e20 : m20 a = some (sumW a) := if_pos ⟨hc.1, by omega⟩
    have l1 := numB_len (a.length : Int) 2
    have l2 := numB_len (sumW a) 2
    unfold g52
    simp only [m48_two, e20, Option.isSome_some, Option.getD_some, cond_true]
    rw [dt (by omega), dt (by rw [List.length_append]; omega)]
    rfl
  · cases h
def putF (a : List Int) : Int × List Int := if a.length > 250 then (2, []) else (0, frm a)
def mF (a : List Int) : Option (Int × List Int) := if okB a = true ∧ a.length ≤ 1000000000000 then some (putF a) else none
theorem sat23 : Sat prog cxT 23 (c23 mF) := s23 m52 sat52 mF fun a t h => by
  unfold mF at h
  split at h
  · rename_i hc
    cases h
    refine ⟨0, ?_⟩
    unfold g23 putF
    by_cases hl : a.length > 250
    · rw [dt (by omega), if_pos hl]
      rfl
    · have e52 : m52 a = some (frm a) := if_pos ⟨hc.1, by omega⟩
      rw [df (by omega), if_neg hl]
      simp only [e52, Option.isSome_some, Option.getD_some, cond_true, cond_false]
  · cases h
theorem sat22 : Sat prog cxT 22 (c22 mF) := s22 m46 m18 m51 sat46 sat18 sat51 mF fun a t h => by
  unfold mF at h
  split at h
  · rename_i hc
    cases h
    refine ⟨0, ?_⟩
    unfold g22 putF
    by_cases hl : a.length > 250
    · rw [dt (by omega), if_pos hl]
      rfl
    · have e18 : m18 a = some (sumW a) := if_pos hc
      have hs := sw_bound a 0 hc.1 (by omega) (by omega)
      have hw : 0 ≤ sumW a ∧ sumW a ≤ 65535 := by unfold sumW; omega
      have l1 := numB_len (a.length : Int) 2
      have l2 := numB_len (sumW a) 2
      have e51 : m51 [numB a.length 2, numB (sumW a) 2, a] = some (frm a) := by
        unfold m51
        rw [if_pos ⟨by simp, by simp only [List.flatten_cons, List.flatten_nil, List.length_append, List.length_nil]; omega⟩]
        simp [frm, List.append_assoc]
      rw [df (by omega), if_neg hl]
      simp (disch := omega) only [wu, m46_two, e18, Option.isSome_some, Option.getD_some, cond_true, cond_false]
      rw [e51]
      rfl
  · cases h
theorem putF_len (a : List Int) : (putF a).2.length ≤ 254 := by
  unfold putF
  split
  · simp
  · rename_i h
    simp only [frm_len]
    omega

theorem sat10 : Sat prog cxT 10 (c10 mOk) := s10 m30 mF mF m26 m32 m34 m27 m28 sat30 sat23 sat22 sat26 sat32 sat34 sat27 sat28 mOk fun a t h => by
  unfold mOk at h
  split at h
  · rename_i h1
    cases h
    refine ⟨0, ?_⟩
    unfold g10
    by_cases hl : (a.length : Int) > 1048576
    · simp (disch := omega) only [dt, cond_true]
    · have e30 : m30 a = some a := if_pos (by omega)
      have eF : mF a = some (putF a) := if_pos ⟨h1, by omega⟩
      have hpl := putF_len a
      generalize putF a = p at eF hpl
      obtain ⟨c, b⟩ := p
      simp only at hpl
      have e32 := m32_self (a := a) (by omega)
      have e26 : m26 ((c, b), c, b) = some true := (if_pos ⟨by show b.length ≤ 1000000000000; omega, by show b.length ≤ 1000000000000; omega⟩).trans (by simp)
      have e34 : m34 (a, 1) = some ((1 : Int) + (a.length : Int), mkB 1 a.length) := if_pos ⟨by show (0 : Int) ≤ 1; decide, by show (1 : Int) ≤ 1000000000000; decide, by show a.length ≤ 1000000000000; omega⟩
      have e27 : m27 ((c, b), 1) = some ((1 : Int) + (b.length : Int), c, mkB 1 b.length) := if_pos ⟨by show (0 : Int) ≤ 1; decide, by show (1 : Int) ≤ 1000000000000; decide, by show b.length ≤ 1000000000000; omega⟩
      have e28 : m28 ((c, mkB 1 b.length), 1) = some ((1 : Int) + (b.length : Int)) := mark_held b 1 (by decide) (by decide) (by omega)
      simp (disch := omega) only [df, e30, eF, e26, e32, e34, e27, e28, Option.isSome_some, Option.getD_some, cond_true, cond_false, Bool.not_true, bneF]
  · cases h
end Go.Proofs.Try
