/- A part of the proof of FnExactWithoutShare: L4Pd. -/
import Derived.Test.YtmdmeakelebfcaaL4Pc
set_option maxHeartbeats 0
set_option linter.unusedVariables false
set_option linter.unusedSimpArgs false
namespace Go.Proofs.Try
open Go Go.VM Go.RowKit

/-! WithoutShare -/
def oth (y : Int) : List Sh → List Sh
  | [] => []
  | s :: r => if s.1 = y then oth y r else s :: oth y r
theorem oth_cons (y : Int) (s : Sh) (r : List Sh) : oth y (s :: r) = if s.1 = y then oth y r else s :: oth y r := rfl
theorem oth_len (y : Int) : ∀ l, (oth y l).length ≤ l.length
  | [] => Nat.le_refl _
  | s :: r => by
    have := oth_len y r
    rw [oth_cons]
    split <;> simp only [List.length_cons] <;> omega
def wo (l : List Sh) (y : Int) : Int × List Sh := if sf l = 0 then (if (oth y l).length = l.length then (4, []) else (0, oth y l)) else (sf l, [])
theorem wo_len (l : List Sh) (y : Int) : (wo l y).2.length ≤ 8 := by
  unfold wo
  split
  · rename_i h
    have := sf_len h
    have := oth_len y l
    split
    · simp
    · simp only; omega
  · simp
def mWo (x : List Sh × Int) : Option (Int × List Sh) := some (wo x.1 x.2)
theorem p19 (L : Nat) (l : List Sh) (y : Int) (hl : l.length ≤ 8) (z0 : Int) (z1 : List Sh) (k : Int → List Sh → List Sh → Option (Int × List Sh)) : ∀ (n i : Nat) (v : List Sh), v.length ≤ i → i ≤ l.length → l.length < n + i →
    l19_0 mSf L l y n z0 z1 v (i : Int) k = k z0 z1 (v ++ oth y (l.drop i))
  | 0, i, v, _, h2, h3 => by omega
  | n + 1, i, v, hv, h2, h3 => by
    unfold l19_0
    by_cases hi : i < l.length
    · rw [Int.toNat_natCast]
      have e2 : (i : Int) + 1 = ((i + 1 : Nat) : Int) := rfl
      simp (disch := omega) only [dt, wi, cond_true, Bool.and_self]
      rw [e2, drop_cons (0, 0) hi, oth_cons]
      by_cases hw : (l.getD i (0, 0)).1 = y
      · rw [bneF hw, if_pos hw, cond_false, p19 L l y hl z0 z1 k n (i + 1) v (by omega) (by omega) (by omega)]
      · rw [bneT hw, if_neg hw, cond_true, dt (by simp only [List.length_cons, List.length_nil]; omega), cond_true]
        rw [p19 L l y hl z0 z1 k n (i + 1) _ (by simp; omega) (by omega) (by omega)]
        simp
    · simp (disch := omega) only [df, cond_false]
      rw [List.drop_eq_nil_of_le (by omega)]
      simp [oth]
theorem sat19 : Sat prog cxT 19 (c19 mWo) := s19 mSf sat26 mWo fun x t h => by
  obtain ⟨l, y⟩ := x
  cases h
  refine ⟨9, ?_⟩
  show g19 mSf 9 l y = some (wo l y)
  unfold g19 wo
  rw [show mSf l = some (sf l) from rfl, tst_some]
  by_cases h2 : sf l = 0
  · have h8 := sf_len h2
    rw [bneF h2, cond_false, if_pos h2]
    refine (p19 9 l y h8 0 [] _ 9 0 [] (Nat.le_refl _) (by omega) (by omega)).trans ?_
    rw [List.drop_zero, List.nil_append]
    by_cases h3 : (oth y l).length = l.length
    · rw [if_pos h3, beq_iff_eq.2 (by omega)]; rfl
    · rw [if_neg h3, beq_eq_false_iff_ne.2 (by omega)]; rfl
  · rw [bneT h2, cond_true, if_neg h2]
theorem p20 (L : Nat) (l : List Sh) (y : Int) (hl : l.length ≤ 8) (z0 : Int) (z1 : List Sh) (y0 : Int) (k : Int → List Sh → Int → List Sh → Option (Int × List Sh)) : ∀ (n i : Nat) (v : List Sh), v.length ≤ i → i ≤ l.length → l.length < n + i →
    l20_0 mSf L l y n z0 z1 y0 v (i : Int) k = k z0 z1 y0 (v ++ oth y (l.drop i))
  | 0, i, v, _, h2, h3 => by omega
  | n + 1, i, v, hv, h2, h3 => by
    unfold l20_0
    by_cases hi : i < l.length
    · rw [Int.toNat_natCast]
      have e2 : (i : Int) + 1 = ((i + 1 : Nat) : Int) := rfl
      simp (disch := omega) only [dt, wi, cond_true, Bool.and_self]
      rw [e2, drop_cons (0, 0) hi, oth_cons]
      by_cases hw : (l.getD i (0, 0)).1 = y
      · rw [bneF hw, if_pos hw, cond_false, p20 L l y hl z0 z1 y0 k n (i + 1) v (by omega) (by omega) (by omega)]
      · rw [bneT hw, if_neg hw, cond_true, dt (by simp only [List.length_cons, List.length_nil]; omega), cond_true]
        rw [p20 L l y hl z0 z1 y0 k n (i + 1) _ (by simp; omega) (by omega) (by omega)]
        simp
    · simp (disch := omega) only [df, cond_false]
      rw [List.drop_eq_nil_of_le (by omega)]
      simp [oth]
theorem sat20 : Sat prog cxT 20 (c20 mWo) := s20 mSf sat24 mWo fun x t h => by
  obtain ⟨l, y⟩ := x
  cases h
  refine ⟨9, ?_⟩
  show g20 mSf 9 l y = some (wo l y)
  unfold g20 wo
  rw [show mSf l = some (sf l) from rfl, tst_some]
  by_cases h2 : sf l = 0
  · have h8 := sf_len h2
    rw [bneF h2, cond_false, if_pos h2]
    refine (p20 9 l y h8 0 [] 0 _ 9 0 [] (Nat.le_refl _) (by omega) (by omega)).trans ?_
    rw [List.drop_zero, List.nil_append]
    by_cases h3 : (oth y l).length = l.length
    · rw [if_pos h3, beq_iff_eq.2 (by omega)]; rfl
    · rw [if_neg h3, beq_eq_false_iff_ne.2 (by omega)]; rfl
  · rw [bneT h2, cond_true, if_neg h2]

/-! marks -/
def mkS (k : Int) (n : Nat) : List Sh := (List.range n).map fun (i : Nat) => (k + 2 * (i : Int), k + 2 * (i : Int) + 1)
theorem mkS_len (k : Int) (n : Nat) : (mkS k n).length = n := by simp [mkS]
theorem mkS_get (k : Int) (n i : Nat) (h : i < n) : (mkS k n).getD i (0, 0) = (k + 2 * (i : Int), k + 2 * (i : Int) + 1) := by
  simp [mkS, List.getD, h]
def m29 (x : List Sh × Int) : Option (Int × List Sh) := if 0 ≤ x.2 ∧ x.2 ≤ 1000000000000 ∧ x.1.length ≤ 1000000000000 then some (x.2 + 2 * (x.1.length : Int), mkS x.2 x.1.length) else none
theorem p29 (L : Nat) (a b : List Sh) (c k0 : Int) (h0 : 0 ≤ k0) (h1 : k0 ≤ 1000000000000) (hb : b.length ≤ 1000000000000) (k : List Sh → Int → Option (Int × List Sh)) : ∀ (n i : Nat) (o : List Sh), o.length = b.length → i ≤ b.length → b.length < n + i → o.take i = (mkS k0 b.length).take i →
    l29_0 L a c n o (k0 + 2 * (i : Int)) i k = k (mkS k0 b.length) (k0 + 2 * (b.length : Int))
  | 0, i, o, _, h3, h4, _ => by omega
  | n + 1, i, o, h2, h3, h4, h5 => by
    unfold l29_0
    by_cases hi : i < b.length
    · have hio : i < o.length := by omega
      simp only [Int.toNat_natCast, List.length_set, List.set_set]
      simp (disch := omega) only [dt, wi, cond_true, Bool.and_self]
      have eg : ∀ x : Sh, (o.set i x).getD i (0, 0) = x := fun x => by
        simp [List.getD, List.getElem?_set_self hio]
      rw [eg]
      have := p29 L a b c k0 h0 h1 hb k n (i + 1) (o.set i (k0 + 2 * (i : Int), k0 + 2 * (i : Int) + 1)) (by rw [List.length_set]; exact h2) (by omega) (by omega) (by
        rw [List.take_add_one, List.take_add_one, List.take_set_of_le (Nat.le_refl _), h5]
        congr 1
        rw [List.getElem?_set_self (by omega)]
        have := mkS_get k0 b.length i hi
        have hl : i < (mkS k0 b.length).length := by rw [mkS_len]; exact hi
        simp only [List.getD, List.getElem?_eq_getElem hl, Option.getD_some] at this
        rw [List.getElem?_eq_getElem hl, this])
      rw [show k0 + 2 * ((i + 1 : Nat) : Int) = k0 + 2 * (i : Int) + 1 + 1 by omega] at this
      exact this
    · simp (disch := omega) only [df, cond_false]
      have hil : i = b.length := by omega
      have : o = mkS k0 b.length := by
        rw [hil] at h5
        rw [← h2, List.take_length, h2] at h5
        rw [h5]
        exact List.take_of_length_le (by rw [mkS_len]; exact Nat.le_refl _)
      rw [this, hil]
theorem sat29 : SatW prog cxT 29 (c29 m29).nres (c29 m29).n (c29 m29).F := s29 m29 fun x t h => by
  obtain ⟨a, k⟩ := x
  unfold m29 at h
  split at h
  · rename_i hc
    obtain ⟨h1, h2, h3⟩ := hc
    simp only at h1 h2 h3 h
    cases h
    refine ⟨a.length + 1, ?_⟩
    unfold g29
    have := p29 (a.length + 1) a a k k h1 h2 h3 (fun o k => some (k, o)) (a.length + 1) 0 a rfl (by omega) (by omega) rfl
    simpa using this
  · cases h
def m63 (x : List Sh × Int) : Option Int := if 0 ≤ x.2 ∧ x.2 ≤ 1000000000000 ∧ x.1.length ≤ 1000000000000 ∧ x.1 = mkS x.2 x.1.length then some (x.2 + 2 * (x.1.length : Int)) else none
theorem p63 (L : Nat) (a : List Sh) (c k0 : Int) (h0 : 0 ≤ k0) (h1 : k0 ≤ 1000000000000) (hb : a.length ≤ 1000000000000) (ha : ∀ i, i < a.length → a.getD i (0, 0) = (k0 + 2 * (i : Int), k0 + 2 * (i : Int) + 1)) (k : Int → Option Int) : ∀ (n i : Nat), i ≤ a.length → a.length < n + i →
    l63_0 L a c n (k0 + 2 * (i : Int)) i k = k (k0 + 2 * (a.length : Int))
  | 0, i, h3, h4 => by omega
  | n + 1, i, h3, h4 => by
    unfold l63_0
    by_cases hi : i < a.length
    · simp (disch := omega) only [dt, df, wi, cond_true, Bool.and_self, Int.toNat_natCast]
      rw [ha i hi, bneF rfl, bneF rfl, cond_false, cond_false]
      have := p63 L a c k0 h0 h1 hb ha k n (i + 1) (by omega) (by omega)
      rw [show k0 + 2 * ((i + 1 : Nat) : Int) = k0 + 2 * (i : Int) + 1 + 1 by omega] at this
      exact this
    · simp (disch := omega) only [df, cond_false]
      rw [show i = a.length by omega]
theorem sat63 : Sat prog cxT 63 (c63 m63) := s63 m63 fun x t h => by
  obtain ⟨a, k⟩ := x
  unfold m63 at h
  split at h
  · rename_i hc
    obtain ⟨h1, h2, h3, h4⟩ := hc
    simp only at h1 h2 h3 h4 h
    cases h
    refine ⟨a.length + 1, ?_⟩
    unfold g63
    have := p63 (a.length + 1) a k k h1 h2 h3 (fun i hi => by
      have e := mkS_get k a.length i hi
      rw [← h4] at e
      exact e) (fun k => some k) (a.length + 1) 0 (by omega) (by omega)
    simpa using this
  · cases h
def m41 (x : (Int × List Sh) × Int) : Option (Int × Int × List Sh) := if 0 ≤ x.2 ∧ x.2 ≤ 1000000000000 ∧ x.1.2.length ≤ 1000000000000 then some (x.2 + 2 * (x.1.2.length : Int), x.1.1, mkS x.2 x.1.2.length) else none
theorem sat41 : SatW prog cxT 41 (c41 m41).nres (c41 m41).n (c41 m41).F := s41 m29 sat29 m41 fun x t h => by
  obtain ⟨⟨c, a⟩, k⟩ := x
  unfold m41 at h
  split at h
  · rename_i hc
    cases h
    refine ⟨0, ?_⟩
    have e : m29 (a, k) = some (k + 2 * (a.length : Int), mkS k a.length) := if_pos hc
    unfold g41
    simp only [e, tst_some]
  · cases h
def m42 (x : (Int × List Sh) × Int) : Option Int := m63 (x.1.2, x.2)
theorem sat42 : Sat prog cxT 42 (c42 m42) := s42 m63 sat63 m42 fun x t h => by
  obtain ⟨⟨c, a⟩, k⟩ := x
  have h : m63 (a, k) = some t := h
  refine ⟨0, ?_⟩
  unfold g42
  simp only [h, tst_some]
  have : ¬ t < 0 := by
    unfold m63 at h
    split at h
    · rename_i hc
      cases h
      have := hc.1
      simp only at this ⊢
      omega
    · cases h
  rw [df this]
  rfl
def m40 (x : (Int × List Sh) × Int × List Sh) : Option Bool := if x.1.2.length ≤ 1000000000000 ∧ x.2.2.length ≤ 1000000000000 then some (decide (x.1 = x.2)) else none
theorem sat40 : Sat prog cxT 40 (c40 m40) := s40 m27 sat27 m40 fun x t h => by
  obtain ⟨⟨c, a⟩, d, b⟩ := x
  unfold m40 at h
  split at h
  · rename_i hc
    cases h
    refine ⟨0, ?_⟩
    unfold g40
    have e : m27 (a, b) = some (decide (a = b)) := if_pos hc
    simp only [e, tst_some]
    by_cases h1 : c = d
    · rw [bneF h1]
      by_cases h2 : a = b <;> simp [h1, h2]
    · rw [bneT h1]
      simp [h1]
  · cases h
theorem mark_held (a : List Sh) (k : Int) (h0 : 0 ≤ k) (h1 : k ≤ 1000000000000) (h2 : a.length ≤ 1000000000000) : m63 (mkS k a.length, k) = some (k + 2 * (a.length : Int)) := by
  unfold m63
  rw [if_pos ⟨h0, h1, by show (mkS k a.length).length ≤ _; rw [mkS_len]; exact h2, by show mkS k a.length = mkS k (mkS k a.length).length; rw [mkS_len]⟩]
  simp only [mkS_len]

/-! FnExactWithoutShare -/
def m11 (x : List Sh × Int) : Option Bool := if x.1.length ≤ 9223372036854775807 then some true else none
theorem sat11 : Sat prog cxT 11 (c11 m11) := s11 m23 m25 mWo mWo m40 m27 m29 m41 m42 sat23 sat25 sat20 sat19 sat40 sat27 sat29 sat41 sat42 m11 fun x t h => by
  obtain ⟨l, y⟩ := x
  unfold m11 at h
  split at h
  · rename_i hl
    simp only at hl
    cases h
    refine ⟨0, ?_⟩
    show g11 m23 m25 mWo mWo m40 m27 m29 m41 m42 0 l y = some true
    unfold g11
    have e23 : m23 (l, 1048576) = some (if l.length > 1048576 then -1 else 1048576 - (l.length : Int)) := if_pos ⟨rfl, hl⟩
    rw [e23, tst_some]
    by_cases h2 : l.length > 1048576
    · rw [if_pos h2]; rfl
    · have e25 : m25 l = some l := if_pos (by omega)
      have hw := wo_len l y
      have e16 : mWo (l, y) = some (wo l y) := rfl
      rw [if_neg h2, df (by omega)]
      generalize wo l y = p at e16 hw
      obtain ⟨c, a⟩ := p
      simp only at hw
      have e40 : m40 ((c, a), c, a) = some true := (if_pos ⟨by show a.length ≤ 1000000000000; omega, by show a.length ≤ 1000000000000; omega⟩).trans (by simp)
      have e29 : m29 (l, 1) = some ((1 : Int) + 2 * (l.length : Int), mkS 1 l.length) := if_pos ⟨by show (0 : Int) ≤ 1; decide, by show (1 : Int) ≤ 1000000000000; decide, by show l.length ≤ 1000000000000; omega⟩
      have e41 : m41 ((c, a), 1) = some ((1 : Int) + 2 * (a.length : Int), c, mkS 1 a.length) := if_pos ⟨by show (0 : Int) ≤ 1; decide, by show (1 : Int) ≤ 1000000000000; decide, by show a.length ≤ 1000000000000; omega⟩
      have e42 : m42 ((c, mkS 1 a.length), 1) = some ((1 : Int) + 2 * (a.length : Int)) := mark_held a 1 (by decide) (by decide) (by omega)
      simp (disch := omega) only [cond_false, e25, e16, e40, e29, e41, e42, m27_self (show l.length ≤ 1000000000000 by omega), tst_some, cond_true, Bool.not_true, df, bneF]
  · cases h
end Go.Proofs.Try
