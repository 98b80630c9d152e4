/- A part of the proof of FnHashes: L3Pa. -/
import Derived.Test.YteiaijhjndielaaVmOpen
import Derived.Test.YteiaijhjndielaaL3Fb
import Derived.Test.YteiaijhjndielaaL3Pz
set_option maxHeartbeats 0
set_option linter.unusedVariables false
set_option linter.unusedSimpArgs false
namespace Go.Proofs.Try
open Go Go.VM Go.RowKit

/-! toByteS -/
def m48 (a : List Int) : Option (List Int) := if a.length ≤ 1000000000 then some a else none
theorem p48 (L : Nat) (a : List Int) (ha : a.length ≤ 1000000000) (k : List Int → Option (List Int)) : ∀ (n i : Nat) (o : List Int), o.length = a.length → i ≤ a.length → a.length < n + i → o.take i = a.take i → l48_0 L a n o i k = k a
  | 0, i, o, _, h2, h3, _ => by omega
  | n + 1, i, o, h1, h2, h3, h4 => by
    unfold l48_0
    by_cases hi : i < a.length
    · simp (disch := omega) only [dt, df, wi, cond_true, Bool.and_self, Int.toNat_natCast]
      have := p48 L a ha k n (i + 1) (o.set i (a.getD i 0)) (by rw [List.length_set]; exact h1) (by omega) (by omega) (by
        rw [List.take_add_one, List.take_add_one, List.take_set_of_le (Nat.le_refl _), h4]
        congr 1
        rw [List.getElem?_set_self (by omega), List.getElem?_eq_getElem hi]
        simp [List.getD, List.getElem?_eq_getElem hi])
      simpa using this
    · simp (disch := omega) only [dt, df, cond_false]
      have hil : i = a.length := by omega
      rw [hil, List.take_length, ← h1, List.take_length] at h4
      rw [h4]
theorem sat48 : Sat prog cxT 48 (c48 m48) := s48 m48 fun x t h => by
  unfold m48 at h
  split at h
  · rename_i ha
    cases h
    refine ⟨x.length + 1, ?_⟩
    unfold g48
    simp (disch := omega) only [dt, cond_true, Bool.and_self, Int.toNat_natCast]
    exact p48 _ x ha _ _ 0 _ (by simp) (by omega) (by omega) rfl
  · cases h

/-! eqByteS -/
def m50 (x : List Int × List Int) : Option Bool := if x.1.length ≤ 1000000000000 ∧ x.2.length ≤ 1000000000000 then some (decide (x.1 = x.2)) else none
theorem p50 (L : Nat) (a b : List Int) (hl : a.length = b.length) (ha : a.length ≤ 1000000000000) (k : Option Bool) : ∀ (n i : Nat), i ≤ a.length → a.length < n + i →
    l50_0 L a b n i k = if a.drop i = b.drop i then k else some false
  | 0, i, h2, h3 => by omega
  | n + 1, i, h2, h3 => by
    unfold l50_0
    by_cases hi : i < a.length
    · simp (disch := omega) only [dt, df, wi, cond_true, Bool.and_self, Int.toNat_natCast]
      rw [drop_cons 0 hi, drop_cons 0 (show i < b.length by omega)]
      have := p50 L a b hl ha k n (i + 1) (by omega) (by omega)
      simp only [Int.natCast_add, Int.cast_ofNat_Int] at this
      rw [this]
      by_cases hx : a.getD i 0 = b.getD i 0
      · rw [hx]; simp
      · have h2 : (a.getD i 0 != b.getD i 0) = true := by simpa using hx
        rw [h2, if_neg (fun h => hx (List.cons.inj h).1)]
        rfl
    · simp (disch := omega) only [df, cond_false]
      rw [List.drop_eq_nil_of_le (by omega), List.drop_eq_nil_of_le (by omega)]
      simp
theorem sat50 : Sat prog cxT 50 (c50 m50) := s50 m50 fun x t h => by
  unfold m50 at h
  split at h
  · rename_i ha
    cases h
    refine ⟨x.1.length + 1, ?_⟩
    unfold g50
    by_cases hl : x.1.length = x.2.length
    · have e1 : ((Nat.cast x.1.length : Int) != (Nat.cast x.2.length : Int)) = false := by simp [hl]
      have := p50 (x.1.length + 1) x.1 x.2 hl ha.1 (some true) (x.1.length + 1) 0 (by omega) (by omega)
      rw [e1]
      simp only [cond_false]
      refine this.trans ?_
      simp only [List.drop_zero]
      split <;> simp [*]
    · have e1 : ((Nat.cast x.1.length : Int) != (Nat.cast x.2.length : Int)) = true := by simp; omega
      rw [e1]
      have : x.1 ≠ x.2 := fun h => hl (by rw [h])
      simp [this]
  · cases h

def m68 (a : Int) : Option Bool := some (decide (0 ≤ a ∧ a ≤ 4294967295))
theorem sat68 : Sat prog cxT 68 (c68 m68) := s68 m63 sat63 m68 fun x t h => by
  cases h
  exact ⟨0, rfl⟩
def m69 (a : Int) : Option Bool := some (decide (0 ≤ a ∧ a ≤ 65535))
theorem sat69 : Sat prog cxT 69 (c69 m69) := s69 m63 sat63 m69 fun x t h => by
  cases h
  exact ⟨0, rfl⟩
theorem sat65 : Sat prog cxT 65 (c65 m68) := s65 m68 fun x t h => by
  cases h
  refine ⟨0, ?_⟩
  unfold g65
  by_cases h1 : 0 ≤ x <;> simp [h1]
theorem sat67 : Sat prog cxT 67 (c67 m69) := s67 m69 fun x t h => by
  cases h
  refine ⟨0, ?_⟩
  unfold g67
  by_cases h1 : 0 ≤ x <;> simp [h1]
def m66 (a : Int) : Option Bool := some (decide (a = 6 ∨ a = 17))
theorem sat66 : Sat prog cxT 66 (c66 m66) := s66 m66 fun x t h => by
  cases h
  refine ⟨0, ?_⟩
  unfold g66
  by_cases h1 : x = 6
  · simp [h1]
  · have : (x == 6) = false := by simpa using h1
    rw [this]
    by_cases h2 : x = 17 <;> simp [h1, h2]
def pOk (p : Pk) : Prop := (0 ≤ p.1 ∧ p.1 ≤ 4294967295) ∧ (0 ≤ p.2.1 ∧ p.2.1 ≤ 4294967295) ∧ (p.2.2.1 = 6 ∨ p.2.2.1 = 17) ∧ (0 ≤ p.2.2.2.1 ∧ p.2.2.2.1 ≤ 65535) ∧ (0 ≤ p.2.2.2.2.1 ∧ p.2.2.2.2.1 ≤ 65535)
def pf (p : Pk) : Int := if (0 ≤ p.1 ∧ p.1 ≤ 4294967295) ∧ (0 ≤ p.2.1 ∧ p.2.1 ≤ 4294967295) ∧ (p.2.2.1 = 6 ∨ p.2.2.1 = 17) ∧ (0 ≤ p.2.2.2.1 ∧ p.2.2.2.1 ≤ 65535) ∧ (0 ≤ p.2.2.2.2.1 ∧ p.2.2.2.2.1 ≤ 65535) then (if p.2.2.2.2.2.length > 200 then 2 else 0) else 3
theorem pf_3 {p : Pk} (h : ¬ pOk p) : pf p = 3 := if_neg h
theorem pf_in {p : Pk} (h : pOk p) : pf p = if p.2.2.2.2.2.length > 200 then 2 else 0 := if_pos h
def mPf (p : Pk) : Option Int := some (pf p)
theorem sat43 : Sat prog cxT 43 (c43 mPf) := s43 m68 m66 m69 sat65 sat66 sat67 mPf fun p t h => by
  cases h
  refine ⟨0, ?_⟩
  obtain ⟨a, b, c, d, e, l⟩ := p
  show g43 m68 m66 m69 0 a b c d e l = some (pf (a, b, c, d, e, l))
  unfold g43 m68 m66 m69
  simp only [Option.isSome_some, Option.getD_some, cond_true]
  by_cases h1 : 0 ≤ a ∧ a ≤ 4294967295
  · by_cases h2 : 0 ≤ b ∧ b ≤ 4294967295
    · by_cases h3 : c = 6 ∨ c = 17
      · by_cases h4 : 0 ≤ d ∧ d ≤ 65535
        · by_cases h5 : 0 ≤ e ∧ e ≤ 65535
          · rw [pf_in ⟨h1, h2, h3, h4, h5⟩, dt h1, dt h2, dt h3, dt h4, dt h5]
            simp only [Bool.not_true, cond_false]
            by_cases h6 : l.length > 200
            · rw [dt (by omega), if_pos h6]; rfl
            · rw [df (by omega), if_neg h6]; rfl
          · rw [pf_3 (fun h => h5 h.2.2.2.2), dt h1, dt h2, dt h3, dt h4, df h5]; rfl
        · rw [pf_3 (fun h => h4 h.2.2.2.1), dt h1, dt h2, dt h3, df h4]; rfl
      · rw [pf_3 (fun h => h3 h.2.2.1), dt h1, dt h2, df h3]; rfl
    · rw [pf_3 (fun h => h2 h.2.1), dt h1, df h2]; rfl
  · rw [pf_3 (fun h => h1 h.1), df h1]; rfl
theorem sat44 : Sat prog cxT 44 (c44 mPf) := s44 m68 m69 sat68 sat69 mPf fun p t h => by
  cases h
  refine ⟨0, ?_⟩
  obtain ⟨a, b, c, d, e, l⟩ := p
  show g44 m68 m69 0 a b c d e l = some (pf (a, b, c, d, e, l))
  unfold g44 m68 m69
  simp only [Option.isSome_some, Option.getD_some, cond_true]
  have last : (0 ≤ a ∧ a ≤ 4294967295) → (0 ≤ b ∧ b ≤ 4294967295) → (c = 6 ∨ c = 17) → (bif !(decide (0 ≤ d ∧ d ≤ 65535)) then some (3 : Int) else bif !(decide (0 ≤ e ∧ e ≤ 65535)) then some (3 : Int) else bif decide ((l.length : Int) > 200) then some (2 : Int) else some (0 : Int)) = some (pf (a, b, c, d, e, l)) := by
    intro h1 h2 h3
    by_cases h4 : 0 ≤ d ∧ d ≤ 65535
    · by_cases h5 : 0 ≤ e ∧ e ≤ 65535
      · rw [pf_in ⟨h1, h2, h3, h4, h5⟩, dt h4, dt h5]
        simp only [Bool.not_true, cond_false]
        by_cases h6 : l.length > 200
        · rw [dt (by omega), if_pos h6]; rfl
        · rw [df (by omega), if_neg h6]; rfl
      · rw [pf_3 (fun h => h5 h.2.2.2.2), dt h4, df h5]; rfl
    · rw [pf_3 (fun h => h4 h.2.2.2.1), df h4]; rfl
  by_cases h1 : 0 ≤ a ∧ a ≤ 4294967295
  · by_cases h2 : 0 ≤ b ∧ b ≤ 4294967295
    · rw [dt h1, dt h2]
      simp only [Bool.not_true, cond_false]
      by_cases h3 : c = 6
      · rw [bneF h3]
        exact last h1 h2 (.inl h3)
      · rw [bneT h3]
        by_cases h3' : c = 17
        · rw [bneF h3']
          exact last h1 h2 (.inr h3')
        · rw [bneT h3', pf_3 (fun h => by rcases h.2.2.1 with h | h; exact h3 h; exact h3' h)]; rfl
    · rw [pf_3 (fun h => h2 h.2.1), dt h1, df h2]; rfl
  · rw [pf_3 (fun h => h1 h.1), df h1]; rfl

/-! the law's own helpers -/
def m47 (x : List Int × Int) : Option Int := if x.1.length ≤ 9223372036854775807 ∧ 0 ≤ x.2 ∧ x.2 ≤ 1000000000000 then some (if x.2 - x.1.length < 0 then -1 else x.2 - x.1.length) else none
theorem sat47 : Sat prog cxT 47 (c47 m47) := s47 m47 fun x t h => by
  obtain ⟨a, k⟩ := x
  unfold m47 at h
  split at h
  · rename_i hc
    obtain ⟨h1, h2, h3⟩ := hc
    simp only at h1 h2 h3 h
    cases h
    refine ⟨0, ?_⟩
    unfold g47
    simp (disch := omega) only [wi]
    by_cases hk : k - (a.length : Int) < 0
    · rw [dt hk, if_pos hk]; rfl
    · rw [df hk, if_neg hk]; rfl
  · cases h
def m22 (x : Pk × Int) : Option Int := m47 (x.1.2.2.2.2.2, x.2)
theorem sat22 : Sat prog cxT 22 (c22 m22) := s22 m47 sat47 m22 fun x t h => by
  obtain ⟨⟨a, b, c, d, e, l⟩, k⟩ := x
  have h : m47 (l, k) = some t := h
  refine ⟨0, ?_⟩
  show g22 m47 0 a b c d e l k = some t
  unfold g22
  simp only [h, Option.isSome_some, Option.getD_some, cond_true]
  unfold m47 at h
  split at h
  · rename_i hc
    simp only at h
    cases h
    by_cases hk : k - (l.length : Int) < 0
    · rw [if_pos hk]; rfl
    · rw [if_neg hk, df hk]; rfl
  · cases h
def m23 (p : Pk) : Option Pk := if p.2.2.2.2.2.length ≤ 1000000000 then some p else none
theorem sat23 : Sat prog cxT 23 (c23 m23) := s23 m48 sat48 m23 fun p t h => by
  obtain ⟨a, b, c, d, e, l⟩ := p
  unfold m23 at h
  split at h
  · rename_i hc
    cases h
    refine ⟨0, ?_⟩
    show g23 m48 0 a b c d e l = _
    have e1 : m48 l = some l := if_pos hc
    unfold g23
    simp only [e1, Option.isSome_some, Option.getD_some, cond_true]
  · cases h
def m25 (x : Pk × Pk) : Option Bool := if x.1.2.2.2.2.2.length ≤ 1000000000000 ∧ x.2.2.2.2.2.2.length ≤ 1000000000000 then some (decide (x.1 = x.2)) else none
theorem sat25 : Sat prog cxT 25 (c25 m25) := s25 m50 sat50 m25 fun x t h => by
  obtain ⟨⟨a, b, c, d, e, l⟩, a', b', c', d', e', l'⟩ := x
  unfold m25 at h
  split at h
  · rename_i hc
    cases h
    refine ⟨0, ?_⟩
    show g25 m50 0 a b c d e l a' b' c' d' e' l' = _
    have e1 : m50 (l, l') = some (decide (l = l')) := if_pos hc
    unfold g25
    simp only [e1, Option.isSome_some, Option.getD_some, cond_true]
    by_cases h1 : a = a'
    · by_cases h2 : b = b'
      · by_cases h3 : c = c'
        · by_cases h4 : d = d'
          · by_cases h5 : e = e'
            · rw [bneF h1, bneF h2, bneF h3, bneF h4, bneF h5]
              by_cases h6 : l = l' <;> simp [h1, h2, h3, h4, h5, h6]
            · rw [bneF h1, bneF h2, bneF h3, bneF h4, bneT h5]; simp [h5]
          · rw [bneF h1, bneF h2, bneF h3, bneT h4]; simp [h4]
        · rw [bneF h1, bneF h2, bneT h3]; simp [h3]
      · rw [bneF h1, bneT h2]; simp [h2]
    · rw [bneT h1]; simp [h1]
  · cases h

/-! FnExactPacketFault -/
end Go.Proofs.Try
