/- A part of the proof of FnExactBuildPacket: L2Pa. -/
import Derived.Test.YtaegcoihgnobiaaVmOpen
import Derived.Test.YtaegcoihgnobiaaL2Fa
set_option maxHeartbeats 0
set_option linter.unusedVariables false
set_option linter.unusedSimpArgs false
namespace Go.Proofs.Try
open Go Go.VM Go.RowKit

/-! toByteS -/
def m29 (a : List Int) : Option (List Int) := if a.length ≤ 1000000000 then some a else none
theorem p29 (L : Nat) (a : List Int) (ha : a.length ≤ 1000000000) (k : List Int → Option (List Int)) : ∀ (n i : Nat) (o : List Int), o.length = a.length → i ≤ a.length → a.length < n + i → o.take i = a.take i → l29_0 L a n o i k = k a
  | 0, i, o, _, h2, h3, _ => by omega
  | n + 1, i, o, h1, h2, h3, h4 => by
    unfold l29_0
    by_cases hi : i < a.length
    · simp (disch := omega) only [dt, df, wi, cond_true, Bool.and_self, Int.toNat_natCast]
      have := p29 L a ha k n (i + 1) (o.set i (a.getD i 0)) (by rw [List.length_set]; exact h1) (by omega) (by omega) (by
        rw [List.take_add_one, List.take_add_one, List.take_set_of_le (Nat.le_refl _), h4]
        congr 1
        rw [List.getElem?_set_self (by omega), List.getElem?_eq_getElem hi]
        simp [List.getD, List.getElem?_eq_getElem hi])
      simpa using this
    · simp (disch := omega) only [dt, df, cond_false]
      have hil : i = a.length := by omega
      rw [hil, List.take_length, ← h1, List.take_length] at h4
      rw [h4]
theorem sat29 : Sat prog cxT 29 (c29 m29) := s29 m29 fun x t h => by
  unfold m29 at h
  split at h
  · rename_i ha
    cases h
    refine ⟨x.length + 1, ?_⟩
    unfold g29
    simp (disch := omega) only [dt, cond_true, Bool.and_self, Int.toNat_natCast]
    exact p29 _ x ha _ _ 0 _ (by simp) (by omega) (by omega) rfl
  · cases h

/-! eqByteS -/
def m32 (x : List Int × List Int) : Option Bool := if x.1.length ≤ 1000000000000 ∧ x.2.length ≤ 1000000000000 then some (decide (x.1 = x.2)) else none
theorem p32 (L : Nat) (a b : List Int) (hl : a.length = b.length) (ha : a.length ≤ 1000000000000) (k : Option Bool) : ∀ (n i : Nat), i ≤ a.length → a.length < n + i →
    l32_0 L a b n i k = if a.drop i = b.drop i then k else some false
  | 0, i, h2, h3 => by omega
  | n + 1, i, h2, h3 => by
    unfold l32_0
    by_cases hi : i < a.length
    · simp (disch := omega) only [dt, df, wi, cond_true, Bool.and_self, Int.toNat_natCast]
      rw [drop_cons 0 hi, drop_cons 0 (show i < b.length by omega)]
      have := p32 L a b hl ha k n (i + 1) (by omega) (by omega)
      simp only [Int.natCast_add, Int.cast_ofNat_Int] at this
      rw [this]
      by_cases hx : a.getD i 0 = b.getD i 0
      · rw [hx]; simp
      · have h2 : (a.getD i 0 != b.getD i 0) = true := by simpa using hx
        rw [h2, if_neg (fun h => hx (List.cons.inj h).1)]
        rfl
    · simp (disch := omega) only [df, cond_false]
      rw [List.drop_eq_nil_of_le (by omega), List.drop_eq_nil_of_le (by omega)]
      simp
theorem sat32 : Sat prog cxT 32 (c32 m32) := s32 m32 fun x t h => by
  unfold m32 at h
  split at h
  · rename_i ha
    cases h
    refine ⟨x.1.length + 1, ?_⟩
    unfold g32
    by_cases hl : x.1.length = x.2.length
    · have e1 : ((Nat.cast x.1.length : Int) != (Nat.cast x.2.length : Int)) = false := by simp [hl]
      have := p32 (x.1.length + 1) x.1 x.2 hl ha.1 (some true) (x.1.length + 1) 0 (by omega) (by omega)
      rw [e1]
      simp only [cond_false]
      refine this.trans ?_
      simp only [List.drop_zero]
      split <;> simp [*]
    · have e1 : ((Nat.cast x.1.length : Int) != (Nat.cast x.2.length : Int)) = true := by simp; omega
      rw [e1]
      have : x.1 ≠ x.2 := fun h => hl (by rw [h])
      simp [this]
  · cases h

def m49 (x : Int × Int × Int) : Option Bool := some (decide (x.2.1 ≤ x.1 ∧ x.1 ≤ x.2.2))
theorem sat49 : Sat prog cxT 49 (c49 m49) := s49 m49 fun x t h => by
  cases h
  refine ⟨0, ?_⟩
  unfold g49
  by_cases h1 : x.2.1 ≤ x.1 <;> simp [h1]


/-! packets -/
abbrev Pk := Int × Int × Int × Int × Int × List Int
def adr (a : Int) : Prop := 0 ≤ a ∧ a ≤ 4294967295
def prt (a : Int) : Prop := 0 ≤ a ∧ a ≤ 65535
def m58 (a : Int) : Option Bool := some (decide (0 ≤ a ∧ a ≤ 4294967295))
theorem sat58 : Sat prog cxT 58 (c58 m58) := s58 m49 sat49 m58 fun x t h => by
  cases h
  exact ⟨0, rfl⟩
def m60 (a : Int) : Option Bool := some (decide (0 ≤ a ∧ a ≤ 65535))
theorem sat60 : Sat prog cxT 60 (c60 m60) := s60 m49 sat49 m60 fun x t h => by
  cases h
  exact ⟨0, rfl⟩
theorem sat51 : Sat prog cxT 51 (c51 m58) := s51 m58 fun x t h => by
  cases h
  refine ⟨0, ?_⟩
  unfold g51
  by_cases h1 : 0 ≤ x <;> simp [h1]
theorem sat62 : Sat prog cxT 62 (c62 m60) := s62 m60 fun x t h => by
  cases h
  refine ⟨0, ?_⟩
  unfold g62
  by_cases h1 : 0 ≤ x <;> simp [h1]
def m61 (a : Int) : Option Bool := some (decide (a = 6 ∨ a = 17))
theorem sat61 : Sat prog cxT 61 (c61 m61) := s61 m61 fun x t h => by
  cases h
  refine ⟨0, ?_⟩
  unfold g61
  by_cases h1 : x = 6
  · simp [h1]
  · have : (x == 6) = false := by simpa using h1
    rw [this]
    by_cases h2 : x = 17 <;> simp [h1, h2]
def pOk (p : Pk) : Prop := (0 ≤ p.1 ∧ p.1 ≤ 4294967295) ∧ (0 ≤ p.2.1 ∧ p.2.1 ≤ 4294967295) ∧ (p.2.2.1 = 6 ∨ p.2.2.1 = 17) ∧ (0 ≤ p.2.2.2.1 ∧ p.2.2.2.1 ≤ 65535) ∧ (0 ≤ p.2.2.2.2.1 ∧ p.2.2.2.2.1 ≤ 65535)
def pf (p : Pk) : Int := if (0 ≤ p.1 ∧ p.1 ≤ 4294967295) ∧ (0 ≤ p.2.1 ∧ p.2.1 ≤ 4294967295) ∧ (p.2.2.1 = 6 ∨ p.2.2.1 = 17) ∧ (0 ≤ p.2.2.2.1 ∧ p.2.2.2.1 ≤ 65535) ∧ (0 ≤ p.2.2.2.2.1 ∧ p.2.2.2.2.1 ≤ 65535) then (if p.2.2.2.2.2.length > 200 then 2 else 0) else 3
theorem pf_3 {p : Pk} (h : ¬ pOk p) : pf p = 3 := if_neg h
theorem pf_in {p : Pk} (h : pOk p) : pf p = if p.2.2.2.2.2.length > 200 then 2 else 0 := if_pos h
def mPf (p : Pk) : Option Int := some (pf p)
theorem sat20 : Sat prog cxT 20 (c20 mPf) := s20 m58 m61 m60 sat51 sat61 sat62 mPf fun p t h => by
  cases h
  refine ⟨0, ?_⟩
  obtain ⟨a, b, c, d, e, l⟩ := p
  show g20 m58 m61 m60 0 a b c d e l = some (pf (a, b, c, d, e, l))
  unfold g20 m58 m61 m60
  simp only [Option.isSome_some, Option.getD_some, cond_true]
  by_cases h1 : 0 ≤ a ∧ a ≤ 4294967295
  · by_cases h2 : 0 ≤ b ∧ b ≤ 4294967295
    · by_cases h3 : c = 6 ∨ c = 17
      · by_cases h4 : 0 ≤ d ∧ d ≤ 65535
        · by_cases h5 : 0 ≤ e ∧ e ≤ 65535
          · rw [pf_in ⟨h1, h2, h3, h4, h5⟩, dt h1, dt h2, dt h3, dt h4, dt h5]
            simp only [Bool.not_true, cond_false]
            by_cases h6 : l.length > 200
            · rw [dt (by omega), if_pos h6]; rfl
            · rw [df (by omega), if_neg h6]; rfl
          · rw [pf_3 (fun h => h5 h.2.2.2.2), dt h1, dt h2, dt h3, dt h4, df h5]; rfl
        · rw [pf_3 (fun h => h4 h.2.2.2.1), dt h1, dt h2, dt h3, df h4]; rfl
      · rw [pf_3 (fun h => h3 h.2.2.1), dt h1, dt h2, df h3]; rfl
    · rw [pf_3 (fun h => h2 h.2.1), dt h1, df h2]; rfl
  · rw [pf_3 (fun h => h1 h.1), df h1]; rfl
theorem sat18 : Sat prog cxT 18 (c18 mPf) := s18 m58 m60 sat58 sat60 mPf fun p t h => by
  cases h
  refine ⟨0, ?_⟩
  obtain ⟨a, b, c, d, e, l⟩ := p
  show g18 m58 m60 0 a b c d e l = some (pf (a, b, c, d, e, l))
  unfold g18 m58 m60
  simp only [Option.isSome_some, Option.getD_some, cond_true]
  have last : (0 ≤ a ∧ a ≤ 4294967295) → (0 ≤ b ∧ b ≤ 4294967295) → (c = 6 ∨ c = 17) → (bif !(decide (0 ≤ d ∧ d ≤ 65535)) then some (3 : Int) else bif !(decide (0 ≤ e ∧ e ≤ 65535)) then some (3 : Int) else bif decide ((l.length : Int) > 200) then some (2 : Int) else some (0 : Int)) = some (pf (a, b, c, d, e, l)) := by
    intro h1 h2 h3
    by_cases h4 : 0 ≤ d ∧ d ≤ 65535
    · by_cases h5 : 0 ≤ e ∧ e ≤ 65535
      · rw [pf_in ⟨h1, h2, h3, h4, h5⟩, dt h4, dt h5]
        simp only [Bool.not_true, cond_false]
        by_cases h6 : l.length > 200
        · rw [dt (by omega), if_pos h6]; rfl
        · rw [df (by omega), if_neg h6]; rfl
      · rw [pf_3 (fun h => h5 h.2.2.2.2), dt h4, df h5]; rfl
    · rw [pf_3 (fun h => h4 h.2.2.2.1), df h4]; rfl
  by_cases h1 : 0 ≤ a ∧ a ≤ 4294967295
  · by_cases h2 : 0 ≤ b ∧ b ≤ 4294967295
    · rw [dt h1, dt h2]
      simp only [Bool.not_true, cond_false]
      by_cases h3 : c = 6
      · rw [bneF h3]
        exact last h1 h2 (.inl h3)
      · rw [bneT h3]
        by_cases h3' : c = 17
        · rw [bneF h3']
          exact last h1 h2 (.inr h3')
        · rw [bneT h3', pf_3 (fun h => by rcases h.2.2.1 with h | h; exact h3 h; exact h3' h)]; rfl
    · rw [pf_3 (fun h => h2 h.2.1), dt h1, df h2]; rfl
  · rw [pf_3 (fun h => h1 h.1), df h1]; rfl

/-! the law's own helpers -/
def m59 (x : List Int × Int) : Option Int := if x.1.length ≤ 9223372036854775807 ∧ 0 ≤ x.2 ∧ x.2 ≤ 1000000000000 then some (if x.2 - x.1.length < 0 then -1 else x.2 - x.1.length) else none
theorem sat59 : Sat prog cxT 59 (c59 m59) := s59 m59 fun x t h => by
  obtain ⟨a, k⟩ := x
  unfold m59 at h
  split at h
  · rename_i hc
    obtain ⟨h1, h2, h3⟩ := hc
    simp only at h1 h2 h3 h
    cases h
    refine ⟨0, ?_⟩
    unfold g59
    simp (disch := omega) only [wi]
    by_cases hk : k - (a.length : Int) < 0
    · rw [dt hk, if_pos hk]; rfl
    · rw [df hk, if_neg hk]; rfl
  · cases h
def m17 (x : Pk × Int) : Option Int := m59 (x.1.2.2.2.2.2, x.2)
theorem sat17 : Sat prog cxT 17 (c17 m17) := s17 m59 sat59 m17 fun x t h => by
  obtain ⟨⟨a, b, c, d, e, l⟩, k⟩ := x
  have h : m59 (l, k) = some t := h
  refine ⟨0, ?_⟩
  show g17 m59 0 a b c d e l k = some t
  unfold g17
  simp only [h, Option.isSome_some, Option.getD_some, cond_true]
  unfold m59 at h
  split at h
  · rename_i hc
    simp only at h
    cases h
    by_cases hk : k - (l.length : Int) < 0
    · rw [if_pos hk]; rfl
    · rw [if_neg hk, df hk]; rfl
  · cases h
def m19 (p : Pk) : Option Pk := if p.2.2.2.2.2.length ≤ 1000000000 then some p else none
theorem sat19 : Sat prog cxT 19 (c19 m19) := s19 m29 sat29 m19 fun p t h => by
  obtain ⟨a, b, c, d, e, l⟩ := p
  unfold m19 at h
  split at h
  · rename_i hc
    cases h
    refine ⟨0, ?_⟩
    show g19 m29 0 a b c d e l = _
    have e1 : m29 l = some l := if_pos hc
    unfold g19
    simp only [e1, Option.isSome_some, Option.getD_some, cond_true]
  · cases h
def m21 (x : Pk × Pk) : Option Bool := if x.1.2.2.2.2.2.length ≤ 1000000000000 ∧ x.2.2.2.2.2.2.length ≤ 1000000000000 then some (decide (x.1 = x.2)) else none
theorem sat21 : Sat prog cxT 21 (c21 m21) := s21 m32 sat32 m21 fun x t h => by
  obtain ⟨⟨a, b, c, d, e, l⟩, a', b', c', d', e', l'⟩ := x
  unfold m21 at h
  split at h
  · rename_i hc
    cases h
    refine ⟨0, ?_⟩
    show g21 m32 0 a b c d e l a' b' c' d' e' l' = _
    have e1 : m32 (l, l') = some (decide (l = l')) := if_pos hc
    unfold g21
    simp only [e1, Option.isSome_some, Option.getD_some, cond_true]
    by_cases h1 : a = a'
    · by_cases h2 : b = b'
      · by_cases h3 : c = c'
        · by_cases h4 : d = d'
          · by_cases h5 : e = e'
            · rw [bneF h1, bneF h2, bneF h3, bneF h4, bneF h5]
              by_cases h6 : l = l' <;> simp [h1, h2, h3, h4, h5, h6]
            · rw [bneF h1, bneF h2, bneF h3, bneF h4, bneT h5]; simp [h5]
          · rw [bneF h1, bneF h2, bneF h3, bneT h4]; simp [h4]
        · rw [bneF h1, bneF h2, bneT h3]; simp [h3]
      · rw [bneF h1, bneT h2]; simp [h2]
    · rw [bneT h1]; simp [h1]
  · cases h

/-! FnExactPacketFault -/
def m4 (p : Pk) : Option Bool := if p.2.2.2.2.2.length ≤ 9223372036854775807 then some true else none
theorem sat4 : Sat prog cxT 4 (c4 m4) := s4 m17 m19 mPf mPf m21 sat17 sat19 sat18 sat20 sat21 m4 fun p t h => by
  obtain ⟨a, b, c, d, e, l⟩ := p
  unfold m4 at h
  split at h
  · rename_i hc
    cases h
    refine ⟨0, ?_⟩
    show g4 m17 m19 mPf mPf m21 0 a b c d e l = some true
    have e17 : m17 ((a, b, c, d, e, l), 1048576) = some (if (1048576 : Int) - (l.length : Int) < 0 then (-1 : Int) else (1048576 : Int) - (l.length : Int)) := if_pos ⟨hc, by show (0 : Int) ≤ 1048576; decide, by show (1048576 : Int) ≤ 1000000000000; decide⟩
    unfold g4
    simp only [e17, Option.isSome_some, Option.getD_some, cond_true]
    by_cases hk : (1048576 : Int) - (l.length : Int) < 0
    · rw [if_pos hk]; rfl
    · rw [if_neg hk, df hk]
      have e19 : m19 (a, b, c, d, e, l) = some (a, b, c, d, e, l) := if_pos (by show l.length ≤ 1000000000; omega)
      have e21 : m21 ((a, b, c, d, e, l), a, b, c, d, e, l) = some true := (if_pos ⟨by show l.length ≤ 1000000000000; omega, by show l.length ≤ 1000000000000; omega⟩).trans (by simp)
      simp only [e19, e21, mPf, Option.isSome_some, Option.getD_some, cond_true, cond_false, Bool.not_true, bneF]
  · cases h
end Go.Proofs.Try
