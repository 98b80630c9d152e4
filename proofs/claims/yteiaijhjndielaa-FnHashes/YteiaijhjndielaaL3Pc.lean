/- A part of the proof of FnHashes: L3Pc. -/
import Derived.Test.YteiaijhjndielaaL3Pa
import Derived.Test.YteiaijhjndielaaL3Pb
set_option maxHeartbeats 0
set_option linter.unusedVariables false
set_option linter.unusedSimpArgs false
namespace Go.Proofs.Try
open Go Go.VM Go.RowKit

/-! HashFlow -/
abbrev F5 := Int × Int × Int × Int × Int
def hashI (f : F5) : Int := mixI f.2.2.2.2 (mixI f.2.2.2.1 (mixI f.2.2.1 (mixI f.2.1 (mixI f.1 7))))
def fOk (f : F5) : Prop := (0 ≤ f.1 ∧ f.1 ≤ 4294967295) ∧ (0 ≤ f.2.1 ∧ f.2.1 ≤ 4294967295) ∧ (f.2.2.1 = 6 ∨ f.2.2.1 = 17) ∧ (0 ≤ f.2.2.2.1 ∧ f.2.2.2.1 ≤ 65535) ∧ (0 ≤ f.2.2.2.2 ∧ f.2.2.2.2 ≤ 65535)
instance (f : F5) : Decidable (fOk f) := by unfold fOk; infer_instance
def mHash0 (f : F5) : Option Int := some (hashI f)
theorem sat52 : Sat prog cxT 52 (c52 mHash0) := s52 mMix sat29 mHash0 fun x t h => by
  obtain ⟨a, b, c, d, e⟩ := x
  cases h
  refine ⟨6, ?_⟩
  kernel_rfl
def mFOk (f : F5) : Option Bool := some (decide (fOk f))
theorem sat51 : Sat prog cxT 51 (c51 mFOk) := s51 m68 m69 sat68 sat69 mFOk fun x t h => by
  obtain ⟨a, b, c, d, e⟩ := x
  cases h
  refine ⟨0, ?_⟩
  show g51 m68 m69 0 a b c d e = some (decide ((0 ≤ a ∧ a ≤ 4294967295) ∧ (0 ≤ b ∧ b ≤ 4294967295) ∧ (c = 6 ∨ c = 17) ∧ (0 ≤ d ∧ d ≤ 65535) ∧ (0 ≤ e ∧ e ≤ 65535)))
  unfold g51
  simp only [m68, m69, Option.isSome_some, Option.getD_some, cond_true]
  by_cases h1 : 0 ≤ a ∧ a ≤ 4294967295
  · by_cases h2 : 0 ≤ b ∧ b ≤ 4294967295
    · by_cases h3 : c = 6
      · by_cases h4 : 0 ≤ d ∧ d ≤ 65535 <;> simp [h1, h2, h3, h4]
      · by_cases h3' : c = 17
        · by_cases h4 : 0 ≤ d ∧ d ≤ 65535 <;> simp [h1, h2, h3', h4]
        · have e1 : (c == 6) = false := by simpa using h3
          have e2 : (c == 17) = false := by simpa using h3'
          simp [h1, h2, h3, h3', e1, e2]
    · have q : ¬ ((0 ≤ a ∧ a ≤ 4294967295) ∧ (0 ≤ b ∧ b ≤ 4294967295) ∧ (c = 6 ∨ c = 17) ∧ (0 ≤ d ∧ d ≤ 65535) ∧ (0 ≤ e ∧ e ≤ 65535)) := fun h => h2 h.2.1
      rw [df q, dt h1, df h2]; rfl
  · have q : ¬ ((0 ≤ a ∧ a ≤ 4294967295) ∧ (0 ≤ b ∧ b ≤ 4294967295) ∧ (c = 6 ∨ c = 17) ∧ (0 ≤ d ∧ d ≤ 65535) ∧ (0 ≤ e ∧ e ≤ 65535)) := fun h => h1 h.1
    rw [df q, df h1]; rfl
def mHash (f : F5) : Option (Int × Int) := some (if fOk f then (0, hashI f) else (3, 0))
theorem sat26 : Sat prog cxT 26 (c26 mHash) := s26 mFOk mHash0 sat51 sat52 mHash fun x t h => by
  obtain ⟨a, b, c, d, e⟩ := x
  cases h
  refine ⟨0, ?_⟩
  unfold g26
  by_cases hk : fOk (a, b, c, d, e)
  · simp only [mFOk, mHash0, dt hk, if_pos hk, Option.isSome_some, Option.getD_some, cond_true, Bool.not_true, cond_false]
  · simp only [mFOk, df hk, if_neg hk, Option.isSome_some, Option.getD_some, cond_true, Bool.not_false]
def mFF (f : F5) : Option Int := some (if fOk f then 0 else 3)
theorem pf_flow (f : F5) : pf (f.1, f.2.1, f.2.2.1, f.2.2.2.1, f.2.2.2.2, []) = if fOk f then 0 else 3 := by
  by_cases hk : fOk f
  · rw [if_pos hk]; exact (pf_in (p := (f.1, f.2.1, f.2.2.1, f.2.2.2.1, f.2.2.2.2, [])) hk).trans (if_neg (by simp))
  · rw [if_neg hk]; exact pf_3 (p := (f.1, f.2.1, f.2.2.1, f.2.2.2.1, f.2.2.2.2, [])) hk
theorem sat46 : Sat prog cxT 46 (c46 mFF) := s46 mPf sat43 mFF fun x t h => by
  obtain ⟨a, b, c, d, e⟩ := x
  cases h
  refine ⟨0, ?_⟩
  unfold g46
  have := pf_flow (a, b, c, d, e)
  simp only at this
  simp only [mPf, this, Option.isSome_some, Option.getD_some, cond_true]
theorem loop21 (a b c d e : Int) (k : Int → Int → Int → Option (Int × Int)) : l21_0 mFF mMix 6 a b c d e 6 0 0 7 0 k = k 0 0 (hashI (a, b, c, d, e)) := by kernel_rfl
theorem sat21 : Sat prog cxT 21 (c21 mHash) := s21 mFF mMix sat46 sat30 mHash fun x t h => by
  obtain ⟨a, b, c, d, e⟩ := x
  cases h
  refine ⟨6, ?_⟩
  unfold g21
  rw [loop21]
  by_cases hk : fOk (a, b, c, d, e)
  · simp only [mFF, if_pos hk, Option.isSome_some, Option.getD_some, cond_true, bneF, cond_false]
  · simp only [mFF, if_neg hk, Option.isSome_some, Option.getD_some, cond_true]
    rfl
def mId (f : F5) : Option F5 := some f
theorem sat27 : Sat prog cxT 27 (c27 mId) := s27 mId fun x t h => by
  obtain ⟨a, b, c, d, e⟩ := x
  cases h
  exact ⟨0, rfl⟩

/-! FnExactHashFlow -/
def m6 (f : F5) : Option Bool := some true
theorem sat6 : Sat prog cxT 6 (c6 m6) := s6 mId mHash mHash mEqI sat27 sat26 sat21 sat28 m6 fun x t h => by
  obtain ⟨a, b, c, d, e⟩ := x
  cases h
  refine ⟨0, ?_⟩
  unfold g6
  simp only [mId, mHash, mEqI, Option.isSome_some, Option.getD_some, cond_true, decide_true, Bool.not_true, cond_false]

/-! FlowOf -/
def flo (p : Pk) : F5 := (p.1, p.2.1, p.2.2.1, p.2.2.2.1, p.2.2.2.2.1)
def mFlo (p : Pk) : Option F5 := some (flo p)
theorem sat45 : Sat prog cxT 45 (c45 mFlo) := s45 mFlo fun x t h => by
  obtain ⟨a, b, c, d, e, l⟩ := x
  cases h
  exact ⟨0, rfl⟩
def mFlow (p : Pk) : Option (Int × F5) := some (if pf p = 0 then (0, flo p) else (pf p, 0, 0, 0, 0, 0))
theorem sat19 : Sat prog cxT 19 (c19 mFlow) := s19 mPf sat43 mFlow fun x t h => by
  obtain ⟨a, b, c, d, e, l⟩ := x
  cases h
  refine ⟨0, ?_⟩
  unfold g19
  simp only [mPf, Option.isSome_some, Option.getD_some, cond_true]
  by_cases hk : pf (a, b, c, d, e, l) = 0
  · rw [bneF hk, cond_false, if_pos hk]; rfl
  · rw [bneT hk, cond_true, if_neg hk]
theorem sat20 : Sat prog cxT 20 (c20 mFlow) := s20 mPf mFlo sat44 sat45 mFlow fun x t h => by
  obtain ⟨a, b, c, d, e, l⟩ := x
  cases h
  refine ⟨0, ?_⟩
  unfold g20
  simp only [mPf, mFlo, Option.isSome_some, Option.getD_some, cond_true]
  by_cases hk : pf (a, b, c, d, e, l) = 0
  · rw [bneF hk, cond_false, if_pos hk]
  · rw [bneT hk, cond_true, if_neg hk]
def mEq5 (x : F5 × F5) : Option Bool := some (decide (x.1 = x.2))
theorem sat49 : Sat prog cxT 49 (c49 mEq5) := s49 mEq5 fun x t h => by
  obtain ⟨⟨a, b, c, d, e⟩, a', b', c', d', e'⟩ := x
  cases h
  refine ⟨0, ?_⟩
  unfold g49
  simp only
  by_cases h1 : a = a'
  · by_cases h2 : b = b'
    · by_cases h3 : c = c'
      · by_cases h4 : d = d'
        · by_cases h5 : e = e'
          · rw [bneF h1, bneF h2, bneF h3, bneF h4, bneF h5]; simp [h1, h2, h3, h4, h5]
          · rw [bneF h1, bneF h2, bneF h3, bneF h4, bneT h5]; simp [h5]
        · rw [bneF h1, bneF h2, bneF h3, bneT h4]; simp [h4]
      · rw [bneF h1, bneF h2, bneT h3]; simp [h3]
    · rw [bneF h1, bneT h2]; simp [h2]
  · rw [bneT h1]; simp [h1]
def mEq6 (x : (Int × F5) × Int × F5) : Option Bool := some (decide (x.1 = x.2))
theorem sat24 : Sat prog cxT 24 (c24 mEq6) := s24 mEq5 sat49 mEq6 fun x t h => by
  obtain ⟨⟨z, a, b, c, d, e⟩, z', a', b', c', d', e'⟩ := x
  cases h
  refine ⟨0, ?_⟩
  unfold g24
  simp only [mEq5, Option.isSome_some, Option.getD_some, cond_true]
  by_cases h1 : z = z'
  · subst h1
    rw [bneF rfl, cond_false]
    by_cases h2 : (a, b, c, d, e) = (a', b', c', d', e')
    · rw [dt h2]; rw [dt (by rw [h2])]; rfl
    · rw [df h2]; rw [df (fun h => h2 (Prod.mk.inj h).2)]; rfl
  · rw [bneT h1, df (fun h => h1 (Prod.mk.inj h).1)]; rfl

/-! FnExactFlowOf -/
def m5 (p : Pk) : Option Bool := if p.2.2.2.2.2.length ≤ 9223372036854775807 then some true else none
theorem sat5 : Sat prog cxT 5 (c5 m5) := s5 m22 m23 mFlow mFlow mEq6 m25 sat22 sat23 sat20 sat19 sat24 sat25 m5 fun p t h => by
  obtain ⟨a, b, c, d, e, l⟩ := p
  unfold m5 at h
  split at h
  · rename_i hc
    cases h
    refine ⟨0, ?_⟩
    show g5 m22 m23 mFlow mFlow mEq6 m25 0 a b c d e l = some true
    have e22 : m22 ((a, b, c, d, e, l), 1048576) = some (if (1048576 : Int) - (l.length : Int) < 0 then (-1 : Int) else (1048576 : Int) - (l.length : Int)) := if_pos ⟨hc, by show (0 : Int) ≤ 1048576; decide, by show (1048576 : Int) ≤ 1000000000000; decide⟩
    unfold g5
    simp only [e22, Option.isSome_some, Option.getD_some, cond_true]
    by_cases hk : (1048576 : Int) - (l.length : Int) < 0
    · rw [if_pos hk]; rfl
    · rw [if_neg hk, df hk]
      have e23 : m23 (a, b, c, d, e, l) = some (a, b, c, d, e, l) := if_pos (by show l.length ≤ 1000000000; omega)
      have e25 : m25 ((a, b, c, d, e, l), a, b, c, d, e, l) = some true := (if_pos ⟨by show l.length ≤ 1000000000000; omega, by show l.length ≤ 1000000000000; omega⟩).trans (by simp)
      simp only [e23, e25, mFlow, mEq6, Option.isSome_some, Option.getD_some, cond_true, cond_false, Bool.not_true, decide_true]
  · cases h
end Go.Proofs.Try
