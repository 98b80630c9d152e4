/- A part of the proof of FnOrders: L3Pb. -/
import Derived.Test.YteiaijhjndielaaL3Pz
set_option maxHeartbeats 0
set_option linter.unusedVariables false
set_option linter.unusedSimpArgs false
namespace Go.Proofs.Try
open Go Go.VM Go.RowKit

/-! What is left of a number -/
def mEm (x : Int × Int) : Option Int := if 0 < x.2 ∧ x.2 ≤ 4294967296 then some (x.1 % x.2) else none
theorem tmod_in (a : Int) {m : Int} (h : 0 < m) : -m < a.tmod m ∧ a.tmod m < m := ⟨Int.lt_tmod_of_pos a h, Int.tmod_lt_of_pos a h⟩
theorem tmod_add (a m : Int) : (a.tmod m + m) % m = a % m := by
  have h := Int.tmod_def a m
  rw [h, Int.add_emod_right, Int.sub_mul_emod_self_left]
theorem sat53 : Sat prog cxT 53 (c53 mEm) := s53 mEm fun x t h => by
  obtain ⟨a, m⟩ := x
  unfold mEm at h
  split at h
  · rename_i hc
    simp only at hc
    cases h
    refine ⟨0, ?_⟩
    unfold g53
    have hb := tmod_in a hc.1
    have e0 : (m == 0) = false := by simp; omega
    simp only [e0, cond_false]
    rw [wi (by omega) (by omega), Int.tmod_eq_emod_of_nonneg (by omega), tmod_add]
  · cases h
theorem sat54 : Sat prog cxT 54 (c54 mEm) := s54 mEm fun x t h => by
  obtain ⟨a, m⟩ := x
  unfold mEm at h
  split at h
  · rename_i hc
    simp only at hc
    cases h
    refine ⟨0, ?_⟩
    unfold g54
    have hb := tmod_in a hc.1
    have e0 : (m == 0) = false := by simp; omega
    have e1 := tmod_add a m
    simp only [e0, cond_false]
    by_cases hs : a.tmod m < 0
    · rw [dt hs, cond_true, wi (by omega) (by omega), ← e1, Int.emod_eq_of_lt (by omega) (by omega)]
    · rw [df hs, cond_false, ← e1, Int.add_emod_right, Int.emod_eq_of_lt (by omega) (by omega)]
  · cases h

/-! MixNumber -/
def stepM (p : Int × Int) : Int × Int := ((p.1 * 131 + p.2 % 256 + 1) % 1000003, p.2 / 256)
def inM (p : Int × Int) : Prop := (0 ≤ p.1 ∧ p.1 < 1000003) ∧ 0 ≤ p.2 ∧ p.2 < 4294967296
theorem stepM_in {p : Int × Int} (h : inM p) : inM (stepM p) := by
  unfold inM stepM at *
  refine ⟨⟨?_, ?_⟩, ?_, ?_⟩ <;> simp only <;> omega
def startM (n salt : Int) : Int × Int := (salt % 10007 + 11, n % 4294967296)
theorem startM_in (n salt : Int) : inM (startM n salt) := by
  unfold inM startM
  refine ⟨⟨?_, ?_⟩, ?_, ?_⟩ <;> simp only <;> omega
def mixI (n salt : Int) : Int := (stepM (stepM (stepM (stepM (startM n salt))))).1
theorem mixI_in (n salt : Int) : 0 ≤ mixI n salt ∧ mixI n salt < 1000003 := (stepM_in (stepM_in (stepM_in (stepM_in (startM_in n salt))))).1
def mMix (x : Int × Int) : Option Int := some (mixI x.1 x.2)
theorem em1 (a : Int) : mEm (a, 10007) = some (a % 10007) := if_pos ⟨by show (0 : Int) < 10007; decide, by show (10007 : Int) ≤ 4294967296; decide⟩
theorem em2 (a : Int) : mEm (a, 4294967296) = some (a % 4294967296) := if_pos ⟨by show (0 : Int) < 4294967296; decide, by show (4294967296 : Int) ≤ 4294967296; decide⟩

theorem round29 (L : Nat) (a b : Int) (n : Nat) {p : Int × Int} (hp : inM p) {i : Int} (hi : 0 ≤ i ∧ i < 4) (k : Int → Option Int) :
    l29_0 mEm L a b (n + 1) p.2 p.1 i k = l29_0 mEm L a b n (stepM p).2 (stepM p).1 (i + 1) k := by
  obtain ⟨h, v⟩ := p
  unfold inM at hp
  simp only at hp
  rw [l29_0, dt hi.2, cond_true, Int.tmod_eq_emod_of_nonneg hp.2.1, Int.tdiv_eq_ediv_of_nonneg hp.2.1]
  simp (disch := omega) only [wi]
  rw [Int.tmod_eq_emod_of_nonneg (by omega)]
  rfl
theorem round30 (L : Nat) (a b : Int) (n : Nat) {p : Int × Int} (hp : inM p) {i : Int} (hi : 0 ≤ i ∧ i < 4) (k : Int → Option Int) :
    l30_0 mEm L a b (n + 1) p.1 p.2 i k = l30_0 mEm L a b n (stepM p).1 (stepM p).2 (i + 1) k := by
  obtain ⟨h, v⟩ := p
  unfold inM at hp
  simp only at hp
  rw [l30_0, dt hi.2, cond_true, Int.tmod_eq_emod_of_nonneg hp.2.1, Int.tdiv_eq_ediv_of_nonneg hp.2.1]
  simp (disch := omega) only [wi]
  rw [Int.tmod_eq_emod_of_nonneg (by omega)]
  rfl
theorem sat29 : Sat prog cxT 29 (c29 mMix) := s29 mEm sat53 mMix fun x t h => by
  obtain ⟨a, s⟩ := x
  cases h
  refine ⟨5, ?_⟩
  unfold g29
  have hs := startM_in a s
  have h1 := stepM_in hs
  have h2 := stepM_in h1
  have h3 := stepM_in h2
  have e := round29 5 a s 4 hs (i := 0) (by decide) (fun w => some w)
  have hw : IntKind.wrap .i64 (s % 10007 + 11) = s % 10007 + 11 := wi (by omega) (by omega)
  simp only [em1, em2, Option.isSome_some, Option.getD_some, cond_true, hw]
  refine e.trans ?_
  rw [round29 5 a s 3 h1 (by decide), round29 5 a s 2 h2 (by decide), round29 5 a s 1 h3 (by decide)]
  rfl
theorem sat30 : Sat prog cxT 30 (c30 mMix) := s30 mEm sat54 mMix fun x t h => by
  obtain ⟨a, s⟩ := x
  cases h
  refine ⟨5, ?_⟩
  unfold g30
  have hs := startM_in a s
  have h1 := stepM_in hs
  have h2 := stepM_in h1
  have h3 := stepM_in h2
  have e := round30 5 a s 4 hs (i := 0) (by decide) (fun w => some w)
  have hw : IntKind.wrap .i64 (s % 10007 + 11) = s % 10007 + 11 := wi (by omega) (by omega)
  simp only [em1, em2, Option.isSome_some, Option.getD_some, cond_true, hw]
  refine e.trans ?_
  rw [round30 5 a s 3 h1 (by decide), round30 5 a s 2 h2 (by decide), round30 5 a s 1 h3 (by decide)]
  rfl

/-! FnExactMixNumber -/
def m7 (x : Int × Int) : Option Bool := some true
theorem sat7 : Sat prog cxT 7 (c7 m7) := s7 mMix mMix sat29 sat30 m7 fun x t h => by
  cases h
  refine ⟨0, ?_⟩
  unfold g7
  simp only [mMix, Option.isSome_some, Option.getD_some, cond_true, bneF, cond_false]

/-! OffsetOf, SkipOf -/
def isN (a : Int) : Prop := 1 ≤ a ∧ a ≤ 999
instance (a : Int) : Decidable (isN a) := by unfold isN; infer_instance
def mName (a : Int) : Option Bool := some (decide (isN a))
theorem sat37 : Sat prog cxT 37 (c37 mName) := s37 mName fun x t h => by
  cases h
  refine ⟨0, ?_⟩
  unfold g37
  by_cases h1 : x ≥ 1
  · rw [dt h1, cond_true]; congr 1; exact decide_eq_decide.2 (by unfold isN; omega)
  · rw [df h1, cond_false]; congr 1; exact (df (by unfold isN; omega)).symm
theorem sat39 : Sat prog cxT 39 (c39 mName) := s39 m63 sat63 mName fun x t h => by
  cases h
  refine ⟨0, ?_⟩
  unfold g39
  simp only [m63, Option.isSome_some, Option.getD_some, cond_true]
  rfl
def offI (a : Int) : Int := mixI a 3 % 31
def skipI (a : Int) : Int := 1 + mixI a 5 % 30
def mOffI (a : Int) : Option Int := some (offI a)
def mSkipI (a : Int) : Option Int := some (skipI a)
theorem sat58 : Sat prog cxT 58 (c58 mOffI) := s58 mMix sat29 mOffI fun x t h => by
  cases h
  refine ⟨0, ?_⟩
  unfold g58
  simp only [mMix, Option.isSome_some, Option.getD_some, cond_true]
  rw [Int.tmod_eq_emod_of_nonneg (mixI_in x 3).1]
  rfl
theorem sat59 : Sat prog cxT 59 (c59 mSkipI) := s59 mMix sat29 mSkipI fun x t h => by
  cases h
  refine ⟨0, ?_⟩
  have hb := mixI_in x 5
  unfold g59
  simp only [mMix, Option.isSome_some, Option.getD_some, cond_true]
  rw [Int.tmod_eq_emod_of_nonneg hb.1, wi (by omega) (by omega)]
  rfl
def mOff (a : Int) : Option (Int × Int) := some (if isN a then (0, offI a) else (3, 0))
def mSkip (a : Int) : Option (Int × Int) := some (if isN a then (0, skipI a) else (3, 0))
theorem sat16 : Sat prog cxT 16 (c16 mOff) := s16 mName mMix sat37 sat30 mOff fun x t h => by
  cases h
  refine ⟨0, ?_⟩
  unfold g16
  by_cases hn : isN x
  · simp only [mName, mMix, dt hn, if_pos hn, Option.isSome_some, Option.getD_some, cond_true, cond_false, Bool.not_true]
    rw [Int.tmod_eq_emod_of_nonneg (mixI_in x 3).1]
    rfl
  · simp only [mName, df hn, if_neg hn, Option.isSome_some, Option.getD_some, cond_true, Bool.not_false]
theorem sat17 : Sat prog cxT 17 (c17 mSkip) := s17 mName mMix sat37 sat30 mSkip fun x t h => by
  cases h
  refine ⟨0, ?_⟩
  have hb := mixI_in x 5
  unfold g17
  by_cases hn : isN x
  · simp only [mName, mMix, dt hn, if_pos hn, Option.isSome_some, Option.getD_some, cond_true, cond_false, Bool.not_true]
    rw [Int.tmod_eq_emod_of_nonneg hb.1, wi (by omega) (by omega)]
    rfl
  · simp only [mName, df hn, if_neg hn, Option.isSome_some, Option.getD_some, cond_true, Bool.not_false]
theorem sat34 : Sat prog cxT 34 (c34 mOff) := s34 mName mOffI sat39 sat58 mOff fun x t h => by
  cases h
  refine ⟨0, ?_⟩
  unfold g34
  by_cases hn : isN x
  · simp only [mName, mOffI, dt hn, if_pos hn, Option.isSome_some, Option.getD_some, cond_true, cond_false, Bool.not_true]
  · simp only [mName, df hn, if_neg hn, Option.isSome_some, Option.getD_some, cond_true, Bool.not_false]
theorem sat35 : Sat prog cxT 35 (c35 mSkip) := s35 mName mSkipI sat39 sat59 mSkip fun x t h => by
  cases h
  refine ⟨0, ?_⟩
  unfold g35
  by_cases hn : isN x
  · simp only [mName, mSkipI, dt hn, if_pos hn, Option.isSome_some, Option.getD_some, cond_true, cond_false, Bool.not_true]
  · simp only [mName, df hn, if_neg hn, Option.isSome_some, Option.getD_some, cond_true, Bool.not_false]
def mEqI (x : (Int × Int) × Int × Int) : Option Bool := some (decide (x.1 = x.2))
theorem sat28 : Sat prog cxT 28 (c28 mEqI) := s28 mEqI fun x t h => by
  obtain ⟨⟨a, b⟩, c, d⟩ := x
  cases h
  refine ⟨0, ?_⟩
  unfold g28
  simp only
  by_cases h1 : a = c
  · rw [bneF h1, cond_false]
    by_cases h2 : b = d
    · rw [bneF h2, cond_false]; simp [h1, h2]
    · rw [bneT h2, cond_true]; simp [h2]
  · rw [bneT h1, cond_true]; simp [h1]

/-! FnExactOffsetOf, FnExactSkipOf -/
def m9 (x : Int) : Option Bool := some true
theorem sat9 : Sat prog cxT 9 (c9 m9) := s9 mOff mOff mEqI sat34 sat16 sat28 m9 fun x t h => by
  cases h
  refine ⟨0, ?_⟩
  unfold g9
  simp only [mOff, mEqI, Option.isSome_some, Option.getD_some, cond_true, decide_true, Bool.not_true, cond_false]
def m10 (x : Int) : Option Bool := some true
theorem sat10 : Sat prog cxT 10 (c10 m10) := s10 mSkip mSkip mEqI sat35 sat17 sat28 m10 fun x t h => by
  cases h
  refine ⟨0, ?_⟩
  unfold g10
  simp only [mSkip, mEqI, Option.isSome_some, Option.getD_some, cond_true, decide_true, Bool.not_true, cond_false]
end Go.Proofs.Try
