/- A part of the proof of FnFrames: L1Pd. -/
import Derived.Test.YtggncacoajjjhaaL1Pc
set_option maxHeartbeats 0
set_option linter.unusedVariables false
set_option linter.unusedSimpArgs false
namespace Go.Proofs.Try
open Go Go.VM Go.RowKit

/-! joinPieces -/
def m51 (x : List (List Int)) : Option (List Int) := if x.length ≤ 1000000 ∧ x.flatten.length ≤ 1000000000 then some x.flatten else none
theorem p51 (L : Nat) (a : List (List Int)) (ha : a.length ≤ 1000000) (k : List Int → Option (List Int)) : ∀ (n i : Nat) (o : List Int), i ≤ a.length → a.length < n + i → (o ++ (a.drop i).flatten).length ≤ 1000000000 →
    l51_0 L a n o i k = k (o ++ (a.drop i).flatten)
  | 0, i, o, h2, h3, _ => by omega
  | n + 1, i, o, h2, h3, h4 => by
    unfold l51_0
    by_cases hi : i < a.length
    · rw [drop_cons [] hi, List.flatten_cons] at h4
      simp only [List.length_append] at h4
      simp (disch := omega) only [dt, df, wi, cond_true, Bool.and_self, Int.toNat_natCast]
      have := p51 L a ha k n (i + 1) (o ++ a.getD i []) (by omega) (by omega) (by simp only [List.length_append]; omega)
      simp only [Int.natCast_add, Int.cast_ofNat_Int] at this
      rw [this, drop_cons [] hi, List.flatten_cons, List.append_assoc]
    · simp (disch := omega) only [df, cond_false]
      rw [List.drop_eq_nil_of_le (by omega)]
      simp
theorem sat51 : Sat prog cxT 51 (c51 m51) := s51 m51 fun x t h => by
  unfold m51 at h
  split at h
  · rename_i hc
    cases h
    refine ⟨x.length + 1, ?_⟩
    unfold g51
    have := p51 (x.length + 1) x hc.1 some (x.length + 1) 0 [] (by omega) (by omega) (by simpa using hc.2)
    simpa using this
  · cases h

/-! frames -/
def frm (a : List Int) : List Int := numB a.length 2 ++ numB (sumW a) 2 ++ a
theorem frm_len (a : List Int) : (frm a).length = 4 + a.length := by simp [frm, numB_len]; omega
theorem m46_two (n : Int) : m46 (n, 2) = some (numB n 2) := rfl
theorem m48_two (n : Int) : m48 (n, 2) = some (numB n 2) := rfl
def m52 (a : List Int) : Option (List Int) := if okB a = true ∧ a.length ≤ 1000000 then some (frm a) else none
theorem sat52 : Sat prog cxT 52 (c52 m52) := s52 m48 m20 sat48 sat20 m52 fun a t h => by
  unfold m52 at h
  split at h
  · rename_i hc
    cases h
    refine ⟨0, ?_⟩
    have e20 : m20 a = some (sumW a) := if_pos ⟨hc.1, by omega⟩
    have l1 := numB_len (a.length : Int) 2
    have l2 := numB_len (sumW a) 2
    unfold g52
    simp only [m48_two, e20, Option.isSome_some, Option.getD_some, cond_true]
    rw [dt (by omega), dt (by rw [List.length_append]; omega)]
    rfl
  · cases h
def putF (a : List Int) : Int × List Int := if a.length > 250 then (2, []) else (0, frm a)
def mF (a : List Int) : Option (Int × List Int) := if okB a = true ∧ a.length ≤ 1000000000000 then some (putF a) else none
theorem sat23 : Sat prog cxT 23 (c23 mF) := s23 m52 sat52 mF fun a t h => by
  unfold mF at h
  split at h
  · rename_i hc
    cases h
    refine ⟨0, ?_⟩
    unfold g23 putF
    by_cases hl : a.length > 250
    · rw [dt (by omega), if_pos hl]
      rfl
    · have e52 : m52 a = some (frm a) := if_pos ⟨hc.1, by omega⟩
      rw [df (by omega), if_neg hl]
      simp only [e52, Option.isSome_some, Option.getD_some, cond_true, cond_false]
  · cases h
theorem sat22 : Sat prog cxT 22 (c22 mF) := s22 m46 m18 m51 sat46 sat18 sat51 mF fun a t h => by
  unfold mF at h
  split at h
  · rename_i hc
    cases h
    refine ⟨0, ?_⟩
    unfold g22 putF
    by_cases hl : a.length > 250
    · rw [dt (by omega), if_pos hl]
      rfl
    · have e18 : m18 a = some (sumW a) := if_pos hc
      have hs := sw_bound a 0 hc.1 (by omega) (by omega)
      have hw : 0 ≤ sumW a ∧ sumW a ≤ 65535 := by unfold sumW; omega
      have l1 := numB_len (a.length : Int) 2
      have l2 := numB_len (sumW a) 2
      have e51 : m51 [numB a.length 2, numB (sumW a) 2, a] = some (frm a) := by
        unfold m51
        rw [if_pos ⟨by simp, by simp only [List.flatten_cons, List.flatten_nil, List.length_append, List.length_nil]; omega⟩]
        simp [frm, List.append_assoc]
      rw [df (by omega), if_neg hl]
      simp (disch := omega) only [wu, m46_two, e18, Option.isSome_some, Option.getD_some, cond_true, cond_false]
      rw [e51]
      rfl
  · cases h
theorem putF_len (a : List Int) : (putF a).2.length ≤ 254 := by
  unfold putF
  split
  · simp
  · rename_i h
    simp only [frm_len]
    omega

theorem sat10 : Sat prog cxT 10 (c10 mOk) := s10 m30 mF mF m26 m32 m34 m27 m28 sat30 sat23 sat22 sat26 sat32 sat34 sat27 sat28 mOk fun a t h => by
  unfold mOk at h
  split at h
  · rename_i h1
    cases h
    refine ⟨0, ?_⟩
    unfold g10
    by_cases hl : (a.length : Int) > 1048576
    · simp (disch := omega) only [dt, cond_true]
    · have e30 : m30 a = some a := if_pos (by omega)
      have eF : mF a = some (putF a) := if_pos ⟨h1, by omega⟩
      have hpl := putF_len a
      generalize putF a = p at eF hpl
      obtain ⟨c, b⟩ := p
      simp only at hpl
      have e32 := m32_self (a := a) (by omega)
      have e26 : m26 ((c, b), c, b) = some true := (if_pos ⟨by show b.length ≤ 1000000000000; omega, by show b.length ≤ 1000000000000; omega⟩).trans (by simp)
      have e34 : m34 (a, 1) = some ((1 : Int) + (a.length : Int), mkB 1 a.length) := if_pos ⟨by show (0 : Int) ≤ 1; decide, by show (1 : Int) ≤ 1000000000000; decide, by show a.length ≤ 1000000000000; omega⟩
      have e27 : m27 ((c, b), 1) = some ((1 : Int) + (b.length : Int), c, mkB 1 b.length) := if_pos ⟨by show (0 : Int) ≤ 1; decide, by show (1 : Int) ≤ 1000000000000; decide, by show b.length ≤ 1000000000000; omega⟩
      have e28 : m28 ((c, mkB 1 b.length), 1) = some ((1 : Int) + (b.length : Int)) := mark_held b 1 (by decide) (by decide) (by omega)
      simp (disch := omega) only [df, e30, eF, e26, e32, e34, e27, e28, Option.isSome_some, Option.getD_some, cond_true, cond_false, Bool.not_true, bneF]
  · cases h
end Go.Proofs.Try
