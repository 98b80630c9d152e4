/- A part of the proof of FnExactParsePacket: L2Pe. -/
import Derived.Test.YtaegcoihgnobiaaL2Fd
set_option maxHeartbeats 0
set_option linter.unusedVariables false
set_option linter.unusedSimpArgs false
namespace Go.Proofs.Try
open Go Go.VM Go.RowKit

theorem m32_self {a : List Int} (h : (a.length : Int) ≤ 1048576) : m32 (a, a) = some true := (if_pos ⟨by show a.length ≤ 1000000000000; omega, by show a.length ≤ 1000000000000; omega⟩).trans (by simp)
theorem mark_held (a : List Int) (k : Int) (h0 : 0 ≤ k) (h1 : k ≤ 1000000000000) (h2 : a.length ≤ 1000000000000) : m65 (mkB k a.length, k) = some (k + a.length) := by
  unfold m65
  rw [if_pos ⟨h0, h1, by show (mkB k a.length).length ≤ _; rw [mkB_len]; exact h2, by show mkB k a.length = mkB k (mkB k a.length).length; rw [mkB_len]⟩]
  simp only [mkB_len]

def adrB (a : Int) : Bool := decide (0 ≤ a ∧ a ≤ 4294967295)
def wrapL (f t : Int) (a : List Int) : List Int := headL 47 f t (4 + a.length) ++ [0, 0, 8, 0] ++ a
theorem wrapL_len (f t : Int) (a : List Int) : (wrapL f t a).length = 24 + a.length := by simp only [wrapL, List.length_append, headL_len, List.length_cons, List.length_nil]
def wrapG (x : Int × Int × List Int) : Int × List Int := if adrB x.1 = false then (3, []) else if adrB x.2.1 = false then (3, []) else if x.2.2.length > 230 then (2, []) else (0, wrapL x.1 x.2.1 x.2.2)
def mWr (x : Int × Int × List Int) : Option (Int × List Int) := if x.2.2.length ≤ 1000000000 then some (wrapG x) else none
theorem wrapG_len (x : Int × Int × List Int) : (wrapG x).2.length ≤ 254 := by
  unfold wrapG
  split
  · simp
  · split
    · simp
    · split
      · simp
      · simp only [wrapL_len]; omega

/-! the specification's -/
def m43 (x : Int × Int × List Int) : Option (List Int) := if x.2.2.length ≤ 100000 then some (wrapL x.1 x.2.1 x.2.2) else none
theorem sat43 : Sat prog cxT 43 (c43 m43) := s43 m71 sat71 m43 fun x t h => by
  obtain ⟨f, tt, a⟩ := x
  unfold m43 at h
  split at h
  · rename_i hc
    simp only at hc
    cases h
    refine ⟨0, ?_⟩
    unfold g43
    simp only
    have e1 : IntKind.wrap .i64 (4 + (a.length : Int)) = 4 + (a.length : Int) := by simp (disch := omega) only [wi]
    have e71 : m71 (47, f, tt, 4 + (a.length : Int)) = some (headL 47 f tt (4 + a.length)) := if_pos ⟨by show (0 : Int) ≤ 4 + a.length; omega, by show 4 + (a.length : Int) ≤ 1000000; omega⟩
    have l1 := headL_len 47 f tt (4 + a.length)
    rw [e1, e71, tst_some]
    rw [dt (by simp only [List.length_cons, List.length_nil]; omega), dt (by simp only [List.length_append, List.length_cons, List.length_nil]; omega)]
    rfl
  · cases h
theorem sat16 : Sat prog cxT 16 (c16 mWr) := s16 m58 m43 sat58 sat43 mWr fun x t h => by
  obtain ⟨f, tt, a⟩ := x
  unfold mWr at h
  split at h
  · rename_i hc
    simp only at hc
    cases h
    refine ⟨0, ?_⟩
    unfold g16 wrapG
    simp only
    have e1 : m58 f = some (adrB f) := rfl
    have e2 : m58 tt = some (adrB tt) := rfl
    rw [e1, tst_some, e2, tst_some]
    cases adrB f
    · rfl
    · cases adrB tt
      · rfl
      · by_cases hl : a.length > 230
        · rw [dt (show (a.length : Int) > 230 by omega), if_pos hl]
          rfl
        · have e43 : m43 (f, tt, a) = some (wrapL f tt a) := if_pos (by show a.length ≤ 100000; omega)
          rw [df (show ¬ (a.length : Int) > 230 by omega), if_neg hl, e43, tst_some]
          rfl
  · cases h

/-! the program's -/
def m53 (_ : Unit) : Option (Int × Int × Int × Int) := some (0, 0, 8, 0)
theorem sat53 : Sat prog cxT 53 (c53 m53) := s53 m53 fun x t h => ⟨0, h⟩
theorem sat14 : Sat prog cxT 14 (c14 mWr) := s14 m58 m52 m53 m54 sat51 sat52 sat53 sat54 mWr fun x t h => by
  obtain ⟨f, tt, a⟩ := x
  unfold mWr at h
  split at h
  · rename_i hc
    simp only at hc
    cases h
    refine ⟨0, ?_⟩
    unfold g14 wrapG
    simp only
    have e1 : m58 f = some (adrB f) := rfl
    have e2 : m58 tt = some (adrB tt) := rfl
    rw [e1, tst_some, e2, tst_some]
    cases hf : adrB f
    · rfl
    · cases ht : adrB tt
      · rfl
      · by_cases hl : a.length > 230
        · rw [dt (show (a.length : Int) > 230 by omega), if_pos hl]
          rfl
        · have hf' : 0 ≤ f ∧ f ≤ 4294967295 := by simpa [adrB] using hf
          have ht' : 0 ≤ tt ∧ tt ≤ 4294967295 := by simpa [adrB] using ht
          have e3 : IntKind.wrap .i64 (4 + (a.length : Int)) = 4 + (a.length : Int) := by simp (disch := omega) only [wi]
          have e52 : m52 (47, f, tt, 4 + (a.length : Int)) = some (tup20 (headL 47 f tt (4 + a.length))) := if_pos ⟨hf', ht', by show (0 : Int) ≤ 4 + a.length; omega, by show 4 + (a.length : Int) ≤ 1000000; omega⟩
          have e53 : m53 PUnit.unit = some (0, 0, 8, 0) := rfl
          have ej : ([headL 47 f tt (4 + a.length), [0, 0, 8, 0], a] : List (List Int)).flatten = wrapL f tt a := by simp [wrapL]
          have e54 : m54 [l20 (tup20 (headL 47 f tt (4 + a.length))), [0, 0, 8, 0], a] = some (wrapL f tt a) := by
            rw [l20_tup (headL_len _ _ _ _), ← ej]
            refine if_pos ⟨by simp, ?_⟩
            rw [ej, wrapL_len]
            omega
          rw [df (show ¬ (a.length : Int) > 230 by omega), if_neg hl, e3, e52, tst_some, e53, tst_some]
          simp only [Bool.not_true, cond_false]
          show tst (m54 [l20 (tup20 (headL 47 f tt (4 + a.length))), [0, 0, 8, 0], a]) _ _ = _
          rw [e54, tst_some]
          rfl
  · cases h

/-! FnExactWrapGre -/
def m7 (x : Int × Int × List Int) : Option Bool := some true
theorem sat7 : Sat prog cxT 7 (c7 m7) := s7 m29 mWr mWr m24 m32 m33 m26 m27 sat29 sat16 sat14 sat24 sat32 sat33 sat26 sat27 m7 fun x t h => by
  obtain ⟨f, tt, a⟩ := x
  cases h
  refine ⟨0, ?_⟩
  unfold g7
  simp only
  by_cases hl : (a.length : Int) > 1048576
  · rw [dt hl]; rfl
  · have e29 : m29 a = some a := if_pos (by omega)
    have eW : mWr (f, tt, a) = some (wrapG (f, tt, a)) := if_pos (by show a.length ≤ 1000000000; omega)
    have hpl := wrapG_len (f, tt, a)
    generalize wrapG (f, tt, a) = p at eW hpl
    obtain ⟨c, b⟩ := p
    simp only at hpl
    have e32 := m32_self (a := a) (by omega)
    have e24 : m24 ((c, b), c, b) = some true := (if_pos ⟨by show b.length ≤ 1000000000000; omega, by show b.length ≤ 1000000000000; omega⟩).trans (by simp)
    have e33 : m33 (a, 1) = some ((1 : Int) + (a.length : Int), mkB 1 a.length) := if_pos ⟨by show (0 : Int) ≤ 1; decide, by show (1 : Int) ≤ 1000000000000; decide, by show a.length ≤ 1000000000000; omega⟩
    have e26 : m26 ((c, b), 1) = some ((1 : Int) + (b.length : Int), c, mkB 1 b.length) := if_pos ⟨by show (0 : Int) ≤ 1; decide, by show (1 : Int) ≤ 1000000000000; decide, by show b.length ≤ 1000000000000; omega⟩
    have e27 : m27 ((c, mkB 1 b.length), 1) = some ((1 : Int) + (b.length : Int)) := mark_held b 1 (by decide) (by decide) (by omega)
    simp (disch := omega) only [df, e29, eW, e24, e32, e33, e26, e27, tst_some, cond_true, cond_false, Bool.not_true, bneF]
end Go.Proofs.Try
