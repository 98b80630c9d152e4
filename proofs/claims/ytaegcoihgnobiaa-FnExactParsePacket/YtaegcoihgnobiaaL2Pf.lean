/- A part of the proof of FnExactParsePacket: L2Pf. -/
import Derived.Test.YtaegcoihgnobiaaL2Pe
set_option maxHeartbeats 0
set_option linter.unusedVariables false
set_option linter.unusedSimpArgs false
namespace Go.Proofs.Try
open Go Go.VM Go.RowKit

def buildL (p : Pk) : List Int := headL p.2.2.1 p.1 p.2.1 (4 + p.2.2.2.2.2.length) ++ numB p.2.2.2.1 2 ++ numB p.2.2.2.2.1 2 ++ p.2.2.2.2.2
theorem buildL_len (p : Pk) : (buildL p).length = 24 + p.2.2.2.2.2.length := by simp only [buildL, List.length_append, headL_len, numB_len]
def buildG (p : Pk) : Int × List Int := if pf p = 0 then (0, buildL p) else (pf p, [])
def mBu (p : Pk) : Option (Int × List Int) := if p.2.2.2.2.2.length ≤ 1000000000 then some (buildG p) else none
theorem pf_zero {p : Pk} (h : pf p = 0) : pOk p ∧ p.2.2.2.2.2.length ≤ 200 := by
  by_cases hp : pOk p
  · rw [pf_in hp] at h
    split at h
    · cases h
    · exact ⟨hp, by omega⟩
  · rw [pf_3 hp] at h
    cases h
theorem buildG_len (p : Pk) : (buildG p).2.length ≤ 224 := by
  unfold buildG
  split
  · rename_i h
    have := (pf_zero h).2
    simp only [buildL_len]
    omega
  · simp

/-! the specification's -/
def m63 (p : Pk) : Option (List Int) := if p.2.2.2.2.2.length ≤ 100000 then some (buildL p) else none
theorem sat63 : Sat prog cxT 63 (c63 m63) := s63 m71 m79 sat71 sat79 m63 fun p t h => by
  obtain ⟨f, tt, pr, fp, tp, a⟩ := p
  unfold m63 at h
  split at h
  · rename_i hc
    simp only at hc
    cases h
    refine ⟨0, ?_⟩
    unfold g63
    simp only
    have e1 : IntKind.wrap .i64 (4 + (a.length : Int)) = 4 + (a.length : Int) := by simp (disch := omega) only [wi]
    have e71 : m71 (pr, f, tt, 4 + (a.length : Int)) = some (headL pr f tt (4 + a.length)) := if_pos ⟨by show (0 : Int) ≤ 4 + a.length; omega, by show 4 + (a.length : Int) ≤ 1000000; omega⟩
    have l1 := headL_len pr f tt (4 + a.length)
    have l2 := numB_len fp 2
    have l3 := numB_len tp 2
    rw [e1, e71, tst_some, m79_two, tst_some]
    rw [dt (by omega), m79_two, tst_some, dt (by simp only [List.length_append]; omega), dt (by simp only [List.length_append]; omega)]
    rfl
  · cases h
theorem sat22 : Sat prog cxT 22 (c22 mBu) := s22 mPf m63 sat18 sat63 mBu fun p t h => by
  unfold mBu at h
  split at h
  · rename_i hc
    cases h
    refine ⟨0, ?_⟩
    obtain ⟨f, tt, pr, fp, tp, a⟩ := p
    unfold g22 buildG
    simp only at hc ⊢
    have e1 : mPf (f, tt, pr, fp, tp, a) = some (pf (f, tt, pr, fp, tp, a)) := rfl
    rw [e1, tst_some]
    by_cases hz : pf (f, tt, pr, fp, tp, a) = 0
    · have hl := (pf_zero hz).2
      have e63 : m63 (f, tt, pr, fp, tp, a) = some (buildL (f, tt, pr, fp, tp, a)) := if_pos (by simp only at hl ⊢; omega)
      rw [if_pos hz, bneF hz, e63, tst_some]
      rfl
    · rw [if_neg hz, bneT hz]
      rfl
  · cases h

/-! the program's -/
theorem sat23 : Sat prog cxT 23 (c23 mBu) := s23 mPf m52 m64 m54 sat20 sat52 sat64 sat54 mBu fun p t h => by
  unfold mBu at h
  split at h
  · rename_i hc
    cases h
    refine ⟨0, ?_⟩
    obtain ⟨f, tt, pr, fp, tp, a⟩ := p
    unfold g23 buildG
    simp only at hc ⊢
    have e1 : mPf (f, tt, pr, fp, tp, a) = some (pf (f, tt, pr, fp, tp, a)) := rfl
    rw [e1, tst_some]
    by_cases hz : pf (f, tt, pr, fp, tp, a) = 0
    · obtain ⟨⟨h1, h2, h3, h4, h5⟩, hl⟩ := pf_zero hz
      simp only at h1 h2 h3 h4 h5 hl
      have e3 : IntKind.wrap .i64 (4 + (a.length : Int)) = 4 + (a.length : Int) := by simp (disch := omega) only [wi]
      have e4 : IntKind.wrap .u64 fp = fp := by simp (disch := omega) only [wu]
      have e5 : IntKind.wrap .u64 tp = tp := by simp (disch := omega) only [wu]
      have e52 : m52 (pr, f, tt, 4 + (a.length : Int)) = some (tup20 (headL pr f tt (4 + a.length))) := if_pos ⟨h1, h2, by show (0 : Int) ≤ 4 + a.length; omega, by show 4 + (a.length : Int) ≤ 1000000; omega⟩
      have ej : ([headL pr f tt (4 + a.length), numB fp 2, numB tp 2, a] : List (List Int)).flatten = buildL (f, tt, pr, fp, tp, a) := by simp [buildL]
      have e54 : m54 [l20 (tup20 (headL pr f tt (4 + a.length))), numB fp 2, numB tp 2, a] = some (buildL (f, tt, pr, fp, tp, a)) := by
        rw [l20_tup (headL_len _ _ _ _), ← ej]
        refine if_pos ⟨by simp, ?_⟩
        rw [ej, buildL_len]
        show 24 + a.length ≤ _
        omega
      rw [if_pos hz, bneF hz, e3, e4, e5, e52, tst_some, m64_two, tst_some, m64_two, tst_some]
      simp only [cond_false]
      show tst (m54 [l20 (tup20 (headL pr f tt (4 + a.length))), numB fp 2, numB tp 2, a]) _ _ = _
      rw [e54, tst_some]
    · rw [if_neg hz, bneT hz]
      rfl
  · cases h

/-! FnExactBuildPacket -/
def m25 (x : Pk × Int) : Option (Int × Pk) := if 0 ≤ x.2 ∧ x.2 ≤ 1000000000000 ∧ x.1.2.2.2.2.2.length ≤ 1000000000000 then some (x.2 + x.1.2.2.2.2.2.length, x.1.1, x.1.2.1, x.1.2.2.1, x.1.2.2.2.1, x.1.2.2.2.2.1, mkB x.2 x.1.2.2.2.2.2.length) else none
theorem sat25 : SatW prog cxT 25 (c25 m25).nres (c25 m25).n (c25 m25).F := s25 m33 sat33 m25 fun x t h => by
  obtain ⟨⟨f, tt, pr, fp, tp, a⟩, k⟩ := x
  unfold m25 at h
  split at h
  · rename_i hc
    cases h
    refine ⟨0, ?_⟩
    have e : m33 (a, k) = some (k + a.length, mkB k a.length) := if_pos hc
    unfold g25
    simp only
    rw [e, tst_some]
  · cases h
def m5 (p : Pk) : Option Bool := if p.2.2.2.2.2.length ≤ 9223372036854775807 then some true else none
theorem sat5 : Sat prog cxT 5 (c5 m5) := s5 m17 m19 mBu mBu m24 m21 m25 m26 m27 sat17 sat19 sat22 sat23 sat24 sat21 sat25 sat26 sat27 m5 fun p t h => by
  obtain ⟨f, tt, pr, fp, tp, a⟩ := p
  unfold m5 at h
  split at h
  · rename_i hc
    cases h
    refine ⟨0, ?_⟩
    simp only at hc
    have e17 : m17 ((f, tt, pr, fp, tp, a), 1048576) = some (if (1048576 : Int) - (a.length : Int) < 0 then (-1 : Int) else (1048576 : Int) - (a.length : Int)) := if_pos ⟨hc, by show (0 : Int) ≤ 1048576; decide, by show (1048576 : Int) ≤ 1000000000000; decide⟩
    unfold g5
    simp only
    rw [e17, tst_some]
    by_cases hk : (1048576 : Int) - (a.length : Int) < 0
    · rw [if_pos hk]; rfl
    · rw [if_neg hk, df hk]
      have e19 : m19 (f, tt, pr, fp, tp, a) = some (f, tt, pr, fp, tp, a) := if_pos (by show a.length ≤ 1000000000; omega)
      have e21 : m21 ((f, tt, pr, fp, tp, a), f, tt, pr, fp, tp, a) = some true := (if_pos ⟨by show a.length ≤ 1000000000000; omega, by show a.length ≤ 1000000000000; omega⟩).trans (by simp)
      have eB : mBu (f, tt, pr, fp, tp, a) = some (buildG (f, tt, pr, fp, tp, a)) := if_pos (by show a.length ≤ 1000000000; omega)
      have hpl := buildG_len (f, tt, pr, fp, tp, a)
      generalize buildG (f, tt, pr, fp, tp, a) = q at eB hpl
      obtain ⟨c, b⟩ := q
      simp only at hpl
      have e24 : m24 ((c, b), c, b) = some true := (if_pos ⟨by show b.length ≤ 1000000000000; omega, by show b.length ≤ 1000000000000; omega⟩).trans (by simp)
      have e25 : m25 ((f, tt, pr, fp, tp, a), 1) = some ((1 : Int) + (a.length : Int), f, tt, pr, fp, tp, mkB 1 a.length) := if_pos ⟨by show (0 : Int) ≤ 1; decide, by show (1 : Int) ≤ 1000000000000; decide, by show a.length ≤ 1000000000000; omega⟩
      have e26 : m26 ((c, b), 1) = some ((1 : Int) + (b.length : Int), c, mkB 1 b.length) := if_pos ⟨by show (0 : Int) ≤ 1; decide, by show (1 : Int) ≤ 1000000000000; decide, by show b.length ≤ 1000000000000; omega⟩
      have e27 : m27 ((c, mkB 1 b.length), 1) = some ((1 : Int) + (b.length : Int)) := mark_held b 1 (by decide) (by decide) (by omega)
      simp (disch := omega) only [df, e19, eB, e24, e21, e25, e26, e27, tst_some, cond_true, cond_false, Bool.not_true, bneF]
  · cases h
end Go.Proofs.Try
