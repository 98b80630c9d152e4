/- A part of the proof of FnHashes: L3Pe. -/
import Derived.Test.YteiaijhjndielaaL3Pc
import Derived.Test.YteiaijhjndielaaL3Pd
set_option maxHeartbeats 0
set_option linter.unusedVariables false
set_option linter.unusedSimpArgs false
namespace Go.Proofs.Try
open Go Go.VM Go.RowKit

theorem bs {α : Type} [BEq α] [LawfulBEq α] (a : α) : (a == a) = true := by simp
theorem fOk_of_pf {p : Pk} (h : pf p = 0) : fOk (flo p) := by
  by_cases hk : fOk (flo p)
  · exact hk
  · have := pf_3 (p := p) hk
    rw [this] at h
    cases h
theorem pf_short {p : Pk} (h : fOk (flo p)) {l : List Int} (hl : l.length ≤ 200) : pf (p.1, p.2.1, p.2.2.1, p.2.2.2.1, p.2.2.2.2.1, l) = 0 := by
  exact (pf_in (p := (p.1, p.2.1, p.2.2.1, p.2.2.2.1, p.2.2.2.2.1, l)) h).trans (if_neg (by simp only; omega))
theorem hashI_in (f : F5) : 0 ≤ hashI f ∧ hashI f < 1000003 := mixI_in _ _

/-! FnHashes -/
def m4 (c : List Int) : Option Bool := if okB c = true then some true else none
theorem sat4 : Sat prog cxT 4 (c4 m4) := s4 m11 m18 mFlow mFlow mHash sat11 sat18 sat19 sat20 sat21 m4 fun x t h => by
  unfold m4 at h
  split at h
  · rename_i hc
    cases h
    refine ⟨0, ?_⟩
    unfold g4
    rw [show m11 x = some (decide ((x.length : Int) > 1048576)) from rfl, tst_some]
    by_cases hb : (x.length : Int) > 1048576
    · rw [dt hb]; rfl
    · rw [df hb, cond_false]
      obtain ⟨a, b, c, d, e, l, e18, _, _⟩ := drawFlow (c := x) ⟨hc, by omega⟩
      rw [e18, tst_some]
      simp only
      have e19 : mFlow (a, b, c, d, e, l) = some (if pf (a, b, c, d, e, l) = 0 then (0, a, b, c, d, e) else (pf (a, b, c, d, e, l), 0, 0, 0, 0, 0)) := rfl
      rw [e19, tst_some]
      by_cases hp : pf (a, b, c, d, e, l) = 0
      · rw [if_pos hp]
        have hk : fOk (a, b, c, d, e) := fOk_of_pf (p := (a, b, c, d, e, l)) hp
        have e19' : mFlow (a, b, c, d, e, [1, 2]) = some (0, a, b, c, d, e) := by
          have := pf_short (p := (a, b, c, d, e, l)) hk (l := [1, 2]) (by simp)
          simp only at this
          show some (if pf (a, b, c, d, e, [1, 2]) = 0 then (0, a, b, c, d, e) else _) = _
          rw [if_pos this]
        have e21 : mHash (a, b, c, d, e) = some (0, hashI (a, b, c, d, e)) := by
          show some (if fOk (a, b, c, d, e) then _ else _) = _
          rw [if_pos hk]
        have hr := hashI_in (a, b, c, d, e)
        simp only [e19', e21, tst_some, bs, Bool.and_self, cond_true, cond_false, bneF, dt hr.2, dt (show hashI (a, b, c, d, e) ≥ 0 from hr.1)]
      · rw [if_neg hp]
        simp only
        rw [bneT hp, cond_true]
        have e20 : mFlow (a, b, c, d, e, l) = some (pf (a, b, c, d, e, l), 0, 0, 0, 0, 0) := by rw [e19, if_neg hp]
        rw [tst_some]
        simp
  · cases h
end Go.Proofs.Try
