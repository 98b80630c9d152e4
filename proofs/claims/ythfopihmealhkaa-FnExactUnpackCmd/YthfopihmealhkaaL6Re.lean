/- A part of the proof of FnExactUnpackCmd: L6Re, L6Rf. -/
import Derived.Test.YthfopihmealhkaaL6Rc
set_option maxHeartbeats 0
set_option linter.unusedVariables false
set_option linter.unusedSimpArgs false
namespace Go.Proofs.Try
open Go Go.VM Go.RowKit

/-! ### UnpackCmd -/
theorem nb1 (n : Int) : numB n 1 = [n % 256] := by rw [numB_one]; rfl
theorem nb2 (n : Int) : numB n 2 = [n / 256 % 256, n % 256] := by
  show [IntKind.wrap .u8 (Int.fdiv n 256), IntKind.wrap .u8 (Int.fdiv n 1)] = _
  rw [Int.fdiv_one, Int.fdiv_eq_ediv_of_nonneg _ (by omega)]
  rfl
theorem nb4 (n : Int) : numB n 4 = [n / 16777216 % 256, n / 65536 % 256, n / 256 % 256, n % 256] := by
  show [IntKind.wrap .u8 (Int.fdiv n 16777216), IntKind.wrap .u8 (Int.fdiv n 65536), IntKind.wrap .u8 (Int.fdiv n 256), IntKind.wrap .u8 (Int.fdiv n 1)] = _
  rw [Int.fdiv_one, Int.fdiv_eq_ediv_of_nonneg _ (by omega), Int.fdiv_eq_ediv_of_nonneg _ (by omega), Int.fdiv_eq_ediv_of_nonneg _ (by omega)]
  rfl
theorem fourteen {r : List Int} (h : r.length = 14) : ∃ a b c d e f g i j k l m n o, r = [a, b, c, d, e, f, g, i, j, k, l, m, n, o] := by
  match r, h with
  | [a, b, c, d, e, f, g, i, j, k, l, m, n, o], _ => exact ⟨a, b, c, d, e, f, g, i, j, k, l, m, n, o, rfl⟩
theorem rd14 (a b c d e f g i j k l m n o : Int) : rdM [a, b, c, d, e, f, g, i, j, k, l, m, n, o] = (a, IntKind.wrap .i64 ((((b * 256 + c) * 256 + d) * 256 + e) - 1), f * 256 + g, ((i * 256 + j) * 256 + k) * 256 + l, m * 256 + n, o) := by
  simp [rdM, nvL, nrL, num]
theorem trip {r : List Int} (hr : okR r) (hl : r.length = 14) : cmB (rdM r) = r := by
  obtain ⟨a, b, c, d, e, f, g, i, j, k, l, m, n, o, rfl⟩ := fourteen hl
  have hb : ∀ x ∈ [a, b, c, d, e, f, g, i, j, k, l, m, n, o], 0 ≤ x ∧ x ≤ 255 := fun x hx => by
    have := List.all_eq_true.1 hr.1 x hx
    simpa using this
  simp only [List.mem_cons, List.not_mem_nil, or_false, forall_eq_or_imp, forall_eq] at hb
  obtain ⟨ha, hb, hc, hd, he, hf, hg, hi, hj, hk, hl, hm, hn, ho⟩ := hb
  rw [rd14]
  unfold cmB
  simp only
  rw [wi (by omega) (by omega), nb1, nb4, nb2, nb4, nb2, nb1]
  simp only [List.cons_append, List.nil_append, List.cons.injEq, and_true]
  omega
def z7 : Cm := (0, 0, 0, 0, 0, 0)
def upM (r : List Int) : Int × Cm := if r.length = 14 ∧ cmF (rdM r) = 0 then (0, rdM r) else (5, z7)
def mUC (r : List Int) : Option (Int × Cm) := if okR r then some (upM r) else none
def m65 (x : (Int × List Int) × List Int) : Option Bool := if okB x.1.2 = true ∧ okB x.2 = true then some (decide (x.1 = (0, x.2))) else none
theorem sat65 : Sat prog cxT 65 (c65 m65) := s65 m115 sat115 m65 fun x t h => by
  obtain ⟨⟨c, a⟩, b⟩ := x
  unfold m65 at h
  split at h
  · rename_i hc
    cases h
    refine ⟨0, ?_⟩
    show g65 m115 0 c a b = _
    unfold g65
    rw [show m115 (a, b) = some (decide (a = b)) from if_pos hc, tst_some]
    by_cases h1 : c = 0
    · subst h1
      by_cases h2 : a = b <;> simp [h2]
    · rw [beqF h1, cond_false]
      simp [h1]
  · cases h
theorem cmB_ok (x : Cm) : okB (cmB x) = true := okB_app (okB_app (okB_app (okB_app (okB_app (numB_okB _ _) (numB_okB _ _)) (numB_okB _ _)) (numB_okB _ _)) (numB_okB _ _)) (numB_okB _ _)
theorem pM_ok (x : Cm) : okB (pM x).2 = true := by
  unfold pM
  split
  · exact cmB_ok x
  · rfl
theorem written {r : List Int} (hr : okR r) : pM (rdM r) = (0, r) ↔ (r.length = 14 ∧ cmF (rdM r) = 0) := by
  unfold pM
  constructor
  · intro h
    split at h
    · rename_i h0
      have := (Prod.mk.inj h).2
      exact ⟨by rw [← this, cmB_len], h0⟩
    · rename_i h0
      exact absurd (Prod.mk.inj h).1 h0
  · rintro ⟨hl, h0⟩
    rw [if_pos h0, trip hr hl]
theorem sat24 : Sat prog cxT 24 (c24 mUC) := s24 m64 mPM m65 sat64 sat18 sat65 mUC fun r t h => by
  unfold mUC at h
  split at h
  · rename_i hr
    cases h
    refine ⟨0, ?_⟩
    unfold g24 upM
    rw [show m64 r = some ((rdM r).1, (rdM r).2.1, (rdM r).2.2.1, (rdM r).2.2.2.1, (rdM r).2.2.2.2.1, (rdM r).2.2.2.2.2, rdR r) from if_pos hr, tst_some]
    simp only
    rw [show mPM ((rdM r).1, (rdM r).2.1, (rdM r).2.2.1, (rdM r).2.2.2.1, (rdM r).2.2.2.2.1, (rdM r).2.2.2.2.2) = some (pM (rdM r)) from rfl, tst_some,
      show m65 (((pM (rdM r)).1, (pM (rdM r)).2), r) = some (decide (pM (rdM r) = (0, r))) from if_pos ⟨pM_ok _, hr.1⟩, tst_some]
    by_cases hw : r.length = 14 ∧ cmF (rdM r) = 0
    · rw [dt ((written hr).2 hw), if_pos hw]
      rfl
    · rw [df (fun h => hw ((written hr).1 h)), if_neg hw]
      rfl
  · cases h
end Go.Proofs.Try

set_option maxHeartbeats 0
set_option linter.unusedVariables false
set_option linter.unusedSimpArgs false
namespace Go.Proofs.Try
open Go Go.VM Go.RowKit
theorem sat22 : Sat prog cxT 22 (c22 mUC) := s22 m63 m58 sat63 sat56 mUC fun r t h => by
  unfold mUC at h
  split at h
  · rename_i hr
    cases h
    refine ⟨0, ?_⟩
    unfold g22 upM
    by_cases hl : r.length = 14
    · have hm : ∀ p z : Int, 0 ≤ p → 0 ≤ z → z ≤ 6 → p + z ≤ 14 → m63 (r, p, z) = some (num ((r.drop p.toNat).take z.toNat) 0) := fun p z h1 h2 h3 h4 => if_pos ⟨hr.1, hr.2, h1, h2, h3, by simp only [hl]; omega⟩
      rw [bneF (show (Nat.cast r.length : Int) = 14 by rw [hl]; rfl), cond_false]
      rw [hm 1 4 (by omega) (by omega) (by omega) (by omega), hm 5 2 (by omega) (by omega) (by omega) (by omega), hm 7 4 (by omega) (by omega) (by omega) (by omega), hm 11 2 (by omega) (by omega) (by omega) (by omega)]
      simp only [tst_some, hl]
      obtain ⟨a, b, c, d, e, f, g, i, j, k, l, m, n, o, rfl⟩ := fourteen hl
      have hb : ∀ x ∈ [a, b, c, d, e, f, g, i, j, k, l, m, n, o], 0 ≤ x ∧ x ≤ 255 := fun x hx => by
        have := List.all_eq_true.1 hr.1 x hx
        simpa using this
      have ha := hb a (by simp)
      have ho := hb o (by simp)
      simp only [List.getD_cons_zero, List.getD_cons_succ]
      rw [wi (x := a) (by omega) (by omega), wi (x := o) (by omega) (by omega), show ((decide ((0 : Int) ≤ 0)) && (decide ((0 : Int) < ((14 : Nat) : Int)))) = true from rfl, cond_true, show (decide ((0 : Int) ≤ 13) && decide ((13 : Int) < ((14 : Nat) : Int))) = true from rfl, cond_true]
      have e0 : (a, IntKind.wrap .i64 (num (List.take (Int.toNat 4) (List.drop (Int.toNat 1) [a, b, c, d, e, f, g, i, j, k, l, m, n, o])) 0 - 1), num (List.take (Int.toNat 2) (List.drop (Int.toNat 5) [a, b, c, d, e, f, g, i, j, k, l, m, n, o])) 0, num (List.take (Int.toNat 4) (List.drop (Int.toNat 7) [a, b, c, d, e, f, g, i, j, k, l, m, n, o])) 0, num (List.take (Int.toNat 2) (List.drop (Int.toNat 11) [a, b, c, d, e, f, g, i, j, k, l, m, n, o])) 0, o) = rdM [a, b, c, d, e, f, g, i, j, k, l, m, n, o] := by
        rw [rd14]
        simp [num]
      rw [e0]
      rw [show m58 (rdM [a, b, c, d, e, f, g, i, j, k, l, m, n, o]) = some (cmF (rdM [a, b, c, d, e, f, g, i, j, k, l, m, n, o])) from rfl, tst_some]
      by_cases h0 : cmF (rdM [a, b, c, d, e, f, g, i, j, k, l, m, n, o]) = 0
      · rw [bneF h0, if_pos ⟨trivial, h0⟩]
        rfl
      · rw [bneT h0, if_neg (fun h => h0 h.2)]
        rfl
    · rw [bneT (show ¬ (Nat.cast r.length : Int) = 14 by omega), cond_true, if_neg (fun h => hl h.1)]
      rfl
  · cases h
theorem sat66 : Sat prog cxT 66 (c66 fun x => some (decide (x.1 = x.2))) := s66 _ fun x t h => by
  obtain ⟨⟨a, b, c, d, e, f⟩, a', b', c', d', e', f'⟩ := x
  cases h
  refine ⟨0, ?_⟩
  show g66 0 a b c d e f a' b' c' d' e' f' = _
  unfold g66
  by_cases h1 : a = a'
  · by_cases h2 : b = b'
    · by_cases h3 : c = c'
      · by_cases h4 : d = d'
        · by_cases h5 : e = e'
          · by_cases h6 : f = f'
            · simp [h1, h2, h3, h4, h5, h6]
            · simp [h1, h2, h3, h4, h5, h6]; rw [bneT h6]; rfl
          · simp [h1, h2, h3, h4, h5]; rw [bneT h5]; rfl
        · simp [h1, h2, h3, h4]; rw [bneT h4]; rfl
      · simp [h1, h2, h3]; rw [bneT h3]; rfl
    · simp [h1, h2]; rw [bneT h2]; rfl
  · simp [h1]; rw [bneT h1]; rfl
theorem sat25 : Sat prog cxT 25 (c25 fun x => some (decide (x.1 = x.2))) := s25 _ sat66 _ fun x t h => by
  obtain ⟨⟨z, a, b, c, d, e, f⟩, z', a', b', c', d', e', f'⟩ := x
  cases h
  refine ⟨0, ?_⟩
  show g25 _ 0 z a b c d e f z' a' b' c' d' e' f' = _
  unfold g25
  simp only [tst_some]
  by_cases h0 : z = z'
  · rw [bneF h0, cond_false]
    by_cases h1 : (a, b, c, d, e, f) = (a', b', c', d', e', f')
    · rw [h1, h0]; simp
    · have : ¬ (z, a, b, c, d, e, f) = (z', a', b', c', d', e', f') := fun h => h1 (Prod.mk.inj h).2
      simp only [df h1, df this]
      rfl
  · rw [bneT h0, cond_true]
    have : ¬ (z, a, b, c, d, e, f) = (z', a', b', c', d', e', f') := fun h => h0 (Prod.mk.inj h).1
    rw [df this]
def m5 (r : List Int) : Option Bool := if okB r = true then some true else none
theorem sat5 : Sat prog cxT 5 (c5 m5) := s5 m23 mUC mUC _ m26 sat23 sat22 sat24 sat25 sat26 m5 fun r t h => by
  unfold m5 at h
  split at h
  · rename_i hb
    cases h
    refine ⟨0, ?_⟩
    unfold g5
    by_cases hl : r.length > 1048576
    · rw [dt (show (Nat.cast r.length : Int) > 1048576 by omega), cond_true]
    · rw [df (show ¬ (Nat.cast r.length : Int) > 1048576 by omega), cond_false, show m23 r = some r from if_pos (by omega)]
      have hS : mUC r = some (upM r) := if_pos ⟨hb, by omega⟩
      generalize upM r = z at hS
      obtain ⟨z0, z1, z2, z3, z4, z5, z6⟩ := z
      simp only [tst_some, hS, show m26 (r, r) = some true from (if_pos ⟨by simp only; omega, by simp only; omega⟩).trans (by simp)]
      simp
  · cases h
end Go.Proofs.Try
