/- A part of the proof of FnExactUpdateFault: LtNa. -/
import Derived.Test.YtnmnomckcjihoaaGreatLtPe
import Derived.Test.YtnmnomckcjihoaaGreatLtQc
set_option linter.unusedVariables false
set_option maxHeartbeats 0
set_option linter.unusedVariables false
set_option linter.unusedSimpArgs false
namespace Go.Proofs.Tryz
open Go Go.VM Go.RowKit

/-! ### Updates: FnExactUpdateFault -/
abbrev Ud := Int × Int × Bool × Int × List Bk × List Vp × List Cm
def zC : Cg := ((0 : Int), [], [])
def dCm : Cm := ((0 : Int), (0 : Int), (0 : Int), (0 : Int), (0 : Int), (0 : Int))
theorem sat26 : Sat prog cxT 26 (c26 fun c => some (decide (c = zC))) := s26 _ fun x t h => by
  obtain ⟨a, b, c⟩ := x
  cases h
  refine ⟨0, ?_⟩
  unfold g26 zC
  by_cases h1 : a = 0
  · rw [show (a == (0 : Int)) = true by simpa using h1, cond_true]
    cases b with
    | nil =>
      rw [show ((Nat.cast (List.length ([] : List Bk)) : Int) == (0 : Int)) = true from rfl, cond_true]
      cases c with
      | nil => simp [h1]
      | cons y l => simp; omega
    | cons y l =>
      rw [show ((Nat.cast (List.length (y :: l)) : Int) == (0 : Int)) = false by simp; omega, cond_false]
      simp
  · rw [show (a == (0 : Int)) = false by simpa using h1, cond_false]
    simp [h1]
def mZ (c : Cg) : Option Bool := if okC c then some (decide (c = zC)) else none
theorem sat58 : Sat prog cxT 58 (c58 mZ) := s58 m32 sat77 mZ fun x t h => by
  obtain ⟨a, b, c⟩ := x
  unfold mZ at h
  split at h
  · rename_i hc
    cases h
    refine ⟨0, ?_⟩
    show g58 m32 0 a b c = _
    unfold g58
    rw [show m32 ((a, b, c), ((0 : Int), [], [])) = some (decide ((a, b, c) = zC)) from if_pos hc, tst_some]
  · cases h
def cmF' (l : List Cm) (i : Nat) : Int := cmF (l.getD i dCm)
def cmsF (l : List Cm) : Int := fst (cmF' l) l.length 0
theorem lp31 (M : Cg → Option Bool) (L : Nat) (a b : Int) (c : Bool) (d : Int) (e : List Bk) (f : List Vp) (g : List Cm) (hl : g.length ≤ 1000) : ∀ (n i : Nat), i ≤ g.length → g.length < n + i →
    l31_0 M m59 L a b c d e f g n (i : Int) (some 0) = some (fst (cmF' g) (g.length - i) i)
  | 0, i, h1, h2 => by omega
  | n + 1, i, h1, h2 => by
    unfold l31_0
    by_cases hi : i < g.length
    · have ih := lp31 M L a b c d e f g hl n (i + 1) (by omega) (by omega)
      rw [show ((i + 1 : Nat) : Int) = (i : Int) + 1 by omega] at ih
      rw [dt (show (i : Int) < (g.length : Int) by omega), dt (show (0 : Int) ≤ (i : Int) by omega), Int.toNat_natCast, wi (x := (i : Int) + 1) (by omega) (by omega), fst_step hi]
      simp only [cond_true, Bool.and_self]
      change tst (some (cmF' g i)) _ _ = _
      rw [tst_some, ih]
      by_cases h0 : cmF' g i = 0
      · rw [bneF h0, cond_false, if_pos h0]
      · rw [bneT h0, cond_true, if_neg h0]
    · rw [df (show ¬ (i : Int) < (g.length : Int) by omega), cond_false, fst_done hi]
theorem lp6 (M1 : Int → Option Bool) (M2 : Cg → Option Int) (M3 : Cg → Option Bool) (L : Nat) (a b : Int) (c : Bool) (d : Int) (e : List Bk) (f : List Vp) (g : List Cm) (hl : g.length ≤ 1000) : ∀ (n i : Nat), i ≤ g.length → g.length < n + i →
    l6_0 M1 M2 M3 m59 L a b c d e f g n a b c d e f g (i : Int) (some 0) = some (fst (cmF' g) (g.length - i) i)
  | 0, i, h1, h2 => by omega
  | n + 1, i, h1, h2 => by
    unfold l6_0
    by_cases hi : i < g.length
    · have ih := lp6 M1 M2 M3 L a b c d e f g hl n (i + 1) (by omega) (by omega)
      rw [show ((i + 1 : Nat) : Int) = (i : Int) + 1 by omega] at ih
      rw [dt (show (i : Int) < (g.length : Int) by omega), dt (show (0 : Int) ≤ (i : Int) by omega), Int.toNat_natCast, wi (x := (i : Int) + 1) (by omega) (by omega), fst_step hi]
      simp only [cond_true, Bool.and_self]
      change tst (some (cmF' g i)) _ _ = _
      rw [tst_some, ih]
      by_cases h0 : cmF' g i = 0
      · rw [bneF h0, cond_false, if_pos h0]
      · rw [bneT h0, cond_true, if_neg h0]
    · rw [df (show ¬ (i : Int) < (g.length : Int) by omega), cond_false, fst_done hi]
def stF (u : Ud) : Int := if (u.2.2.2.1, u.2.2.2.2.1, u.2.2.2.2.2.1) = zC then (if 20 < u.2.2.2.2.2.2.length then 2 else if u.2.1 - u.1 = (u.2.2.2.2.2.2.length : Int) then cmsF u.2.2.2.2.2.2 else 1) else 1
def flF (u : Ud) : Int := if u.1 = 0 then (if 0 < u.2.2.2.2.2.2.length then 1 else if cF (u.2.2.2.1, u.2.2.2.2.1, u.2.2.2.2.2.1) = 0 then (if u.2.2.2.1 = u.2.1 then 0 else 1) else cF (u.2.2.2.1, u.2.2.2.2.1, u.2.2.2.2.2.1)) else 1
def udF (u : Ud) : Int := if vrOk u.1 = true then (if vrOk u.2.1 = true then (if u.2.2.1 = true then flF u else stF u) else 3) else 3
def okU (u : Ud) : Prop := okC (u.2.2.2.1, u.2.2.2.2.1, u.2.2.2.2.2.1)
instance (u : Ud) : Decidable (okU u) := by unfold okU; infer_instance
def mUF (u : Ud) : Option Int := if okU u then some (udF u) else none
def m31 (u : Ud) : Option Int := if okU u ∧ vrOk u.1 = true ∧ vrOk u.2.1 = true then some (stF u) else none
def m30 (u : Ud) : Option Int := if okU u then some (flF u) else none
theorem vr_in {v : Int} (h : vrOk v = true) : 0 ≤ v ∧ v ≤ 1000000 := by
  unfold vrOk at h; simpa using h
theorem sat31 : Sat prog cxT 31 (c31 m31) := s31 _ _ sat58 sat59 m31 fun x t h => by
  obtain ⟨a, b, c, d, e, f, g⟩ := x
  unfold m31 at h
  split at h
  · rename_i hc
    obtain ⟨h1, h2, h3⟩ := hc
    have h1 : okC (d, e, f) := h1
    obtain ⟨h4, h5⟩ := vr_in h2
    obtain ⟨h6, h7⟩ := vr_in h3
    simp only at h4 h5 h6 h7
    cases h
    refine ⟨g.length + 1, ?_⟩
    show g31 mZ m59 (g.length + 1) a b c d e f g = some (stF (a, b, c, d, e, f, g))
    unfold g31 stF
    rw [show mZ (d, (e, f)) = some (decide ((d, (e, f)) = zC)) from if_pos h1, tst_some]
    by_cases hz : (d, e, f) = zC
    · rw [dt hz, Bool.not_true, cond_false, if_pos hz]
      by_cases h20 : 20 < g.length
      · rw [dt (show (g.length : Int) > 20 by omega), cond_true, if_pos h20]
      · rw [df (show ¬ (g.length : Int) > 20 by omega), cond_false, if_neg h20, wi (x := b - a) (by omega) (by omega)]
        by_cases hd : b - a = (g.length : Int)
        · rw [bneF hd, cond_false, if_pos hd]
          exact lp31 _ _ a b c d e f g (by omega) _ 0 (by omega) (by omega)
        · rw [bneT hd, cond_true, if_neg hd]
    · rw [df hz, Bool.not_false, cond_true, if_neg hz]
  · cases h
theorem sat30 : Sat prog cxT 30 (c30 m30) := s30 _ sat57 m30 fun x t h => by
  obtain ⟨a, b, c, d, e, f, g⟩ := x
  unfold m30 at h
  split at h
  · rename_i hc
    have h1 : okC (d, e, f) := hc
    cases h
    refine ⟨0, ?_⟩
    show g30 mCF 0 a b c d e f g = some (flF (a, b, c, d, e, f, g))
    unfold g30 flF
    rw [show mCF (d, (e, f)) = some (cF (d, e, f)) from if_pos h1, tst_some]
    by_cases ha : a = 0
    · rw [bneF ha, cond_false, if_pos ha]
      by_cases hg : 0 < g.length
      · rw [dt (show (g.length : Int) > 0 by omega), cond_true, if_pos hg]
      · rw [df (show ¬ (g.length : Int) > 0 by omega), cond_false, if_neg hg]
        by_cases hf : cF (d, e, f) = 0
        · rw [bneF hf, cond_false, if_pos hf]
          by_cases hd : d = b
          · rw [bneF hd, cond_false, if_pos hd]
          · rw [bneT hd, cond_true, if_neg hd]
        · rw [bneT hf, cond_true, if_neg hf]
    · rw [bneT ha, cond_true, if_neg ha]
  · cases h
theorem sat8 : Sat prog cxT 8 (c8 mUF) := s8 _ _ _ sat29 sat30 sat31 mUF fun x t h => by
  obtain ⟨a, b, c, d, e, f, g⟩ := x
  unfold mUF at h
  split at h
  · rename_i hc
    cases h
    refine ⟨0, ?_⟩
    show g8 (fun x => some (vrOk x)) m30 m31 0 a b c d e f g = some (udF (a, b, c, d, e, f, g))
    unfold g8 udF
    simp only [tst_some]
    cases ha : vrOk a with
    | false => simp
    | true =>
      cases hb : vrOk b with
      | false => simp
      | true =>
        simp only [Bool.not_true, cond_false, if_true]
        cases hcc : c with
        | true =>
          subst hcc
          rw [cond_true, show m30 (a, (b, (true, (d, (e, (f, g)))))) = some (flF (a, b, true, d, e, f, g)) from if_pos hc, tst_some, if_pos rfl]
        | false =>
          subst hcc
          rw [cond_false, show m31 (a, (b, (false, (d, (e, (f, g)))))) = some (stF (a, b, false, d, e, f, g)) from if_pos ⟨hc, ha, hb⟩, tst_some, if_neg (by decide)]
  · cases h
theorem sat6 : Sat prog cxT 6 (c6 mUF) := s6 _ _ _ _ sat24 sat25 sat26 sat27 mUF fun x t h => by
  obtain ⟨a, b, c, d, e, f, g⟩ := x
  unfold mUF at h
  split at h
  · rename_i hc
    have h1 : okC (d, e, f) := hc
    cases h
    refine ⟨g.length + 1, ?_⟩
    show g6 (fun x => some (vrOk x)) m25 (fun c => some (decide (c = zC))) m59 (g.length + 1) a b c d e f g = some (udF (a, b, c, d, e, f, g))
    unfold g6 udF
    rw [show m25 (d, (e, f)) = some (cF (d, e, f)) from if_pos h1]
    simp only [tst_some]
    cases ha : vrOk a with
    | false => simp
    | true =>
      cases hb : vrOk b with
      | false => simp
      | true =>
        obtain ⟨h4, h5⟩ := vr_in ha
        obtain ⟨h6, h7⟩ := vr_in hb
        simp only [Bool.not_true, cond_false, if_true]
        cases c with
        | true =>
          rw [cond_true, if_pos rfl]
          unfold flF
          simp only
          by_cases ha : a = 0
          · rw [bneF ha, cond_false, if_pos ha]
            by_cases hg : 0 < g.length
            · rw [dt (show (g.length : Int) > 0 by omega), cond_true, if_pos hg]
            · rw [df (show ¬ (g.length : Int) > 0 by omega), cond_false, if_neg hg]
              by_cases hf : cF (d, e, f) = 0
              · rw [bneF hf, cond_false, if_pos hf]
                by_cases hd : d = b
                · rw [bneF hd, cond_false, if_pos hd]
                · rw [bneT hd, cond_true, if_neg hd]
              · rw [bneT hf, cond_true, if_neg hf]
          · rw [bneT ha, cond_true, if_neg ha]
        | false =>
          rw [cond_false, if_neg (by decide)]
          unfold stF
          simp only
          by_cases hz : (d, e, f) = zC
          · rw [dt hz, Bool.not_true, cond_false, if_pos hz]
            by_cases h20 : 20 < g.length
            · rw [dt (show (g.length : Int) > 20 by omega), cond_true, if_pos h20]
            · rw [df (show ¬ (g.length : Int) > 20 by omega), cond_false, if_neg h20, wi (x := b - a) (by omega) (by omega)]
              by_cases hd : b - a = (g.length : Int)
              · rw [bneF hd, cond_false, if_pos hd]
                exact lp6 _ _ _ _ a b false d e f g (by omega) _ 0 (by omega) (by omega)
              · rw [bneT hd, cond_true, if_neg hd]
          · rw [df hz, Bool.not_false, cond_true, if_neg hz]
  · cases h

/-! The law -/
def m37 (x : Cm) : Option Cm := some x
theorem sat37 : Sat prog cxT 37 (c37 m37) := s37 m37 fun x t h => by
  obtain ⟨a, b, c, d, e, f⟩ := x
  cases h
  exact ⟨0, rfl⟩
theorem el14 (L : Nat) (a : List Cm) : ∀ (n : Nat) (o : List Cm) (i : Int) (k : List Cm → Option (List Cm)), l14_0 m37 L a n o i k = toL dCm m37 a n o i k
  | 0, _, _, _ => rfl
  | n + 1, o, i, k => by unfold l14_0 toL; simp only [el14 L a n]; rfl
def m14 (a : List Cm) : Option (List Cm) := if a.length ≤ mid then some a else none
theorem sat14 : Sat prog cxT 14 (c14 m14) := s14 _ sat37 m14 fun x t h => by
  unfold m14 at h
  split at h
  · rename_i ha
    cases h
    refine ⟨x.length + 1, ?_⟩
    unfold g14
    rw [make_ok ha, cond_true, el14, Int.toNat_natCast]
    unfold mid at ha
    exact toL_ok dCm _ x (by omega) (fun v hv => rfl) _ _ 0 _ (by simp) (by omega) (by omega) rfl
  · cases h
def m11 (x : List Cm × Int) : Option Int := if 0 ≤ x.2 ∧ x.2 ≤ 1048576 ∧ x.1.length ≤ top then some (szv x.2 x.1.length) else none
theorem sat11 : Sat prog cxT 11 (c11 m11) := s11 m11 fun x t h => by
  obtain ⟨a, v⟩ := x
  unfold m11 at h
  split at h
  · rename_i hc; cases h; exact ⟨0, szv_eq hc.1 hc.2.1 hc.2.2⟩
  · cases h
def m41 (x : Cm × Cm) : Option Bool := some (decide (x.1 = x.2))
theorem sat41 : Sat prog cxT 41 (c41 m41) := s41 m41 fun x t h => by
  obtain ⟨⟨a, b, c, d, e, f⟩, a', b', c', d', e', f'⟩ := x
  cases h
  refine ⟨0, ?_⟩
  show g41 0 a b c d e f a' b' c' d' e' f' = _
  unfold g41
  by_cases h1 : a = a'
  · rw [bneF h1, cond_false]
    by_cases h2 : b = b'
    · rw [bneF h2, cond_false]
      by_cases h3 : c = c'
      · rw [bneF h3, cond_false]
        by_cases h4 : d = d'
        · rw [bneF h4, cond_false]
          by_cases h5 : e = e'
          · rw [bneF h5, cond_false]
            by_cases h6 : f = f'
            · rw [bneF h6, cond_false]; simp [h1, h2, h3, h4, h5, h6]
            · rw [bneT h6, cond_true]; simp [h6]
          · rw [bneT h5, cond_true]; simp [h5]
        · rw [bneT h4, cond_true]; simp [h4]
      · rw [bneT h3, cond_true]; simp [h3]
    · rw [bneT h2, cond_true]; simp [h2]
  · rw [bneT h1, cond_true]; simp [h1]
instance decCm : DecidableEq Cm := inferInstance
instance decLc : DecidableEq (List Cm) := @instDecidableEqList _ decCm
theorem el18 (L : Nat) (a b : List Cm) : ∀ (n : Nat) (i : Int) (k : Option Bool), l18_0 m41 L a b n i k = eqL dCm m41 a b n i k
  | 0, _, _ => rfl
  | n + 1, i, k => by unfold l18_0 eqL; simp only [el18 L a b n]; rfl
def m18 (x : List Cm × List Cm) : Option Bool := if x.1.length ≤ big then some (decide (x.1 = x.2)) else none
theorem sat18 : Sat prog cxT 18 (c18 m18) := s18 _ sat41 m18 fun x t h => by
  obtain ⟨a, b⟩ := x
  unfold m18 at h
  split at h
  · rename_i hc
    cases h
    have hc1 : a.length ≤ 1000000000000 := hc
    refine ⟨a.length + 1, ?_⟩
    show g18 _ (a.length + 1) a b = some (decide (a = b))
    unfold g18
    refine bifeq (fun e => ?_) fun e h => e (by rw [h])
    rw [el18]
    refine (eqL_ok dCm _ a b (by omega) (by omega) (fun x hx y _ => rfl) _ _ 0 (by omega) (by omega)).trans ?_
    simp only [List.drop_zero]
    split <;> rename_i hh <;> simp [hh]
  · cases h
noncomputable def m9 (x : Ud × Ud) : Option Bool := @ite _ (okU x.1 ∧ x.1.2.2.2.2.2.2.length ≤ big ∧ x.2 = x.1) (Classical.propDecidable _) (some true) none
theorem sat9 : Sat prog cxT 9 (c9 m9) := s9 m32 m18 sat32 sat18 m9 fun x t h => by
  obtain ⟨⟨a, b, c, d, e, f, g⟩, y⟩ := x
  unfold m9 at h
  split at h
  · rename_i hc
    obtain ⟨h1, h2, h3⟩ := hc
    simp only at h2 h3
    subst h3
    cases h
    refine ⟨0, ?_⟩
    show g9 m32 m18 0 a b c d e f g a b c d e f g = _
    unfold g9
    rw [show m32 ((d, e, f), (d, e, f)) = some true from (if_pos h1).trans (by rw [dt rfl]), tst_some, show m18 (g, g) = some true from (if_pos h2).trans (by rw [dt rfl]), tst_some, bneF rfl, bneF rfl]
    cases c <;> rfl
  · cases h
def m7 (u : Ud) : Option Ud := if okM (u.2.2.2.1, u.2.2.2.2.1, u.2.2.2.2.2.1) ∧ u.2.2.2.2.2.2.length ≤ mid then some u else none
theorem sat7 : Sat prog cxT 7 (c7 m7) := s7 m28 m14 sat28 sat14 m7 fun x t h => by
  obtain ⟨a, b, c, d, e, f, g⟩ := x
  unfold m7 at h
  split at h
  · rename_i hc
    cases h
    refine ⟨0, ?_⟩
    show g7 m28 m14 0 a b c d e f g = _
    unfold g7
    rw [show m28 (d, e, f) = some (d, e, f) from if_pos hc.1, tst_some, show m14 g = some g from if_pos hc.2, tst_some]
  · cases h
def wU (u : Ud) : Int := wC (u.2.2.2.1, u.2.2.2.2.1, u.2.2.2.2.2.1) + (u.2.2.2.2.2.2.length : Int)
def zU (u : Ud) : Prop := okZ (u.2.2.2.1, u.2.2.2.2.1, u.2.2.2.2.2.1) ∧ u.2.2.2.2.2.2.length ≤ top
instance (u : Ud) : Decidable (zU u) := by unfold zU; infer_instance
theorem wC_nonneg (c : Cg) : 0 ≤ wC c := by
  have := sumW_nonneg (w := wV) (l := c.2.2) fun x _ => wV_nonneg x
  unfold wC; omega
def m5 (x : Ud × Int) : Option Int := if 0 ≤ x.2 ∧ x.2 ≤ 1048576 ∧ zU x.1 then some (szv x.2 (wU x.1)) else none
theorem sat5 : Sat prog cxT 5 (c5 m5) := s5 m23 m11 sat23 sat11 m5 fun x t h => by
  obtain ⟨⟨a, b, c, d, e, f, g⟩, v⟩ := x
  unfold m5 at h
  split at h
  · rename_i hc
    obtain ⟨h0, h1, h2, h3⟩ := hc
    cases h
    refine ⟨0, ?_⟩
    show g5 m23 m11 0 a b c d e f g v = some (szv v (wC (d, e, f) + (g.length : Int)))
    have h0 : 0 ≤ v := h0
    have h1 : v ≤ 1048576 := h1
    have hn := wC_nonneg (d, e, f)
    unfold g5
    rw [show m23 ((d, e, f), v) = some (szv v (wC (d, e, f))) from if_pos ⟨h0, h1, h2⟩, tst_some, szv_szv hn (by omega) h0]
    have hr := szv_range (v := v) hn h0
    by_cases hneg : szv v (wC (d, e, f)) < 0
    · rw [dt hneg, cond_true, if_pos hneg]
    · rw [df hneg, cond_false, if_neg hneg, show m11 (g, szv v (wC (d, e, f))) = some (szv (szv v (wC (d, e, f))) g.length) from if_pos ⟨by simp only; omega, by simp only; omega, h3⟩, tst_some]
      have hr2 := szv_range (v := szv v (wC (d, e, f))) (a := (g.length : Int)) (by omega) (by omega)
      by_cases hneg2 : szv (szv v (wC (d, e, f))) (g.length : Int) < 0
      · rw [dt hneg2, cond_true]
        congr 1; omega
      · rw [df hneg2, cond_false]
  · cases h
theorem smallU {u : Ud} (h : ¬ szv 1048576 (wU u) < 0) : okM (u.2.2.2.1, u.2.2.2.2.1, u.2.2.2.2.2.1) ∧ okU u ∧ u.2.2.2.2.2.2.length ≤ 1048576 := by
  have hn := wC_nonneg (u.2.2.2.1, u.2.2.2.2.1, u.2.2.2.2.2.1)
  unfold wU at h
  have h1 : 0 ≤ szv 1048576 (wC (u.2.2.2.1, u.2.2.2.2.1, u.2.2.2.2.2.1)) := by
    unfold szv at h ⊢
    split at h
    · omega
    · split <;> omega
  have h2 : u.2.2.2.2.2.2.length ≤ 1048576 := by
    unfold szv at h
    split at h <;> omega
  obtain ⟨a, b, c⟩ := wC_small h1
  unfold okU okM okC mid big
  exact ⟨⟨by omega, by omega, fun v hv => by have := c v hv; omega⟩, ⟨by omega, by omega, fun v hv => by have := c v hv; omega⟩, h2⟩
def m3 (x : Ud) : Option Bool := if zU x then some true else none
theorem sat3 : Sat prog cxT 3 (c3 m3) := s3 m5 m7 mUF mUF m9 sat5 sat7 sat6 sat8 sat9 m3 fun x t h => by
  obtain ⟨a, b, c, d, e, f, g⟩ := x
  unfold m3 at h
  split at h
  · rename_i hz
    cases h
    refine ⟨0, ?_⟩
    show g3 m5 m7 mUF mUF m9 0 a b c d e f g = some true
    unfold g3
    rw [show m5 ((a, b, c, d, e, f, g), 1048576) = some (szv 1048576 (wU (a, b, c, d, e, f, g))) from if_pos ⟨by simp only; omega, by simp only; omega, hz⟩, tst_some]
    by_cases h : szv 1048576 (wU (a, b, c, d, e, f, g)) < 0
    · rw [dt h, cond_true]
    · obtain ⟨hM, hC, hl'⟩ := smallU h
      have hl : g.length ≤ 1048576 := hl'
      clear hl'
      have eX : m7 (a, b, c, d, e, f, g) = some (a, b, c, d, e, f, g) := if_pos ⟨hM, by show g.length ≤ mid; unfold mid; omega⟩
      have pX : m9 ((a, b, c, d, e, f, g), (a, b, c, d, e, f, g)) = some true := if_pos ⟨hC, by show g.length ≤ big; unfold big; omega, rfl⟩
      have fX : mUF (a, b, c, d, e, f, g) = some (udF (a, b, c, d, e, f, g)) := if_pos hC
      rw [df h, cond_false]
      simp only [eX, tst_some, pX, fX, bne_self_eq_false, Bool.not_true, cond_false]
  · cases h
end Go.Proofs.Tryz
