/- A part of the proof of FnFrames: L1Ph. -/
import Derived.Test.YtggncacoajjjhaaL1Pg
set_option maxHeartbeats 0
set_option linter.unusedVariables false
set_option linter.unusedSimpArgs false
namespace Go.Proofs.Try
open Go Go.VM Go.RowKit

def okD (c : List Int) : Prop := okB c = true ∧ c.length ≤ 2000000
instance (c : List Int) : Decidable (okD c) := by unfold okD; infer_instance
theorem okD.src {c : List Int} (h : okD c) : okS (c, 0) 0 := ⟨h.1, h.2, Int.le_refl _, Int.le_refl _⟩
def m21 (c : List Int) : Option (List Int) := if okD c then g21 m39 m43 m40 m49 0 c else none
theorem sat21 : Sat prog cxT 21 (c21 m21) := s21 m39 m43 m40 m49 sat39 sat43 sat40 sat49 m21 fun x t h => by
  unfold m21 at h
  split at h
  · exact ⟨0, h⟩
  · cases h
theorem drawFrame {c : List Int} (h : okD c) : ∃ d, m21 c = some d ∧ okB d = true ∧ d.length ≤ 251 := by
  have e0 : m21 c = g21 m39 m43 m40 m49 0 c := if_pos h
  rw [e0]
  have s0 := h.src
  obtain ⟨v, e1, _, r1⟩ := nx s0 (by omega) 9
  have s1 := s0.add (k := 1) (by omega)
  obtain ⟨u, e2, _, r2⟩ := nx s1 (by omega) 40
  have s2 := s1.add (k := 1) (by omega)
  have r1 := r1 (by omega)
  have r2 := r2 (by omega)
  obtain ⟨z, mz, e3⟩ := pick s2 (by omega) [v, u, 0, 250, 251] (by simp) (by simp)
  have s3 := s2.add (k := 1) (by omega)
  simp only [List.mem_cons, List.not_mem_nil, or_false] at mz
  obtain ⟨at2, o, e4, k1, k2, _⟩ := some49 s3 (by omega) z (by omega)
  simp only at e1 e2 e3 e4
  refine ⟨o, ?_, k1, by have := k2 (by omega); omega⟩
  unfold g21
  rw [show m39 c = some (c, 0) from rfl, tst_some]
  simp only
  rw [e1, tst_some]
  simp only
  rw [e2, tst_some]
  simp only
  rw [e3, tst_some]
  simp only
  rw [e4, tst_some]
def m24 (x : List Int × Int × Int) : Option Int := if okD x.1 ∧ x.2.1 = 1 ∧ 1 ≤ x.2.2 ∧ x.2.2 ≤ 1000000 then g24 0 x.1 x.2.1 x.2.2 else none
theorem sat24 : Sat prog cxT 24 (c24 m24) := s24 m24 fun x t h => by
  unfold m24 at h
  split at h
  · exact ⟨0, h⟩
  · cases h
theorem atI {c : List Int} (h : okD c) {n : Int} (h1 : 1 ≤ n) (h2 : n ≤ 1000000) : ∃ v, m24 (c, 1, n) = some v ∧ 0 ≤ v ∧ v < n := by
  have e0 : m24 (c, 1, n) = g24 0 c 1 n := if_pos ⟨h, rfl, h1, h2⟩
  rw [e0]
  unfold g24
  obtain ⟨hb, hl2⟩ := h
  by_cases hn : n ≤ 1
  · rw [dt hn, cond_true]
    exact ⟨0, rfl, by omega, by omega⟩
  · rw [df hn, cond_false]
    have hn0 : (n == 0) = false := by simp; omega
    by_cases hl : c.length = 0
    · have e1 : ((Nat.cast c.length : Int) == 0) = true := by simp [hl]
      simp only [e1, hn0, cond_true, cond_false]
      refine ⟨_, rfl, tmod_range _ ?_ h1⟩
      rw [wi (by omega) (by omega)]
      omega
    · have e1 : ((Nat.cast c.length : Int) == 0) = false := by simp; intro h; simp [h] at hl
      have hk : (1 : Int) ≤ (c.length : Int) := by omega
      have w1 : IntKind.wrap .i64 (1 + 1) = 2 := rfl
      have r1 := tmod_range 1 (by omega) hk
      have r2 := tmod_range 2 (by omega) hk
      have hq : 0 ≤ (1 : Int).tdiv (c.length : Int) ∧ (1 : Int).tdiv (c.length : Int) ≤ 1 := by
        rw [Int.tdiv_eq_ediv_of_nonneg (by omega)]
        exact ⟨Int.ediv_nonneg (by omega) (by omega), Int.ediv_le_self _ (by omega)⟩
      have g1 := okB_get hb (i := ((1 : Int).tmod (c.length : Int)).toNat) (by omega)
      have g2 := okB_get hb (i := ((2 : Int).tmod (c.length : Int)).toNat) (by omega)
      have wq : IntKind.wrap .i64 ((1 : Int).tdiv (c.length : Int)) = (1 : Int).tdiv (c.length : Int) := wi (by omega) (by omega)
      simp only [e1, hn0, cond_false, w1, dt r1.1, dt r1.2, dt r2.1, dt r2.2, Bool.and_self, cond_true, wq]
      generalize c.getD ((1 : Int).tmod (c.length : Int)).toNat 0 = x at g1 ⊢
      generalize c.getD ((2 : Int).tmod (c.length : Int)).toNat 0 = y at g2 ⊢
      generalize (1 : Int).tdiv (c.length : Int) = q at hq ⊢
      by_cases hb2 : n > 200
      · rw [dt hb2, cond_true]
        refine ⟨_, rfl, tmod_range _ ?_ h1⟩
        simp (disch := omega) only [wi]
        omega
      · rw [df hb2, cond_false]
        refine ⟨_, rfl, tmod_range _ ?_ h1⟩
        simp (disch := omega) only [wi]
        omega

/-! FnFrames -/
def okL (ds : List (List Int)) (n : Nat) : Prop := (∀ d ∈ ds, okB d = true ∧ d.length ≤ 250) ∧ ds.length ≤ n
theorem cat_app (a b : List (List Int)) : cat (a ++ b) = cat a ++ cat b := by simp [cat]
theorem cat_len : ∀ (ds : List (List Int)), (∀ d ∈ ds, okB d = true ∧ d.length ≤ 250) → (cat ds).length ≤ 254 * ds.length
  | [], _ => by simp [cat]
  | d :: ds, h => by
    have := cat_len ds (fun x hx => h x (List.mem_cons_of_mem _ hx))
    have := (h d (List.mem_cons_self ..)).2
    have hl := frm_len d
    have ec : cat (d :: ds) = frm d ++ cat ds := by simp [cat]
    rw [ec, List.length_append, List.length_cons]
    omega
theorem cat_ok : ∀ (ds : List (List Int)), (∀ d ∈ ds, okB d = true ∧ d.length ≤ 250) → okB (cat ds) = true
  | [], _ => rfl
  | d :: ds, h => by
    have ec : cat (d :: ds) = frm d ++ cat ds := by simp [cat]
    rw [ec]
    exact okB_app (frm_ok (h d (List.mem_cons_self ..)).1) (cat_ok ds (fun x hx => h x (List.mem_cons_of_mem _ hx)))
theorem round5 (L : Nat) (c : List Int) (hc : okC c) (n : Nat) (ds : List (List Int)) (j : Nat) (hd : okL ds j) (hj : j < 2) (k : List Int → List (List Int) → Option Bool) :
    ∃ ds', okL ds' (j + 1) ∧ l5_0 m12 m21 mF mF m24 m25 L c (n + 1) (cat ds) ds (j : Int) k = l5_0 m12 m21 mF mF m24 m25 L c n (cat ds') ds' ((j + 1 : Nat) : Int) k := by
  have hlen := cat_len ds hd.1
  have hdl := hd.2
  have w : IntKind.wrap .u8 ((j : Int) + 1) = ((j + 1 : Nat) : Int) := by rw [wb (by omega) (by omega)]; omega
  obtain ⟨d, e21, k1, k2⟩ := drawFrame (c := [(j : Int)] ++ c) ⟨okB_app (by unfold okB; simp; omega) hc.1, by have := hc.2; simp; omega⟩
  have eF : mF d = some (putF d) := if_pos ⟨k1, by omega⟩
  have hcl := hc.2
  rw [l5_0, dt (show (j : Int) < 2 by omega), cond_true, dt (by simp; omega), cond_true, e21, tst_some, eF, tst_some]
  by_cases h : d.length > 250
  · have ep : putF d = (2, []) := if_pos h
    rw [ep]
    simp only
    rw [bneT (by decide), cond_true, tst_some, bneF rfl, cond_false, w]
    exact ⟨ds, ⟨hd.1, by omega⟩, rfl⟩
  · have ep : putF d = (0, frm d) := if_neg h
    have fl := frm_len d
    rw [ep]
    simp only
    rw [bneF rfl, cond_false, dt (by omega), cond_true, dt (by simp; omega), cond_true, w]
    refine ⟨ds ++ [d], ⟨fun x hx => ?_, by simp; omega⟩, ?_⟩
    · rcases List.mem_append.1 hx with hx | hx
      · exact hd.1 x hx
      · simp only [List.mem_singleton] at hx
        subst hx
        exact ⟨k1, by omega⟩
    · rw [cat_app]
      simp [cat]
theorem last5 (L : Nat) (c : List Int) (ds fs : List (List Int)) (a b e f : Int) (q : Nat) (hq : fs = ds.take q) (hl : ds.length ≤ 2) (k : Option Bool) : ∀ (n i : Nat), i ≤ ds.length → ds.length < n + i →
    l5_2 m12 m21 mF mF m24 m25 L c n ds a b ds e f fs (i : Int) k = k
  | 0, i, h1, h2 => by omega
  | n + 1, i, h1, h2 => by
    rw [l5_2]
    by_cases hi : i < ds.length
    · have w : IntKind.wrap .i64 ((i : Int) + 1) = ((i + 1 : Nat) : Int) := by rw [wi (by omega) (by omega)]; omega
      have ih := last5 L c ds fs a b e f q hq hl k n (i + 1) (by omega) (by omega)
      rw [dt (show (i : Int) < (ds.length : Int) by omega), dt (show (0 : Int) ≤ (i : Int) by omega)]
      simp only [Bool.and_self, cond_true, bs, Bool.not_true, cond_false, w]
      by_cases hf : i < fs.length
      · rw [dt (show (i : Int) < (fs.length : Int) by omega)]
        have e1 : fs.getD (i : Int).toNat [] = ds.getD (i : Int).toNat [] := by
          subst hq
          have : i < q := by
            simp only [List.length_take] at hf
            omega
          simp [List.getD, List.getElem?_take, this]
        have e2 : ((strV (flatVals cxT 5 (fs.getD (i : Int).toNat []))).toList == (strV (flatVals cxT 5 (ds.getD (i : Int).toNat []))).toList) = true := by
          have : ∀ X Y : List Int, X = Y → ((strV (flatVals cxT 5 X)).toList == (strV (flatVals cxT 5 Y)).toList) = true := fun X Y h => by subst h; exact bs _
          exact this _ _ e1
        have go : ∀ (B : Bool) (R : Option Bool), B = true → R = k → (bif true then (bif true && true then (bif !B then some false else R) else none) else R) = k := fun B R h1 h2 => by
          subst h1; exact h2
        exact go _ _ e2 ih
      · rw [df (show ¬ (i : Int) < (fs.length : Int) by omega)]
        exact ih
    · rw [df (by omega)]
      rfl
theorem sat5 : Sat prog cxT 5 (c5 m3) := s5 m12 m21 mF mF m24 m25 sat12 sat21 sat22 sat23 sat24 sat25 m3 fun x t h => by
  unfold m3 at h
  split at h
  · rename_i hc
    cases h
    refine ⟨3, ?_⟩
    unfold g5
    rw [show m12 x = some (decide ((x.length : Int) > 1048576)) from rfl, tst_some]
    by_cases hb : (x.length : Int) > 1048576
    · rw [dt hb]; rfl
    · rw [df hb, cond_false]
      have hx : okC x := ⟨hc, by omega⟩
      obtain ⟨d1, h1, e1⟩ := round5 3 x hx 2 [] 0 ⟨by simp, by simp⟩ (by omega) (fun (w0_3 : (List Int)) (w0_4 : (List (List Int))) => tst (m24 (x, ((1 : Int), (Go.IntKind.wrap Go.IntKind.i64 ((Nat.cast (List.length w0_3) : Int) + (1 : Int)))))) (0 : Int) fun (q3 : Int) => tst (m25 w0_3) ((0 : Int), (0 : Int), []) fun (q4 : (Int × Int × (List (List Int)))) => bif (((decide ((0 : Int) ≤ (0 : Int))) && (decide ((0 : Int) ≤ q3))) && (decide (q3 ≤ (Nat.cast (List.length w0_3) : Int)))) then tst (m25 (List.drop (Int.toNat (0 : Int)) (List.take (Int.toNat q3) w0_3))) ((0 : Int), (0 : Int), []) fun (q6 : (Int × Int × (List (List Int)))) => bif (q4.1 != (0 : Int)) then some Bool.false
              else bif (q6.1 != (0 : Int)) then some Bool.false
              else bif ((Nat.cast (List.length q4.2.2) : Int) != (Nat.cast (List.length w0_4) : Int)) then some Bool.false
              else bif (q4.2.1 != (Nat.cast (List.length w0_3) : Int)) then some Bool.false
              else bif (decide (q6.2.1 > q3)) then some Bool.false
              else bif (decide ((Nat.cast (List.length q6.2.2) : Int) > (Nat.cast (List.length w0_4) : Int))) then some Bool.false
              else l5_2 m12 m21 mF mF m24 m25 3 x 3 w0_4 q4.1 q4.2.1 q4.2.2 q6.1 q6.2.1 q6.2.2 (0 : Int) (some Bool.true)
          else none)
      refine e1.trans ?_
      obtain ⟨d2, h2, e2⟩ := round5 3 x hx 1 d1 1 h1 (by omega) _
      refine e2.trans ?_
      rw [l5_0, df (by decide), cond_false]
      have hcl := cat_len d2 h2.1
      have hdl := h2.2
      have hco := cat_ok d2 h2.1
      rw [wi (x := (Nat.cast (cat d2).length : Int) + 1) (by omega) (by omega)]
      obtain ⟨v, e24, v0, v1⟩ := atI (c := x) ⟨hc, by have := hx.2; omega⟩ (n := (Nat.cast (cat d2).length : Int) + 1) (by omega) (by omega)
      rw [e24, tst_some]
      obtain ⟨q1, p1, p2, p3⟩ := tf_cut d2 (cat d2).length ((cat d2).length + 1) h2.1 (by omega)
      obtain ⟨p4, p5⟩ := p3 (Nat.le_refl _)
      rw [List.take_length] at p4 p5
      have e25 : m25 (cat d2) = some (0, ((cat d2).length : Int), d2) := (if_pos ⟨hco, by omega⟩).trans (by rw [p4, p5])
      rw [e25, tst_some, dt (Int.le_refl (0 : Int)), dt v0, dt (show v ≤ (Nat.cast (cat d2).length : Int) by omega), Bool.and_self, Bool.and_self, cond_true]
      have et : List.drop (Int.toNat 0) (List.take v.toNat (cat d2)) = (cat d2).take v.toNat := rfl
      rw [et]
      obtain ⟨q, r1, r2, r3⟩ := tf_cut d2 v.toNat (((cat d2).take v.toNat).length + 1 + (cat d2).length) h2.1 (by omega)
      rw [tf_more _ (((cat d2).take v.toNat).length + 1) _ (by omega) (by omega)] at r1 r2
      have e25' : m25 ((cat d2).take v.toNat) = some (0, ((tf (((cat d2).take v.toNat).length + 1) ((cat d2).take v.toNat)).2 : Int), d2.take q) := (if_pos ⟨okB_take hco _, by simp; omega⟩).trans (by rw [r1])
      rw [e25', tst_some]
      simp only
      rw [bneF rfl, bneF rfl, bneF rfl, df (by omega), df (by simp; omega)]
      simp only [cond_false]
      exact last5 3 x d2 (d2.take q) _ _ _ _ q rfl (by omega) (some true) 3 0 (by omega) (by omega)
  · cases h
end Go.Proofs.Try
