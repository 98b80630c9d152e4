/- A part of the proof of FnFrames: L1Pe. -/
import Derived.Test.YtggncacoajjjhaaL1Fp
import Derived.Test.YtggncacoajjjhaaL1Pd
set_option maxHeartbeats 0
set_option linter.unusedVariables false
set_option linter.unusedSimpArgs false
namespace Go.Proofs.Try
open Go Go.VM Go.RowKit

/-! Draws -/
abbrev Src := List Int × Int
def okS (s : Src) (b : Int) : Prop := okB s.1 = true ∧ s.1.length ≤ 2000000 ∧ 0 ≤ s.2 ∧ s.2 ≤ b
instance (s : Src) (b : Int) : Decidable (okS s b) := by unfold okS; infer_instance
theorem okS.up {s : Src} {b c : Int} (h : okS s b) (hc : b ≤ c) : okS s c := ⟨h.1, h.2.1, h.2.2.1, Int.le_trans h.2.2.2 hc⟩
theorem okS.add {s : Src} {b : Int} (h : okS s b) {k : Int} (hk : 0 ≤ k) : okS (s.1, s.2 + k) (b + k) := by
  obtain ⟨h1, h2, h3, h4⟩ := h
  exact ⟨h1, h2, by simp only; omega, by simp only; omega⟩

def m39 (c : List Int) : Option (List Int × Int) := some (c, 0)
theorem sat39 : SatN prog cxT 39 (c39 m39).F := s39 m39 fun x t h => by
  cases h
  exact ⟨0, rfl⟩

def m43 (x : Src × Int) : Option (Int × List Int × Int) := if okS x.1 1000000000 then g43 0 x.1.1 x.1.2 x.2 else none
theorem sat43 : SatP prog cxT 43 (c43 m43).nres (c43 m43).F := s43 m43 fun x t h => by
  unfold m43 at h
  split at h
  · exact ⟨0, h⟩
  · cases h
theorem tmod_range (a : Int) {n : Int} (ha : 0 ≤ a) (hn : 1 ≤ n) : 0 ≤ a.tmod n ∧ a.tmod n < n := by
  rw [Int.tmod_eq_emod_of_nonneg ha]
  exact ⟨Int.emod_nonneg a (by omega), Int.emod_lt_of_pos a (by omega)⟩
theorem nx {s : Src} {b : Int} (h : okS s b) (hb : b ≤ 1000000000) (n : Int) : ∃ v, m43 (s, n) = some (v, s.1, s.2 + 1) ∧ (n < 1 → v = 0) ∧ (1 ≤ n → 0 ≤ v ∧ v < n) := by
  have hs := h.up hb
  obtain ⟨h1, h2, h3, h4⟩ := hs
  obtain ⟨c, at'⟩ := s
  simp only at h1 h2 h3 h4
  have e0 : m43 ((c, at'), n) = g43 0 c at' n := if_pos ⟨h1, h2, h3, h4⟩
  rw [e0]
  unfold g43
  have w1 : IntKind.wrap .i64 (at' + 1) = at' + 1 := wi (by omega) (by omega)
  have w2 : IntKind.wrap .i64 (at' + 1 - 1) = at' := by rw [Int.add_sub_cancel]; exact wi (by omega) (by omega)
  by_cases hn : n < 1
  · rw [dt hn, cond_true, w1]
    exact ⟨0, rfl, fun _ => rfl, fun h => by omega⟩
  · rw [df hn, cond_false]
    have hn0 : (n == 0) = false := by simp; omega
    by_cases hl : c.length = 0
    · have e1 : ((Nat.cast c.length : Int) == 0) = true := by simp [hl]
      simp only [e1, hn0, cond_true, cond_false, w1, w2]
      refine ⟨_, rfl, fun h => by omega, fun h => tmod_range _ ?_ h⟩
      rw [wi (by omega) (by omega)]
      omega
    · have e1 : ((Nat.cast c.length : Int) == 0) = false := by simp; intro h; simp [h] at hl
      have hk : (1 : Int) ≤ (c.length : Int) := by omega
      have r1 := tmod_range at' h3 hk
      have r2 := tmod_range (at' + 1) (by omega) hk
      have hq : 0 ≤ at'.tdiv (c.length : Int) ∧ at'.tdiv (c.length : Int) ≤ at' := by
        rw [Int.tdiv_eq_ediv_of_nonneg h3]
        exact ⟨Int.ediv_nonneg h3 (by omega), Int.ediv_le_self _ h3⟩
      have wq : IntKind.wrap .i64 (at'.tdiv (c.length : Int)) = at'.tdiv (c.length : Int) := wi (by omega) (by omega)
      have g1 := okB_get h1 (i := (at'.tmod (c.length : Int)).toNat) (by omega)
      have g2 := okB_get h1 (i := ((at' + 1).tmod (c.length : Int)).toNat) (by omega)
      have w3 : IntKind.wrap .i64 (at' + 1) = at' + 1 := w1
      simp only [e1, hn0, cond_false, w1, w2, dt r1.1, dt r1.2, dt r2.1, dt r2.2, Bool.and_self, cond_true, wq]
      generalize c.getD (at'.tmod (c.length : Int)).toNat 0 = x at g1 ⊢
      generalize c.getD ((at' + 1).tmod (c.length : Int)).toNat 0 = y at g2 ⊢
      generalize at'.tdiv (c.length : Int) = q at hq ⊢
      by_cases hb2 : n > 200
      · rw [dt hb2, cond_true]
        refine ⟨_, rfl, fun h => by omega, fun h => tmod_range _ ?_ h⟩
        simp (disch := omega) only [wi]
        omega
      · rw [df hb2, cond_false]
        refine ⟨_, rfl, fun h => by omega, fun h => tmod_range _ ?_ h⟩
        simp (disch := omega) only [wi]
        omega

def m40 (x : Src × List Int) : Option (Int × List Int × Int) := if okS x.1 1000000000 ∧ 1 ≤ x.2.length ∧ x.2.length ≤ 1000 then g40 m43 0 x.1.1 x.1.2 x.2 else none
theorem sat40 : SatP prog cxT 40 (c40 m40).nres (c40 m40).F := s40 m43 sat43 m40 fun x t h => by
  unfold m40 at h
  split at h
  · exact ⟨0, h⟩
  · cases h
theorem pick {s : Src} {b : Int} (h : okS s b) (hb : b ≤ 1000000000) (l : List Int) (h1 : 1 ≤ l.length) (h2 : l.length ≤ 1000) : ∃ v ∈ l, m40 (s, l) = some (v, s.1, s.2 + 1) := by
  obtain ⟨v, e, _, hv⟩ := nx h hb (l.length : Int)
  have hv := hv (by omega)
  have e0 : m40 (s, l) = g40 m43 0 s.1 s.2 l := if_pos ⟨h.up hb, h1, h2⟩
  refine ⟨l.getD v.toNat 0, ?_, ?_⟩
  · have : v.toNat < l.length := by omega
    simp only [List.getD, List.getElem?_eq_getElem this, Option.getD_some]
    exact List.getElem_mem this
  · rw [e0]
    unfold g40
    rw [e, tst_some, dt hv.1, dt hv.2]
    rfl

def m49 (x : Src × Int) : Option (List Int × List Int × Int) := if okS x.1 900000000 ∧ x.2 ≤ 1000 then g49 m43 m40 1001 x.1.1 x.1.2 x.2 else none
theorem sat49 : SatP prog cxT 49 (c49 m49).nres (c49 m49).F := s49 m43 m40 sat43 sat40 m49 fun x t h => by
  unfold m49 at h
  split at h
  · exact ⟨_, h⟩
  · cases h
theorem some_loop (c : List Int) (a0 n0 : Int) (k : List Int → Int → List Int → Option (List Int × List Int × Int)) : ∀ (f : Nat) (at' n : Int) (o : List Int), okS (c, at') (900000000 + 3 * (1000 - n)) → n ≤ 1000 → (n < f ∧ 0 < f) → okB o = true → (o.length : Int) ≤ 1000 - n →
    ∃ at2 o2, l49_0 m43 m40 1001 c a0 n0 f c at' n o k = k c at2 o2 ∧ okB o2 = true ∧ (0 ≤ n → (o2.length : Int) = o.length + n) ∧ (n < 0 → o2 = o) ∧ at' ≤ at2 ∧ at2 ≤ at' + 3 * max n 0
  | 0, at', n, o, hs, hn, hf, ho, hl => by omega
  | f + 1, at', n, o, hs, hn, hf, ho, hl => by
    by_cases hz : n > 0
    · obtain ⟨v1, e1, _, r1⟩ := nx hs (by omega) 256
      have s1 := hs.add (k := 1) (by omega)
      obtain ⟨v2, e2, _, r2⟩ := nx s1 (by omega) 256
      have s2 := s1.add (k := 1) (by omega)
      obtain ⟨v3, m3, e3⟩ := pick s2 (by omega) [v1, v2, 0, 255] (by simp) (by simp)
      have s3 := s2.add (k := 1) (by omega)
      simp only at e1 e2 e3 s1 s2 s3
      have hv : 0 ≤ v3 ∧ v3 ≤ 255 := by
        have := r1 (by omega)
        have := r2 (by omega)
        simp only [List.mem_cons, List.not_mem_nil, or_false] at m3
        omega
      obtain ⟨at2, o2, q1, q2, q3, q4, q5, q6⟩ := some_loop c a0 n0 k f (at' + 1 + 1 + 1) (n - 1) (o ++ [v3]) (s3.up (by omega)) (by omega) (by omega) (by
        unfold okB at ho ⊢
        rw [List.all_append, ho]
        simp [hv]) (by simp; omega)
      refine ⟨at2, o2, ?_, q2, fun h => by have := q3 (by omega); simp at this; omega, fun h => by omega, by omega, by omega⟩
      rw [l49_0, dt hz, cond_true, e1, tst_some, e2, tst_some, e3, tst_some]
      simp only [wb hv.1 hv.2, wi (show (-9223372036854775808 : Int) ≤ n - 1 by omega) (by omega)]
      rw [dt (by simp; omega), cond_true]
      exact q1
    · refine ⟨at', o, ?_, ho, fun h => by omega, fun _ => rfl, by omega, by omega⟩
      rw [l49_0, df hz, cond_false]
theorem some49 {s : Src} {b : Int} (h : okS s b) (hb : b ≤ 900000000) (n : Int) (hn : n ≤ 1000) : ∃ at2 o, m49 (s, n) = some (o, s.1, at2) ∧ okB o = true ∧ (0 ≤ n → (o.length : Int) = n) ∧ (n < 0 → o = []) ∧ s.2 ≤ at2 ∧ at2 ≤ s.2 + 3000 := by
  have e0 : m49 (s, n) = g49 m43 m40 1001 s.1 s.2 n := if_pos ⟨h.up hb, hn⟩
  obtain ⟨at2, o2, q1, q2, q3, q4, q5, q6⟩ := some_loop s.1 s.2 n (fun w0 w1 w5 => some (w5, w0, w1)) 1001 s.2 n [] (h.up (by omega)) hn (by omega) rfl (by simp; omega)
  refine ⟨at2, o2, ?_, q2, fun h => by have := q3 h; simpa using this, q4, q5, by omega⟩
  rw [e0]
  exact q1

def okC (c : List Int) : Prop := okB c = true ∧ c.length ≤ 1048576
instance (c : List Int) : Decidable (okC c) := by unfold okC; infer_instance
theorem okC.src {c : List Int} (h : okC c) : okS (c, 0) 0 := ⟨h.1, Nat.le_trans h.2 (by decide), Int.le_refl _, Int.le_refl _⟩
def m12 (c : List Int) : Option Bool := some (decide ((c.length : Int) > 1048576))
theorem sat12 : Sat prog cxT 12 (c12 m12) := s12 m12 fun x t h => by
  cases h
  exact ⟨0, rfl⟩
end Go.Proofs.Try
