/- A part of the proof of FnFrames: L1Pf. -/
import Derived.Test.YtggncacoajjjhaaL1Pe
set_option maxHeartbeats 0
set_option linter.unusedVariables false
set_option linter.unusedSimpArgs false
namespace Go.Proofs.Try
open Go Go.VM Go.RowKit

theorem okB_app {a b : List Int} (h1 : okB a = true) (h2 : okB b = true) : okB (a ++ b) = true := by
  unfold okB at *
  rw [List.all_append, h1, h2]
  rfl
theorem bs {α : Type} [BEq α] [LawfulBEq α] (a : α) : (a == a) = true := by simp

/-! FnNumbers -/
theorem iv_in {x : Int} (h1 : -9223372036854775808 ≤ x) (h2 : x ≤ 9223372036854775807) : iv x = true := by unfold iv; rw [dt h1, dt h2]; rfl
theorem wrap_iv (x : Int) : iv (IntKind.wrap .i64 x) = true := by
  refine iv_in ?_ ?_ <;> (unfold IntKind.wrap; simp [IntKind.bits, IntKind.signed]; omega)
def m13 (c : List Int) : Option (Int × Int) := if okC c then g13 m39 m40 m42 m41 m43 0 c else none
theorem sat13 : Sat prog cxT 13 (c13 m13) := s13 m39 m40 m42 m41 m43 sat39 sat40 sat42 sat41 sat43 m13 fun x t h => by
  unfold m13 at h
  split at h
  · exact ⟨0, h⟩
  · cases h
theorem drawNum {c : List Int} (h : okC c) : ∃ n z, m13 c = some (n, z) ∧ iv n = true ∧ iv z = true := by
  have e0 : m13 c = g13 m39 m40 m42 m41 m43 0 c := if_pos h
  rw [e0]
  have s0 := h.src
  obtain ⟨z, mz, e1⟩ := pick s0 (by omega) [1, 2, 4, 6, 2, 0, 7] (by simp) (by simp)
  have s1 := s0.add (k := 1) (by omega)
  have hz : 0 ≤ z ∧ z ≤ 7 := by
    simp only [List.mem_cons, List.not_mem_nil, or_false] at mz
    omega
  obtain ⟨v, e2, _, r2⟩ := nx s1 (by omega) 200
  have s2 := s1.add (k := 1) (by omega)
  obtain ⟨u, e3, _, r3⟩ := nx s2 (by omega) 60000
  have s3 := s2.add (k := 1) (by omega)
  have r2 := r2 (by omega)
  have r3 := r3 (by omega)
  simp only at e1 e2 e3 s1 s2 s3
  have e4 : m42 (6, z) = some (if 6 < z then 6 else z) := rfl
  obtain ⟨y, hy, hy1, hy2⟩ : ∃ y, m42 (6, z) = some y ∧ y ≤ 6 ∧ 0 ≤ y := ⟨_, e4, by split <;> omega, by split <;> omega⟩
  have e5 : m41 (1, y) = some (if 1 > y then 1 else y) := rfl
  obtain ⟨x, hx, hx1, hx2⟩ : ∃ x, m41 (1, y) = some x ∧ 1 ≤ x ∧ x ≤ 6 := ⟨_, e5, by split <;> omega, by split <;> omega⟩
  obtain ⟨n, mn, e6⟩ := pick s3 (by omega) [v, u, IntKind.wrap .i64 (IntKind.wrap .i64 (1 * 2 ^ min (IntKind.wrap .u64 (IntKind.wrap .i64 (8 * x))).toNat (IntKind.bits .i64)) - 1), IntKind.wrap .i64 (1 * 2 ^ min (IntKind.wrap .u64 (IntKind.wrap .i64 (8 * x))).toNat (IntKind.bits .i64)), 0, -1, 4611686018427387904] (by simp) (by simp)
  simp only at e6
  refine ⟨n, z, ?_, ?_, iv_in (by omega) (by omega)⟩
  · unfold g13
    rw [show m39 c = some (c, 0) from rfl, tst_some]
    simp only
    rw [e1, tst_some]
    simp only
    rw [hy, tst_some, hx, tst_some]
    have hw : ¬ IntKind.wrap .u64 (IntKind.wrap .i64 (8 * x)) < 0 := by
      rw [wi (by omega) (by omega), wu (by omega) (by omega)]; omega
    rw [df hw, cond_false, e2, tst_some]
    simp only
    rw [e3, tst_some]
    simp only
    rw [e6, tst_some]
  · simp only [List.mem_cons, List.not_mem_nil, or_false] at mn
    rcases mn with rfl | rfl | rfl | rfl | rfl | rfl | rfl
    · exact iv_in (by omega) (by omega)
    · exact iv_in (by omega) (by omega)
    · exact wrap_iv _
    · exact wrap_iv _
    · rfl
    · rfl
    · rfl
theorem numB_ok (n : Int) (z : Nat) : okB (numB n z) = true := by
  unfold okB numB
  rw [List.all_eq_true]
  intro x hx
  obtain ⟨i, _, rfl⟩ := List.mem_map.1 hx
  rw [wbm]
  simp
  omega
theorem num_numB {n z : Int} (h : 1 ≤ z ∧ z ≤ 6 ∧ 0 ≤ n ∧ n ≤ 256 ^ z.toNat - 1) : num (numB n z.toNat) 0 = n := by
  obtain ⟨h1, h2, h3, h4⟩ := h
  rcases six ⟨h1, h2⟩ with h | h | h | h | h | h <;> subst h <;>
    simp [numB, List.range, List.range.loop, num, wbm, Int.fdiv_eq_ediv_of_nonneg] at h4 ⊢ <;> omega
def m3 (c : List Int) : Option Bool := if okB c = true then some true else none
theorem sat3 : Sat prog cxT 3 (c3 m3) := s3 m12 m13 mPut mPut m16 sat12 sat13 sat14 sat15 sat16 m3 fun x t h => by
  unfold m3 at h
  split at h
  · rename_i hc
    cases h
    refine ⟨0, ?_⟩
    unfold g3
    rw [show m12 x = some (decide ((x.length : Int) > 1048576)) from rfl, tst_some]
    by_cases hb : (x.length : Int) > 1048576
    · rw [dt hb]; rfl
    · rw [df hb, cond_false]
      obtain ⟨n, z, e13, hn, hz⟩ := drawNum (c := x) ⟨hc, by omega⟩
      rw [e13, tst_some]
      simp only
      have e1 : mPut (n, z) = some (putN n z) := if_pos ⟨hn, hz⟩
      rw [e1, tst_some]
      by_cases hk : 1 ≤ z ∧ z ≤ 6 ∧ 0 ≤ n ∧ n ≤ 256 ^ z.toNat - 1
      · rw [putN_in hk]
        simp only
        have hl : (numB n z.toNat).length = z.toNat := numB_len n _
        rw [bneF rfl, cond_false, dt (by simp [hl]; omega), cond_true]
        have ht : takeN ([9] ++ numB n z.toNat) 1 z = (0, n) := by
          rw [takeN_in ⟨hk.1, hk.2.1, by omega, by simp [hl]; omega⟩]
          have : (List.drop (Int.toNat 1) ([9] ++ numB n z.toNat)).take z.toNat = numB n z.toNat := by
            show (numB n z.toNat).take z.toNat = _
            exact List.take_of_length_le (by rw [hl]; exact Nat.le_refl _)
          rw [this, num_numB hk]
        have e16 : m16 ([9] ++ numB n z.toNat, 1, z) = some (0, n) := by
          refine (if_pos ⟨okB_app rfl (numB_ok n _), ?_, hz⟩).trans (by rw [ht])
          simp [hl]; omega
        rw [e16, tst_some]
        simp only
        rw [show ((Nat.cast (numB n z.toNat).length : Int) == z) = true by rw [hl]; simp; omega]
        simp
      · rw [putN_out hk]
        simp
        rw [tst_some]
        rfl
  · cases h

/-! FnSums -/
theorem sw_app : ∀ (a b : List Int) (h : Int), a.length % 2 = 0 → sw (a ++ b) h = sw b (sw a h)
  | [], b, h, _ => by cases b with
    | nil => rfl
    | cons x r => rfl
  | [x], b, h, hl => by simp at hl
  | x :: y :: r, b, h, hl => by
    show sw (r ++ b) _ = sw b (sw r _)
    exact sw_app r b _ (by simp at hl; omega)
def m17 (c : List Int) : Option (List Int) := if okC c then g17 m39 m43 m49 0 c else none
theorem sat17 : Sat prog cxT 17 (c17 m17) := s17 m39 m43 m49 sat39 sat43 sat49 m17 fun x t h => by
  unfold m17 at h
  split at h
  · exact ⟨0, h⟩
  · cases h
theorem drawSum {c : List Int} (h : okC c) : ∃ d, m17 c = some d ∧ okB d = true ∧ d.length ≤ 30 := by
  have e0 : m17 c = g17 m39 m43 m49 0 c := if_pos h
  rw [e0]
  have s0 := h.src
  obtain ⟨v, e2, _, r2⟩ := nx s0 (by omega) 30
  have s1 := s0.add (k := 1) (by omega)
  have r2 := r2 (by omega)
  obtain ⟨at2, o, e3, k1, k2, _⟩ := some49 s1 (by omega) v (by omega)
  simp only at e2 e3
  refine ⟨o, ?_, k1, by have := k2 r2.1; omega⟩
  unfold g17
  rw [show m39 c = some (c, 0) from rfl, tst_some]
  simp only
  rw [e2, tst_some]
  simp only
  rw [e3, tst_some]
theorem sumW_in {d : List Int} (h : okB d = true) : 0 ≤ sumW d ∧ sumW d ≤ 65535 := by
  have := sw_bound d 0 h (by omega) (by omega)
  unfold sumW
  omega
theorem whole {d : List Int} (h : okB d = true) (he : d.length % 2 = 0) : sw (d ++ [sumW d / 256, sumW d % 256]) 0 = 65535 := by
  rw [sw_app _ _ _ he]
  show nrm _ = _
  have hb := sumW_in h
  have : sw d 0 = 65535 - sumW d := by unfold sumW; omega
  rw [this]
  unfold nrm
  split <;> omega
theorem turned {d : List Int} (h : okB d = true) (he : d.length % 2 = 0) : sw (d ++ [sumW d / 256, sumW d % 256] ++ [0, 1]) 0 = 1 := by
  rw [sw_app _ _ _ (by simp; omega), whole h he]
  rfl
theorem m18_at {d : List Int} (h : okB d = true) (hl : d.length ≤ 100) : m18 d = some (sumW d) := if_pos ⟨h, by omega⟩
theorem m20_at {d : List Int} (h : okB d = true) (hl : d.length ≤ 100) : m20 d = some (sumW d) := if_pos ⟨h, by omega⟩
theorem m19_at {d : List Int} (h : okB d = true) (hl : d.length ≤ 100) : m19 d = some (sumW d == 0) := if_pos ⟨h, by omega⟩
theorem tail4 {d : List Int} (h : okB d = true) (he : d.length % 2 = 0) (hl : d.length ≤ 40) :
  (tst (m18 d) (0 : Int) fun (q3 : Int) => bif (decide (q3 < (0 : Int))) then some Bool.false
        else bif (decide (q3 > (65535 : Int))) then some Bool.false
        else bif (decide (((List.length ([] : List (Int))) + (List.length d)) ≤ (1000000000 : Nat))) then bif (decide (((List.length (([] : List (Int)) ++ d)) + (List.length (List.cons (Go.IntKind.wrap Go.IntKind.u8 (Go.IntKind.wrap Go.IntKind.i64 (Int.tdiv q3 (256 : Int)))) (List.cons (Go.IntKind.wrap Go.IntKind.u8 (Int.tmod q3 (256 : Int))) ([] : List (Int)))))) ≤ (1000000000 : Nat))) then tst (m19 ((([] : List (Int)) ++ d) ++ (List.cons (Go.IntKind.wrap Go.IntKind.u8 (Go.IntKind.wrap Go.IntKind.i64 (Int.tdiv q3 (256 : Int)))) (List.cons (Go.IntKind.wrap Go.IntKind.u8 (Int.tmod q3 (256 : Int))) ([] : List (Int)))))) false fun (q6 : Bool) => bif q6 then bif (decide (((List.length ([] : List (Int))) + (List.length ((([] : List (Int)) ++ d) ++ (List.cons (Go.IntKind.wrap Go.IntKind.u8 (Go.IntKind.wrap Go.IntKind.i64 (Int.tdiv q3 (256 : Int)))) (List.cons (Go.IntKind.wrap Go.IntKind.u8 (Int.tmod q3 (256 : Int))) ([] : List (Int))))))) ≤ (1000000000 : Nat))) then bif (decide (((List.length (([] : List (Int)) ++ ((([] : List (Int)) ++ d) ++ (List.cons (Go.IntKind.wrap Go.IntKind.u8 (Go.IntKind.wrap Go.IntKind.i64 (Int.tdiv q3 (256 : Int)))) (List.cons (Go.IntKind.wrap Go.IntKind.u8 (Int.tmod q3 (256 : Int))) ([] : List (Int))))))) + (List.length (List.cons (0 : Int) (List.cons (1 : Int) ([] : List (Int)))))) ≤ (1000000000 : Nat))) then tst (m19 ((([] : List (Int)) ++ ((([] : List (Int)) ++ d) ++ (List.cons (Go.IntKind.wrap Go.IntKind.u8 (Go.IntKind.wrap Go.IntKind.i64 (Int.tdiv q3 (256 : Int)))) (List.cons (Go.IntKind.wrap Go.IntKind.u8 (Int.tmod q3 (256 : Int))) ([] : List (Int)))))) ++ (List.cons (0 : Int) (List.cons (1 : Int) ([] : List (Int)))))) false fun (q10 : Bool) => bif (!q10) then tst (m20 d) (0 : Int) fun (q12 : Int) => some (q3 == q12)
                      else some Bool.false
                  else none
                else none
              else some Bool.false
          else none
        else none) = some true := by
  have hb := sumW_in h
  rw [m18_at h (by omega), tst_some, df (by omega), df (by omega), cond_false, cond_false]
  have w1 : IntKind.wrap .u8 (IntKind.wrap .i64 ((sumW d).tdiv 256)) = sumW d / 256 := by
    rw [Int.tdiv_eq_ediv_of_nonneg hb.1, wi (by omega) (by omega), wb (by omega) (by omega)]
  have w2 : IntKind.wrap .u8 ((sumW d).tmod 256) = sumW d % 256 := by
    rw [Int.tmod_eq_emod_of_nonneg hb.1, wb (by omega) (by omega)]
  have k1 : okB (d ++ [sumW d / 256, sumW d % 256]) = true := okB_app h (by unfold okB; simp; omega)
  have k2 : okB (d ++ [sumW d / 256, sumW d % 256] ++ [0, 1]) = true := okB_app k1 rfl
  have e1 : m19 (d ++ [sumW d / 256, sumW d % 256]) = some true := by
    rw [m19_at k1 (by simp; omega)]
    have := whole h he
    unfold sumW at this ⊢
    rw [this]; rfl
  have e2 : m19 (d ++ [sumW d / 256, sumW d % 256] ++ [0, 1]) = some false := by
    rw [m19_at k2 (by simp; omega)]
    have := turned h he
    unfold sumW at this ⊢
    rw [this]; rfl
  simp only [w1, w2, List.nil_append]
  rw [dt (by simp; omega), cond_true, dt (by simp; omega), cond_true, e1, tst_some, cond_true, dt (by simp; omega), cond_true, dt (by simp; omega), cond_true, e2, tst_some]
  simp only [Bool.not_false, cond_true]
  rw [m20_at h (by omega), tst_some, bs]
theorem sat4 : Sat prog cxT 4 (c4 m3) := s4 m12 m17 m18 m19 m20 sat12 sat17 sat18 sat19 sat20 m3 fun x t h => by
  unfold m3 at h
  split at h
  · rename_i hc
    cases h
    refine ⟨0, ?_⟩
    unfold g4
    rw [show m12 x = some (decide ((x.length : Int) > 1048576)) from rfl, tst_some]
    by_cases hb : (x.length : Int) > 1048576
    · rw [dt hb]; rfl
    · rw [df hb, cond_false]
      obtain ⟨d, e17, hd, hl⟩ := drawSum (c := x) ⟨hc, by omega⟩
      rw [e17, tst_some]
      have ht : (Nat.cast d.length : Int).tmod 2 = ((d.length % 2 : Nat) : Int) := by
        rw [Int.tmod_eq_emod_of_nonneg (by omega)]; omega
      rw [ht]
      by_cases he : d.length % 2 = 0
      · rw [show (((d.length % 2 : Nat) : Int) == 1) = false by rw [he]; rfl, cond_false]
        exact tail4 hd he (by omega)
      · have he : d.length % 2 = 1 := by omega
        rw [show (((d.length % 2 : Nat) : Int) == 1) = true by rw [he]; rfl, cond_true, dt (by simp; omega), cond_true]
        exact tail4 (okB_app hd rfl) (by simp; omega) (by simp; omega)
  · cases h
end Go.Proofs.Try
