/- A part of the proof of FnLooks: L4Pa, L4Pb, L4Pc, L4Pd, L4Pe. -/
import Derived.Test.YtmdmeakelebfcaaVmOpen
import Derived.Test.YtmdmeakelebfcaaVmJ
import Derived.Test.YtmdmeakelebfcaaL4Fa
set_option maxHeartbeats 0
set_option linter.unusedVariables false
set_option linter.unusedSimpArgs false
namespace Go.Proofs.Try
open Go Go.VM Go.RowKit

/-! Rows of numbers -/
def m33 (a : List Int) : Option (List Int) := if a.length ≤ 1000000000 then some a else none
theorem p33 (L : Nat) (a : List Int) (ha : a.length ≤ 1000000000) (k : List Int → Option (List Int)) : ∀ (n i : Nat) (o : List Int), o.length = a.length → i ≤ a.length → a.length < n + i → o.take i = a.take i → l33_0 L a n o i k = k a
  | 0, i, o, _, h2, h3, _ => by omega
  | n + 1, i, o, h1, h2, h3, h4 => by
    unfold l33_0
    by_cases hi : i < a.length
    · simp (disch := omega) only [dt, df, wi, cond_true, Bool.and_self, Int.toNat_natCast]
      have := p33 L a ha k n (i + 1) (o.set i (a.getD i 0)) (by rw [List.length_set]; exact h1) (by omega) (by omega) (by
        rw [List.take_add_one, List.take_add_one, List.take_set_of_le (Nat.le_refl _), h4]
        congr 1
        rw [List.getElem?_set_self (by omega), List.getElem?_eq_getElem hi]
        simp [List.getD, List.getElem?_eq_getElem hi])
      simpa using this
    · simp (disch := omega) only [dt, df, cond_false]
      have hil : i = a.length := by omega
      rw [hil, List.take_length, ← h1, List.take_length] at h4
      rw [h4]
theorem sat33 : Sat prog cxT 33 (c33 m33) := s33 m33 fun x t h => by
  unfold m33 at h
  split at h
  · rename_i ha
    cases h
    refine ⟨x.length + 1, ?_⟩
    unfold g33
    simp (disch := omega) only [dt, cond_true, Bool.and_self, Int.toNat_natCast]
    exact p33 _ x ha _ _ 0 _ (by simp) (by omega) (by omega) rfl
  · cases h
def m34 (x : List Int × List Int) : Option Bool := if x.1.length ≤ 1000000000000 ∧ x.2.length ≤ 1000000000000 then some (decide (x.1 = x.2)) else none
theorem p34 (L : Nat) (a b : List Int) (hl : a.length = b.length) (ha : a.length ≤ 1000000000000) (k : Option Bool) : ∀ (n i : Nat), i ≤ a.length → a.length < n + i →
    l34_0 L a b n i k = if a.drop i = b.drop i then k else some false
  | 0, i, h2, h3 => by omega
  | n + 1, i, h2, h3 => by
    unfold l34_0
    by_cases hi : i < a.length
    · simp (disch := omega) only [dt, df, wi, cond_true, Bool.and_self, Int.toNat_natCast]
      rw [drop_cons 0 hi, drop_cons 0 (show i < b.length by omega)]
      have := p34 L a b hl ha k n (i + 1) (by omega) (by omega)
      simp only [Int.natCast_add, Int.cast_ofNat_Int] at this
      rw [this]
      by_cases hx : a.getD i 0 = b.getD i 0
      · rw [hx]; simp
      · have h2 : (a.getD i 0 != b.getD i 0) = true := by simpa using hx
        rw [h2, if_neg (fun h => hx (List.cons.inj h).1)]
        rfl
    · simp (disch := omega) only [df, cond_false]
      rw [List.drop_eq_nil_of_le (by omega), List.drop_eq_nil_of_le (by omega)]
      simp
theorem sat34 : Sat prog cxT 34 (c34 m34) := s34 m34 fun x t h => by
  unfold m34 at h
  split at h
  · rename_i ha
    cases h
    refine ⟨x.1.length + 1, ?_⟩
    unfold g34
    by_cases hl : x.1.length = x.2.length
    · have e1 : ((Nat.cast x.1.length : Int) != (Nat.cast x.2.length : Int)) = false := by simp [hl]
      have := p34 (x.1.length + 1) x.1 x.2 hl ha.1 (some true) (x.1.length + 1) 0 (by omega) (by omega)
      rw [e1]
      simp only [cond_false]
      refine this.trans ?_
      simp only [List.drop_zero]
      split <;> simp [*]
    · have e1 : ((Nat.cast x.1.length : Int) != (Nat.cast x.2.length : Int)) = true := by simp; omega
      rw [e1]
      have : x.1 ≠ x.2 := fun h => hl (by rw [h])
      simp [this]
  · cases h
theorem m34_self {a : List Int} (h : a.length ≤ 1000000000000) : m34 (a, a) = some true := (if_pos ⟨h, h⟩).trans (by simp)

/-! CountOf -/
def cnt (a : List Int) (x : Int) : Nat := a.count x
theorem cnt_cons (y : Int) (a : List Int) (x : Int) : cnt (y :: a) x = cnt a x + (if y = x then 1 else 0) := by
  unfold cnt; rw [List.count_cons]; simp
theorem cnt_le (a : List Int) (x : Int) : cnt a x ≤ a.length := List.count_le_length
def mCnt (x : List Int × Int) : Option Int := if x.1.length ≤ 1000000000000 then some (cnt x.1 x.2 : Int) else none
theorem p17 (L : Nat) (a : List Int) (x : Int) (ha : a.length ≤ 1000000000000) (k : Int → Option Int) : ∀ (n i c : Nat), c ≤ i → i ≤ a.length → a.length < n + i →
    l17_0 L a x n (c : Int) (i : Int) k = k ((c + cnt (a.drop i) x : Nat) : Int)
  | 0, i, c, _, h2, h3 => by omega
  | n + 1, i, c, h1, h2, h3 => by
    unfold l17_0
    by_cases hi : i < a.length
    · simp (disch := omega) only [dt, df, wi, cond_true, Bool.and_self, Int.toNat_natCast]
      rw [drop_cons 0 hi, cnt_cons]
      have e1 : (c : Int) + 1 = ((c + 1 : Nat) : Int) := rfl
      have e2 : (i : Int) + 1 = ((i + 1 : Nat) : Int) := rfl
      rw [e1, e2]
      by_cases hx : a.getD i 0 = x
      · rw [beq_iff_eq.2 hx, cond_true, p17 L a x ha k n (i + 1) (c + 1) (by omega) (by omega) (by omega), if_pos hx]
        congr 2; omega
      · rw [beq_eq_false_iff_ne.2 hx, cond_false, p17 L a x ha k n (i + 1) c (by omega) (by omega) (by omega), if_neg hx]
        rfl
    · simp (disch := omega) only [df, cond_false]
      rw [List.drop_eq_nil_of_le (by omega)]
      rfl
theorem sat17 : Sat prog cxT 17 (c17 mCnt) := s17 mCnt fun x t h => by
  unfold mCnt at h
  split at h
  · rename_i ha
    cases h
    refine ⟨x.1.length + 1, ?_⟩
    unfold g17
    have := p17 (x.1.length + 1) x.1 x.2 ha (fun w => some w) (x.1.length + 1) 0 0 (Nat.le_refl _) (by omega) (by omega)
    simpa using this
  · cases h
theorem p32 (L : Nat) (a : List Int) (x : Int) (ha : a.length ≤ 1000000000000) (k : Int → Option Int) : ∀ (n i c : Nat), c ≤ i → i ≤ a.length → a.length < n + i →
    l32_0 L a x n (c : Int) (i : Int) k = k ((c + cnt (a.drop i) x : Nat) : Int)
  | 0, i, c, _, h2, h3 => by omega
  | n + 1, i, c, h1, h2, h3 => by
    unfold l32_0
    by_cases hi : i < a.length
    · simp (disch := omega) only [dt, df, wi, cond_true, Bool.and_self, Int.toNat_natCast]
      rw [drop_cons 0 hi, cnt_cons]
      have e1 : (c : Int) + 1 = ((c + 1 : Nat) : Int) := rfl
      have e2 : (i : Int) + 1 = ((i + 1 : Nat) : Int) := rfl
      rw [e1, e2]
      by_cases hx : a.getD i 0 = x
      · rw [beq_iff_eq.2 hx, cond_true, p32 L a x ha k n (i + 1) (c + 1) (by omega) (by omega) (by omega), if_pos hx]
        congr 2; omega
      · rw [beq_eq_false_iff_ne.2 hx, cond_false, p32 L a x ha k n (i + 1) c (by omega) (by omega) (by omega), if_neg hx]
        rfl
    · simp (disch := omega) only [df, cond_false]
      rw [List.drop_eq_nil_of_le (by omega)]
      rfl
theorem sat32 : Sat prog cxT 32 (c32 mCnt) := s32 mCnt fun x t h => by
  unfold mCnt at h
  split at h
  · rename_i ha
    cases h
    refine ⟨x.1.length + 1, ?_⟩
    unfold g32
    have := p32 (x.1.length + 1) x.1 x.2 ha (fun w => some w) (x.1.length + 1) 0 0 (Nat.le_refl _) (by omega) (by omega)
    simpa using this
  · cases h

/-! FnExactCountOf -/
def m7 (x : List Int × Int) : Option Bool := some true
theorem sat7 : Sat prog cxT 7 (c7 m7) := s7 m33 mCnt mCnt m34 sat33 sat32 sat17 sat34 m7 fun x t h => by
  obtain ⟨a, y⟩ := x
  · cases h
    refine ⟨0, ?_⟩
    show g7 m33 mCnt mCnt m34 0 a y = some true
    unfold g7
    by_cases hl : a.length > 1048576
    · rw [dt (by omega)]; rfl
    · have e33 : m33 a = some a := if_pos (by omega)
      have ha : a.length ≤ 1000000000000 := by omega
      have e17 : mCnt (a, y) = some (cnt a y : Int) := if_pos ha
      rw [df (by omega)]
      simp only [cond_false, e33, e17, m34_self ha, tst_some, bneF, Bool.not_true]

/-! LookTable -/
def mLen (a : List Int) : Option Int := some (if a.length = 31 then 0 else 1)
theorem sat47 : Sat prog cxT 47 (c47 mLen) := s47 mLen fun x t h => by
  cases h
  refine ⟨0, ?_⟩
  unfold g47
  by_cases h1 : x.length = 31
  · rw [bneF (by omega), if_pos h1]; rfl
  · rw [bneT (by omega), if_neg h1]; rfl
def look (a : List Int) (h : Int) : Int × Int :=
  if a.length = 31 then (if h < 0 then (3, 0) else if a.getD (h % 31).toNat 0 = 0 then (4, 0) else (0, a.getD (h % 31).toNat 0)) else (1, 0)
def mLook (x : List Int × Int) : Option (Int × Int) := some (look x.1 x.2)
theorem sat22 : Sat prog cxT 22 (c22 mLook) := s22 mLen sat47 mLook fun x t h => by
  obtain ⟨a, y⟩ := x
  cases h
  refine ⟨0, ?_⟩
  show g22 mLen 0 a y = some (look a y)
  unfold g22 mLen look
  simp only [tst_some]
  by_cases h1 : a.length = 31
  · rw [if_pos h1, if_pos h1, bneF rfl, cond_false]
    by_cases h2 : y < 0
    · rw [dt h2, if_pos h2]; rfl
    · rw [df h2, if_neg h2, cond_false, Int.tmod_eq_emod_of_nonneg (by omega), dt (by omega), dt (by omega)]
      simp only [Bool.and_self, cond_true]
      by_cases h3 : a.getD (y % 31).toNat 0 = 0
      · rw [beq_iff_eq.2 h3, if_pos h3]; rfl
      · rw [beq_eq_false_iff_ne.2 h3, if_neg h3]; rfl
  · rw [if_neg h1, if_neg h1]; rfl
theorem sat37 : Sat prog cxT 37 (c37 mLook) := s37 mLook fun x t h => by
  obtain ⟨a, y⟩ := x
  cases h
  refine ⟨0, ?_⟩
  show g37 0 a y = some (look a y)
  unfold g37 look
  by_cases h1 : a.length = 31
  · rw [if_pos h1, bneF (by omega), cond_false]
    by_cases h2 : y < 0
    · rw [dt h2, if_pos h2]; rfl
    · rw [df h2, if_neg h2, cond_false, Int.tmod_eq_emod_of_nonneg (by omega), dt (by omega), dt (by omega)]
      simp only [Bool.and_self, cond_true]
      by_cases h3 : a.getD (y % 31).toNat 0 = 0
      · rw [beq_iff_eq.2 h3, if_pos h3]; rfl
      · rw [beq_eq_false_iff_ne.2 h3, if_neg h3]; rfl
  · rw [if_neg h1, bneT (by omega)]; rfl
def m38 (x : (Int × Int) × (Int × Int)) : Option Bool := some (decide (x.1 = x.2))
theorem sat38 : Sat prog cxT 38 (c38 m38) := s38 m38 fun x t h => by
  obtain ⟨⟨a, b⟩, c, d⟩ := x
  cases h
  refine ⟨0, ?_⟩
  show g38 0 a b c d = some (decide ((a, b) = (c, d)))
  unfold g38
  by_cases h1 : a = c
  · subst h1
    rw [bneF rfl, cond_false]
    by_cases h2 : b = d
    · subst h2
      rw [bneF rfl]; simp
    · rw [bneT h2]; simp [h2]
  · rw [bneT h1]; simp [h1]
theorem m38_self (x : Int × Int) : m38 (x, x) = some true := by unfold m38; simp
theorem sat9 : Sat prog cxT 9 (c9 m7) := s9 m33 mLook mLook m38 m34 sat33 sat37 sat22 sat38 sat34 m7 fun x t h => by
  obtain ⟨a, y⟩ := x
  · cases h
    refine ⟨0, ?_⟩
    show g9 m33 mLook mLook m38 m34 0 a y = some true
    unfold g9
    by_cases hl : a.length > 1048576
    · rw [dt (by omega)]; rfl
    · have e33 : m33 a = some a := if_pos (by omega)
      have ha : a.length ≤ 1000000000000 := by omega
      have e17 : mLook (a, y) = some (look a y) := rfl
      rw [df (by omega)]
      simp only [cond_false, e33, e17, m34_self ha, tst_some, m38_self, Bool.not_true]

/-! MovedOf -/
def mvd : List Int → List Int → Nat
  | x :: a, y :: b => mvd a b + (if x = y then 0 else 1)
  | _, _ => 0
theorem mvd_le : ∀ a b, mvd a b ≤ a.length
  | [], _ => by simp [mvd]
  | _ :: _, [] => by simp [mvd]
  | x :: a, y :: b => by
    have := mvd_le a b
    simp only [mvd, List.length_cons]
    split <;> omega
def moved (a b : List Int) : Int × Int := if a.length = 31 ∧ b.length = 31 then (0, (mvd a b : Int)) else (1, 0)
def mMoved (x : List Int × List Int) : Option (Int × Int) := some (moved x.1 x.2)
theorem p21 (L : Nat) (a b : List Int) (z1 z2 : Int) (ha : a.length = 31) (hb : b.length = 31) (k : Int → Int → Int → Option (Int × Int)) : ∀ (n i c : Nat), c ≤ i → i ≤ a.length → a.length < n + i →
    l21_0 mLen L a b n z1 z2 (c : Int) (i : Int) k = k z1 z2 ((c + mvd (a.drop i) (b.drop i) : Nat) : Int)
  | 0, i, c, _, h2, h3 => by omega
  | n + 1, i, c, h1, h2, h3 => by
    unfold l21_0
    by_cases hi : i < a.length
    · simp (disch := omega) only [dt, df, wi, cond_true, Bool.and_self, Int.toNat_natCast]
      rw [drop_cons 0 hi, drop_cons 0 (show i < b.length by omega)]
      simp only [mvd]
      have e1 : (c : Int) + 1 = ((c + 1 : Nat) : Int) := rfl
      have e2 : (i : Int) + 1 = ((i + 1 : Nat) : Int) := rfl
      rw [e1, e2]
      by_cases hx : a.getD i 0 = b.getD i 0
      · rw [bneF hx.symm, cond_false, p21 L a b z1 z2 ha hb k n (i + 1) c (by omega) (by omega) (by omega), if_pos hx]
        rfl
      · rw [bneT (fun h => hx h.symm), cond_true, p21 L a b z1 z2 ha hb k n (i + 1) (c + 1) (by omega) (by omega) (by omega), if_neg hx]
        congr 2; omega
    · simp (disch := omega) only [df, cond_false]
      rw [List.drop_eq_nil_of_le (by omega)]
      rfl
theorem sat21 : Sat prog cxT 21 (c21 mMoved) := s21 mLen sat47 mMoved fun x t h => by
  obtain ⟨a, b⟩ := x
  cases h
  refine ⟨32, ?_⟩
  show g21 mLen 32 a b = some (moved a b)
  unfold g21
  rw [show mLen a = some (if a.length = 31 then 0 else 1) from rfl, show mLen b = some (if b.length = 31 then 0 else 1) from rfl]
  simp only [tst_some]
  unfold moved
  by_cases h1 : a.length = 31
  · rw [if_pos h1, bneF rfl, cond_false]
    by_cases h2 : b.length = 31
    · rw [if_pos h2, bneF rfl, cond_false, if_pos ⟨h1, h2⟩]
      have := p21 32 a b 0 0 h1 h2 (fun _ _ w => some ((0 : Int), w)) 32 0 0 (Nat.le_refl _) (by omega) (by omega)
      simpa using this
    · rw [if_neg h2, bneT (by decide), cond_true, if_neg (fun h : a.length = 31 ∧ b.length = 31 => h2 h.2)]
  · rw [if_neg h1, bneT (by decide), cond_true, if_neg (fun h : a.length = 31 ∧ b.length = 31 => h1 h.1)]
theorem p39 (L : Nat) (a b : List Int) (z1 z2 : Int) (ha : a.length = 31) (hb : b.length = 31) (k : Int → Int → Int → Option (Int × Int)) : ∀ (n i c : Nat), c ≤ i → i ≤ a.length → a.length < n + i →
    l39_0 L a b n z1 z2 (c : Int) (i : Int) k = k z1 z2 ((c + mvd (a.drop i) (b.drop i) : Nat) : Int)
  | 0, i, c, _, h2, h3 => by omega
  | n + 1, i, c, h1, h2, h3 => by
    unfold l39_0
    by_cases hi : i < a.length
    · simp (disch := omega) only [dt, df, wi, cond_true, Bool.and_self, Int.toNat_natCast]
      rw [drop_cons 0 hi, drop_cons 0 (show i < b.length by omega)]
      simp only [mvd]
      have e1 : (c : Int) + 1 = ((c + 1 : Nat) : Int) := rfl
      have e2 : (i : Int) + 1 = ((i + 1 : Nat) : Int) := rfl
      rw [e1, e2]
      by_cases hx : a.getD i 0 = b.getD i 0
      · rw [bneF hx, cond_false, p39 L a b z1 z2 ha hb k n (i + 1) c (by omega) (by omega) (by omega), if_pos hx]
        rfl
      · rw [bneT hx, cond_true, p39 L a b z1 z2 ha hb k n (i + 1) (c + 1) (by omega) (by omega) (by omega), if_neg hx]
        congr 2; omega
    · simp (disch := omega) only [df, cond_false]
      rw [List.drop_eq_nil_of_le (by omega)]
      rfl
theorem sat39 : Sat prog cxT 39 (c39 mMoved) := s39 mMoved fun x t h => by
  obtain ⟨a, b⟩ := x
  cases h
  refine ⟨32, ?_⟩
  show g39 32 a b = some (moved a b)
  unfold g39 moved
  by_cases h1 : a.length = 31
  · rw [bneF (by omega), cond_false]
    by_cases h2 : b.length = 31
    · rw [bneF (by omega), cond_false, if_pos ⟨h1, h2⟩]
      have := p39 32 a b 0 0 h1 h2 (fun _ _ w => some ((0 : Int), w)) 32 0 0 (Nat.le_refl _) (by omega) (by omega)
      simpa using this
    · rw [bneT (by omega), if_neg (fun h => h2 h.2)]; rfl
  · rw [bneT (by omega), if_neg (fun h => h1 h.1)]; rfl
def m10 (x : List Int × List Int) : Option Bool := some true
theorem sat10 : Sat prog cxT 10 (c10 m10) := s10 m33 mMoved mMoved m38 m34 sat33 sat39 sat21 sat38 sat34 m10 fun x t h => by
  obtain ⟨a, b⟩ := x
  · cases h
    refine ⟨0, ?_⟩
    show g10 m33 mMoved mMoved m38 m34 0 a b = some true
    unfold g10
    by_cases hl : a.length > 1048576
    · rw [dt (by omega)]; rfl
    · by_cases hl2 : b.length > 1048576
      · rw [df (by omega), dt (by omega)]; rfl
      · have e33 : m33 a = some a := if_pos (by omega)
        have e33' : m33 b = some b := if_pos (by omega)
        have ha : a.length ≤ 1000000000000 := by omega
        have hb : b.length ≤ 1000000000000 := by omega
        have e17 : mMoved (a, b) = some (moved a b) := rfl
        rw [df (by omega), df (by omega)]
        simp only [cond_false, e33, e33', e17, m34_self ha, m34_self hb, tst_some, m38_self, Bool.not_true]
end Go.Proofs.Try

set_option maxHeartbeats 0
set_option linter.unusedVariables false
set_option linter.unusedSimpArgs false
namespace Go.Proofs.Try
open Go Go.VM Go.RowKit

abbrev Sh := Int × Int
def m57 (w : Int) : Option Bool := some (decide (0 ≤ w ∧ w ≤ 9))
theorem sat57 : Sat prog cxT 57 (c57 m57) := s57 m57 fun x t h => by
  cases h
  refine ⟨0, ?_⟩
  unfold g57
  by_cases h1 : 0 ≤ x <;> simp [h1]
def mName (w : Int) : Option Bool := some (decide (1 ≤ w ∧ w ≤ 999))
theorem sat56 : Sat prog cxT 56 (c56 mName) := s56 mName fun x t h => by
  cases h
  refine ⟨0, ?_⟩
  unfold g56
  by_cases h1 : 1 ≤ x <;> simp [h1]
def m54 (x : Int × Int × Int) : Option Bool := some (decide (x.2.1 ≤ x.1 ∧ x.1 ≤ x.2.2))
theorem sat54 : Sat prog cxT 54 (c54 m54) := s54 m54 fun x t h => by
  cases h
  refine ⟨0, ?_⟩
  unfold g54
  by_cases h1 : x.2.1 ≤ x.1 <;> simp [h1]
theorem sat53 : Sat prog cxT 53 (c53 mName) := s53 m54 sat54 mName fun x t h => by
  cases h
  exact ⟨0, rfl⟩
def m55 (x : Sh) : Option Sh := some x
theorem sat55 : Sat prog cxT 55 (c55 m55) := s55 m55 fun x t h => by
  cases h
  exact ⟨0, rfl⟩
theorem m55_eta (x : Sh) : m55 (x.1, x.2) = some x := rfl
def m58 (x : Sh × Sh) : Option Bool := some (decide (x.1 = x.2))
theorem sat58 : Sat prog cxT 58 (c58 m58) := s58 m58 fun x t h => by
  obtain ⟨⟨a, b⟩, c, d⟩ := x
  cases h
  refine ⟨0, ?_⟩
  show g58 0 a b c d = some (decide ((a, b) = (c, d)))
  unfold g58
  by_cases h1 : a = c
  · subst h1
    rw [bneF rfl, cond_false]
    by_cases h2 : b = d
    · subst h2
      rw [bneF rfl]; simp
    · rw [bneT h2]; simp [h2]
  · rw [bneT h1]; simp [h1]
theorem m58_eta (x y : Sh) : m58 ((x.1, x.2), (y.1, y.2)) = some (decide (x = y)) := rfl
def m23 (x : List Sh × Int) : Option Int := if x.2 = 1048576 ∧ x.1.length ≤ 9223372036854775807 then some (if x.1.length > 1048576 then -1 else 1048576 - (x.1.length : Int)) else none
theorem sat23 : Sat prog cxT 23 (c23 m23) := s23 m23 fun x t h => by
  obtain ⟨a, k⟩ := x
  unfold m23 at h
  split at h
  · rename_i hc
    obtain ⟨rfl, h1⟩ := hc
    simp only at h1
    cases h
    refine ⟨0, ?_⟩
    show g23 0 a 1048576 = some (if a.length > 1048576 then -1 else 1048576 - (a.length : Int))
    unfold g23
    rw [wi (by omega) (by omega)]
    by_cases h2 : a.length > 1048576
    · rw [dt (by omega), if_pos h2]; rfl
    · rw [df (by omega), if_neg h2]; rfl
  · cases h
def m25 (a : List Sh) : Option (List Sh) := if a.length ≤ 1000000000 then some a else none
theorem p25 (L : Nat) (a : List Sh) (ha : a.length ≤ 1000000000) (k : List Sh → Option (List Sh)) : ∀ (n i : Nat) (o : List Sh), o.length = a.length → i ≤ a.length → a.length < n + i → o.take i = a.take i → l25_0 m55 L a n o i k = k a
  | 0, i, o, _, h2, h3, _ => by omega
  | n + 1, i, o, h1, h2, h3, h4 => by
    unfold l25_0
    by_cases hi : i < a.length
    · simp (disch := omega) only [dt, df, wi, cond_true, Bool.and_self, Int.toNat_natCast, m55_eta, tst_some]
      have := p25 L a ha k n (i + 1) (o.set i (a.getD i (0, 0))) (by rw [List.length_set]; exact h1) (by omega) (by omega) (by
        rw [List.take_add_one, List.take_add_one, List.take_set_of_le (Nat.le_refl _), h4]
        congr 1
        rw [List.getElem?_set_self (by omega), List.getElem?_eq_getElem hi]
        simp [List.getD, List.getElem?_eq_getElem hi])
      simpa using this
    · simp (disch := omega) only [dt, df, cond_false]
      have hil : i = a.length := by omega
      rw [hil, List.take_length, ← h1, List.take_length] at h4
      rw [h4]
theorem sat25 : Sat prog cxT 25 (c25 m25) := s25 m55 sat55 m25 fun x t h => by
  unfold m25 at h
  split at h
  · rename_i ha
    cases h
    refine ⟨x.length + 1, ?_⟩
    unfold g25
    simp (disch := omega) only [dt, cond_true, Bool.and_self, Int.toNat_natCast]
    exact p25 _ x ha _ _ 0 _ (by simp) (by omega) (by omega) rfl
  · cases h
def m27 (x : List Sh × List Sh) : Option Bool := if x.1.length ≤ 1000000000000 ∧ x.2.length ≤ 1000000000000 then some (decide (x.1 = x.2)) else none
theorem p27 (L : Nat) (a b : List Sh) (hl : a.length = b.length) (ha : a.length ≤ 1000000000000) (k : Option Bool) : ∀ (n i : Nat), i ≤ a.length → a.length < n + i →
    l27_0 m58 L a b n i k = if a.drop i = b.drop i then k else some false
  | 0, i, h2, h3 => by omega
  | n + 1, i, h2, h3 => by
    unfold l27_0
    by_cases hi : i < a.length
    · simp (disch := omega) only [dt, df, wi, cond_true, Bool.and_self, Int.toNat_natCast, m58_eta, tst_some]
      rw [drop_cons (0, 0) hi, drop_cons (0, 0) (show i < b.length by omega)]
      have := p27 L a b hl ha k n (i + 1) (by omega) (by omega)
      simp only [Int.natCast_add, Int.cast_ofNat_Int] at this
      rw [this]
      by_cases hx : a.getD i (0, 0) = b.getD i (0, 0)
      · rw [hx]; simp
      · rw [df hx, if_neg (fun h => hx (List.cons.inj h).1)]
        rfl
    · simp (disch := omega) only [df, cond_false]
      rw [List.drop_eq_nil_of_le (by omega), List.drop_eq_nil_of_le (by omega)]
      simp
theorem sat27 : Sat prog cxT 27 (c27 m27) := s27 m58 sat58 m27 fun x t h => by
  unfold m27 at h
  split at h
  · rename_i ha
    cases h
    refine ⟨x.1.length + 1, ?_⟩
    unfold g27
    by_cases hl : x.1.length = x.2.length
    · have e1 : ((Nat.cast x.1.length : Int) != (Nat.cast x.2.length : Int)) = false := by simp [hl]
      have := p27 (x.1.length + 1) x.1 x.2 hl ha.1 (some true) (x.1.length + 1) 0 (by omega) (by omega)
      rw [e1]
      simp only [cond_false]
      refine this.trans ?_
      simp only [List.drop_zero]
      split <;> simp [*]
    · have e1 : ((Nat.cast x.1.length : Int) != (Nat.cast x.2.length : Int)) = true := by simp; omega
      rw [e1]
      have : x.1 ≠ x.2 := fun h => hl (by rw [h])
      simp [this]
  · cases h
theorem m27_self {a : List Sh} (h : a.length ≤ 1000000000000) : m27 (a, a) = some true := (if_pos ⟨h, h⟩).trans (by simp)

/-! SharesFault -/
def sfl : Int → List Sh → Int
  | _, [] => 0
  | p, x :: r => if 1 ≤ x.1 ∧ x.1 ≤ 999 then (if 0 ≤ x.2 ∧ x.2 ≤ 9 then (if x.1 ≤ p then 1 else sfl x.1 r) else 3) else 3
theorem sfl_cons (p : Int) (x : Sh) (r : List Sh) : sfl p (x :: r) = if 1 ≤ x.1 ∧ x.1 ≤ 999 then (if 0 ≤ x.2 ∧ x.2 ≤ 9 then (if x.1 ≤ p then 1 else sfl x.1 r) else 3) else 3 := rfl
def sf (a : List Sh) : Int := if a.length > 8 then 2 else sfl 0 a
def mSf (a : List Sh) : Option Int := some (sf a)
theorem sf_len {a : List Sh} (h : sf a = 0) : a.length ≤ 8 := by
  unfold sf at h
  split at h
  · cases h
  · omega
theorem sfl_w : ∀ {a : List Sh} {p : Int}, sfl p a = 0 → ∀ s ∈ a, 0 ≤ s.2
  | [], _, _, _, hs => by simp at hs
  | x :: r, p, h, s, hs => by
    unfold sfl at h
    split at h
    · split at h
      · rename_i hw
        split at h
        · cases h
        · rcases List.mem_cons.1 hs with rfl | hs
          · exact hw.1
          · exact sfl_w h s hs
      · cases h
    · cases h
theorem sf_w {a : List Sh} (h : sf a = 0) : ∀ s ∈ a, 0 ≤ s.2 := by
  unfold sf at h
  split at h
  · cases h
  · exact sfl_w h
theorem p26 (L : Nat) (a : List Sh) (ha : a.length ≤ 8) (k : Option Int) : ∀ (n i : Nat) (p : Int), i ≤ a.length → a.length < n + i →
    l26_0 mName m57 L a n p (i : Int) k = if sfl p (a.drop i) = 0 then k else some (sfl p (a.drop i))
  | 0, i, p, h2, h3 => by omega
  | n + 1, i, p, h2, h3 => by
    unfold l26_0
    by_cases hi : i < a.length
    · rw [Int.toNat_natCast]
      simp (disch := omega) only [dt, df, wi, cond_true, Bool.and_self]
      rw [drop_cons (0, 0) hi]
      have e2 : (i : Int) + 1 = ((i + 1 : Nat) : Int) := rfl
      rw [e2, p26 L a ha k n (i + 1) _ (by omega) (by omega)]
      obtain ⟨x, hx⟩ : ∃ x : Sh, x = a.getD i (0, 0) := ⟨_, rfl⟩
      rw [← hx, sfl_cons]
      unfold mName m57
      simp only [tst_some]
      by_cases h1 : 1 ≤ x.1 ∧ x.1 ≤ 999
      · rw [dt h1, if_pos h1, Bool.not_true, cond_false]
        by_cases h2 : 0 ≤ x.2 ∧ x.2 ≤ 9
        · rw [dt h2, if_pos h2, Bool.not_true, cond_false]
          by_cases h3 : x.1 ≤ p
          · rw [dt h3, if_pos h3]; rfl
          · rw [df h3, if_neg h3, cond_false]
        · rw [df h2, if_neg h2]; rfl
      · rw [df h1, if_neg h1]; rfl
    · simp (disch := omega) only [df, cond_false]
      rw [List.drop_eq_nil_of_le (by omega)]
      rfl
theorem sat26 : Sat prog cxT 26 (c26 mSf) := s26 mName m57 sat56 sat57 mSf fun x t h => by
  cases h
  refine ⟨9, ?_⟩
  unfold g26 sf
  by_cases h1 : x.length > 8
  · rw [dt (by omega), if_pos h1]; rfl
  · rw [df (by omega), if_neg h1, cond_false]
    refine (p26 9 x (by omega) (some 0) 9 0 0 (by omega) (by omega)).trans ?_
    rw [List.drop_zero]
    split
    · rename_i h; rw [h]
    · rfl
theorem m54_w (w : Int) : m54 (w, ((0 : Int), (9 : Int))) = some (decide (0 ≤ w ∧ w ≤ 9)) := rfl
theorem p24 (L : Nat) (a : List Sh) (ha : a.length ≤ 8) (k : Option Int) : ∀ (n i : Nat) (p : Int), (i = 0 → p = 0) → (0 < i → p = (a.getD (i - 1) (0, 0)).1) → i ≤ a.length → a.length < n + i →
    l24_0 mName m54 L a n (i : Int) k = if sfl p (a.drop i) = 0 then k else some (sfl p (a.drop i))
  | 0, i, p, _, _, h2, h3 => by omega
  | n + 1, i, p, hp, hq, h2, h3 => by
    unfold l24_0
    by_cases hi : i < a.length
    · simp (disch := omega) only [dt, df, wi, cond_true, Bool.and_self, Int.toNat_natCast]
      rw [drop_cons (0, 0) hi]
      have e2 : (i : Int) + 1 = ((i + 1 : Nat) : Int) := rfl
      rw [e2, p24 L a ha k n (i + 1) (a.getD i (0, 0)).1 (by omega) (fun _ => by simp) (by omega) (by omega)]
      rw [show mName (a.getD i (0, 0)).1 = some (decide (1 ≤ (a.getD i (0, 0)).1 ∧ (a.getD i (0, 0)).1 ≤ 999)) from rfl, m54_w]
      simp only [tst_some]
      by_cases h0 : i = 0
      · have hp0 := hp h0
        subst hp0
        rw [df (c := (i : Int) > 0) (by omega)]
        rw [sfl_cons]
        by_cases h1 : 1 ≤ (a.getD i (0, 0)).1 ∧ (a.getD i (0, 0)).1 ≤ 999
        · rw [dt h1, if_pos h1, Bool.not_true, cond_false]
          by_cases h2 : 0 ≤ (a.getD i (0, 0)).2 ∧ (a.getD i (0, 0)).2 ≤ 9
          · rw [dt h2, if_pos h2, Bool.not_true, cond_false, if_neg (show ¬ (a.getD i (0, 0)).1 ≤ 0 by omega)]
            rfl
          · rw [df h2, if_neg h2]; rfl
        · rw [df h1, if_neg h1]; rfl
      · have hq0 := hq (by omega)
        rw [dt (c := (i : Int) > 0) (by omega), dt (c := (0 : Int) ≤ (i : Int) - 1) (by omega)]
        have e3 : (a.getD i (0, 0)).1 ≤ (a.getD ((i : Int) - 1).toNat (0, 0)).1 ↔ (a.getD i (0, 0)).1 ≤ p := by
          rw [hq0, show ((i : Int) - 1).toNat = i - 1 by omega]
        rw [sfl_cons]
        simp only [Bool.and_self, cond_true]
        by_cases h1 : 1 ≤ (a.getD i (0, 0)).1 ∧ (a.getD i (0, 0)).1 ≤ 999
        · rw [dt h1, if_pos h1, Bool.not_true, cond_false]
          by_cases h2 : 0 ≤ (a.getD i (0, 0)).2 ∧ (a.getD i (0, 0)).2 ≤ 9
          · rw [dt h2, if_pos h2, Bool.not_true, cond_false]
            by_cases h3 : (a.getD i (0, 0)).1 ≤ p
            · rw [dt (e3.2 h3), if_pos h3]; rfl
            · rw [df (fun h => h3 (e3.1 h)), if_neg h3, cond_false]
          · rw [df h2, if_neg h2]; rfl
        · rw [df h1, if_neg h1]; rfl
    · simp (disch := omega) only [df, cond_false]
      rw [List.drop_eq_nil_of_le (by omega)]
      rfl
theorem sat24 : Sat prog cxT 24 (c24 mSf) := s24 mName m54 sat53 sat54 mSf fun x t h => by
  cases h
  refine ⟨9, ?_⟩
  unfold g24 sf
  by_cases h1 : x.length > 8
  · rw [dt (by omega), if_pos h1]; rfl
  · rw [df (by omega), if_neg h1, cond_false]
    refine (p24 9 x (by omega) (some 0) 9 0 0 (fun _ => rfl) (fun h => absurd h (by decide)) (by omega) (by omega)).trans ?_
    rw [List.drop_zero]
    split
    · rename_i h; rw [h]
    · rfl

/-! FnExactSharesFault -/
def m5 (x : List Sh) : Option Bool := if x.length ≤ 9223372036854775807 then some true else none
theorem sat5 : Sat prog cxT 5 (c5 m5) := s5 m23 m25 mSf mSf m27 sat23 sat25 sat24 sat26 sat27 m5 fun a t h => by
  unfold m5 at h
  split at h
  · rename_i ha
    cases h
    refine ⟨0, ?_⟩
    unfold g5
    have e23 : m23 (a, 1048576) = some (if a.length > 1048576 then -1 else 1048576 - (a.length : Int)) := if_pos ⟨rfl, ha⟩
    rw [e23, tst_some]
    by_cases hl : a.length > 1048576
    · rw [if_pos hl]; rfl
    · have e25 : m25 a = some a := if_pos (by omega)
      have e26 : mSf a = some (sf a) := rfl
      rw [if_neg hl, df (by omega)]
      simp only [cond_false, e25, e26, m27_self (show a.length ≤ 1000000000000 by omega), tst_some, bneF, Bool.not_true]
  · cases h
end Go.Proofs.Try

set_option maxHeartbeats 0
set_option linter.unusedVariables false
set_option linter.unusedSimpArgs false
namespace Go.Proofs.Try
open Go Go.VM Go.RowKit

/-! SpreadOf -/
def cts (t : List Int) : List Sh → List Int
  | [] => []
  | s :: r => if s.2 > 0 then (cnt t s.1 : Int) :: cts t r else cts t r
theorem cts_cons (t : List Int) (s : Sh) (r : List Sh) : cts t (s :: r) = if s.2 > 0 then (cnt t s.1 : Int) :: cts t r else cts t r := rfl
theorem cts_len (t : List Int) : ∀ l, (cts t l).length ≤ l.length
  | [] => Nat.le_refl _
  | s :: r => by
    have := cts_len t r
    rw [cts_cons]
    split <;> simp only [List.length_cons] <;> omega
def mCts (x : List Int × List Sh) : Option (List Int) := if x.1.length ≤ 1000000000000 ∧ x.2.length ≤ 1000000 then some (cts x.1 x.2) else none
theorem p48 (L : Nat) (t : List Int) (l : List Sh) (ht : t.length ≤ 1000000000000) (hl : l.length ≤ 1000000) (k : List Int → Option (List Int)) : ∀ (n i : Nat) (v : List Int), v.length ≤ i → i ≤ l.length → l.length < n + i →
    l48_0 mCnt L t l n v (i : Int) k = k (v ++ cts t (l.drop i))
  | 0, i, v, _, h2, h3 => by omega
  | n + 1, i, v, hv, h2, h3 => by
    unfold l48_0
    by_cases hi : i < l.length
    · rw [Int.toNat_natCast]
      have e1 : mCnt (t, (l.getD i (0, 0)).1) = some (cnt t (l.getD i (0, 0)).1 : Int) := if_pos ht
      have e2 : (i : Int) + 1 = ((i + 1 : Nat) : Int) := rfl
      simp (disch := omega) only [dt, wi, cond_true, Bool.and_self, e1, tst_some]
      rw [e2, drop_cons (0, 0) hi, cts_cons]
      by_cases hw : (l.getD i (0, 0)).2 > 0
      · rw [dt hw, if_pos hw, cond_true, dt (by simp only [List.length_cons, List.length_nil]; omega), cond_true]
        rw [p48 L t l ht hl k n (i + 1) _ (by simp; omega) (by omega) (by omega)]
        simp
      · rw [df hw, if_neg hw, cond_false, p48 L t l ht hl k n (i + 1) v (by omega) (by omega) (by omega)]
    · simp (disch := omega) only [df, cond_false]
      rw [List.drop_eq_nil_of_le (by omega)]
      simp [cts]
theorem sat48 : Sat prog cxT 48 (c48 mCts) := s48 mCnt sat17 mCts fun x t h => by
  unfold mCts at h
  split at h
  · rename_i ha
    cases h
    refine ⟨x.2.length + 1, ?_⟩
    unfold g48
    exact p48 _ x.1 x.2 ha.1 ha.2 (fun w => some w) _ 0 [] (Nat.le_refl _) (by omega) (by omega)
  · cases h
def mn : Int → List Int → Int
  | m, [] => m
  | m, x :: r => mn (if x < m then x else m) r
def mx : Int → List Int → Int
  | m, [] => m
  | m, x :: r => mx (if x > m then x else m) r
def mMn (a : List Int) : Option Int := if a.length ≤ 1000000000000 then (match a with | [] => none | x :: r => some (mn x r)) else none
def mMx (a : List Int) : Option Int := if a.length ≤ 1000000000000 then (match a with | [] => none | x :: r => some (mx x r)) else none
theorem p49 (L : Nat) (a : List Int) (ha : a.length ≤ 1000000000000) (k : Int → Option Int) : ∀ (n i : Nat) (m : Int), i ≤ a.length → a.length < n + i →
    l49_0 L a n m (i : Int) k = k (mn m (a.drop i))
  | 0, i, m, h2, h3 => by omega
  | n + 1, i, m, h2, h3 => by
    unfold l49_0
    by_cases hi : i < a.length
    · rw [Int.toNat_natCast]
      simp (disch := omega) only [dt, wi, cond_true, Bool.and_self]
      have e2 : (i : Int) + 1 = ((i + 1 : Nat) : Int) := rfl
      rw [e2, p49 L a ha k n (i + 1) _ (by omega) (by omega), drop_cons 0 hi]
      rfl
    · simp (disch := omega) only [df, cond_false]
      rw [List.drop_eq_nil_of_le (by omega)]
      rfl
theorem sat49 : Sat prog cxT 49 (c49 mMn) := s49 mMn fun a t h => by
  unfold mMn at h
  split at h
  · rename_i ha
    split at h
    · cases h
    · rename_i x r
      cases h
      refine ⟨(x :: r).length + 1, ?_⟩
      unfold g49
      rw [df (by simp only [List.length_cons]; omega), cond_false, dt (by omega), dt (by simp only [List.length_cons]; omega)]
      exact p49 _ (x :: r) ha (fun w => some w) _ 1 x (by simp) (by omega)
  · cases h
theorem p50 (L : Nat) (a : List Int) (ha : a.length ≤ 1000000000000) (k : Int → Option Int) : ∀ (n i : Nat) (m : Int), i ≤ a.length → a.length < n + i →
    l50_0 L a n m (i : Int) k = k (mx m (a.drop i))
  | 0, i, m, h2, h3 => by omega
  | n + 1, i, m, h2, h3 => by
    unfold l50_0
    by_cases hi : i < a.length
    · rw [Int.toNat_natCast]
      simp (disch := omega) only [dt, wi, cond_true, Bool.and_self]
      have e2 : (i : Int) + 1 = ((i + 1 : Nat) : Int) := rfl
      rw [e2, p50 L a ha k n (i + 1) _ (by omega) (by omega), drop_cons 0 hi]
      rfl
    · simp (disch := omega) only [df, cond_false]
      rw [List.drop_eq_nil_of_le (by omega)]
      rfl
theorem sat50 : Sat prog cxT 50 (c50 mMx) := s50 mMx fun a t h => by
  unfold mMx at h
  split at h
  · rename_i ha
    split at h
    · cases h
    · rename_i x r
      cases h
      refine ⟨(x :: r).length + 1, ?_⟩
      unfold g50
      rw [df (by simp only [List.length_cons]; omega), cond_false, dt (by omega), dt (by simp only [List.length_cons]; omega)]
      exact p50 _ (x :: r) ha (fun w => some w) _ 1 x (by simp) (by omega)
  · cases h
def spr (t : List Int) (l : List Sh) : Int × Int × Int × Int :=
  if t.length = 31 then (if sf l = 0 then (match cts t l with | [] => (0, 0, 0, (cnt t 0 : Int)) | c :: r => (0, mn c r, mx c r, (cnt t 0 : Int))) else (sf l, 0, 0, 0)) else (1, 0, 0, 0)
def mSpr (x : List Int × List Sh) : Option (Int × Int × Int × Int) := some (spr x.1 x.2)
theorem sat16 : Sat prog cxT 16 (c16 mSpr) := s16 mLen mSf mCnt mCts mMn mMx sat47 sat26 sat17 sat48 sat49 sat50 mSpr fun x t h => by
  obtain ⟨t, l⟩ := x
  cases h
  refine ⟨0, ?_⟩
  show g16 mLen mSf mCnt mCts mMn mMx 0 t l = some (spr t l)
  unfold g16 spr
  rw [show mLen t = some (if t.length = 31 then 0 else 1) from rfl, tst_some]
  by_cases h1 : t.length = 31
  · rw [if_pos h1, if_pos h1, bneF rfl, cond_false, show mSf l = some (sf l) from rfl, tst_some]
    by_cases h2 : sf l = 0
    · have h8 := sf_len h2
      have e17 : mCnt (t, 0) = some (cnt t 0 : Int) := if_pos (show t.length ≤ 1000000000000 by omega)
      have e48 : mCts (t, l) = some (cts t l) := if_pos ⟨show t.length ≤ 1000000000000 by omega, show l.length ≤ 1000000 by omega⟩
      rw [bneF h2, cond_false, if_pos h2, e17, tst_some, e48, tst_some]
      have hc := cts_len t l
      cases hcc : cts t l with
      | nil => rfl
      | cons c r =>
        rw [hcc] at hc
        have e49 : mMn (c :: r) = some (mn c r) := if_pos (by omega)
        have e50 : mMx (c :: r) = some (mx c r) := if_pos (by omega)
        rw [dt (by simp only [List.length_cons]; omega), cond_true, e49, tst_some, e50, tst_some]
    · rw [bneT h2, cond_true, if_neg h2]
  · rw [if_neg h1, if_neg h1]; rfl

def mMin (x : Int × Int) : Option Int := some (if x.1 < x.2 then x.1 else x.2)
theorem sat61 : Sat prog cxT 61 (c61 mMin) := s61 mMin fun x t h => by
  cases h
  refine ⟨0, ?_⟩
  unfold g61
  by_cases h1 : x.1 < x.2
  · rw [dt h1, if_pos h1]; rfl
  · rw [df h1, if_neg h1]; rfl
def mMax (x : Int × Int) : Option Int := some (if x.1 > x.2 then x.1 else x.2)
theorem sat62 : Sat prog cxT 62 (c62 mMax) := s62 mMax fun x t h => by
  cases h
  refine ⟨0, ?_⟩
  unfold g62
  by_cases h1 : x.1 > x.2
  · rw [dt h1, if_pos h1]; rfl
  · rw [df h1, if_neg h1]; rfl
theorem min_eq (a b : Int) : (if a < b then a else b) = if b < a then b else a := by split <;> split <;> omega
theorem max_eq (a b : Int) : (if a > b then a else b) = if b > a then b else a := by split <;> split <;> omega
theorem mMin_self (a : Int) : mMin (a, a) = some a := by unfold mMin; simp
theorem mMax_self (a : Int) : mMax (a, a) = some a := by unfold mMax; simp
theorem mMin_eq (a b : Int) : mMin (a, b) = some (if b < a then b else a) := congrArg some (min_eq a b)
theorem mMax_eq (a b : Int) : mMax (a, b) = some (if b > a then b else a) := congrArg some (max_eq a b)
theorem p35f (L : Nat) (t : List Int) (l : List Sh) (ht : t.length = 31) (hl : l.length ≤ 8) (hw : ∀ s ∈ l, 0 ≤ s.2) (z0 z1 z2 z3 y0 y3 : Int) (k : Int → Int → Int → Int → Int → Int → Int → Int → Option (Int × Int × Int × Int)) : ∀ (n i : Nat) (a b : Int), i ≤ l.length → l.length < n + i →
    l35_0 mSf mCnt mMin mMax L t l n z0 z1 z2 z3 y0 a b y3 false (i : Int) k = k z0 z1 z2 z3 y0 (mn a (cts t (l.drop i))) (mx b (cts t (l.drop i))) y3
  | 0, i, a, b, h2, h3 => by omega
  | n + 1, i, a, b, h2, h3 => by
    unfold l35_0
    by_cases hi : i < l.length
    · rw [Int.toNat_natCast]
      have e1 : mCnt (t, (l.getD i (0, 0)).1) = some (cnt t (l.getD i (0, 0)).1 : Int) := if_pos (show t.length ≤ 1000000000000 by omega)
      have e2 : (i : Int) + 1 = ((i + 1 : Nat) : Int) := rfl
      have h0 : 0 ≤ (l.getD i (0, 0)).2 := hw _ (by simp only [List.getD, List.getElem?_eq_getElem hi, Option.getD_some]; exact List.getElem_mem hi)
      simp (disch := omega) only [dt, wi, cond_true, cond_false, Bool.and_self, e1, tst_some, mMin_eq, mMax_eq]
      rw [e2, drop_cons (0, 0) hi, cts_cons]
      by_cases hz : (l.getD i (0, 0)).2 = 0
      · rw [beq_iff_eq.2 hz, cond_true, if_neg (show ¬ (l.getD i (0, 0)).2 > 0 by omega), p35f L t l ht hl hw z0 z1 z2 z3 y0 y3 k n (i + 1) a b (by omega) (by omega)]
      · rw [beq_eq_false_iff_ne.2 hz, cond_false, if_pos (show (l.getD i (0, 0)).2 > 0 by omega), p35f L t l ht hl hw z0 z1 z2 z3 y0 y3 k n (i + 1) _ _ (by omega) (by omega)]
        rfl
    · simp (disch := omega) only [df, cond_false]
      rw [List.drop_eq_nil_of_le (by omega)]
      rfl
theorem p35t (L : Nat) (t : List Int) (l : List Sh) (ht : t.length = 31) (hl : l.length ≤ 8) (hw : ∀ s ∈ l, 0 ≤ s.2) (z0 z1 z2 z3 y0 y3 : Int) (k : Int → Int → Int → Int → Int → Int → Int → Int → Option (Int × Int × Int × Int)) : ∀ (n i : Nat) (a b : Int), i ≤ l.length → l.length < n + i →
    l35_0 mSf mCnt mMin mMax L t l n z0 z1 z2 z3 y0 a b y3 true (i : Int) k = match cts t (l.drop i) with | [] => k z0 z1 z2 z3 y0 a b y3 | c :: r => k z0 z1 z2 z3 y0 (mn c r) (mx c r) y3
  | 0, i, a, b, h2, h3 => by omega
  | n + 1, i, a, b, h2, h3 => by
    unfold l35_0
    by_cases hi : i < l.length
    · rw [Int.toNat_natCast]
      have e1 : mCnt (t, (l.getD i (0, 0)).1) = some (cnt t (l.getD i (0, 0)).1 : Int) := if_pos (show t.length ≤ 1000000000000 by omega)
      have e2 : (i : Int) + 1 = ((i + 1 : Nat) : Int) := rfl
      have h0 : 0 ≤ (l.getD i (0, 0)).2 := hw _ (by simp only [List.getD, List.getElem?_eq_getElem hi, Option.getD_some]; exact List.getElem_mem hi)
      simp (disch := omega) only [dt, wi, cond_true, cond_false, Bool.and_self, e1, tst_some, mMin_self, mMax_self]
      rw [e2, drop_cons (0, 0) hi, cts_cons]
      by_cases hz : (l.getD i (0, 0)).2 = 0
      · rw [beq_iff_eq.2 hz, cond_true, if_neg (show ¬ (l.getD i (0, 0)).2 > 0 by omega), p35t L t l ht hl hw z0 z1 z2 z3 y0 y3 k n (i + 1) a b (by omega) (by omega)]
      · rw [beq_eq_false_iff_ne.2 hz, cond_false, if_pos (show (l.getD i (0, 0)).2 > 0 by omega), p35f L t l ht hl hw z0 z1 z2 z3 y0 y3 k n (i + 1) _ _ (by omega) (by omega)]
    · simp (disch := omega) only [df, cond_false]
      rw [List.drop_eq_nil_of_le (by omega)]
      rfl
theorem sat35 : Sat prog cxT 35 (c35 mSpr) := s35 mSf mCnt mMin mMax sat24 sat32 sat61 sat62 mSpr fun x t h => by
  obtain ⟨t, l⟩ := x
  cases h
  refine ⟨9, ?_⟩
  show g35 mSf mCnt mMin mMax 9 t l = some (spr t l)
  unfold g35 spr
  by_cases h1 : t.length = 31
  · rw [if_pos h1, bneF (by omega), cond_false, show mSf l = some (sf l) from rfl, tst_some]
    by_cases h2 : sf l = 0
    · have h8 := sf_len h2
      have e17 : mCnt (t, 0) = some (cnt t 0 : Int) := if_pos (show t.length ≤ 1000000000000 by omega)
      rw [bneF h2, cond_false, if_pos h2, e17, tst_some]
      refine (p35t 9 t l h1 h8 (sf_w h2) 0 0 0 0 0 _ _ 9 0 0 0 (by omega) (by omega)).trans ?_
      rw [List.drop_zero]
      split <;> rfl
    · rw [bneT h2, cond_true, if_neg h2]
  · rw [if_neg h1, bneT (by omega)]; rfl
def m36 (x : (Int × Int × Int × Int) × (Int × Int × Int × Int)) : Option Bool := some (decide (x.1 = x.2))
theorem sat36 : Sat prog cxT 36 (c36 m36) := s36 m36 fun x t h => by
  obtain ⟨⟨a, b, c, d⟩, a', b', c', d'⟩ := x
  cases h
  refine ⟨0, ?_⟩
  show g36 0 a b c d a' b' c' d' = some (decide ((a, b, c, d) = (a', b', c', d')))
  unfold g36
  by_cases h1 : a = a'
  · rw [bneF h1, cond_false]
    by_cases h2 : b = b'
    · rw [bneF h2, cond_false]
      by_cases h3 : c = c'
      · rw [bneF h3, cond_false]
        by_cases h4 : d = d'
        · rw [bneF h4]; simp [h1, h2, h3, h4]
        · rw [bneT h4]; simp [h4]
      · rw [bneT h3]; simp [h3]
    · rw [bneT h2]; simp [h2]
  · rw [bneT h1]; simp [h1]
theorem m36_eta (x : Int × Int × Int × Int) : m36 ((x.1, (x.2.1, (x.2.2.1, x.2.2.2))), (x.1, (x.2.1, (x.2.2.1, x.2.2.2)))) = some true := by unfold m36; simp

/-! FnExactSpreadOf -/
def m8 (x : List Int × List Sh) : Option Bool := if x.2.length ≤ 9223372036854775807 then some true else none
theorem sat8 : Sat prog cxT 8 (c8 m8) := s8 m23 m33 m25 mSpr mSpr m36 m34 m27 sat23 sat33 sat25 sat35 sat16 sat36 sat34 sat27 m8 fun x t h => by
  obtain ⟨a, l⟩ := x
  unfold m8 at h
  split at h
  · rename_i hl
    simp only at hl
    cases h
    refine ⟨0, ?_⟩
    show g8 m23 m33 m25 mSpr mSpr m36 m34 m27 0 a l = some true
    unfold g8
    by_cases h1 : a.length > 1048576
    · rw [dt (by omega)]; rfl
    · rw [df (by omega), cond_false]
      have e23 : m23 (l, 1048576) = some (if l.length > 1048576 then -1 else 1048576 - (l.length : Int)) := if_pos ⟨rfl, hl⟩
      rw [e23, tst_some]
      by_cases h2 : l.length > 1048576
      · rw [if_pos h2]; rfl
      · have e33 : m33 a = some a := if_pos (by omega)
        have e25 : m25 l = some l := if_pos (by omega)
        have e16 : mSpr (a, l) = some (spr a l) := rfl
        rw [if_neg h2, df (by omega)]
        simp only [cond_false, e33, e25, e16, m34_self (show a.length ≤ 1000000000000 by omega), m27_self (show l.length ≤ 1000000000000 by omega), m36_eta, tst_some, Bool.not_true]
  · cases h
end Go.Proofs.Try

set_option maxHeartbeats 0
set_option linter.unusedVariables false
set_option linter.unusedSimpArgs false
namespace Go.Proofs.Try
open Go Go.VM Go.RowKit

/-! WithoutShare -/
def oth (y : Int) : List Sh → List Sh
  | [] => []
  | s :: r => if s.1 = y then oth y r else s :: oth y r
theorem oth_cons (y : Int) (s : Sh) (r : List Sh) : oth y (s :: r) = if s.1 = y then oth y r else s :: oth y r := rfl
theorem oth_len (y : Int) : ∀ l, (oth y l).length ≤ l.length
  | [] => Nat.le_refl _
  | s :: r => by
    have := oth_len y r
    rw [oth_cons]
    split <;> simp only [List.length_cons] <;> omega
def wo (l : List Sh) (y : Int) : Int × List Sh := if sf l = 0 then (if (oth y l).length = l.length then (4, []) else (0, oth y l)) else (sf l, [])
theorem wo_len (l : List Sh) (y : Int) : (wo l y).2.length ≤ 8 := by
  unfold wo
  split
  · rename_i h
    have := sf_len h
    have := oth_len y l
    split
    · simp
    · simp only; omega
  · simp
def mWo (x : List Sh × Int) : Option (Int × List Sh) := some (wo x.1 x.2)
theorem p19 (L : Nat) (l : List Sh) (y : Int) (hl : l.length ≤ 8) (z0 : Int) (z1 : List Sh) (k : Int → List Sh → List Sh → Option (Int × List Sh)) : ∀ (n i : Nat) (v : List Sh), v.length ≤ i → i ≤ l.length → l.length < n + i →
    l19_0 mSf L l y n z0 z1 v (i : Int) k = k z0 z1 (v ++ oth y (l.drop i))
  | 0, i, v, _, h2, h3 => by omega
  | n + 1, i, v, hv, h2, h3 => by
    unfold l19_0
    by_cases hi : i < l.length
    · rw [Int.toNat_natCast]
      have e2 : (i : Int) + 1 = ((i + 1 : Nat) : Int) := rfl
      simp (disch := omega) only [dt, wi, cond_true, Bool.and_self]
      rw [e2, drop_cons (0, 0) hi, oth_cons]
      by_cases hw : (l.getD i (0, 0)).1 = y
      · rw [bneF hw, if_pos hw, cond_false, p19 L l y hl z0 z1 k n (i + 1) v (by omega) (by omega) (by omega)]
      · rw [bneT hw, if_neg hw, cond_true, dt (by simp only [List.length_cons, List.length_nil]; omega), cond_true]
        rw [p19 L l y hl z0 z1 k n (i + 1) _ (by simp; omega) (by omega) (by omega)]
        simp
    · simp (disch := omega) only [df, cond_false]
      rw [List.drop_eq_nil_of_le (by omega)]
      simp [oth]
theorem sat19 : Sat prog cxT 19 (c19 mWo) := s19 mSf sat26 mWo fun x t h => by
  obtain ⟨l, y⟩ := x
  cases h
  refine ⟨9, ?_⟩
  show g19 mSf 9 l y = some (wo l y)
  unfold g19 wo
  rw [show mSf l = some (sf l) from rfl, tst_some]
  by_cases h2 : sf l = 0
  · have h8 := sf_len h2
    rw [bneF h2, cond_false, if_pos h2]
    refine (p19 9 l y h8 0 [] _ 9 0 [] (Nat.le_refl _) (by omega) (by omega)).trans ?_
    rw [List.drop_zero, List.nil_append]
    by_cases h3 : (oth y l).length = l.length
    · rw [if_pos h3, beq_iff_eq.2 (by omega)]; rfl
    · rw [if_neg h3, beq_eq_false_iff_ne.2 (by omega)]; rfl
  · rw [bneT h2, cond_true, if_neg h2]
theorem p20 (L : Nat) (l : List Sh) (y : Int) (hl : l.length ≤ 8) (z0 : Int) (z1 : List Sh) (y0 : Int) (k : Int → List Sh → Int → List Sh → Option (Int × List Sh)) : ∀ (n i : Nat) (v : List Sh), v.length ≤ i → i ≤ l.length → l.length < n + i →
    l20_0 mSf L l y n z0 z1 y0 v (i : Int) k = k z0 z1 y0 (v ++ oth y (l.drop i))
  | 0, i, v, _, h2, h3 => by omega
  | n + 1, i, v, hv, h2, h3 => by
    unfold l20_0
    by_cases hi : i < l.length
    · rw [Int.toNat_natCast]
      have e2 : (i : Int) + 1 = ((i + 1 : Nat) : Int) := rfl
      simp (disch := omega) only [dt, wi, cond_true, Bool.and_self]
      rw [e2, drop_cons (0, 0) hi, oth_cons]
      by_cases hw : (l.getD i (0, 0)).1 = y
      · rw [bneF hw, if_pos hw, cond_false, p20 L l y hl z0 z1 y0 k n (i + 1) v (by omega) (by omega) (by omega)]
      · rw [bneT hw, if_neg hw, cond_true, dt (by simp only [List.length_cons, List.length_nil]; omega), cond_true]
        rw [p20 L l y hl z0 z1 y0 k n (i + 1) _ (by simp; omega) (by omega) (by omega)]
        simp
    · simp (disch := omega) only [df, cond_false]
      rw [List.drop_eq_nil_of_le (by omega)]
      simp [oth]
theorem sat20 : Sat prog cxT 20 (c20 mWo) := s20 mSf sat24 mWo fun x t h => by
  obtain ⟨l, y⟩ := x
  cases h
  refine ⟨9, ?_⟩
  show g20 mSf 9 l y = some (wo l y)
  unfold g20 wo
  rw [show mSf l = some (sf l) from rfl, tst_some]
  by_cases h2 : sf l = 0
  · have h8 := sf_len h2
    rw [bneF h2, cond_false, if_pos h2]
    refine (p20 9 l y h8 0 [] 0 _ 9 0 [] (Nat.le_refl _) (by omega) (by omega)).trans ?_
    rw [List.drop_zero, List.nil_append]
    by_cases h3 : (oth y l).length = l.length
    · rw [if_pos h3, beq_iff_eq.2 (by omega)]; rfl
    · rw [if_neg h3, beq_eq_false_iff_ne.2 (by omega)]; rfl
  · rw [bneT h2, cond_true, if_neg h2]

/-! marks -/
def mkS (k : Int) (n : Nat) : List Sh := (List.range n).map fun (i : Nat) => (k + 2 * (i : Int), k + 2 * (i : Int) + 1)
theorem mkS_len (k : Int) (n : Nat) : (mkS k n).length = n := by simp [mkS]
theorem mkS_get (k : Int) (n i : Nat) (h : i < n) : (mkS k n).getD i (0, 0) = (k + 2 * (i : Int), k + 2 * (i : Int) + 1) := by
  simp [mkS, List.getD, h]
def m29 (x : List Sh × Int) : Option (Int × List Sh) := if 0 ≤ x.2 ∧ x.2 ≤ 1000000000000 ∧ x.1.length ≤ 1000000000000 then some (x.2 + 2 * (x.1.length : Int), mkS x.2 x.1.length) else none
theorem p29 (L : Nat) (a b : List Sh) (c k0 : Int) (h0 : 0 ≤ k0) (h1 : k0 ≤ 1000000000000) (hb : b.length ≤ 1000000000000) (k : List Sh → Int → Option (Int × List Sh)) : ∀ (n i : Nat) (o : List Sh), o.length = b.length → i ≤ b.length → b.length < n + i → o.take i = (mkS k0 b.length).take i →
    l29_0 L a c n o (k0 + 2 * (i : Int)) i k = k (mkS k0 b.length) (k0 + 2 * (b.length : Int))
  | 0, i, o, _, h3, h4, _ => by omega
  | n + 1, i, o, h2, h3, h4, h5 => by
    unfold l29_0
    by_cases hi : i < b.length
    · have hio : i < o.length := by omega
      simp only [Int.toNat_natCast, List.length_set, List.set_set]
      simp (disch := omega) only [dt, wi, cond_true, Bool.and_self]
      have eg : ∀ x : Sh, (o.set i x).getD i (0, 0) = x := fun x => by
        simp [List.getD, List.getElem?_set_self hio]
      rw [eg]
      have := p29 L a b c k0 h0 h1 hb k n (i + 1) (o.set i (k0 + 2 * (i : Int), k0 + 2 * (i : Int) + 1)) (by rw [List.length_set]; exact h2) (by omega) (by omega) (by
        rw [List.take_add_one, List.take_add_one, List.take_set_of_le (Nat.le_refl _), h5]
        congr 1
        rw [List.getElem?_set_self (by omega)]
        have := mkS_get k0 b.length i hi
        have hl : i < (mkS k0 b.length).length := by rw [mkS_len]; exact hi
        simp only [List.getD, List.getElem?_eq_getElem hl, Option.getD_some] at this
        rw [List.getElem?_eq_getElem hl, this])
      rw [show k0 + 2 * ((i + 1 : Nat) : Int) = k0 + 2 * (i : Int) + 1 + 1 by omega] at this
      exact this
    · simp (disch := omega) only [df, cond_false]
      have hil : i = b.length := by omega
      have : o = mkS k0 b.length := by
        rw [hil] at h5
        rw [← h2, List.take_length, h2] at h5
        rw [h5]
        exact List.take_of_length_le (by rw [mkS_len]; exact Nat.le_refl _)
      rw [this, hil]
theorem sat29 : SatW prog cxT 29 (c29 m29).nres (c29 m29).n (c29 m29).F := s29 m29 fun x t h => by
  obtain ⟨a, k⟩ := x
  unfold m29 at h
  split at h
  · rename_i hc
    obtain ⟨h1, h2, h3⟩ := hc
    simp only at h1 h2 h3 h
    cases h
    refine ⟨a.length + 1, ?_⟩
    unfold g29
    have := p29 (a.length + 1) a a k k h1 h2 h3 (fun o k => some (k, o)) (a.length + 1) 0 a rfl (by omega) (by omega) rfl
    simpa using this
  · cases h
def m63 (x : List Sh × Int) : Option Int := if 0 ≤ x.2 ∧ x.2 ≤ 1000000000000 ∧ x.1.length ≤ 1000000000000 ∧ x.1 = mkS x.2 x.1.length then some (x.2 + 2 * (x.1.length : Int)) else none
theorem p63 (L : Nat) (a : List Sh) (c k0 : Int) (h0 : 0 ≤ k0) (h1 : k0 ≤ 1000000000000) (hb : a.length ≤ 1000000000000) (ha : ∀ i, i < a.length → a.getD i (0, 0) = (k0 + 2 * (i : Int), k0 + 2 * (i : Int) + 1)) (k : Int → Option Int) : ∀ (n i : Nat), i ≤ a.length → a.length < n + i →
    l63_0 L a c n (k0 + 2 * (i : Int)) i k = k (k0 + 2 * (a.length : Int))
  | 0, i, h3, h4 => by omega
  | n + 1, i, h3, h4 => by
    unfold l63_0
    by_cases hi : i < a.length
    · simp (disch := omega) only [dt, df, wi, cond_true, Bool.and_self, Int.toNat_natCast]
      rw [ha i hi, bneF rfl, bneF rfl, cond_false, cond_false]
      have := p63 L a c k0 h0 h1 hb ha k n (i + 1) (by omega) (by omega)
      rw [show k0 + 2 * ((i + 1 : Nat) : Int) = k0 + 2 * (i : Int) + 1 + 1 by omega] at this
      exact this
    · simp (disch := omega) only [df, cond_false]
      rw [show i = a.length by omega]
theorem sat63 : Sat prog cxT 63 (c63 m63) := s63 m63 fun x t h => by
  obtain ⟨a, k⟩ := x
  unfold m63 at h
  split at h
  · rename_i hc
    obtain ⟨h1, h2, h3, h4⟩ := hc
    simp only at h1 h2 h3 h4 h
    cases h
    refine ⟨a.length + 1, ?_⟩
    unfold g63
    have := p63 (a.length + 1) a k k h1 h2 h3 (fun i hi => by
      have e := mkS_get k a.length i hi
      rw [← h4] at e
      exact e) (fun k => some k) (a.length + 1) 0 (by omega) (by omega)
    simpa using this
  · cases h
def m41 (x : (Int × List Sh) × Int) : Option (Int × Int × List Sh) := if 0 ≤ x.2 ∧ x.2 ≤ 1000000000000 ∧ x.1.2.length ≤ 1000000000000 then some (x.2 + 2 * (x.1.2.length : Int), x.1.1, mkS x.2 x.1.2.length) else none
theorem sat41 : SatW prog cxT 41 (c41 m41).nres (c41 m41).n (c41 m41).F := s41 m29 sat29 m41 fun x t h => by
  obtain ⟨⟨c, a⟩, k⟩ := x
  unfold m41 at h
  split at h
  · rename_i hc
    cases h
    refine ⟨0, ?_⟩
    have e : m29 (a, k) = some (k + 2 * (a.length : Int), mkS k a.length) := if_pos hc
    unfold g41
    simp only [e, tst_some]
  · cases h
def m42 (x : (Int × List Sh) × Int) : Option Int := m63 (x.1.2, x.2)
theorem sat42 : Sat prog cxT 42 (c42 m42) := s42 m63 sat63 m42 fun x t h => by
  obtain ⟨⟨c, a⟩, k⟩ := x
  have h : m63 (a, k) = some t := h
  refine ⟨0, ?_⟩
  unfold g42
  simp only [h, tst_some]
  have : ¬ t < 0 := by
    unfold m63 at h
    split at h
    · rename_i hc
      cases h
      have := hc.1
      simp only at this ⊢
      omega
    · cases h
  rw [df this]
  rfl
def m40 (x : (Int × List Sh) × Int × List Sh) : Option Bool := if x.1.2.length ≤ 1000000000000 ∧ x.2.2.length ≤ 1000000000000 then some (decide (x.1 = x.2)) else none
theorem sat40 : Sat prog cxT 40 (c40 m40) := s40 m27 sat27 m40 fun x t h => by
  obtain ⟨⟨c, a⟩, d, b⟩ := x
  unfold m40 at h
  split at h
  · rename_i hc
    cases h
    refine ⟨0, ?_⟩
    unfold g40
    have e : m27 (a, b) = some (decide (a = b)) := if_pos hc
    simp only [e, tst_some]
    by_cases h1 : c = d
    · rw [bneF h1]
      by_cases h2 : a = b <;> simp [h1, h2]
    · rw [bneT h1]
      simp [h1]
  · cases h
theorem mark_held (a : List Sh) (k : Int) (h0 : 0 ≤ k) (h1 : k ≤ 1000000000000) (h2 : a.length ≤ 1000000000000) : m63 (mkS k a.length, k) = some (k + 2 * (a.length : Int)) := by
  unfold m63
  rw [if_pos ⟨h0, h1, by show (mkS k a.length).length ≤ _; rw [mkS_len]; exact h2, by show mkS k a.length = mkS k (mkS k a.length).length; rw [mkS_len]⟩]
  simp only [mkS_len]

/-! FnExactWithoutShare -/
def m11 (x : List Sh × Int) : Option Bool := if x.1.length ≤ 9223372036854775807 then some true else none
theorem sat11 : Sat prog cxT 11 (c11 m11) := s11 m23 m25 mWo mWo m40 m27 m29 m41 m42 sat23 sat25 sat20 sat19 sat40 sat27 sat29 sat41 sat42 m11 fun x t h => by
  obtain ⟨l, y⟩ := x
  unfold m11 at h
  split at h
  · rename_i hl
    simp only at hl
    cases h
    refine ⟨0, ?_⟩
    show g11 m23 m25 mWo mWo m40 m27 m29 m41 m42 0 l y = some true
    unfold g11
    have e23 : m23 (l, 1048576) = some (if l.length > 1048576 then -1 else 1048576 - (l.length : Int)) := if_pos ⟨rfl, hl⟩
    rw [e23, tst_some]
    by_cases h2 : l.length > 1048576
    · rw [if_pos h2]; rfl
    · have e25 : m25 l = some l := if_pos (by omega)
      have hw := wo_len l y
      have e16 : mWo (l, y) = some (wo l y) := rfl
      rw [if_neg h2, df (by omega)]
      generalize wo l y = p at e16 hw
      obtain ⟨c, a⟩ := p
      simp only at hw
      have e40 : m40 ((c, a), c, a) = some true := (if_pos ⟨by show a.length ≤ 1000000000000; omega, by show a.length ≤ 1000000000000; omega⟩).trans (by simp)
      have e29 : m29 (l, 1) = some ((1 : Int) + 2 * (l.length : Int), mkS 1 l.length) := if_pos ⟨by show (0 : Int) ≤ 1; decide, by show (1 : Int) ≤ 1000000000000; decide, by show l.length ≤ 1000000000000; omega⟩
      have e41 : m41 ((c, a), 1) = some ((1 : Int) + 2 * (a.length : Int), c, mkS 1 a.length) := if_pos ⟨by show (0 : Int) ≤ 1; decide, by show (1 : Int) ≤ 1000000000000; decide, by show a.length ≤ 1000000000000; omega⟩
      have e42 : m42 ((c, mkS 1 a.length), 1) = some ((1 : Int) + 2 * (a.length : Int)) := mark_held a 1 (by decide) (by decide) (by omega)
      simp (disch := omega) only [cond_false, e25, e16, e40, e29, e41, e42, m27_self (show l.length ≤ 1000000000000 by omega), tst_some, cond_true, Bool.not_true, df, bneF]
  · cases h
end Go.Proofs.Try

set_option maxHeartbeats 0
set_option linter.unusedVariables false
set_option linter.unusedSimpArgs false
namespace Go.Proofs.Try
open Go Go.VM Go.RowKit

/-! What is left of a number -/
def mEm (x : Int × Int) : Option Int := if 0 < x.2 ∧ x.2 ≤ 4294967296 then some (x.1 % x.2) else none
theorem tmod_in (a : Int) {m : Int} (h : 0 < m) : -m < a.tmod m ∧ a.tmod m < m := ⟨Int.lt_tmod_of_pos a h, Int.tmod_lt_of_pos a h⟩
theorem tmod_add (a m : Int) : (a.tmod m + m) % m = a % m := by
  have h := Int.tmod_def a m
  rw [h, Int.add_emod_right, Int.sub_mul_emod_self_left]
theorem sat80 : Sat prog cxT 80 (c80 mEm) := s80 mEm fun x t h => by
  obtain ⟨a, m⟩ := x
  unfold mEm at h
  split at h
  · rename_i hc
    simp only at hc
    cases h
    refine ⟨0, ?_⟩
    unfold g80
    have hb := tmod_in a hc.1
    have e0 : (m == 0) = false := by simp; omega
    simp only [e0, cond_false]
    rw [wi (by omega) (by omega), Int.tmod_eq_emod_of_nonneg (by omega), tmod_add]
  · cases h
theorem sat79 : Sat prog cxT 79 (c79 mEm) := s79 mEm fun x t h => by
  obtain ⟨a, m⟩ := x
  unfold mEm at h
  split at h
  · rename_i hc
    simp only at hc
    cases h
    refine ⟨0, ?_⟩
    unfold g79
    have hb := tmod_in a hc.1
    have e0 : (m == 0) = false := by simp; omega
    have e1 := tmod_add a m
    simp only [e0, cond_false]
    by_cases hs : a.tmod m < 0
    · rw [dt hs, cond_true, wi (by omega) (by omega), ← e1, Int.emod_eq_of_lt (by omega) (by omega)]
    · rw [df hs, cond_false, ← e1, Int.add_emod_right, Int.emod_eq_of_lt (by omega) (by omega)]
  · cases h

/-! MixNumber -/
def stepM (p : Int × Int) : Int × Int := ((p.1 * 131 + p.2 % 256 + 1) % 1000003, p.2 / 256)
def inM (p : Int × Int) : Prop := (0 ≤ p.1 ∧ p.1 < 1000003) ∧ 0 ≤ p.2 ∧ p.2 < 4294967296
theorem stepM_in {p : Int × Int} (h : inM p) : inM (stepM p) := by
  unfold inM stepM at *
  refine ⟨⟨?_, ?_⟩, ?_, ?_⟩ <;> simp only <;> omega
def startM (n salt : Int) : Int × Int := (salt % 10007 + 11, n % 4294967296)
theorem startM_in (n salt : Int) : inM (startM n salt) := by
  unfold inM startM
  refine ⟨⟨?_, ?_⟩, ?_, ?_⟩ <;> simp only <;> omega
def mixI (n salt : Int) : Int := (stepM (stepM (stepM (stepM (startM n salt))))).1
theorem mixI_in (n salt : Int) : 0 ≤ mixI n salt ∧ mixI n salt < 1000003 := (stepM_in (stepM_in (stepM_in (stepM_in (startM_in n salt))))).1
def mMix (x : Int × Int) : Option Int := some (mixI x.1 x.2)
theorem em1 (a : Int) : mEm (a, 10007) = some (a % 10007) := if_pos ⟨by show (0 : Int) < 10007; decide, by show (10007 : Int) ≤ 4294967296; decide⟩
theorem em2 (a : Int) : mEm (a, 4294967296) = some (a % 4294967296) := if_pos ⟨by show (0 : Int) < 4294967296; decide, by show (4294967296 : Int) ≤ 4294967296; decide⟩

theorem round78 (L : Nat) (a b : Int) (n : Nat) {p : Int × Int} (hp : inM p) {i : Int} (hi : 0 ≤ i ∧ i < 4) (k : Int → Option Int) :
    l78_0 mEm L a b (n + 1) p.2 p.1 i k = l78_0 mEm L a b n (stepM p).2 (stepM p).1 (i + 1) k := by
  obtain ⟨h, v⟩ := p
  unfold inM at hp
  simp only at hp
  rw [l78_0, dt hi.2, cond_true, Int.tmod_eq_emod_of_nonneg hp.2.1, Int.tdiv_eq_ediv_of_nonneg hp.2.1]
  simp (disch := omega) only [wi]
  rw [Int.tmod_eq_emod_of_nonneg (by omega)]
  rfl
theorem round77 (L : Nat) (a b : Int) (n : Nat) {p : Int × Int} (hp : inM p) {i : Int} (hi : 0 ≤ i ∧ i < 4) (k : Int → Option Int) :
    l77_0 mEm L a b (n + 1) p.1 p.2 i k = l77_0 mEm L a b n (stepM p).1 (stepM p).2 (i + 1) k := by
  obtain ⟨h, v⟩ := p
  unfold inM at hp
  simp only at hp
  rw [l77_0, dt hi.2, cond_true, Int.tmod_eq_emod_of_nonneg hp.2.1, Int.tdiv_eq_ediv_of_nonneg hp.2.1]
  simp (disch := omega) only [wi]
  rw [Int.tmod_eq_emod_of_nonneg (by omega)]
  rfl
theorem sat78 : Sat prog cxT 78 (c78 mMix) := s78 mEm sat80 mMix fun x t h => by
  obtain ⟨a, s⟩ := x
  cases h
  refine ⟨5, ?_⟩
  unfold g78
  have hs := startM_in a s
  have h1 := stepM_in hs
  have h2 := stepM_in h1
  have h3 := stepM_in h2
  have e := round78 5 a s 4 hs (i := 0) (by decide) (fun w => some w)
  have hw : IntKind.wrap .i64 (s % 10007 + 11) = s % 10007 + 11 := wi (by omega) (by omega)
  simp only [em1, em2, tst_some, Option.isSome_some, Option.getD_some, cond_true, hw]
  refine e.trans ?_
  rw [round78 5 a s 3 h1 (by decide), round78 5 a s 2 h2 (by decide), round78 5 a s 1 h3 (by decide)]
  rfl
theorem sat77 : Sat prog cxT 77 (c77 mMix) := s77 mEm sat79 mMix fun x t h => by
  obtain ⟨a, s⟩ := x
  cases h
  refine ⟨5, ?_⟩
  unfold g77
  have hs := startM_in a s
  have h1 := stepM_in hs
  have h2 := stepM_in h1
  have h3 := stepM_in h2
  have e := round77 5 a s 4 hs (i := 0) (by decide) (fun w => some w)
  have hw : IntKind.wrap .i64 (s % 10007 + 11) = s % 10007 + 11 := wi (by omega) (by omega)
  simp only [em1, em2, tst_some, Option.isSome_some, Option.getD_some, cond_true, hw]
  refine e.trans ?_
  rw [round77 5 a s 3 h1 (by decide), round77 5 a s 2 h2 (by decide), round77 5 a s 1 h3 (by decide)]
  rfl

/-! OffsetOf, SkipOf -/
def isN (a : Int) : Prop := 1 ≤ a ∧ a ≤ 999
instance (a : Int) : Decidable (isN a) := by unfold isN; infer_instance
theorem mNm {a : Int} (h : isN a) : mName a = some true := by unfold mName; rw [dt (c := 1 ≤ a ∧ a ≤ 999) h]
theorem mNx {a : Int} (h : ¬ isN a) : mName a = some false := by unfold mName; rw [df (c := 1 ≤ a ∧ a ≤ 999) h]
def offI (a : Int) : Int := mixI a 3 % 31
def skipI (a : Int) : Int := 1 + mixI a 5 % 30
def mOffI (a : Int) : Option Int := some (offI a)
def mSkipI (a : Int) : Option Int := some (skipI a)
theorem sat75 : Sat prog cxT 75 (c75 mOffI) := s75 mMix sat78 mOffI fun x t h => by
  cases h
  refine ⟨0, ?_⟩
  unfold g75
  simp only [mMix, tst_some, Option.isSome_some, Option.getD_some, cond_true]
  rw [Int.tmod_eq_emod_of_nonneg (mixI_in x 3).1]
  rfl
theorem sat76 : Sat prog cxT 76 (c76 mSkipI) := s76 mMix sat78 mSkipI fun x t h => by
  cases h
  refine ⟨0, ?_⟩
  have hb := mixI_in x 5
  unfold g76
  simp only [mMix, tst_some, Option.isSome_some, Option.getD_some, cond_true]
  rw [Int.tmod_eq_emod_of_nonneg hb.1, wi (by omega) (by omega)]
  rfl
def mOff (a : Int) : Option (Int × Int) := some (if isN a then (0, offI a) else (3, 0))
def mSkip (a : Int) : Option (Int × Int) := some (if isN a then (0, skipI a) else (3, 0))
theorem sat72 : Sat prog cxT 72 (c72 mOff) := s72 mName mMix sat56 sat77 mOff fun x t h => by
  cases h
  refine ⟨0, ?_⟩
  unfold g72
  by_cases hn : isN x
  · simp only [mNm hn, mMix, if_pos hn, tst_some, Option.isSome_some, Option.getD_some, cond_true, cond_false, Bool.not_true]
    rw [Int.tmod_eq_emod_of_nonneg (mixI_in x 3).1]
    rfl
  · simp only [mNx hn, if_neg hn, tst_some, Option.isSome_some, Option.getD_some, cond_true, Bool.not_false]
theorem sat73 : Sat prog cxT 73 (c73 mSkip) := s73 mName mMix sat56 sat77 mSkip fun x t h => by
  cases h
  refine ⟨0, ?_⟩
  have hb := mixI_in x 5
  unfold g73
  by_cases hn : isN x
  · simp only [mNm hn, mMix, if_pos hn, tst_some, Option.isSome_some, Option.getD_some, cond_true, cond_false, Bool.not_true]
    rw [Int.tmod_eq_emod_of_nonneg hb.1, wi (by omega) (by omega)]
    rfl
  · simp only [mNx hn, if_neg hn, tst_some, Option.isSome_some, Option.getD_some, cond_true, Bool.not_false]
theorem mName_eq (a : Int) : mName a = some (decide (isN a)) := rfl
end Go.Proofs.Try
