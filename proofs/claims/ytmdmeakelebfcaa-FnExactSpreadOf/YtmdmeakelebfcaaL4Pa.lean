/- A part of the proof of FnExactSpreadOf: L4Pa. -/
import Derived.Test.YtmdmeakelebfcaaVmOpen
import Derived.Test.YtmdmeakelebfcaaVmPu
import Derived.Test.YtmdmeakelebfcaaL4Fa
import Derived.Test.YtmdmeakelebfcaaL4Fb
import Derived.Test.YtmdmeakelebfcaaL4Fc
set_option maxHeartbeats 0
set_option linter.unusedVariables false
set_option linter.unusedSimpArgs false
namespace Go.Proofs.Try
open Go Go.VM Go.RowKit

/-! Rows of numbers -/
def m33 (a : List Int) : Option (List Int) := if a.length ≤ 1000000000 then some a else none
theorem p33 (L : Nat) (a : List Int) (ha : a.length ≤ 1000000000) (k : List Int → Option (List Int)) : ∀ (n i : Nat) (o : List Int), o.length = a.length → i ≤ a.length → a.length < n + i → o.take i = a.take i → l33_0 L a n o i k = k a
  | 0, i, o, _, h2, h3, _ => by omega
  | n + 1, i, o, h1, h2, h3, h4 => by
    unfold l33_0
    by_cases hi : i < a.length
    · simp (disch := omega) only [dt, df, wi, cond_true, Bool.and_self, Int.toNat_natCast]
      have := p33 L a ha k n (i + 1) (o.set i (a.getD i 0)) (by rw [List.length_set]; exact h1) (by omega) (by omega) (by
        rw [List.take_add_one, List.take_add_one, List.take_set_of_le (Nat.le_refl _), h4]
        congr 1
        rw [List.getElem?_set_self (by omega), List.getElem?_eq_getElem hi]
        simp [List.getD, List.getElem?_eq_getElem hi])
      simpa using this
    · simp (disch := omega) only [dt, df, cond_false]
      have hil : i = a.length := by omega
      rw [hil, List.take_length, ← h1, List.take_length] at h4
      rw [h4]
theorem sat33 : Sat prog cxT 33 (c33 m33) := s33 m33 fun x t h => by
  unfold m33 at h
  split at h
  · rename_i ha
    cases h
    refine ⟨x.length + 1, ?_⟩
    unfold g33
    simp (disch := omega) only [dt, cond_true, Bool.and_self, Int.toNat_natCast]
    exact p33 _ x ha _ _ 0 _ (by simp) (by omega) (by omega) rfl
  · cases h
def m34 (x : List Int × List Int) : Option Bool := if x.1.length ≤ 1000000000000 ∧ x.2.length ≤ 1000000000000 then some (decide (x.1 = x.2)) else none
theorem p34 (L : Nat) (a b : List Int) (hl : a.length = b.length) (ha : a.length ≤ 1000000000000) (k : Option Bool) : ∀ (n i : Nat), i ≤ a.length → a.length < n + i →
    l34_0 L a b n i k = if a.drop i = b.drop i then k else some false
  | 0, i, h2, h3 => by omega
  | n + 1, i, h2, h3 => by
    unfold l34_0
    by_cases hi : i < a.length
    · simp (disch := omega) only [dt, df, wi, cond_true, Bool.and_self, Int.toNat_natCast]
      rw [drop_cons 0 hi, drop_cons 0 (show i < b.length by omega)]
      have := p34 L a b hl ha k n (i + 1) (by omega) (by omega)
      simp only [Int.natCast_add, Int.cast_ofNat_Int] at this
      rw [this]
      by_cases hx : a.getD i 0 = b.getD i 0
      · rw [hx]; simp
      · have h2 : (a.getD i 0 != b.getD i 0) = true := by simpa using hx
        rw [h2, if_neg (fun h => hx (List.cons.inj h).1)]
        rfl
    · simp (disch := omega) only [df, cond_false]
      rw [List.drop_eq_nil_of_le (by omega), List.drop_eq_nil_of_le (by omega)]
      simp
theorem sat34 : Sat prog cxT 34 (c34 m34) := s34 m34 fun x t h => by
  unfold m34 at h
  split at h
  · rename_i ha
    cases h
    refine ⟨x.1.length + 1, ?_⟩
    unfold g34
    by_cases hl : x.1.length = x.2.length
    · have e1 : ((Nat.cast x.1.length : Int) != (Nat.cast x.2.length : Int)) = false := by simp [hl]
      have := p34 (x.1.length + 1) x.1 x.2 hl ha.1 (some true) (x.1.length + 1) 0 (by omega) (by omega)
      rw [e1]
      simp only [cond_false]
      refine this.trans ?_
      simp only [List.drop_zero]
      split <;> simp [*]
    · have e1 : ((Nat.cast x.1.length : Int) != (Nat.cast x.2.length : Int)) = true := by simp; omega
      rw [e1]
      have : x.1 ≠ x.2 := fun h => hl (by rw [h])
      simp [this]
  · cases h
theorem m34_self {a : List Int} (h : a.length ≤ 1000000000000) : m34 (a, a) = some true := (if_pos ⟨h, h⟩).trans (by simp)

/-! CountOf -/
def cnt (a : List Int) (x : Int) : Nat := a.count x
theorem cnt_cons (y : Int) (a : List Int) (x : Int) : cnt (y :: a) x = cnt a x + (if y = x then 1 else 0) := by
  unfold cnt; rw [List.count_cons]; simp
theorem cnt_le (a : List Int) (x : Int) : cnt a x ≤ a.length := List.count_le_length
def mCnt (x : List Int × Int) : Option Int := if x.1.length ≤ 1000000000000 then some (cnt x.1 x.2 : Int) else none
theorem p17 (L : Nat) (a : List Int) (x : Int) (ha : a.length ≤ 1000000000000) (k : Int → Option Int) : ∀ (n i c : Nat), c ≤ i → i ≤ a.length → a.length < n + i →
    l17_0 L a x n (c : Int) (i : Int) k = k ((c + cnt (a.drop i) x : Nat) : Int)
  | 0, i, c, _, h2, h3 => by omega
  | n + 1, i, c, h1, h2, h3 => by
    unfold l17_0
    by_cases hi : i < a.length
    · simp (disch := omega) only [dt, df, wi, cond_true, Bool.and_self, Int.toNat_natCast]
      rw [drop_cons 0 hi, cnt_cons]
      have e1 : (c : Int) + 1 = ((c + 1 : Nat) : Int) := rfl
      have e2 : (i : Int) + 1 = ((i + 1 : Nat) : Int) := rfl
      rw [e1, e2]
      by_cases hx : a.getD i 0 = x
      · rw [beq_iff_eq.2 hx, cond_true, p17 L a x ha k n (i + 1) (c + 1) (by omega) (by omega) (by omega), if_pos hx]
        congr 2; omega
      · rw [beq_eq_false_iff_ne.2 hx, cond_false, p17 L a x ha k n (i + 1) c (by omega) (by omega) (by omega), if_neg hx]
        rfl
    · simp (disch := omega) only [df, cond_false]
      rw [List.drop_eq_nil_of_le (by omega)]
      rfl
theorem sat17 : Sat prog cxT 17 (c17 mCnt) := s17 mCnt fun x t h => by
  unfold mCnt at h
  split at h
  · rename_i ha
    cases h
    refine ⟨x.1.length + 1, ?_⟩
    unfold g17
    have := p17 (x.1.length + 1) x.1 x.2 ha (fun w => some w) (x.1.length + 1) 0 0 (Nat.le_refl _) (by omega) (by omega)
    simpa using this
  · cases h
theorem p32 (L : Nat) (a : List Int) (x : Int) (ha : a.length ≤ 1000000000000) (k : Int → Option Int) : ∀ (n i c : Nat), c ≤ i → i ≤ a.length → a.length < n + i →
    l32_0 L a x n (c : Int) (i : Int) k = k ((c + cnt (a.drop i) x : Nat) : Int)
  | 0, i, c, _, h2, h3 => by omega
  | n + 1, i, c, h1, h2, h3 => by
    unfold l32_0
    by_cases hi : i < a.length
    · simp (disch := omega) only [dt, df, wi, cond_true, Bool.and_self, Int.toNat_natCast]
      rw [drop_cons 0 hi, cnt_cons]
      have e1 : (c : Int) + 1 = ((c + 1 : Nat) : Int) := rfl
      have e2 : (i : Int) + 1 = ((i + 1 : Nat) : Int) := rfl
      rw [e1, e2]
      by_cases hx : a.getD i 0 = x
      · rw [beq_iff_eq.2 hx, cond_true, p32 L a x ha k n (i + 1) (c + 1) (by omega) (by omega) (by omega), if_pos hx]
        congr 2; omega
      · rw [beq_eq_false_iff_ne.2 hx, cond_false, p32 L a x ha k n (i + 1) c (by omega) (by omega) (by omega), if_neg hx]
        rfl
    · simp (disch := omega) only [df, cond_false]
      rw [List.drop_eq_nil_of_le (by omega)]
      rfl
theorem sat32 : Sat prog cxT 32 (c32 mCnt) := s32 mCnt fun x t h => by
  unfold mCnt at h
  split at h
  · rename_i ha
    cases h
    refine ⟨x.1.length + 1, ?_⟩
    unfold g32
    have := p32 (x.1.length + 1) x.1 x.2 ha (fun w => some w) (x.1.length + 1) 0 0 (Nat.le_refl _) (by omega) (by omega)
    simpa using this
  · cases h

/-! FnExactCountOf -/
def m7 (x : List Int × Int) : Option Bool := some true
theorem sat7 : Sat prog cxT 7 (c7 m7) := s7 m33 mCnt mCnt m34 sat33 sat32 sat17 sat34 m7 fun x t h => by
  obtain ⟨a, y⟩ := x
  · cases h
    refine ⟨0, ?_⟩
    show g7 m33 mCnt mCnt m34 0 a y = some true
    unfold g7
    by_cases hl : a.length > 1048576
    · rw [dt (by omega)]; rfl
    · have e33 : m33 a = some a := if_pos (by omega)
      have ha : a.length ≤ 1000000000000 := by omega
      have e17 : mCnt (a, y) = some (cnt a y : Int) := if_pos ha
      rw [df (by omega)]
      simp only [cond_false, e33, e17, m34_self ha, tst_some, bneF, Bool.not_true]

/-! LookTable -/
def mLen (a : List Int) : Option Int := some (if a.length = 31 then 0 else 1)
theorem sat47 : Sat prog cxT 47 (c47 mLen) := s47 mLen fun x t h => by
  cases h
  refine ⟨0, ?_⟩
  unfold g47
  by_cases h1 : x.length = 31
  · rw [bneF (by omega), if_pos h1]; rfl
  · rw [bneT (by omega), if_neg h1]; rfl
def look (a : List Int) (h : Int) : Int × Int :=
  if a.length = 31 then (if h < 0 then (3, 0) else if a.getD (h % 31).toNat 0 = 0 then (4, 0) else (0, a.getD (h % 31).toNat 0)) else (1, 0)
def mLook (x : List Int × Int) : Option (Int × Int) := some (look x.1 x.2)
theorem sat22 : Sat prog cxT 22 (c22 mLook) := s22 mLen sat47 mLook fun x t h => by
  obtain ⟨a, y⟩ := x
  cases h
  refine ⟨0, ?_⟩
  show g22 mLen 0 a y = some (look a y)
  unfold g22 mLen look
  simp only [tst_some]
  by_cases h1 : a.length = 31
  · rw [if_pos h1, if_pos h1, bneF rfl, cond_false]
    by_cases h2 : y < 0
    · rw [dt h2, if_pos h2]; rfl
    · rw [df h2, if_neg h2, cond_false, Int.tmod_eq_emod_of_nonneg (by omega), dt (by omega), dt (by omega)]
      simp only [Bool.and_self, cond_true]
      by_cases h3 : a.getD (y % 31).toNat 0 = 0
      · rw [beq_iff_eq.2 h3, if_pos h3]; rfl
      · rw [beq_eq_false_iff_ne.2 h3, if_neg h3]; rfl
  · rw [if_neg h1, if_neg h1]; rfl
theorem sat37 : Sat prog cxT 37 (c37 mLook) := s37 mLook fun x t h => by
  obtain ⟨a, y⟩ := x
  cases h
  refine ⟨0, ?_⟩
  show g37 0 a y = some (look a y)
  unfold g37 look
  by_cases h1 : a.length = 31
  · rw [if_pos h1, bneF (by omega), cond_false]
    by_cases h2 : y < 0
    · rw [dt h2, if_pos h2]; rfl
    · rw [df h2, if_neg h2, cond_false, Int.tmod_eq_emod_of_nonneg (by omega), dt (by omega), dt (by omega)]
      simp only [Bool.and_self, cond_true]
      by_cases h3 : a.getD (y % 31).toNat 0 = 0
      · rw [beq_iff_eq.2 h3, if_pos h3]; rfl
      · rw [beq_eq_false_iff_ne.2 h3, if_neg h3]; rfl
  · rw [if_neg h1, bneT (by omega)]; rfl
def m38 (x : (Int × Int) × (Int × Int)) : Option Bool := some (decide (x.1 = x.2))
theorem sat38 : Sat prog cxT 38 (c38 m38) := s38 m38 fun x t h => by
  obtain ⟨⟨a, b⟩, c, d⟩ := x
  cases h
  refine ⟨0, ?_⟩
  show g38 0 a b c d = some (decide ((a, b) = (c, d)))
  unfold g38
  by_cases h1 : a = c
  · subst h1
    rw [bneF rfl, cond_false]
    by_cases h2 : b = d
    · subst h2
      rw [bneF rfl]; simp
    · rw [bneT h2]; simp [h2]
  · rw [bneT h1]; simp [h1]
theorem m38_self (x : Int × Int) : m38 (x, x) = some true := by unfold m38; simp
theorem sat9 : Sat prog cxT 9 (c9 m7) := s9 m33 mLook mLook m38 m34 sat33 sat37 sat22 sat38 sat34 m7 fun x t h => by
  obtain ⟨a, y⟩ := x
  · cases h
    refine ⟨0, ?_⟩
    show g9 m33 mLook mLook m38 m34 0 a y = some true
    unfold g9
    by_cases hl : a.length > 1048576
    · rw [dt (by omega)]; rfl
    · have e33 : m33 a = some a := if_pos (by omega)
      have ha : a.length ≤ 1000000000000 := by omega
      have e17 : mLook (a, y) = some (look a y) := rfl
      rw [df (by omega)]
      simp only [cond_false, e33, e17, m34_self ha, tst_some, m38_self, Bool.not_true]

/-! MovedOf -/
def mvd : List Int → List Int → Nat
  | x :: a, y :: b => mvd a b + (if x = y then 0 else 1)
  | _, _ => 0
theorem mvd_le : ∀ a b, mvd a b ≤ a.length
  | [], _ => by simp [mvd]
  | _ :: _, [] => by simp [mvd]
  | x :: a, y :: b => by
    have := mvd_le a b
    simp only [mvd, List.length_cons]
    split <;> omega
def moved (a b : List Int) : Int × Int := if a.length = 31 ∧ b.length = 31 then (0, (mvd a b : Int)) else (1, 0)
def mMoved (x : List Int × List Int) : Option (Int × Int) := some (moved x.1 x.2)
theorem p21 (L : Nat) (a b : List Int) (z1 z2 : Int) (ha : a.length = 31) (hb : b.length = 31) (k : Int → Int → Int → Option (Int × Int)) : ∀ (n i c : Nat), c ≤ i → i ≤ a.length → a.length < n + i →
    l21_0 mLen L a b n z1 z2 (c : Int) (i : Int) k = k z1 z2 ((c + mvd (a.drop i) (b.drop i) : Nat) : Int)
  | 0, i, c, _, h2, h3 => by omega
  | n + 1, i, c, h1, h2, h3 => by
    unfold l21_0
    by_cases hi : i < a.length
    · simp (disch := omega) only [dt, df, wi, cond_true, Bool.and_self, Int.toNat_natCast]
      rw [drop_cons 0 hi, drop_cons 0 (show i < b.length by omega)]
      simp only [mvd]
      have e1 : (c : Int) + 1 = ((c + 1 : Nat) : Int) := rfl
      have e2 : (i : Int) + 1 = ((i + 1 : Nat) : Int) := rfl
      rw [e1, e2]
      by_cases hx : a.getD i 0 = b.getD i 0
      · rw [bneF hx.symm, cond_false, p21 L a b z1 z2 ha hb k n (i + 1) c (by omega) (by omega) (by omega), if_pos hx]
        rfl
      · rw [bneT (fun h => hx h.symm), cond_true, p21 L a b z1 z2 ha hb k n (i + 1) (c + 1) (by omega) (by omega) (by omega), if_neg hx]
        congr 2; omega
    · simp (disch := omega) only [df, cond_false]
      rw [List.drop_eq_nil_of_le (by omega)]
      rfl
theorem sat21 : Sat prog cxT 21 (c21 mMoved) := s21 mLen sat47 mMoved fun x t h => by
  obtain ⟨a, b⟩ := x
  cases h
  refine ⟨32, ?_⟩
  show g21 mLen 32 a b = some (moved a b)
  unfold g21
  rw [show mLen a = some (if a.length = 31 then 0 else 1) from rfl, show mLen b = some (if b.length = 31 then 0 else 1) from rfl]
  simp only [tst_some]
  unfold moved
  by_cases h1 : a.length = 31
  · rw [if_pos h1, bneF rfl, cond_false]
    by_cases h2 : b.length = 31
    · rw [if_pos h2, bneF rfl, cond_false, if_pos ⟨h1, h2⟩]
      have := p21 32 a b 0 0 h1 h2 (fun _ _ w => some ((0 : Int), w)) 32 0 0 (Nat.le_refl _) (by omega) (by omega)
      simpa using this
    · rw [if_neg h2, bneT (by decide), cond_true, if_neg (fun h : a.length = 31 ∧ b.length = 31 => h2 h.2)]
  · rw [if_neg h1, bneT (by decide), cond_true, if_neg (fun h : a.length = 31 ∧ b.length = 31 => h1 h.1)]
theorem p39 (L : Nat) (a b : List Int) (z1 z2 : Int) (ha : a.length = 31) (hb : b.length = 31) (k : Int → Int → Int → Option (Int × Int)) : ∀ (n i c : Nat), c ≤ i → i ≤ a.length → a.length < n + i →
    l39_0 L a b n z1 z2 (c : Int) (i : Int) k = k z1 z2 ((c + mvd (a.drop i) (b.drop i) : Nat) : Int)
  | 0, i, c, _, h2, h3 => by omega
  | n + 1, i, c, h1, h2, h3 => by
    unfold l39_0
    by_cases hi : i < a.length
    · simp (disch := omega) only [dt, df, wi, cond_true, Bool.and_self, Int.toNat_natCast]
      rw [drop_cons 0 hi, drop_cons 0 (show i < b.length by omega)]
      simp only [mvd]
      have e1 : (c : Int) + 1 = ((c + 1 : Nat) : Int) := rfl
      have e2 : (i : Int) + 1 = ((i + 1 : Nat) : Int) := rfl
      rw [e1, e2]
      by_cases hx : a.getD i 0 = b.getD i 0
      · rw [bneF hx, cond_false, p39 L a b z1 z2 ha hb k n (i + 1) c (by omega) (by omega) (by omega), if_pos hx]
        rfl
      · rw [bneT hx, cond_true, p39 L a b z1 z2 ha hb k n (i + 1) (c + 1) (by omega) (by omega) (by omega), if_neg hx]
        congr 2; omega
    · simp (disch := omega) only [df, cond_false]
      rw [List.drop_eq_nil_of_le (by omega)]
      rfl
theorem sat39 : Sat prog cxT 39 (c39 mMoved) := s39 mMoved fun x t h => by
  obtain ⟨a, b⟩ := x
  cases h
  refine ⟨32, ?_⟩
  show g39 32 a b = some (moved a b)
  unfold g39 moved
  by_cases h1 : a.length = 31
  · rw [bneF (by omega), cond_false]
    by_cases h2 : b.length = 31
    · rw [bneF (by omega), cond_false, if_pos ⟨h1, h2⟩]
      have := p39 32 a b 0 0 h1 h2 (fun _ _ w => some ((0 : Int), w)) 32 0 0 (Nat.le_refl _) (by omega) (by omega)
      simpa using this
    · rw [bneT (by omega), if_neg (fun h => h2 h.2)]; rfl
  · rw [bneT (by omega), if_neg (fun h => h1 h.1)]; rfl
def m10 (x : List Int × List Int) : Option Bool := some true
theorem sat10 : Sat prog cxT 10 (c10 m10) := s10 m33 mMoved mMoved m38 m34 sat33 sat39 sat21 sat38 sat34 m10 fun x t h => by
  obtain ⟨a, b⟩ := x
  · cases h
    refine ⟨0, ?_⟩
    show g10 m33 mMoved mMoved m38 m34 0 a b = some true
    unfold g10
    by_cases hl : a.length > 1048576
    · rw [dt (by omega)]; rfl
    · by_cases hl2 : b.length > 1048576
      · rw [df (by omega), dt (by omega)]; rfl
      · have e33 : m33 a = some a := if_pos (by omega)
        have e33' : m33 b = some b := if_pos (by omega)
        have ha : a.length ≤ 1000000000000 := by omega
        have hb : b.length ≤ 1000000000000 := by omega
        have e17 : mMoved (a, b) = some (moved a b) := rfl
        rw [df (by omega), df (by omega)]
        simp only [cond_false, e33, e33', e17, m34_self ha, m34_self hb, tst_some, m38_self, Bool.not_true]
end Go.Proofs.Try
