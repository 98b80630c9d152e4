/- A part of the proof of FnExactSpreadOf: L4Pc. -/
import Derived.Test.YtmdmeakelebfcaaL4Pb
set_option maxHeartbeats 0
set_option linter.unusedVariables false
set_option linter.unusedSimpArgs false
namespace Go.Proofs.Try
open Go Go.VM Go.RowKit

/-! SpreadOf -/
def cts (t : List Int) : List Sh → List Int
  | [] => []
  | s :: r => if s.2 > 0 then (cnt t s.1 : Int) :: cts t r else cts t r
theorem cts_cons (t : List Int) (s : Sh) (r : List Sh) : cts t (s :: r) = if s.2 > 0 then (cnt t s.1 : Int) :: cts t r else cts t r := rfl
theorem cts_len (t : List Int) : ∀ l, (cts t l).length ≤ l.length
  | [] => Nat.le_refl _
  | s :: r => by
    have := cts_len t r
    rw [cts_cons]
    split <;> simp only [List.length_cons] <;> omega
def mCts (x : List Int × List Sh) : Option (List Int) := if x.1.length ≤ 1000000000000 ∧ x.2.length ≤ 1000000 then some (cts x.1 x.2) else none
theorem p48 (L : Nat) (t : List Int) (l : List Sh) (ht : t.length ≤ 1000000000000) (hl : l.length ≤ 1000000) (k : List Int → Option (List Int)) : ∀ (n i : Nat) (v : List Int), v.length ≤ i → i ≤ l.length → l.length < n + i →
    l48_0 mCnt L t l n v (i : Int) k = k (v ++ cts t (l.drop i))
  | 0, i, v, _, h2, h3 => by omega
  | n + 1, i, v, hv, h2, h3 => by
    unfold l48_0
    by_cases hi : i < l.length
    · rw [Int.toNat_natCast]
      have e1 : mCnt (t, (l.getD i (0, 0)).1) = some (cnt t (l.getD i (0, 0)).1 : Int) := if_pos ht
      have e2 : (i : Int) + 1 = ((i + 1 : Nat) : Int) := rfl
      simp (disch := omega) only [dt, wi, cond_true, Bool.and_self, e1, tst_some]
      rw [e2, drop_cons (0, 0) hi, cts_cons]
      by_cases hw : (l.getD i (0, 0)).2 > 0
      · rw [dt hw, if_pos hw, cond_true, dt (by simp only [List.length_cons, List.length_nil]; omega), cond_true]
        rw [p48 L t l ht hl k n (i + 1) _ (by simp; omega) (by omega) (by omega)]
        simp
      · rw [df hw, if_neg hw, cond_false, p48 L t l ht hl k n (i + 1) v (by omega) (by omega) (by omega)]
    · simp (disch := omega) only [df, cond_false]
      rw [List.drop_eq_nil_of_le (by omega)]
      simp [cts]
theorem sat48 : Sat prog cxT 48 (c48 mCts) := s48 mCnt sat17 mCts fun x t h => by
  unfold mCts at h
  split at h
  · rename_i ha
    cases h
    refine ⟨x.2.length + 1, ?_⟩
    unfold g48
    exact p48 _ x.1 x.2 ha.1 ha.2 (fun w => some w) _ 0 [] (Nat.le_refl _) (by omega) (by omega)
  · cases h
def mn : Int → List Int → Int
  | m, [] => m
  | m, x :: r => mn (if x < m then x else m) r
def mx : Int → List Int → Int
  | m, [] => m
  | m, x :: r => mx (if x > m then x else m) r
def mMn (a : List Int) : Option Int := if a.length ≤ 1000000000000 then (match a with | [] => none | x :: r => some (mn x r)) else none
def mMx (a : List Int) : Option Int := if a.length ≤ 1000000000000 then (match a with | [] => none | x :: r => some (mx x r)) else none
theorem p49 (L : Nat) (a : List Int) (ha : a.length ≤ 1000000000000) (k : Int → Option Int) : ∀ (n i : Nat) (m : Int), i ≤ a.length → a.length < n + i →
    l49_0 L a n m (i : Int) k = k (mn m (a.drop i))
  | 0, i, m, h2, h3 => by omega
  | n + 1, i, m, h2, h3 => by
    unfold l49_0
    by_cases hi : i < a.length
    · rw [Int.toNat_natCast]
      simp (disch := omega) only [dt, wi, cond_true, Bool.and_self]
      have e2 : (i : Int) + 1 = ((i + 1 : Nat) : Int) := rfl
      rw [e2, p49 L a ha k n (i + 1) _ (by omega) (by omega), drop_cons 0 hi]
      rfl
    · simp (disch := omega) only [df, cond_false]
      rw [List.drop_eq_nil_of_le (by omega)]
      rfl
theorem sat49 : Sat prog cxT 49 (c49 mMn) := s49 mMn fun a t h => by
  unfold mMn at h
  split at h
  · rename_i ha
    split at h
    · cases h
    · rename_i x r
      cases h
      refine ⟨(x :: r).length + 1, ?_⟩
      unfold g49
      rw [df (by simp only [List.length_cons]; omega), cond_false, dt (by omega), dt (by simp only [List.length_cons]; omega)]
      exact p49 _ (x :: r) ha (fun w => some w) _ 1 x (by simp) (by omega)
  · cases h
theorem p50 (L : Nat) (a : List Int) (ha : a.length ≤ 1000000000000) (k : Int → Option Int) : ∀ (n i : Nat) (m : Int), i ≤ a.length → a.length < n + i →
    l50_0 L a n m (i : Int) k = k (mx m (a.drop i))
  | 0, i, m, h2, h3 => by omega
  | n + 1, i, m, h2, h3 => by
    unfold l50_0
    by_cases hi : i < a.length
    · rw [Int.toNat_natCast]
      simp (disch := omega) only [dt, wi, cond_true, Bool.and_self]
      have e2 : (i : Int) + 1 = ((i + 1 : Nat) : Int) := rfl
      rw [e2, p50 L a ha k n (i + 1) _ (by omega) (by omega), drop_cons 0 hi]
      rfl
    · simp (disch := omega) only [df, cond_false]
      rw [List.drop_eq_nil_of_le (by omega)]
      rfl
theorem sat50 : Sat prog cxT 50 (c50 mMx) := s50 mMx fun a t h => by
  unfold mMx at h
  split at h
  · rename_i ha
    split at h
    · cases h
    · rename_i x r
      cases h
      refine ⟨(x :: r).length + 1, ?_⟩
      unfold g50
      rw [df (by simp only [List.length_cons]; omega), cond_false, dt (by omega), dt (by simp only [List.length_cons]; omega)]
      exact p50 _ (x :: r) ha (fun w => some w) _ 1 x (by simp) (by omega)
  · cases h
def spr (t : List Int) (l : List Sh) : Int × Int × Int × Int :=
  if t.length = 31 then (if sf l = 0 then (match cts t l with | [] => (0, 0, 0, (cnt t 0 : Int)) | c :: r => (0, mn c r, mx c r, (cnt t 0 : Int))) else (sf l, 0, 0, 0)) else (1, 0, 0, 0)
def mSpr (x : List Int × List Sh) : Option (Int × Int × Int × Int) := some (spr x.1 x.2)
theorem sat16 : Sat prog cxT 16 (c16 mSpr) := s16 mLen mSf mCnt mCts mMn mMx sat47 sat26 sat17 sat48 sat49 sat50 mSpr fun x t h => by
  obtain ⟨t, l⟩ := x
  cases h
  refine ⟨0, ?_⟩
  show g16 mLen mSf mCnt mCts mMn mMx 0 t l = some (spr t l)
  unfold g16 spr
  rw [show mLen t = some (if t.length = 31 then 0 else 1) from rfl, tst_some]
  by_cases h1 : t.length = 31
  · rw [if_pos h1, if_pos h1, bneF rfl, cond_false, show mSf l = some (sf l) from rfl, tst_some]
    by_cases h2 : sf l = 0
    · have h8 := sf_len h2
      have e17 : mCnt (t, 0) = some (cnt t 0 : Int) := if_pos (show t.length ≤ 1000000000000 by omega)
      have e48 : mCts (t, l) = some (cts t l) := if_pos ⟨show t.length ≤ 1000000000000 by omega, show l.length ≤ 1000000 by omega⟩
      rw [bneF h2, cond_false, if_pos h2, e17, tst_some, e48, tst_some]
      have hc := cts_len t l
      cases hcc : cts t l with
      | nil => rfl
      | cons c r =>
        rw [hcc] at hc
        have e49 : mMn (c :: r) = some (mn c r) := if_pos (by omega)
        have e50 : mMx (c :: r) = some (mx c r) := if_pos (by omega)
        rw [dt (by simp only [List.length_cons]; omega), cond_true, e49, tst_some, e50, tst_some]
    · rw [bneT h2, cond_true, if_neg h2]
  · rw [if_neg h1, if_neg h1]; rfl

def mMin (x : Int × Int) : Option Int := some (if x.1 < x.2 then x.1 else x.2)
theorem sat61 : Sat prog cxT 61 (c61 mMin) := s61 mMin fun x t h => by
  cases h
  refine ⟨0, ?_⟩
  unfold g61
  by_cases h1 : x.1 < x.2
  · rw [dt h1, if_pos h1]; rfl
  · rw [df h1, if_neg h1]; rfl
def mMax (x : Int × Int) : Option Int := some (if x.1 > x.2 then x.1 else x.2)
theorem sat62 : Sat prog cxT 62 (c62 mMax) := s62 mMax fun x t h => by
  cases h
  refine ⟨0, ?_⟩
  unfold g62
  by_cases h1 : x.1 > x.2
  · rw [dt h1, if_pos h1]; rfl
  · rw [df h1, if_neg h1]; rfl
theorem min_eq (a b : Int) : (if a < b then a else b) = if b < a then b else a := by split <;> split <;> omega
theorem max_eq (a b : Int) : (if a > b then a else b) = if b > a then b else a := by split <;> split <;> omega
theorem mMin_self (a : Int) : mMin (a, a) = some a := by unfold mMin; simp
theorem mMax_self (a : Int) : mMax (a, a) = some a := by unfold mMax; simp
theorem mMin_eq (a b : Int) : mMin (a, b) = some (if b < a then b else a) := congrArg some (min_eq a b)
theorem mMax_eq (a b : Int) : mMax (a, b) = some (if b > a then b else a) := congrArg some (max_eq a b)
theorem p35f (L : Nat) (t : List Int) (l : List Sh) (ht : t.length = 31) (hl : l.length ≤ 8) (hw : ∀ s ∈ l, 0 ≤ s.2) (z0 z1 z2 z3 y0 y3 : Int) (k : Int → Int → Int → Int → Int → Int → Int → Int → Option (Int × Int × Int × Int)) : ∀ (n i : Nat) (a b : Int), i ≤ l.length → l.length < n + i →
    l35_0 mSf mCnt mMin mMax L t l n z0 z1 z2 z3 y0 a b y3 false (i : Int) k = k z0 z1 z2 z3 y0 (mn a (cts t (l.drop i))) (mx b (cts t (l.drop i))) y3
  | 0, i, a, b, h2, h3 => by omega
  | n + 1, i, a, b, h2, h3 => by
    unfold l35_0
    by_cases hi : i < l.length
    · rw [Int.toNat_natCast]
      have e1 : mCnt (t, (l.getD i (0, 0)).1) = some (cnt t (l.getD i (0, 0)).1 : Int) := if_pos (show t.length ≤ 1000000000000 by omega)
      have e2 : (i : Int) + 1 = ((i + 1 : Nat) : Int) := rfl
      have h0 : 0 ≤ (l.getD i (0, 0)).2 := hw _ (by simp only [List.getD, List.getElem?_eq_getElem hi, Option.getD_some]; exact List.getElem_mem hi)
      simp (disch := omega) only [dt, wi, cond_true, cond_false, Bool.and_self, e1, tst_some, mMin_eq, mMax_eq]
      rw [e2, drop_cons (0, 0) hi, cts_cons]
      by_cases hz : (l.getD i (0, 0)).2 = 0
      · rw [beq_iff_eq.2 hz, cond_true, if_neg (show ¬ (l.getD i (0, 0)).2 > 0 by omega), p35f L t l ht hl hw z0 z1 z2 z3 y0 y3 k n (i + 1) a b (by omega) (by omega)]
      · rw [beq_eq_false_iff_ne.2 hz, cond_false, if_pos (show (l.getD i (0, 0)).2 > 0 by omega), p35f L t l ht hl hw z0 z1 z2 z3 y0 y3 k n (i + 1) _ _ (by omega) (by omega)]
        rfl
    · simp (disch := omega) only [df, cond_false]
      rw [List.drop_eq_nil_of_le (by omega)]
      rfl
theorem p35t (L : Nat) (t : List Int) (l : List Sh) (ht : t.length = 31) (hl : l.length ≤ 8) (hw : ∀ s ∈ l, 0 ≤ s.2) (z0 z1 z2 z3 y0 y3 : Int) (k : Int → Int → Int → Int → Int → Int → Int → Int → Option (Int × Int × Int × Int)) : ∀ (n i : Nat) (a b : Int), i ≤ l.length → l.length < n + i →
    l35_0 mSf mCnt mMin mMax L t l n z0 z1 z2 z3 y0 a b y3 true (i : Int) k = match cts t (l.drop i) with | [] => k z0 z1 z2 z3 y0 a b y3 | c :: r => k z0 z1 z2 z3 y0 (mn c r) (mx c r) y3
  | 0, i, a, b, h2, h3 => by omega
  | n + 1, i, a, b, h2, h3 => by
    unfold l35_0
    by_cases hi : i < l.length
    · rw [Int.toNat_natCast]
      have e1 : mCnt (t, (l.getD i (0, 0)).1) = some (cnt t (l.getD i (0, 0)).1 : Int) := if_pos (show t.length ≤ 1000000000000 by omega)
      have e2 : (i : Int) + 1 = ((i + 1 : Nat) : Int) := rfl
      have h0 : 0 ≤ (l.getD i (0, 0)).2 := hw _ (by simp only [List.getD, List.getElem?_eq_getElem hi, Option.getD_some]; exact List.getElem_mem hi)
      simp (disch := omega) only [dt, wi, cond_true, cond_false, Bool.and_self, e1, tst_some, mMin_self, mMax_self]
      rw [e2, drop_cons (0, 0) hi, cts_cons]
      by_cases hz : (l.getD i (0, 0)).2 = 0
      · rw [beq_iff_eq.2 hz, cond_true, if_neg (show ¬ (l.getD i (0, 0)).2 > 0 by omega), p35t L t l ht hl hw z0 z1 z2 z3 y0 y3 k n (i + 1) a b (by omega) (by omega)]
      · rw [beq_eq_false_iff_ne.2 hz, cond_false, if_pos (show (l.getD i (0, 0)).2 > 0 by omega), p35f L t l ht hl hw z0 z1 z2 z3 y0 y3 k n (i + 1) _ _ (by omega) (by omega)]
    · simp (disch := omega) only [df, cond_false]
      rw [List.drop_eq_nil_of_le (by omega)]
      rfl
theorem sat35 : Sat prog cxT 35 (c35 mSpr) := s35 mSf mCnt mMin mMax sat24 sat32 sat61 sat62 mSpr fun x t h => by
  obtain ⟨t, l⟩ := x
  cases h
  refine ⟨9, ?_⟩
  show g35 mSf mCnt mMin mMax 9 t l = some (spr t l)
  unfold g35 spr
  by_cases h1 : t.length = 31
  · rw [if_pos h1, bneF (by omega), cond_false, show mSf l = some (sf l) from rfl, tst_some]
    by_cases h2 : sf l = 0
    · have h8 := sf_len h2
      have e17 : mCnt (t, 0) = some (cnt t 0 : Int) := if_pos (show t.length ≤ 1000000000000 by omega)
      rw [bneF h2, cond_false, if_pos h2, e17, tst_some]
      refine (p35t 9 t l h1 h8 (sf_w h2) 0 0 0 0 0 _ _ 9 0 0 0 (by omega) (by omega)).trans ?_
      rw [List.drop_zero]
      split <;> rfl
    · rw [bneT h2, cond_true, if_neg h2]
  · rw [if_neg h1, bneT (by omega)]; rfl
def m36 (x : (Int × Int × Int × Int) × (Int × Int × Int × Int)) : Option Bool := some (decide (x.1 = x.2))
theorem sat36 : Sat prog cxT 36 (c36 m36) := s36 m36 fun x t h => by
  obtain ⟨⟨a, b, c, d⟩, a', b', c', d'⟩ := x
  cases h
  refine ⟨0, ?_⟩
  show g36 0 a b c d a' b' c' d' = some (decide ((a, b, c, d) = (a', b', c', d')))
  unfold g36
  by_cases h1 : a = a'
  · rw [bneF h1, cond_false]
    by_cases h2 : b = b'
    · rw [bneF h2, cond_false]
      by_cases h3 : c = c'
      · rw [bneF h3, cond_false]
        by_cases h4 : d = d'
        · rw [bneF h4]; simp [h1, h2, h3, h4]
        · rw [bneT h4]; simp [h4]
      · rw [bneT h3]; simp [h3]
    · rw [bneT h2]; simp [h2]
  · rw [bneT h1]; simp [h1]
theorem m36_eta (x : Int × Int × Int × Int) : m36 ((x.1, (x.2.1, (x.2.2.1, x.2.2.2))), (x.1, (x.2.1, (x.2.2.1, x.2.2.2)))) = some true := by unfold m36; simp

/-! FnExactSpreadOf -/
def m8 (x : List Int × List Sh) : Option Bool := if x.2.length ≤ 9223372036854775807 then some true else none
theorem sat8 : Sat prog cxT 8 (c8 m8) := s8 m23 m33 m25 mSpr mSpr m36 m34 m27 sat23 sat33 sat25 sat35 sat16 sat36 sat34 sat27 m8 fun x t h => by
  obtain ⟨a, l⟩ := x
  unfold m8 at h
  split at h
  · rename_i hl
    simp only at hl
    cases h
    refine ⟨0, ?_⟩
    show g8 m23 m33 m25 mSpr mSpr m36 m34 m27 0 a l = some true
    unfold g8
    by_cases h1 : a.length > 1048576
    · rw [dt (by omega)]; rfl
    · rw [df (by omega), cond_false]
      have e23 : m23 (l, 1048576) = some (if l.length > 1048576 then -1 else 1048576 - (l.length : Int)) := if_pos ⟨rfl, hl⟩
      rw [e23, tst_some]
      by_cases h2 : l.length > 1048576
      · rw [if_pos h2]; rfl
      · have e33 : m33 a = some a := if_pos (by omega)
        have e25 : m25 l = some l := if_pos (by omega)
        have e16 : mSpr (a, l) = some (spr a l) := rfl
        rw [if_neg h2, df (by omega)]
        simp only [cond_false, e33, e25, e16, m34_self (show a.length ≤ 1000000000000 by omega), m27_self (show l.length ≤ 1000000000000 by omega), m36_eta, tst_some, Bool.not_true]
  · cases h
end Go.Proofs.Try
