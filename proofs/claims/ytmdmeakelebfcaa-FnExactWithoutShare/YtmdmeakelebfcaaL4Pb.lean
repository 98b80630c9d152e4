/- A part of the proof of FnExactWithoutShare: L4Pb. -/
import Derived.Test.YtmdmeakelebfcaaL4Pa
set_option maxHeartbeats 0
set_option linter.unusedVariables false
set_option linter.unusedSimpArgs false
namespace Go.Proofs.Try
open Go Go.VM Go.RowKit

abbrev Sh := Int × Int
def m57 (w : Int) : Option Bool := some (decide (0 ≤ w ∧ w ≤ 9))
theorem sat57 : Sat prog cxT 57 (c57 m57) := s57 m57 fun x t h => by
  cases h
  refine ⟨0, ?_⟩
  unfold g57
  by_cases h1 : 0 ≤ x <;> simp [h1]
def mName (w : Int) : Option Bool := some (decide (1 ≤ w ∧ w ≤ 999))
theorem sat56 : Sat prog cxT 56 (c56 mName) := s56 mName fun x t h => by
  cases h
  refine ⟨0, ?_⟩
  unfold g56
  by_cases h1 : 1 ≤ x <;> simp [h1]
def m54 (x : Int × Int × Int) : Option Bool := some (decide (x.2.1 ≤ x.1 ∧ x.1 ≤ x.2.2))
theorem sat54 : Sat prog cxT 54 (c54 m54) := s54 m54 fun x t h => by
  cases h
  refine ⟨0, ?_⟩
  unfold g54
  by_cases h1 : x.2.1 ≤ x.1 <;> simp [h1]
theorem sat53 : Sat prog cxT 53 (c53 mName) := s53 m54 sat54 mName fun x t h => by
  cases h
  exact ⟨0, rfl⟩
def m55 (x : Sh) : Option Sh := some x
theorem sat55 : Sat prog cxT 55 (c55 m55) := s55 m55 fun x t h => by
  cases h
  exact ⟨0, rfl⟩
theorem m55_eta (x : Sh) : m55 (x.1, x.2) = some x := rfl
def m58 (x : Sh × Sh) : Option Bool := some (decide (x.1 = x.2))
theorem sat58 : Sat prog cxT 58 (c58 m58) := s58 m58 fun x t h => by
  obtain ⟨⟨a, b⟩, c, d⟩ := x
  cases h
  refine ⟨0, ?_⟩
  show g58 0 a b c d = some (decide ((a, b) = (c, d)))
  unfold g58
  by_cases h1 : a = c
  · subst h1
    rw [bneF rfl, cond_false]
    by_cases h2 : b = d
    · subst h2
      rw [bneF rfl]; simp
    · rw [bneT h2]; simp [h2]
  · rw [bneT h1]; simp [h1]
theorem m58_eta (x y : Sh) : m58 ((x.1, x.2), (y.1, y.2)) = some (decide (x = y)) := rfl
def m23 (x : List Sh × Int) : Option Int := if x.2 = 1048576 ∧ x.1.length ≤ 9223372036854775807 then some (if x.1.length > 1048576 then -1 else 1048576 - (x.1.length : Int)) else none
theorem sat23 : Sat prog cxT 23 (c23 m23) := s23 m23 fun x t h => by
  obtain ⟨a, k⟩ := x
  unfold m23 at h
  split at h
  · rename_i hc
    obtain ⟨rfl, h1⟩ := hc
    simp only at h1
    cases h
    refine ⟨0, ?_⟩
    show g23 0 a 1048576 = some (if a.length > 1048576 then -1 else 1048576 - (a.length : Int))
    unfold g23
    rw [wi (by omega) (by omega)]
    by_cases h2 : a.length > 1048576
    · rw [dt (by omega), if_pos h2]; rfl
    · rw [df (by omega), if_neg h2]; rfl
  · cases h
def m25 (a : List Sh) : Option (List Sh) := if a.length ≤ 1000000000 then some a else none
theorem p25 (L : Nat) (a : List Sh) (ha : a.length ≤ 1000000000) (k : List Sh → Option (List Sh)) : ∀ (n i : Nat) (o : List Sh), o.length = a.length → i ≤ a.length → a.length < n + i → o.take i = a.take i → l25_0 m55 L a n o i k = k a
  | 0, i, o, _, h2, h3, _ => by omega
  | n + 1, i, o, h1, h2, h3, h4 => by
    unfold l25_0
    by_cases hi : i < a.length
    · simp (disch := omega) only [dt, df, wi, cond_true, Bool.and_self, Int.toNat_natCast, m55_eta, tst_some]
      have := p25 L a ha k n (i + 1) (o.set i (a.getD i (0, 0))) (by rw [List.length_set]; exact h1) (by omega) (by omega) (by
        rw [List.take_add_one, List.take_add_one, List.take_set_of_le (Nat.le_refl _), h4]
        congr 1
        rw [List.getElem?_set_self (by omega), List.getElem?_eq_getElem hi]
        simp [List.getD, List.getElem?_eq_getElem hi])
      simpa using this
    · simp (disch := omega) only [dt, df, cond_false]
      have hil : i = a.length := by omega
      rw [hil, List.take_length, ← h1, List.take_length] at h4
      rw [h4]
theorem sat25 : Sat prog cxT 25 (c25 m25) := s25 m55 sat55 m25 fun x t h => by
  unfold m25 at h
  split at h
  · rename_i ha
    cases h
    refine ⟨x.length + 1, ?_⟩
    unfold g25
    simp (disch := omega) only [dt, cond_true, Bool.and_self, Int.toNat_natCast]
    exact p25 _ x ha _ _ 0 _ (by simp) (by omega) (by omega) rfl
  · cases h
def m27 (x : List Sh × List Sh) : Option Bool := if x.1.length ≤ 1000000000000 ∧ x.2.length ≤ 1000000000000 then some (decide (x.1 = x.2)) else none
theorem p27 (L : Nat) (a b : List Sh) (hl : a.length = b.length) (ha : a.length ≤ 1000000000000) (k : Option Bool) : ∀ (n i : Nat), i ≤ a.length → a.length < n + i →
    l27_0 m58 L a b n i k = if a.drop i = b.drop i then k else some false
  | 0, i, h2, h3 => by omega
  | n + 1, i, h2, h3 => by
    unfold l27_0
    by_cases hi : i < a.length
    · simp (disch := omega) only [dt, df, wi, cond_true, Bool.and_self, Int.toNat_natCast, m58_eta, tst_some]
      rw [drop_cons (0, 0) hi, drop_cons (0, 0) (show i < b.length by omega)]
      have := p27 L a b hl ha k n (i + 1) (by omega) (by omega)
      simp only [Int.natCast_add, Int.cast_ofNat_Int] at this
      rw [this]
      by_cases hx : a.getD i (0, 0) = b.getD i (0, 0)
      · rw [hx]; simp
      · rw [df hx, if_neg (fun h => hx (List.cons.inj h).1)]
        rfl
    · simp (disch := omega) only [df, cond_false]
      rw [List.drop_eq_nil_of_le (by omega), List.drop_eq_nil_of_le (by omega)]
      simp
theorem sat27 : Sat prog cxT 27 (c27 m27) := s27 m58 sat58 m27 fun x t h => by
  unfold m27 at h
  split at h
  · rename_i ha
    cases h
    refine ⟨x.1.length + 1, ?_⟩
    unfold g27
    by_cases hl : x.1.length = x.2.length
    · have e1 : ((Nat.cast x.1.length : Int) != (Nat.cast x.2.length : Int)) = false := by simp [hl]
      have := p27 (x.1.length + 1) x.1 x.2 hl ha.1 (some true) (x.1.length + 1) 0 (by omega) (by omega)
      rw [e1]
      simp only [cond_false]
      refine this.trans ?_
      simp only [List.drop_zero]
      split <;> simp [*]
    · have e1 : ((Nat.cast x.1.length : Int) != (Nat.cast x.2.length : Int)) = true := by simp; omega
      rw [e1]
      have : x.1 ≠ x.2 := fun h => hl (by rw [h])
      simp [this]
  · cases h
theorem m27_self {a : List Sh} (h : a.length ≤ 1000000000000) : m27 (a, a) = some true := (if_pos ⟨h, h⟩).trans (by simp)

/-! SharesFault -/
def sfl : Int → List Sh → Int
  | _, [] => 0
  | p, x :: r => if 1 ≤ x.1 ∧ x.1 ≤ 999 then (if 0 ≤ x.2 ∧ x.2 ≤ 9 then (if x.1 ≤ p then 1 else sfl x.1 r) else 3) else 3
theorem sfl_cons (p : Int) (x : Sh) (r : List Sh) : sfl p (x :: r) = if 1 ≤ x.1 ∧ x.1 ≤ 999 then (if 0 ≤ x.2 ∧ x.2 ≤ 9 then (if x.1 ≤ p then 1 else sfl x.1 r) else 3) else 3 := rfl
def sf (a : List Sh) : Int := if a.length > 8 then 2 else sfl 0 a
def mSf (a : List Sh) : Option Int := some (sf a)
theorem sf_len {a : List Sh} (h : sf a = 0) : a.length ≤ 8 := by
  unfold sf at h
  split at h
  · cases h
  · omega
theorem sfl_w : ∀ {a : List Sh} {p : Int}, sfl p a = 0 → ∀ s ∈ a, 0 ≤ s.2
  | [], _, _, _, hs => by simp at hs
  | x :: r, p, h, s, hs => by
    unfold sfl at h
    split at h
    · split at h
      · rename_i hw
        split at h
        · cases h
        · rcases List.mem_cons.1 hs with rfl | hs
          · exact hw.1
          · exact sfl_w h s hs
      · cases h
    · cases h
theorem sf_w {a : List Sh} (h : sf a = 0) : ∀ s ∈ a, 0 ≤ s.2 := by
  unfold sf at h
  split at h
  · cases h
  · exact sfl_w h
theorem p26 (L : Nat) (a : List Sh) (ha : a.length ≤ 8) (k : Option Int) : ∀ (n i : Nat) (p : Int), i ≤ a.length → a.length < n + i →
    l26_0 mName m57 L a n p (i : Int) k = if sfl p (a.drop i) = 0 then k else some (sfl p (a.drop i))
  | 0, i, p, h2, h3 => by omega
  | n + 1, i, p, h2, h3 => by
    unfold l26_0
    by_cases hi : i < a.length
    · rw [Int.toNat_natCast]
      simp (disch := omega) only [dt, df, wi, cond_true, Bool.and_self]
      rw [drop_cons (0, 0) hi]
      have e2 : (i : Int) + 1 = ((i + 1 : Nat) : Int) := rfl
      rw [e2, p26 L a ha k n (i + 1) _ (by omega) (by omega)]
      obtain ⟨x, hx⟩ : ∃ x : Sh, x = a.getD i (0, 0) := ⟨_, rfl⟩
      rw [← hx, sfl_cons]
      unfold mName m57
      simp only [tst_some]
      by_cases h1 : 1 ≤ x.1 ∧ x.1 ≤ 999
      · rw [dt h1, if_pos h1, Bool.not_true, cond_false]
        by_cases h2 : 0 ≤ x.2 ∧ x.2 ≤ 9
        · rw [dt h2, if_pos h2, Bool.not_true, cond_false]
          by_cases h3 : x.1 ≤ p
          · rw [dt h3, if_pos h3]; rfl
          · rw [df h3, if_neg h3, cond_false]
        · rw [df h2, if_neg h2]; rfl
      · rw [df h1, if_neg h1]; rfl
    · simp (disch := omega) only [df, cond_false]
      rw [List.drop_eq_nil_of_le (by omega)]
      rfl
theorem sat26 : Sat prog cxT 26 (c26 mSf) := s26 mName m57 sat56 sat57 mSf fun x t h => by
  cases h
  refine ⟨9, ?_⟩
  unfold g26 sf
  by_cases h1 : x.length > 8
  · rw [dt (by omega), if_pos h1]; rfl
  · rw [df (by omega), if_neg h1, cond_false]
    refine (p26 9 x (by omega) (some 0) 9 0 0 (by omega) (by omega)).trans ?_
    rw [List.drop_zero]
    split
    · rename_i h; rw [h]
    · rfl
theorem m54_w (w : Int) : m54 (w, ((0 : Int), (9 : Int))) = some (decide (0 ≤ w ∧ w ≤ 9)) := rfl
theorem p24 (L : Nat) (a : List Sh) (ha : a.length ≤ 8) (k : Option Int) : ∀ (n i : Nat) (p : Int), (i = 0 → p = 0) → (0 < i → p = (a.getD (i - 1) (0, 0)).1) → i ≤ a.length → a.length < n + i →
    l24_0 mName m54 L a n (i : Int) k = if sfl p (a.drop i) = 0 then k else some (sfl p (a.drop i))
  | 0, i, p, _, _, h2, h3 => by omega
  | n + 1, i, p, hp, hq, h2, h3 => by
    unfold l24_0
    by_cases hi : i < a.length
    · simp (disch := omega) only [dt, df, wi, cond_true, Bool.and_self, Int.toNat_natCast]
      rw [drop_cons (0, 0) hi]
      have e2 : (i : Int) + 1 = ((i + 1 : Nat) : Int) := rfl
      rw [e2, p24 L a ha k n (i + 1) (a.getD i (0, 0)).1 (by omega) (fun _ => by simp) (by omega) (by omega)]
      rw [show mName (a.getD i (0, 0)).1 = some (decide (1 ≤ (a.getD i (0, 0)).1 ∧ (a.getD i (0, 0)).1 ≤ 999)) from rfl, m54_w]
      simp only [tst_some]
      by_cases h0 : i = 0
      · have hp0 := hp h0
        subst hp0
        rw [df (c := (i : Int) > 0) (by omega)]
        rw [sfl_cons]
        by_cases h1 : 1 ≤ (a.getD i (0, 0)).1 ∧ (a.getD i (0, 0)).1 ≤ 999
        · rw [dt h1, if_pos h1, Bool.not_true, cond_false]
          by_cases h2 : 0 ≤ (a.getD i (0, 0)).2 ∧ (a.getD i (0, 0)).2 ≤ 9
          · rw [dt h2, if_pos h2, Bool.not_true, cond_false, if_neg (show ¬ (a.getD i (0, 0)).1 ≤ 0 by omega)]
            rfl
          · rw [df h2, if_neg h2]; rfl
        · rw [df h1, if_neg h1]; rfl
      · have hq0 := hq (by omega)
        rw [dt (c := (i : Int) > 0) (by omega), dt (c := (0 : Int) ≤ (i : Int) - 1) (by omega)]
        have e3 : (a.getD i (0, 0)).1 ≤ (a.getD ((i : Int) - 1).toNat (0, 0)).1 ↔ (a.getD i (0, 0)).1 ≤ p := by
          rw [hq0, show ((i : Int) - 1).toNat = i - 1 by omega]
        rw [sfl_cons]
        simp only [Bool.and_self, cond_true]
        by_cases h1 : 1 ≤ (a.getD i (0, 0)).1 ∧ (a.getD i (0, 0)).1 ≤ 999
        · rw [dt h1, if_pos h1, Bool.not_true, cond_false]
          by_cases h2 : 0 ≤ (a.getD i (0, 0)).2 ∧ (a.getD i (0, 0)).2 ≤ 9
          · rw [dt h2, if_pos h2, Bool.not_true, cond_false]
            by_cases h3 : (a.getD i (0, 0)).1 ≤ p
            · rw [dt (e3.2 h3), if_pos h3]; rfl
            · rw [df (fun h => h3 (e3.1 h)), if_neg h3, cond_false]
          · rw [df h2, if_neg h2]; rfl
        · rw [df h1, if_neg h1]; rfl
    · simp (disch := omega) only [df, cond_false]
      rw [List.drop_eq_nil_of_le (by omega)]
      rfl
theorem sat24 : Sat prog cxT 24 (c24 mSf) := s24 mName m54 sat53 sat54 mSf fun x t h => by
  cases h
  refine ⟨9, ?_⟩
  unfold g24 sf
  by_cases h1 : x.length > 8
  · rw [dt (by omega), if_pos h1]; rfl
  · rw [df (by omega), if_neg h1, cond_false]
    refine (p24 9 x (by omega) (some 0) 9 0 0 (fun _ => rfl) (fun h => absurd h (by decide)) (by omega) (by omega)).trans ?_
    rw [List.drop_zero]
    split
    · rename_i h; rw [h]
    · rfl

/-! FnExactSharesFault -/
def m5 (x : List Sh) : Option Bool := if x.length ≤ 9223372036854775807 then some true else none
theorem sat5 : Sat prog cxT 5 (c5 m5) := s5 m23 m25 mSf mSf m27 sat23 sat25 sat24 sat26 sat27 m5 fun a t h => by
  unfold m5 at h
  split at h
  · rename_i ha
    cases h
    refine ⟨0, ?_⟩
    unfold g5
    have e23 : m23 (a, 1048576) = some (if a.length > 1048576 then -1 else 1048576 - (a.length : Int)) := if_pos ⟨rfl, ha⟩
    rw [e23, tst_some]
    by_cases hl : a.length > 1048576
    · rw [if_pos hl]; rfl
    · have e25 : m25 a = some a := if_pos (by omega)
      have e26 : mSf a = some (sf a) := rfl
      rw [if_neg hl, df (by omega)]
      simp only [cond_false, e25, e26, m27_self (show a.length ≤ 1000000000000 by omega), tst_some, bneF, Bool.not_true]
  · cases h
end Go.Proofs.Try
