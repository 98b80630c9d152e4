/- A part of the proof of FnFrames: L1Pa. -/
import Derived.Test.YtggncacoajjjhaaVmTop
import Derived.Test.YtggncacoajjjhaaL1Fa
set_option maxHeartbeats 0
set_option linter.unusedVariables false
set_option linter.unusedSimpArgs false
namespace Go.Proofs.Try
open Go Go.VM Go.RowKit

/-! toByteS -/
def m30 (a : List Int) : Option (List Int) := if a.length ≤ 1000000000 then some a else none
theorem p30 (L : Nat) (a : List Int) (ha : a.length ≤ 1000000000) (k : List Int → Option (List Int)) : ∀ (n i : Nat) (o : List Int), o.length = a.length → i ≤ a.length → a.length < n + i → o.take i = a.take i → l30_0 L a n o i k = k a
  | 0, i, o, _, h2, h3, _ => by omega
  | n + 1, i, o, h1, h2, h3, h4 => by
    unfold l30_0
    by_cases hi : i < a.length
    · simp (disch := omega) only [dt, df, wi, cond_true, Bool.and_self, Int.toNat_natCast]
      have := p30 L a ha k n (i + 1) (o.set i (a.getD i 0)) (by rw [List.length_set]; exact h1) (by omega) (by omega) (by
        rw [List.take_add_one, List.take_add_one, List.take_set_of_le (Nat.le_refl _), h4]
        congr 1
        rw [List.getElem?_set_self (by omega), List.getElem?_eq_getElem hi]
        simp [List.getD, List.getElem?_eq_getElem hi])
      simpa using this
    · simp (disch := omega) only [dt, df, cond_false]
      have hil : i = a.length := by omega
      rw [hil, List.take_length, ← h1, List.take_length] at h4
      rw [h4]
theorem sat30 : Sat prog cxT 30 (c30 m30) := s30 m30 fun x t h => by
  unfold m30 at h
  split at h
  · rename_i ha
    cases h
    refine ⟨x.length + 1, ?_⟩
    unfold g30
    simp (disch := omega) only [dt, cond_true, Bool.and_self, Int.toNat_natCast]
    exact p30 _ x ha _ _ 0 _ (by simp) (by omega) (by omega) rfl
  · cases h

/-! eqByteS -/
def m32 (x : List Int × List Int) : Option Bool := if x.1.length ≤ 1000000000000 ∧ x.2.length ≤ 1000000000000 then some (decide (x.1 = x.2)) else none
theorem p32 (L : Nat) (a b : List Int) (hl : a.length = b.length) (ha : a.length ≤ 1000000000000) (k : Option Bool) : ∀ (n i : Nat), i ≤ a.length → a.length < n + i →
    l32_0 L a b n i k = if a.drop i = b.drop i then k else some false
  | 0, i, h2, h3 => by omega
  | n + 1, i, h2, h3 => by
    unfold l32_0
    by_cases hi : i < a.length
    · simp (disch := omega) only [dt, df, wi, cond_true, Bool.and_self, Int.toNat_natCast]
      rw [drop_cons 0 hi, drop_cons 0 (show i < b.length by omega)]
      have := p32 L a b hl ha k n (i + 1) (by omega) (by omega)
      simp only [Int.natCast_add, Int.cast_ofNat_Int] at this
      rw [this]
      by_cases hx : a.getD i 0 = b.getD i 0
      · rw [hx]; simp
      · have h2 : (a.getD i 0 != b.getD i 0) = true := by simpa using hx
        rw [h2, if_neg (fun h => hx (List.cons.inj h).1)]
        rfl
    · simp (disch := omega) only [df, cond_false]
      rw [List.drop_eq_nil_of_le (by omega), List.drop_eq_nil_of_le (by omega)]
      simp
theorem sat32 : Sat prog cxT 32 (c32 m32) := s32 m32 fun x t h => by
  unfold m32 at h
  split at h
  · rename_i ha
    cases h
    refine ⟨x.1.length + 1, ?_⟩
    unfold g32
    by_cases hl : x.1.length = x.2.length
    · have e1 : ((Nat.cast x.1.length : Int) != (Nat.cast x.2.length : Int)) = false := by simp [hl]
      have := p32 (x.1.length + 1) x.1 x.2 hl ha.1 (some true) (x.1.length + 1) 0 (by omega) (by omega)
      rw [e1]
      simp only [cond_false]
      refine this.trans ?_
      simp only [List.drop_zero]
      split <;> simp [*]
    · have e1 : ((Nat.cast x.1.length : Int) != (Nat.cast x.2.length : Int)) = true := by simp; omega
      rw [e1]
      have : x.1 ≠ x.2 := fun h => hl (by rw [h])
      simp [this]
  · cases h

/-! eqIntResult, isNumberSize, l1In -/
def m31 (x : (Int × Int) × Int × Int) : Option Bool := some (decide (x.1 = x.2))
theorem sat31 : Sat prog cxT 31 (c31 m31) := s31 m31 fun x t h => by
  cases h
  refine ⟨0, ?_⟩
  unfold g31
  obtain ⟨⟨a, b⟩, c, d⟩ := x
  by_cases h1 : a = c
  · by_cases h2 : b = d
    · rw [bneF h1, bneF h2]; simp [h1, h2]
    · rw [bneF h1, bneT h2]; simp [h1, h2]
  · rw [bneT h1]; simp [h1]
def m44 (x : Int) : Option Bool := some (decide (1 ≤ x ∧ x ≤ 6))
theorem sat44 : Sat prog cxT 44 (c44 m44) := s44 m44 fun x t h => by
  cases h
  refine ⟨0, ?_⟩
  unfold g44
  by_cases h1 : 1 ≤ x <;> simp [h1]
def m47 (x : Int × Int × Int) : Option Bool := some (decide (x.2.1 ≤ x.1 ∧ x.1 ≤ x.2.2))
theorem sat47 : Sat prog cxT 47 (c47 m47) := s47 m47 fun x t h => by
  cases h
  refine ⟨0, ?_⟩
  unfold g47
  by_cases h1 : x.2.1 ≤ x.1 <;> simp [h1]

/-! numbers in bytes -/
def num (a : List Int) (h : Int) : Int := a.foldl (fun h x => h * 256 + x) h
theorem num_nil (h : Int) : num [] h = h := rfl
theorem num_cons (x : Int) (a : List Int) (h : Int) : num (x :: a) h = num a (h * 256 + x) := rfl
theorem pow256 {i : Nat} (h : i < 6) : (256 : Int) ^ i ≤ 1099511627776 := by
  have : i = 0 ∨ i = 1 ∨ i = 2 ∨ i = 3 ∨ i = 4 ∨ i = 5 := by omega
  rcases this with rfl | rfl | rfl | rfl | rfl | rfl <;> decide
theorem num_bound : ∀ (a : List Int) (h : Int) (i : Nat), okB a = true → 0 ≤ h → h < 256 ^ i → 0 ≤ num a h ∧ num a h < 256 ^ (i + a.length)
  | [], h, i, _, h0, h1 => ⟨h0, h1⟩
  | x :: a, h, i, hb, h0, h1 => by
    obtain ⟨hx, hb⟩ := okB_cons.1 hb
    have hp : (256 : Int) ^ (i + 1) = 256 ^ i * 256 := Int.pow_succ ..
    have := num_bound a (h * 256 + x) (i + 1) hb (by omega) (by omega)
    rw [num_cons, List.length_cons, show i + (a.length + 1) = i + 1 + a.length by omega]
    exact this

def m55 (x : List Int × Int × Int) : Option Int :=
  if okB x.1 = true ∧ x.1.length ≤ 1000000000000 ∧ 0 ≤ x.2.1 ∧ 0 ≤ x.2.2 ∧ x.2.2 ≤ 6 ∧ x.2.1 + x.2.2 ≤ x.1.length then some (num ((x.1.drop x.2.1.toNat).take x.2.2.toNat) 0) else none
theorem p55 (L : Nat) (a : List Int) (p z : Nat) (hb : okB a = true) (hl : a.length ≤ 1000000000000) (hz : z ≤ 6) (hp : p + z ≤ a.length) (k : Int → Option Int) : ∀ (n i : Nat) (h : Int), i ≤ z → z < n + i → 0 ≤ h → h < 256 ^ i →
    l55_0 L a p z n h i k = k (num ((a.drop (p + i)).take (z - i)) h)
  | 0, i, h, h2, h3, _, _ => by omega
  | n + 1, i, h, h2, h3, h4, h5 => by
    unfold l55_0
    by_cases hi : i < z
    · have hx := okB_get hb (show p + i < a.length by omega)
      have hq := pow256 (show i < 6 by omega)
      have e1 : ((p : Int) + (i : Int)) = ((p + i : Nat) : Int) := by simp
      simp (disch := omega) only [dt, df, wi, cond_true, Bool.and_self]
      rw [e1]
      simp (disch := omega) only [dt, wi, cond_true, Bool.and_self, Int.toNat_natCast]
      have hp2 : (256 : Int) ^ (i + 1) = 256 ^ i * 256 := Int.pow_succ ..
      have := p55 L a p z hb hl hz hp k n (i + 1) (h * 256 + a.getD (p + i) 0) (by omega) (by omega) (by omega) (by omega)
      simp only [Int.natCast_add, Int.cast_ofNat_Int] at this
      rw [this, drop_cons 0 (show p + i < a.length by omega), show z - i = (z - (i + 1)) + 1 by omega, List.take_succ_cons, num_cons]
      rfl
    · simp (disch := omega) only [df, cond_false]
      rw [show z - i = 0 by omega, List.take_zero, num_nil]
theorem sat55 : Sat prog cxT 55 (c55 m55) := s55 m55 fun x t h => by
  obtain ⟨a, p, z⟩ := x
  unfold m55 at h
  split at h
  · rename_i hc
    obtain ⟨h1, h2, h3, h4, h5, h6⟩ := hc
    simp only at h1 h2 h3 h4 h5 h6 h
    cases h
    refine ⟨7, ?_⟩
    obtain ⟨p, rfl⟩ := Int.eq_ofNat_of_zero_le h3
    obtain ⟨z, rfl⟩ := Int.eq_ofNat_of_zero_le h4
    have := p55 7 a p z h1 h2 (by omega) (by omega) some 7 0 0 (by omega) (by omega) (by omega) (by decide)
    unfold g55
    simpa using this
  · cases h

def takeN (a : List Int) (p z : Int) : Int × Int := if 1 ≤ z ∧ z ≤ 6 ∧ 0 ≤ p ∧ p ≤ a.length - z then (0, num ((a.drop p.toNat).take z.toNat) 0) else (3, 0)
theorem takeN_in {a : List Int} {p z : Int} (h : 1 ≤ z ∧ z ≤ 6 ∧ 0 ≤ p ∧ p ≤ a.length - z) : takeN a p z = (0, num ((a.drop p.toNat).take z.toNat) 0) := if_pos h
theorem takeN_out {a : List Int} {p z : Int} (h : ¬ (1 ≤ z ∧ z ≤ 6 ∧ 0 ≤ p ∧ p ≤ a.length - z)) : takeN a p z = (3, 0) := if_neg h
def m29 (x : List Int × Int × Int) : Option (Int × Int) := if okB x.1 = true ∧ x.1.length ≤ 1000000000000 ∧ iv x.2.2 = true then some (takeN x.1 x.2.1 x.2.2) else none
theorem sat29 : Sat prog cxT 29 (c29 m29) := s29 m47 m55 sat47 sat55 m29 fun x t h => by
  obtain ⟨a, p, z⟩ := x
  unfold m29 at h
  split at h
  · rename_i hc
    obtain ⟨h1, h2, h3⟩ := hc
    simp only [iv, Bool.and_eq_true, decide_eq_true_eq] at h1 h2 h3 h
    cases h
    refine ⟨0, ?_⟩
    unfold g29 m47 m55
    simp only [Option.isSome_some, Option.getD_some, cond_true]
    by_cases hz : 1 ≤ z ∧ z ≤ 6
    · simp (disch := omega) only [dt, wi, Bool.not_true, cond_false]
      by_cases hp : 0 ≤ p ∧ p ≤ (a.length : Int) - z
      · simp (disch := omega) only [dt, Bool.not_true, cond_false]
        rw [if_pos ⟨h1, h2, hp.1, by omega, hz.2, by omega⟩, takeN_in ⟨hz.1, hz.2, hp⟩]
        rfl
      · rw [takeN_out (fun h => hp ⟨h.2.2.1, h.2.2.2⟩), df hp]
        rfl
    · rw [takeN_out (fun h => hz ⟨h.1, h.2.1⟩), df hz]
      rfl
  · cases h

/-! impl.TakeNumber -/
def m16 (x : List Int × Int × Int) : Option (Int × Int) := if okB x.1 = true ∧ x.1.length ≤ 1000000000000 ∧ iv x.2.2 = true then some (takeN x.1 x.2.1 x.2.2) else none
theorem p16 (mm : Int → Option Bool) (L : Nat) (a : List Int) (q z : Int) (b : List Int) (u v : Int) (hab : List.drop (Int.toNat q) (List.take (Int.toNat (IntKind.wrap IntKind.i64 (q + z))) a) = b) (hb : okB b = true) (hl : b.length ≤ 6) (k : Int → Int → Int → Option (Int × Int)) : ∀ (n i : Nat) (h : Int), i ≤ b.length → b.length < n + i → 0 ≤ h → h < 256 ^ i →
    l16_0 mm L a q z n u v h i k = k u v (num (b.drop i) h)
  | 0, i, h, h2, h3, _, _ => by omega
  | n + 1, i, h, h2, h3, h4, h5 => by
    unfold l16_0
    rw [hab]
    by_cases hi : i < b.length
    · have hx := okB_get hb hi
      have hq := pow256 (show i < 6 by omega)
      have hp2 : (256 : Int) ^ (i + 1) = 256 ^ i * 256 := Int.pow_succ ..
      simp (disch := omega) only [dt, df, wi, cond_true, Bool.and_self, Int.toNat_natCast]
      simp (disch := omega) only [shl8, wu, or_byte]
      have := p16 mm L a q z b u v hab hb hl k n (i + 1) (h * 256 + b.getD i 0) (by omega) (by omega) (by omega) (by omega)
      simp only [Int.natCast_add, Int.cast_ofNat_Int] at this
      rw [this, drop_cons 0 hi, num_cons]
    · simp (disch := omega) only [df, cond_false]
      rw [List.drop_eq_nil_of_le (by omega), num_nil]
theorem sat16 : Sat prog cxT 16 (c16 m16) := s16 m44 sat44 m16 fun x t h => by
  obtain ⟨a, p, z⟩ := x
  unfold m16 at h
  split at h
  · rename_i hc
    obtain ⟨h1, h2, h3⟩ := hc
    simp only [iv, Bool.and_eq_true, decide_eq_true_eq] at h1 h2 h3 h
    cases h
    refine ⟨7, ?_⟩
    unfold g16 m44
    simp only [Option.isSome_some, Option.getD_some, cond_true]
    by_cases hz : 1 ≤ z ∧ z ≤ 6
    · simp (disch := omega) only [dt, wi, Bool.not_true, cond_false]
      by_cases hp0 : p < 0
      · rw [takeN_out (by omega), dt hp0]
        rfl
      · by_cases hp1 : p > (a.length : Int) - z
        · rw [takeN_out (by omega), df hp0, dt hp1]
          rfl
        · simp (disch := omega) only [dt, df, wi, cond_false, cond_true, Bool.and_self]
          rw [takeN_in (by omega)]
          obtain ⟨q, rfl⟩ := Int.eq_ofNat_of_zero_le (show 0 ≤ p by omega)
          obtain ⟨y, rfl⟩ := Int.eq_ofNat_of_zero_le (show 0 ≤ z by omega)
          have hab : List.drop (Int.toNat (q : Int)) (List.take (Int.toNat (IntKind.wrap IntKind.i64 ((q : Int) + (y : Int)))) a) = (a.drop q).take y := by
            rw [wi (by omega) (by omega), ← Int.natCast_add, Int.toNat_natCast, Int.toNat_natCast, List.drop_take, Nat.add_sub_cancel_left]
          have hlen : ((a.drop q).take y).length ≤ 6 := by simp; omega
          have hbb := okB_sub h1 (b := (a.drop q).take y) (fun x hx => List.mem_of_mem_drop (List.mem_of_mem_take hx))
          have := p16 (fun x => some (decide (1 ≤ x ∧ x ≤ 6))) 7 a q y ((a.drop q).take y) 0 0 hab hbb hlen (fun _ _ h => some (0, IntKind.wrap .i64 h)) 7 0 0 (by omega) (by omega) (by omega) (by decide)
          refine this.trans ?_
          have hbd := num_bound ((a.drop q).take y) 0 0 hbb (by omega) (by decide)
          have hbd2 : (256 : Int) ^ (0 + ((a.drop q).take y).length) ≤ 281474976710656 := by
            have : ((a.drop q).take y).length = 0 ∨ ((a.drop q).take y).length = 1 ∨ ((a.drop q).take y).length = 2 ∨ ((a.drop q).take y).length = 3 ∨ ((a.drop q).take y).length = 4 ∨ ((a.drop q).take y).length = 5 ∨ ((a.drop q).take y).length = 6 := by omega
            rcases this with h | h | h | h | h | h | h <;> rw [h] <;> decide
          simp only [List.drop_zero, Int.toNat_natCast]
          rw [wi (by omega) (by omega)]
    · rw [takeN_out (fun h => hz ⟨h.1, h.2.1⟩), df hz]
      rfl
  · cases h

/-! FnExactTakeNumber -/
def m7 (x : List Int × Int × Int) : Option Bool := if okB x.1 = true ∧ iv x.2.2 = true then some true else none
theorem sat7 : Sat prog cxT 7 (c7 m7) := s7 m30 m29 m16 m31 m32 sat30 sat29 sat16 sat31 sat32 m7 fun x t h => by
  obtain ⟨a, p, z⟩ := x
  unfold m7 at h
  split at h
  · rename_i hc
    obtain ⟨h1, h2⟩ := hc
    simp only at h1 h2
    cases h
    refine ⟨0, ?_⟩
    unfold g7
    by_cases hl : (a.length : Int) > 1048576
    · simp (disch := omega) only [dt, cond_true]
    · have e30 : m30 a = some a := if_pos (by omega)
      have e29 : m29 (a, p, z) = some (takeN a p z) := if_pos ⟨h1, by show a.length ≤ 1000000000000; omega, h2⟩
      have e16 : m16 (a, p, z) = some (takeN a p z) := if_pos ⟨h1, by show a.length ≤ 1000000000000; omega, h2⟩
      have e32 : m32 (a, a) = some true := (if_pos ⟨by show a.length ≤ 1000000000000; omega, by show a.length ≤ 1000000000000; omega⟩).trans (by simp)
      simp (disch := omega) only [df, cond_false, e30, e29, e16, e32, m31, Option.isSome_some, Option.getD_some, cond_true]
      simp
  · cases h
end Go.Proofs.Try
