/- A part of the proof of FnExactBuildPacket: L2Pc. -/
import Derived.Test.YtaegcoihgnobiaaL2Pa
import Derived.Test.YtaegcoihgnobiaaL2Fc
set_option maxHeartbeats 0
set_option linter.unusedVariables false
set_option linter.unusedSimpArgs false
namespace Go.Proofs.Try
open Go Go.VM Go.RowKit

def nrm (t : Int) : Int := if t > 65535 then t - 65535 else t
def sw : List Int → Int → Int
  | [], h => h
  | [x], h => nrm (h + x * 256)
  | x :: y :: r, h => sw r (nrm (h + (x * 256 + y)))
theorem nrm_bound {t : Int} (h0 : 0 ≤ t) (h1 : t ≤ 131070) : 0 ≤ nrm t ∧ nrm t ≤ 65535 := by
  unfold nrm; split <;> omega
def sumW (a : List Int) : Int := 65535 - sw a 0
theorem sw_bound : ∀ (a : List Int) (h : Int), okB a = true → 0 ≤ h → h ≤ 65535 → 0 ≤ sw a h ∧ sw a h ≤ 65535
  | [], h, _, h0, h1 => ⟨h0, h1⟩
  | [x], h, hb, h0, h1 => by
    have hx := (okB_cons.1 hb).1
    exact nrm_bound (by omega) (by omega)
  | x :: y :: r, h, hb, h0, h1 => by
    have hx := (okB_cons.1 hb).1
    have hy := okB_cons.1 (okB_cons.1 hb).2
    have := nrm_bound (t := h + (x * 256 + y)) (by omega) (by omega)
    exact sw_bound r _ hy.2 this.1 this.2

theorem p20i (L : Nat) (a : List Int) (u v : Int) (k : Int → Option Int) (n : Nat) (t : Int) (h0 : 0 ≤ t) (h1 : t ≤ 131070) : l73_2 L a u v (n + 2) t k = k (nrm t) := by
  unfold l73_2
  by_cases ht : t > 65535
  · simp (disch := omega) only [dt, wi, cond_true]
    unfold l73_2
    simp (disch := omega) only [df, cond_false]
    unfold nrm
    rw [if_pos ht]
  · simp (disch := omega) only [df, cond_false]
    unfold nrm
    rw [if_neg ht]

theorem p73 (M : Nat) (a : List Int) (hb : okB a = true) (hl : a.length ≤ 1000000000000) (k : Int → Option Int) : ∀ (n i : Nat) (h : Int), i ≤ a.length + 1 → a.length + 1 < n + i → 0 ≤ h → h ≤ 65535 →
    l73_0 (M + 2) a n h i k = k (sw (a.drop i) h)
  | 0, i, h, h2, h3, _, _ => by
    omega
  | n + 1, i, h, h2, h3, h4, h5 => by
    unfold l73_0
    by_cases hi : i < a.length
    · have hx := okB_get hb hi
      have e1 : ((i : Int) + 1) = ((i + 1 : Nat) : Int) := by simp
      simp (disch := omega) only [dt, df, wi, cond_true, Bool.and_self, Int.toNat_natCast]
      rw [drop_cons 0 hi]
      by_cases hj : i + 1 < a.length
      · have hy := okB_get hb hj
        rw [e1]
        simp (disch := omega) only [dt, df, wi, cond_true, Bool.and_self, Int.toNat_natCast]
        rw [p20i _ _ _ _ _ _ _ (by omega) (by omega), drop_cons 0 hj]
        have hn := nrm_bound (t := h + 256 * a.getD i 0 + a.getD (i + 1) 0) (by omega) (by omega)
        have := p73 M a hb hl k n (i + 2) (nrm (h + 256 * a.getD i 0 + a.getD (i + 1) 0)) (by omega) (by omega) hn.1 hn.2
        simp only [Int.natCast_add, Int.cast_ofNat_Int] at this
        rw [this, show h + 256 * a.getD i 0 + a.getD (i + 1) 0 = h + (a.getD i 0 * 256 + a.getD (i + 1) 0) by omega]
        rfl
      · simp (disch := omega) only [df, cond_false]
        rw [p20i _ _ _ _ _ _ _ (by omega) (by omega), List.drop_eq_nil_of_le (show a.length ≤ i + 1 by omega)]
        have hn := nrm_bound (t := h + 256 * a.getD i 0) (by omega) (by omega)
        have := p73 M a hb hl k n (i + 2) (nrm (h + 256 * a.getD i 0)) (by omega) (by omega) hn.1 hn.2
        simp only [Int.natCast_add, Int.cast_ofNat_Int] at this
        rw [this, List.drop_eq_nil_of_le (show a.length ≤ i + 2 by omega), show h + 256 * a.getD i 0 = h + a.getD i 0 * 256 by omega]
        rfl
    · simp (disch := omega) only [df, cond_false]
      rw [List.drop_eq_nil_of_le (by omega)]
      rfl

def m73 (a : List Int) : Option Int := if okB a = true ∧ a.length ≤ 1000000000000 then some (sumW a) else none
theorem sat73 : Sat prog cxT 73 (c73 m73) := s73 m73 fun a t h => by
  unfold m73 at h
  split at h
  · rename_i hc
    cases h
    refine ⟨a.length + 2, ?_⟩
    unfold g73
    refine (p73 a.length a hc.1 hc.2 _ _ 0 0 (by omega) (by omega) (by omega) (by omega)).trans ?_
    have := sw_bound a 0 hc.1 (by omega) (by omega)
    simp (disch := omega) only [List.drop_zero, wi]
    rfl
  · cases h

/-! impl -/
def m84 (x : List Int × Int) : Option Int :=
  if okB x.1 = true ∧ x.1.length ≤ 1000000000000 ∧ 0 ≤ x.2 ∧ x.2 < x.1.length then
    some (x.1.getD x.2.toNat 0 * 256 + (if x.2.toNat + 1 < x.1.length then x.1.getD (x.2.toNat + 1) 0 else 0)) else none
theorem sat84 : Sat prog cxT 84 (c84 m84) := s84 m84 fun x t h => by
  obtain ⟨a, i⟩ := x
  unfold m84 at h
  split at h
  · rename_i hc
    obtain ⟨h1, h2, h3, h4⟩ := hc
    simp only at h1 h2 h3 h4 h
    cases h
    refine ⟨0, ?_⟩
    obtain ⟨i, rfl⟩ := Int.eq_ofNat_of_zero_le h3
    have hi : i < a.length := by omega
    have hx := okB_get h1 hi
    have e1 : ((i : Int) + 1) = ((i + 1 : Nat) : Int) := by simp
    unfold g84
    simp (disch := omega) only [dt, df, wi, cond_true, Bool.and_self, Int.toNat_natCast]
    by_cases hj : i + 1 < a.length
    · have hy := okB_get h1 hj
      rw [e1]
      simp (disch := omega) only [dt, df, wi, cond_true, Bool.and_self, Int.toNat_natCast, shl8, wu, or_byte, if_pos hj]
    · simp (disch := omega) only [df, cond_false, shl8, wu, if_neg hj, Int.add_zero]
  · cases h

theorem p18i (mm : List Int × Int → Option Int) (L : Nat) (a : List Int) (u v : Int) (k : Int → Option Int) (n : Nat) (t : Int) (h0 : 0 ≤ t) (h1 : t ≤ 131070) : l83_2 mm L a u v (n + 2) t k = k (nrm t) := by
  unfold l83_2
  by_cases ht : t > 65535
  · simp (disch := omega) only [dt, wu, cond_true]
    unfold l83_2
    simp (disch := omega) only [df, cond_false]
    unfold nrm
    rw [if_pos ht]
  · simp (disch := omega) only [df, cond_false]
    unfold nrm
    rw [if_neg ht]

theorem p83 (M : Nat) (a : List Int) (hb : okB a = true) (hl : a.length ≤ 1000000000000) (k : Int → Option Int) : ∀ (n i : Nat) (h : Int), i ≤ a.length + 1 → a.length + 1 < n + i → 0 ≤ h → h ≤ 65535 →
    l83_0 m84 (M + 2) a n h i k = k (sw (a.drop i) h)
  | 0, i, h, h2, h3, _, _ => by
    omega
  | n + 1, i, h, h2, h3, h4, h5 => by
    unfold l83_0
    by_cases hi : i < a.length
    · have hx := okB_get hb hi
      have e50 : m84 (a, (i : Int)) = some (a.getD i 0 * 256 + (if i + 1 < a.length then a.getD (i + 1) 0 else 0)) := by
        unfold m84
        rw [if_pos ⟨hb, hl, by show (0 : Int) ≤ (i : Int); omega, by show (i : Int) < (a.length : Int); omega⟩]
        rfl
      simp (disch := omega) only [dt, e50, wi, cond_true, Option.isSome_some, Option.getD_some]
      rw [drop_cons 0 hi]
      by_cases hj : i + 1 < a.length
      · have hy := okB_get hb hj
        simp (disch := omega) only [if_pos hj, wu]
        rw [p18i _ _ _ _ _ _ _ _ (by omega) (by omega), drop_cons 0 hj]
        have hn := nrm_bound (t := h + (a.getD i 0 * 256 + a.getD (i + 1) 0)) (by omega) (by omega)
        have := p83 M a hb hl k n (i + 2) (nrm (h + (a.getD i 0 * 256 + a.getD (i + 1) 0))) (by omega) (by omega) hn.1 hn.2
        simp only [Int.natCast_add, Int.cast_ofNat_Int] at this
        rw [this]
        rfl
      · simp (disch := omega) only [if_neg hj, wu, Int.add_zero]
        rw [p18i _ _ _ _ _ _ _ _ (by omega) (by omega), List.drop_eq_nil_of_le (show a.length ≤ i + 1 by omega)]
        have hn := nrm_bound (t := h + a.getD i 0 * 256) (by omega) (by omega)
        have := p83 M a hb hl k n (i + 2) (nrm (h + a.getD i 0 * 256)) (by omega) (by omega) hn.1 hn.2
        simp only [Int.natCast_add, Int.cast_ofNat_Int] at this
        rw [this, List.drop_eq_nil_of_le (show a.length ≤ i + 2 by omega)]
        rfl
    · simp (disch := omega) only [df, cond_false]
      rw [List.drop_eq_nil_of_le (by omega)]
      rfl

def m83 (a : List Int) : Option Int := if okB a = true ∧ a.length ≤ 1000000000000 then some (sumW a) else none
theorem sat83 : Sat prog cxT 83 (c83 m83) := s83 m84 sat84 m83 fun a t h => by
  unfold m83 at h
  split at h
  · rename_i hc
    cases h
    refine ⟨a.length + 2, ?_⟩
    unfold g83
    refine (p83 a.length a hc.1 hc.2 _ _ 0 0 (by omega) (by omega) (by omega) (by omega)).trans ?_
    have := sw_bound a 0 hc.1 (by omega) (by omega)
    simp (disch := omega) only [List.drop_zero, wi]
    rfl
  · cases h

/-! markByteS, heldByteS -/
def mkB (k : Int) (n : Nat) : List Int := (List.range n).map fun (i : Nat) => IntKind.wrap .u8 (k + (i : Int))
theorem mkB_len (k : Int) (n : Nat) : (mkB k n).length = n := by simp [mkB]
theorem mkB_get (k : Int) (n i : Nat) (h : i < n) : (mkB k n).getD i 0 = IntKind.wrap .u8 (k + (i : Int)) := by
  simp [mkB, List.getD, h]
def m33 (x : List Int × Int) : Option (Int × List Int) := if 0 ≤ x.2 ∧ x.2 ≤ 1000000000000 ∧ x.1.length ≤ 1000000000000 then some (x.2 + x.1.length, mkB x.2 x.1.length) else none
theorem p33 (L : Nat) (a b : List Int) (c k0 : Int) (h0 : 0 ≤ k0) (h1 : k0 ≤ 1000000000000) (hb : b.length ≤ 1000000000000) (k : List Int → Int → Option (Int × List Int)) : ∀ (n i : Nat) (o : List Int), o.length = b.length → i ≤ b.length → b.length < n + i → o.take i = (mkB k0 b.length).take i →
    l33_0 L a c n o (k0 + i) i k = k (mkB k0 b.length) (k0 + b.length)
  | 0, i, o, _, h3, h4, _ => by omega
  | n + 1, i, o, h2, h3, h4, h5 => by
    unfold l33_0
    by_cases hi : i < b.length
    · simp (disch := omega) only [dt, df, wi, cond_true, Bool.and_self, Int.toNat_natCast]
      have := p33 L a b c k0 h0 h1 hb k n (i + 1) (o.set i (IntKind.wrap .u8 (k0 + i))) (by rw [List.length_set]; exact h2) (by omega) (by omega) (by
        rw [List.take_add_one, List.take_add_one, List.take_set_of_le (Nat.le_refl _), h5]
        congr 1
        rw [List.getElem?_set_self (by omega)]
        have := mkB_get k0 b.length i hi
        have hl : i < (mkB k0 b.length).length := by rw [mkB_len]; exact hi
        simp only [List.getD, List.getElem?_eq_getElem hl, Option.getD_some] at this
        rw [List.getElem?_eq_getElem hl, this])
      simp only [Int.natCast_add, Int.cast_ofNat_Int] at this
      rw [show k0 + (i : Int) + 1 = k0 + ((i : Int) + 1) by omega]
      exact this
    · simp (disch := omega) only [df, cond_false]
      have hil : i = b.length := by omega
      have : o = mkB k0 b.length := by
        rw [hil] at h5
        rw [← h2, List.take_length, h2] at h5
        rw [h5]
        exact List.take_of_length_le (by rw [mkB_len]; exact Nat.le_refl _)
      rw [this, hil]
theorem sat33 : SatW prog cxT 33 (c33 m33).nres (c33 m33).n (c33 m33).F := s33 m33 fun x t h => by
  obtain ⟨a, k⟩ := x
  unfold m33 at h
  split at h
  · rename_i hc
    obtain ⟨h1, h2, h3⟩ := hc
    simp only at h1 h2 h3 h
    cases h
    refine ⟨a.length + 1, ?_⟩
    unfold g33
    have := p33 (a.length + 1) a a k k h1 h2 h3 (fun o k => some (k, o)) (a.length + 1) 0 a rfl (by omega) (by omega) rfl
    simpa using this
  · cases h

def m65 (x : List Int × Int) : Option Int := if 0 ≤ x.2 ∧ x.2 ≤ 1000000000000 ∧ x.1.length ≤ 1000000000000 ∧ x.1 = mkB x.2 x.1.length then some (x.2 + x.1.length) else none
theorem p65 (L : Nat) (a : List Int) (c k0 : Int) (h0 : 0 ≤ k0) (h1 : k0 ≤ 1000000000000) (hb : a.length ≤ 1000000000000) (ha : ∀ i, i < a.length → a.getD i 0 = IntKind.wrap .u8 (k0 + i)) (k : Int → Option Int) : ∀ (n i : Nat), i ≤ a.length → a.length < n + i →
    l65_0 L a c n (k0 + i) i k = k (k0 + a.length)
  | 0, i, h3, h4 => by omega
  | n + 1, i, h3, h4 => by
    unfold l65_0
    by_cases hi : i < a.length
    · simp (disch := omega) only [dt, df, wi, cond_true, Bool.and_self, Int.toNat_natCast]
      rw [bneF (ha i hi)]
      have := p65 L a c k0 h0 h1 hb ha k n (i + 1) (by omega) (by omega)
      simp only [Int.natCast_add, Int.cast_ofNat_Int] at this
      rw [show k0 + (i : Int) + 1 = k0 + ((i : Int) + 1) by omega]
      exact this
    · simp (disch := omega) only [df, cond_false]
      rw [show i = a.length by omega]
theorem sat65 : Sat prog cxT 65 (c65 m65) := s65 m65 fun x t h => by
  obtain ⟨a, k⟩ := x
  unfold m65 at h
  split at h
  · rename_i hc
    obtain ⟨h1, h2, h3, h4⟩ := hc
    simp only at h1 h2 h3 h4 h
    cases h
    refine ⟨a.length + 1, ?_⟩
    unfold g65
    have := p65 (a.length + 1) a k k h1 h2 h3 (fun i hi => by
      have e := mkB_get k a.length i hi
      rw [← h4] at e
      exact e) (fun k => some k) (a.length + 1) 0 (by omega) (by omega)
    simpa using this
  · cases h

/-! results of bytes -/
def m26 (x : (Int × List Int) × Int) : Option (Int × Int × List Int) := if 0 ≤ x.2 ∧ x.2 ≤ 1000000000000 ∧ x.1.2.length ≤ 1000000000000 then some (x.2 + x.1.2.length, x.1.1, mkB x.2 x.1.2.length) else none
theorem sat26 : SatW prog cxT 26 (c26 m26).nres (c26 m26).n (c26 m26).F := s26 m33 sat33 m26 fun x t h => by
  obtain ⟨⟨c, a⟩, k⟩ := x
  unfold m26 at h
  split at h
  · rename_i hc
    cases h
    refine ⟨0, ?_⟩
    have e : m33 (a, k) = some (k + a.length, mkB k a.length) := if_pos hc
    unfold g26
    simp only [e, Option.isSome_some, Option.getD_some, cond_true]
  · cases h
def m27 (x : (Int × List Int) × Int) : Option Int := m65 (x.1.2, x.2)
theorem sat27 : Sat prog cxT 27 (c27 m27) := s27 m65 sat65 m27 fun x t h => by
  obtain ⟨⟨c, a⟩, k⟩ := x
  have h : m65 (a, k) = some t := h
  refine ⟨0, ?_⟩
  unfold g27
  simp only [h, Option.isSome_some, Option.getD_some, cond_true]
  have : ¬ t < 0 := by
    unfold m65 at h
    split at h
    · rename_i hc
      cases h
      have := hc.1
      simp only at this ⊢
      omega
    · cases h
  rw [df this]
  rfl
def m24 (x : (Int × List Int) × Int × List Int) : Option Bool := if x.1.2.length ≤ 1000000000000 ∧ x.2.2.length ≤ 1000000000000 then some (decide (x.1 = x.2)) else none
theorem sat24 : Sat prog cxT 24 (c24 m24) := s24 m32 sat32 m24 fun x t h => by
  obtain ⟨⟨c, a⟩, d, b⟩ := x
  unfold m24 at h
  split at h
  · rename_i hc
    cases h
    refine ⟨0, ?_⟩
    unfold g24
    have e : m32 (a, b) = some (decide (a = b)) := if_pos hc
    simp only [e, Option.isSome_some, Option.getD_some, cond_true]
    by_cases h1 : c = d
    · rw [bneF h1]
      by_cases h2 : a = b <;> simp [h1, h2]
    · rw [bneT h1]
      simp [h1]
  · cases h

/-! numbers into bytes -/
def numB (n : Int) (z : Nat) : List Int := (List.range z).map fun i => IntKind.wrap .u8 (Int.fdiv n ((2 : Int) ^ (8 * (z - 1 - i))))
theorem numB_len (n : Int) (z : Nat) : (numB n z).length = z := by simp [numB]
theorem six {z : Int} (h : 1 ≤ z ∧ z ≤ 6) : z = 1 ∨ z = 2 ∨ z = 3 ∨ z = 4 ∨ z = 5 ∨ z = 6 := by omega
def m64 (x : Int × Int) : Option (List Int) := if 1 ≤ x.2 ∧ x.2 ≤ 6 then some (numB x.1 x.2.toNat) else none
theorem sat64 : Sat prog cxT 64 (c64 m64) := s64 m64 fun x t h => by
  obtain ⟨n, z⟩ := x
  unfold m64 at h
  split at h
  · rename_i hc
    cases h
    refine ⟨8, ?_⟩
    rcases six hc with h | h | h | h | h | h <;> simp only at h <;> subst h <;> kernel_rfl
  · cases h
def m79 (x : Int × Int) : Option (List Int) := if 1 ≤ x.2 ∧ x.2 ≤ 6 then some (numB x.1 x.2.toNat) else none
theorem sat79 : Sat prog cxT 79 (c79 m79) := s79 m79 fun x t h => by
  obtain ⟨n, z⟩ := x
  unfold m79 at h
  split at h
  · rename_i hc
    cases h
    refine ⟨8, ?_⟩
    rcases six hc with h | h | h | h | h | h <;> simp only at h <;> subst h <;> kernel_rfl
  · cases h
/-! joinPieces -/
def m54 (x : List (List Int)) : Option (List Int) := if x.length ≤ 1000000 ∧ x.flatten.length ≤ 1000000000 then some x.flatten else none
theorem p54 (L : Nat) (a : List (List Int)) (ha : a.length ≤ 1000000) (k : List Int → Option (List Int)) : ∀ (n i : Nat) (o : List Int), i ≤ a.length → a.length < n + i → (o ++ (a.drop i).flatten).length ≤ 1000000000 →
    l54_0 L a n o i k = k (o ++ (a.drop i).flatten)
  | 0, i, o, h2, h3, _ => by omega
  | n + 1, i, o, h2, h3, h4 => by
    unfold l54_0
    by_cases hi : i < a.length
    · rw [drop_cons [] hi, List.flatten_cons] at h4
      simp only [List.length_append] at h4
      simp (disch := omega) only [dt, df, wi, cond_true, Bool.and_self, Int.toNat_natCast]
      have := p54 L a ha k n (i + 1) (o ++ a.getD i []) (by omega) (by omega) (by simp only [List.length_append]; omega)
      simp only [Int.natCast_add, Int.cast_ofNat_Int] at this
      rw [this, drop_cons [] hi, List.flatten_cons, List.append_assoc]
    · simp (disch := omega) only [df, cond_false]
      rw [List.drop_eq_nil_of_le (by omega)]
      simp
theorem sat54 : Sat prog cxT 54 (c54 m54) := s54 m54 fun x t h => by
  unfold m54 at h
  split at h
  · rename_i hc
    cases h
    refine ⟨x.length + 1, ?_⟩
    unfold g54
    have := p54 (x.length + 1) x hc.1 some (x.length + 1) 0 [] (by omega) (by omega) (by simpa using hc.2)
    simpa using this
  · cases h

end Go.Proofs.Try
