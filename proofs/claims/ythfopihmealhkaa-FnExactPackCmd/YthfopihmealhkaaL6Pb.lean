/- A part of the proof of FnExactPackCmd: L6Pb, L6Pg, L6Pi, L6Pj. -/
import Derived.Test.YthfopihmealhkaaVmPl
import Derived.Test.YthfopihmealhkaaL6Fa
import Derived.Test.YthfopihmealhkaaL6Fc
import Derived.Test.YthfopihmealhkaaL6Fe
import Derived.Test.YthfopihmealhkaaL6Pa
set_option maxHeartbeats 0
set_option linter.unusedVariables false
set_option linter.unusedSimpArgs false
namespace Go.Proofs.Try
open Go Go.VM Go.RowKit

/-! toByteS -/
def m23 (a : List Int) : Option (List Int) := if a.length ≤ 1000000000 then some a else none
/-! eqByteS -/
def m26 (x : List Int × List Int) : Option Bool := if x.1.length ≤ 1000000000000 ∧ x.2.length ≤ 1000000000000 then some (decide (x.1 = x.2)) else none
theorem p26 (L : Nat) (a b : List Int) (hl : a.length = b.length) (ha : a.length ≤ 1000000000000) (k : Option Bool) : ∀ (n i : Nat), i ≤ a.length → a.length < n + i →
    l26_0 L a b n i k = if a.drop i = b.drop i then k else some false
  | 0, i, h2, h3 => by omega
  | n + 1, i, h2, h3 => by
    unfold l26_0
    by_cases hi : i < a.length
    · simp (disch := omega) only [dt, df, wi, cond_true, Bool.and_self, Int.toNat_natCast]
      rw [drop_cons 0 hi, drop_cons 0 (show i < b.length by omega)]
      have := p26 L a b hl ha k n (i + 1) (by omega) (by omega)
      simp only [Int.natCast_add, Int.cast_ofNat_Int] at this
      rw [this]
      by_cases hx : a.getD i 0 = b.getD i 0
      · rw [hx]; simp
      · have h2 : (a.getD i 0 != b.getD i 0) = true := by simpa using hx
        rw [h2, if_neg (fun h => hx (List.cons.inj h).1)]
        rfl
    · simp (disch := omega) only [df, cond_false]
      rw [List.drop_eq_nil_of_le (by omega), List.drop_eq_nil_of_le (by omega)]
      simp
theorem sat26 : Sat prog cxT 26 (c26 m26) := s26 m26 fun x t h => by
  unfold m26 at h
  split at h
  · rename_i ha
    cases h
    refine ⟨x.1.length + 1, ?_⟩
    unfold g26
    by_cases hl : x.1.length = x.2.length
    · have e1 : ((Nat.cast x.1.length : Int) != (Nat.cast x.2.length : Int)) = false := by simp [hl]
      have := p26 (x.1.length + 1) x.1 x.2 hl ha.1 (some true) (x.1.length + 1) 0 (by omega) (by omega)
      rw [e1]
      simp only [cond_false]
      refine this.trans ?_
      simp only [List.drop_zero]
      split <;> simp [*]
    · have e1 : ((Nat.cast x.1.length : Int) != (Nat.cast x.2.length : Int)) = true := by simp; omega
      rw [e1]
      have : x.1 ≠ x.2 := fun h => hl (by rw [h])
      simp [this]
  · cases h

def nrm (t : Int) : Int := if t > 65535 then t - 65535 else t
def sw : List Int → Int → Int
  | [], h => h
  | [x], h => nrm (h + x * 256)
  | x :: y :: r, h => sw r (nrm (h + (x * 256 + y)))
def sumW (a : List Int) : Int := 65535 - sw a 0
def mkB (k : Int) (n : Nat) : List Int := (List.range n).map fun (i : Nat) => IntKind.wrap .u8 (k + (i : Int))
theorem mkB_len (k : Int) (n : Nat) : (mkB k n).length = n := by simp [mkB]
theorem mkB_get (k : Int) (n i : Nat) (h : i < n) : (mkB k n).getD i 0 = IntKind.wrap .u8 (k + (i : Int)) := by
  simp [mkB, List.getD, h]
def m36 (x : List Int × Int) : Option (Int × List Int) := if 0 ≤ x.2 ∧ x.2 ≤ 1000000000000 ∧ x.1.length ≤ 1000000000000 then some (x.2 + x.1.length, mkB x.2 x.1.length) else none
theorem p36 (L : Nat) (a b : List Int) (c k0 : Int) (h0 : 0 ≤ k0) (h1 : k0 ≤ 1000000000000) (hb : b.length ≤ 1000000000000) (k : List Int → Int → Option (Int × List Int)) : ∀ (n i : Nat) (o : List Int), o.length = b.length → i ≤ b.length → b.length < n + i → o.take i = (mkB k0 b.length).take i →
    l36_0 L a c n o (k0 + i) i k = k (mkB k0 b.length) (k0 + b.length)
  | 0, i, o, _, h3, h4, _ => by omega
  | n + 1, i, o, h2, h3, h4, h5 => by
    unfold l36_0
    by_cases hi : i < b.length
    · simp (disch := omega) only [dt, df, wi, cond_true, Bool.and_self, Int.toNat_natCast]
      have := p36 L a b c k0 h0 h1 hb k n (i + 1) (o.set i (IntKind.wrap .u8 (k0 + i))) (by rw [List.length_set]; exact h2) (by omega) (by omega) (by
        rw [List.take_add_one, List.take_add_one, List.take_set_of_le (Nat.le_refl _), h5]
        congr 1
        rw [List.getElem?_set_self (by omega)]
        have := mkB_get k0 b.length i hi
        have hl : i < (mkB k0 b.length).length := by rw [mkB_len]; exact hi
        simp only [List.getD, List.getElem?_eq_getElem hl, Option.getD_some] at this
        rw [List.getElem?_eq_getElem hl, this])
      simp only [Int.natCast_add, Int.cast_ofNat_Int] at this
      rw [show k0 + (i : Int) + 1 = k0 + ((i : Int) + 1) by omega]
      exact this
    · simp (disch := omega) only [df, cond_false]
      have hil : i = b.length := by omega
      have : o = mkB k0 b.length := by
        rw [hil] at h5
        rw [← h2, List.take_length, h2] at h5
        rw [h5]
        exact List.take_of_length_le (by rw [mkB_len]; exact Nat.le_refl _)
      rw [this, hil]
theorem sat36 : SatW prog cxT 36 (c36 m36).nres (c36 m36).n (c36 m36).F := s36 m36 fun x t h => by
  obtain ⟨a, k⟩ := x
  unfold m36 at h
  split at h
  · rename_i hc
    obtain ⟨h1, h2, h3⟩ := hc
    simp only at h1 h2 h3 h
    cases h
    refine ⟨a.length + 1, ?_⟩
    unfold g36
    have := p36 (a.length + 1) a a k k h1 h2 h3 (fun o k => some (k, o)) (a.length + 1) 0 a rfl (by omega) (by omega) rfl
    simpa using this
  · cases h

def m62 (x : List Int × Int) : Option Int := if 0 ≤ x.2 ∧ x.2 ≤ 1000000000000 ∧ x.1.length ≤ 1000000000000 ∧ x.1 = mkB x.2 x.1.length then some (x.2 + x.1.length) else none
theorem p62 (L : Nat) (a : List Int) (c k0 : Int) (h0 : 0 ≤ k0) (h1 : k0 ≤ 1000000000000) (hb : a.length ≤ 1000000000000) (ha : ∀ i, i < a.length → a.getD i 0 = IntKind.wrap .u8 (k0 + i)) (k : Int → Option Int) : ∀ (n i : Nat), i ≤ a.length → a.length < n + i →
    l62_0 L a c n (k0 + i) i k = k (k0 + a.length)
  | 0, i, h3, h4 => by omega
  | n + 1, i, h3, h4 => by
    unfold l62_0
    by_cases hi : i < a.length
    · simp (disch := omega) only [dt, df, wi, cond_true, Bool.and_self, Int.toNat_natCast]
      rw [bneF (ha i hi)]
      have := p62 L a c k0 h0 h1 hb ha k n (i + 1) (by omega) (by omega)
      simp only [Int.natCast_add, Int.cast_ofNat_Int] at this
      rw [show k0 + (i : Int) + 1 = k0 + ((i : Int) + 1) by omega]
      exact this
    · simp (disch := omega) only [df, cond_false]
      rw [show i = a.length by omega]
theorem sat62 : Sat prog cxT 62 (c62 m62) := s62 m62 fun x t h => by
  obtain ⟨a, k⟩ := x
  unfold m62 at h
  split at h
  · rename_i hc
    obtain ⟨h1, h2, h3, h4⟩ := hc
    simp only at h1 h2 h3 h4 h
    cases h
    refine ⟨a.length + 1, ?_⟩
    unfold g62
    have := p62 (a.length + 1) a k k h1 h2 h3 (fun i hi => by
      have e := mkB_get k a.length i hi
      rw [← h4] at e
      exact e) (fun k => some k) (a.length + 1) 0 (by omega) (by omega)
    simpa using this
  · cases h

/-! results of bytes -/
def m20 (x : (Int × List Int) × Int) : Option (Int × Int × List Int) := if 0 ≤ x.2 ∧ x.2 ≤ 1000000000000 ∧ x.1.2.length ≤ 1000000000000 then some (x.2 + x.1.2.length, x.1.1, mkB x.2 x.1.2.length) else none
theorem sat20 : SatW prog cxT 20 (c20 m20).nres (c20 m20).n (c20 m20).F := s20 m36 sat36 m20 fun x t h => by
  obtain ⟨⟨c, a⟩, k⟩ := x
  unfold m20 at h
  split at h
  · rename_i hc
    cases h
    refine ⟨0, ?_⟩
    have e : m36 (a, k) = some (k + a.length, mkB k a.length) := if_pos hc
    unfold g20
    simp only [e, tst_some, Option.isSome_some, Option.getD_some, cond_true]
  · cases h
def m21 (x : (Int × List Int) × Int) : Option Int := m62 (x.1.2, x.2)
theorem sat21 : Sat prog cxT 21 (c21 m21) := s21 m62 sat62 m21 fun x t h => by
  obtain ⟨⟨c, a⟩, k⟩ := x
  have h : m62 (a, k) = some t := h
  refine ⟨0, ?_⟩
  unfold g21
  simp only [h, tst_some, Option.isSome_some, Option.getD_some, cond_true]
  have : ¬ t < 0 := by
    unfold m62 at h
    split at h
    · rename_i hc
      cases h
      have := hc.1
      simp only at this ⊢
      omega
    · cases h
  rw [df this]
  rfl
def m19 (x : (Int × List Int) × Int × List Int) : Option Bool := if x.1.2.length ≤ 1000000000000 ∧ x.2.2.length ≤ 1000000000000 then some (decide (x.1 = x.2)) else none
theorem sat19 : Sat prog cxT 19 (c19 m19) := s19 m26 sat26 m19 fun x t h => by
  obtain ⟨⟨c, a⟩, d, b⟩ := x
  unfold m19 at h
  split at h
  · rename_i hc
    cases h
    refine ⟨0, ?_⟩
    unfold g19
    have e : m26 (a, b) = some (decide (a = b)) := if_pos hc
    simp only [e, tst_some, Option.isSome_some, Option.getD_some, cond_true]
    by_cases h1 : c = d
    · rw [bneF h1]
      by_cases h2 : a = b <;> simp [h1, h2]
    · rw [bneT h1]
      simp [h1]
  · cases h

/-! numbers into bytes -/
def numB (n : Int) (z : Nat) : List Int := (List.range z).map fun i => IntKind.wrap .u8 (Int.fdiv n ((2 : Int) ^ (8 * (z - 1 - i))))
theorem numB_len (n : Int) (z : Nat) : (numB n z).length = z := by simp [numB]
theorem six {z : Int} (h : 1 ≤ z ∧ z ≤ 6) : z = 1 ∨ z = 2 ∨ z = 3 ∨ z = 4 ∨ z = 5 ∨ z = 6 := by omega
def m112 (x : Int × Int) : Option (List Int) := if 1 ≤ x.2 ∧ x.2 ≤ 6 then some (numB x.1 x.2.toNat) else none
theorem sat112 : Sat prog cxT 112 (c112 m112) := s112 m112 fun x t h => by
  obtain ⟨n, z⟩ := x
  unfold m112 at h
  split at h
  · rename_i hc
    cases h
    refine ⟨8, ?_⟩
    rcases six hc with h | h | h | h | h | h <;> simp only at h <;> subst h <;> kernel_rfl
  · cases h
def m110 (x : Int × Int) : Option (List Int) := if 1 ≤ x.2 ∧ x.2 ≤ 6 then some (numB x.1 x.2.toNat) else none
theorem sat110 : Sat prog cxT 110 (c110 m110) := s110 m110 fun x t h => by
  obtain ⟨n, z⟩ := x
  unfold m110 at h
  split at h
  · rename_i hc
    cases h
    refine ⟨8, ?_⟩
    rcases six hc with h | h | h | h | h | h <;> simp only at h <;> subst h <;> kernel_rfl
  · cases h
/-! joinPieces -/
def m59 (x : List (List Int)) : Option (List Int) := if x.length ≤ 1000000 ∧ x.flatten.length ≤ 1000000000 then some x.flatten else none
theorem p59 (L : Nat) (a : List (List Int)) (ha : a.length ≤ 1000000) (k : List Int → Option (List Int)) : ∀ (n i : Nat) (o : List Int), i ≤ a.length → a.length < n + i → (o ++ (a.drop i).flatten).length ≤ 1000000000 →
    l59_0 L a n o i k = k (o ++ (a.drop i).flatten)
  | 0, i, o, h2, h3, _ => by omega
  | n + 1, i, o, h2, h3, h4 => by
    unfold l59_0
    by_cases hi : i < a.length
    · rw [drop_cons [] hi, List.flatten_cons] at h4
      simp only [List.length_append] at h4
      simp (disch := omega) only [dt, df, wi, cond_true, Bool.and_self, Int.toNat_natCast]
      have := p59 L a ha k n (i + 1) (o ++ a.getD i []) (by omega) (by omega) (by simp only [List.length_append]; omega)
      simp only [Int.natCast_add, Int.cast_ofNat_Int] at this
      rw [this, drop_cons [] hi, List.flatten_cons, List.append_assoc]
    · simp (disch := omega) only [df, cond_false]
      rw [List.drop_eq_nil_of_le (by omega)]
      simp
theorem sat59 : Sat prog cxT 59 (c59 m59) := s59 m59 fun x t h => by
  unfold m59 at h
  split at h
  · rename_i hc
    cases h
    refine ⟨x.length + 1, ?_⟩
    unfold g59
    have := p59 (x.length + 1) x hc.1 some (x.length + 1) 0 [] (by omega) (by omega) (by simpa using hc.2)
    simpa using this
  · cases h

/-! heads -/
theorem mark_held (a : List Int) (k : Int) (h0 : 0 ≤ k) (h1 : k ≤ 1000000000000) (h2 : a.length ≤ 1000000000000) : m62 (mkB k a.length, k) = some (k + a.length) := by
  unfold m62
  rw [if_pos ⟨h0, h1, by show (mkB k a.length).length ≤ _; rw [mkB_len]; exact h2, by show mkB k a.length = mkB k (mkB k a.length).length; rw [mkB_len]⟩]
  simp only [mkB_len]

/-! the specification's -/
theorem beqF {a b : Int} (h : ¬ a = b) : (a == b) = false := by simpa using h
end Go.Proofs.Try

set_option maxHeartbeats 0
set_option linter.unusedVariables false
set_option linter.unusedSimpArgs false
namespace Go.Proofs.Try
open Go Go.VM Go.RowKit

/-! ### Configurations in bytes -/
theorem flat_len {α : Type} {F : α → List Int} {K : Nat} : ∀ {a : List α}, (∀ x ∈ a, (F x).length ≤ K) → (a.flatMap F).length ≤ K * a.length
  | [], _ => by simp
  | x :: r, h => by
    have h1 := h x (List.mem_cons_self ..)
    have h2 := flat_len (a := r) fun y hy => h y (List.mem_cons_of_mem _ hy)
    rw [List.flatMap_cons, List.length_append, List.length_cons, Nat.mul_add]
    omega

def stN (b : Bk) : Int := b.2.2.1 * 8 + b.2.2.2.1 * 2 + (if b.2.2.2.2 then 1 else 0)
theorem numB_one (n : Int) : numB n 1 = [IntKind.wrap .u8 n] := by
  show [IntKind.wrap .u8 (Int.fdiv n 1)] = _
  rw [Int.fdiv_one]
end Go.Proofs.Try

set_option maxHeartbeats 0
set_option linter.unusedVariables false
set_option linter.unusedSimpArgs false
namespace Go.Proofs.Try
open Go Go.VM Go.RowKit

/-! impl -/
def m60 (x : Int × Int) : Option (List Int) := if (0 ≤ x.1 ∧ x.1 ≤ 1000000000000) ∧ 1 ≤ x.2 ∧ x.2 ≤ 6 then some (numB x.1 x.2.toNat) else none
theorem sat60 : Sat prog cxT 60 (c60 m60) := s60 m112 sat112 m60 fun x t h => by
  obtain ⟨n, z⟩ := x
  unfold m60 at h
  split at h
  · rename_i hc
    cases h
    refine ⟨0, ?_⟩
    obtain ⟨⟨h1, h2⟩, h3⟩ := hc
    simp only at h1 h2 h3
    show g60 m112 0 n z = _
    unfold g60
    rw [wu (by omega) (by omega), show m112 (n, z) = some (numB n z.toNat) from if_pos h3, tst_some]
  · cases h
theorem pk {n : Int} {z : Nat} (h : 0 ≤ n) (h1 : n ≤ 1000000000000) (h2 : 1 ≤ z ∧ z ≤ 6) : m60 (n, (z : Int)) = some (numB n z) := by
  have : m60 (n, (z : Int)) = some (numB n ((z : Int)).toNat) := if_pos ⟨⟨h, h1⟩, by show (1 : Int) ≤ (z : Int); omega, by show (z : Int) ≤ 6; omega⟩
  rw [this, Int.toNat_natCast]
def m61 (n : Int) : Option (List Int) := if 0 ≤ n ∧ n ≤ 999 then some (numB n 2) else none
theorem nm_in {n : Int} (h : nmOk n = true) : 1 ≤ n ∧ n ≤ 999 := of_decide_eq_true h
theorem sat61 : Sat prog cxT 61 (c61 m61) := s61 m60 sat60 m61 fun n t h => by
  unfold m61 at h
  split at h
  · rename_i hc
    cases h
    refine ⟨0, ?_⟩
    show g61 m60 0 n = _
    unfold g61
    rw [show m60 (n, (2 : Int)) = some (numB n 2) from pk (z := 2) (by omega) (by omega) (by omega), tst_some]
  · cases h
def okV (v : Vp) : Prop := vpOk v = true ∧ v.2.2.2.length ≤ 1048576 ∧ ∀ y ∈ v.2.2.2, nmOk y = true
instance (v : Vp) : Decidable (okV v) := by unfold okV; infer_instance
def okP (c : Cg) : Prop := okC c ∧ ∀ x ∈ c.2.2, x.2.2.2.length ≤ 1048576
instance (c : Cg) : Decidable (okP c) := by unfold okP; infer_instance
end Go.Proofs.Try

set_option maxHeartbeats 0
set_option linter.unusedVariables false
set_option linter.unusedSimpArgs false
namespace Go.Proofs.Try
open Go Go.VM Go.RowKit

/-! spec -/
theorem nw2 (n : Int) : m110 (n, (2 : Int)) = some (numB n 2) := rfl
theorem nw4 (n : Int) : m110 (n, (4 : Int)) = some (numB n 4) := rfl
/-! FnExactPackConfig -/
theorem br_eq {z1 : Int} {z2 : List Int} (h : z2.length ≤ 1000000000) : m19 ((z1, z2), z1, z2) = some true := by
  have : m19 ((z1, z2), z1, z2) = some (decide ((z1, z2) = (z1, z2))) := if_pos ⟨by simp only; omega, by simp only; omega⟩
  rw [this, dt rfl]
theorem br_mark {z1 : Int} {z2 : List Int} (h : z2.length ≤ 1000000000) : m20 ((z1, z2), 1) = some (1 + (z2.length : Int), z1, mkB 1 z2.length) := if_pos ⟨by simp only; omega, by simp only; omega, by simp only; omega⟩
theorem br_held {z1 : Int} {z2 : List Int} (h : z2.length ≤ 1000000000) : m21 ((z1, mkB 1 z2.length), 1) = some (1 + (z2.length : Int)) := mark_held z2 1 (by omega) (by omega) (by omega)
end Go.Proofs.Try
