/- A part of the proof of FnExactPackConfig: L6Pb, L6Pg, L6Pi, L6Pj, L6Top. -/
import Derived.Test.YthfopihmealhkaaVmPl
import Derived.Test.YthfopihmealhkaaL6Fa
import Derived.Test.YthfopihmealhkaaL6Fc
import Derived.Test.YthfopihmealhkaaL6Fe
import Derived.Test.YthfopihmealhkaaL6Pa
import Derived.Test.YthfopihmealhkaaVmOpen
set_option maxHeartbeats 0
set_option linter.unusedVariables false
set_option linter.unusedSimpArgs false
namespace Go.Proofs.Try
open Go Go.VM Go.RowKit

/-! toByteS -/
def m23 (a : List Int) : Option (List Int) := if a.length ≤ 1000000000 then some a else none
/-! eqByteS -/
def m26 (x : List Int × List Int) : Option Bool := if x.1.length ≤ 1000000000000 ∧ x.2.length ≤ 1000000000000 then some (decide (x.1 = x.2)) else none
theorem p26 (L : Nat) (a b : List Int) (hl : a.length = b.length) (ha : a.length ≤ 1000000000000) (k : Option Bool) : ∀ (n i : Nat), i ≤ a.length → a.length < n + i →
    l26_0 L a b n i k = if a.drop i = b.drop i then k else some false
  | 0, i, h2, h3 => by omega
  | n + 1, i, h2, h3 => by
    unfold l26_0
    by_cases hi : i < a.length
    · simp (disch := omega) only [dt, df, wi, cond_true, Bool.and_self, Int.toNat_natCast]
      rw [drop_cons 0 hi, drop_cons 0 (show i < b.length by omega)]
      have := p26 L a b hl ha k n (i + 1) (by omega) (by omega)
      simp only [Int.natCast_add, Int.cast_ofNat_Int] at this
      rw [this]
      by_cases hx : a.getD i 0 = b.getD i 0
      · rw [hx]; simp
      · have h2 : (a.getD i 0 != b.getD i 0) = true := by simpa using hx
        rw [h2, if_neg (fun h => hx (List.cons.inj h).1)]
        rfl
    · simp (disch := omega) only [df, cond_false]
      rw [List.drop_eq_nil_of_le (by omega), List.drop_eq_nil_of_le (by omega)]
      simp
theorem sat26 : Sat prog cxT 26 (c26 m26) := s26 m26 fun x t h => by
  unfold m26 at h
  split at h
  · rename_i ha
    cases h
    refine ⟨x.1.length + 1, ?_⟩
    unfold g26
    by_cases hl : x.1.length = x.2.length
    · have e1 : ((Nat.cast x.1.length : Int) != (Nat.cast x.2.length : Int)) = false := by simp [hl]
      have := p26 (x.1.length + 1) x.1 x.2 hl ha.1 (some true) (x.1.length + 1) 0 (by omega) (by omega)
      rw [e1]
      simp only [cond_false]
      refine this.trans ?_
      simp only [List.drop_zero]
      split <;> simp [*]
    · have e1 : ((Nat.cast x.1.length : Int) != (Nat.cast x.2.length : Int)) = true := by simp; omega
      rw [e1]
      have : x.1 ≠ x.2 := fun h => hl (by rw [h])
      simp [this]
  · cases h

def nrm (t : Int) : Int := if t > 65535 then t - 65535 else t
def sw : List Int → Int → Int
  | [], h => h
  | [x], h => nrm (h + x * 256)
  | x :: y :: r, h => sw r (nrm (h + (x * 256 + y)))
def sumW (a : List Int) : Int := 65535 - sw a 0
def mkB (k : Int) (n : Nat) : List Int := (List.range n).map fun (i : Nat) => IntKind.wrap .u8 (k + (i : Int))
theorem mkB_len (k : Int) (n : Nat) : (mkB k n).length = n := by simp [mkB]
theorem mkB_get (k : Int) (n i : Nat) (h : i < n) : (mkB k n).getD i 0 = IntKind.wrap .u8 (k + (i : Int)) := by
  simp [mkB, List.getD, h]
def m36 (x : List Int × Int) : Option (Int × List Int) := if 0 ≤ x.2 ∧ x.2 ≤ 1000000000000 ∧ x.1.length ≤ 1000000000000 then some (x.2 + x.1.length, mkB x.2 x.1.length) else none
theorem p36 (L : Nat) (a b : List Int) (c k0 : Int) (h0 : 0 ≤ k0) (h1 : k0 ≤ 1000000000000) (hb : b.length ≤ 1000000000000) (k : List Int → Int → Option (Int × List Int)) : ∀ (n i : Nat) (o : List Int), o.length = b.length → i ≤ b.length → b.length < n + i → o.take i = (mkB k0 b.length).take i →
    l36_0 L a c n o (k0 + i) i k = k (mkB k0 b.length) (k0 + b.length)
  | 0, i, o, _, h3, h4, _ => by omega
  | n + 1, i, o, h2, h3, h4, h5 => by
    unfold l36_0
    by_cases hi : i < b.length
    · simp (disch := omega) only [dt, df, wi, cond_true, Bool.and_self, Int.toNat_natCast]
      have := p36 L a b c k0 h0 h1 hb k n (i + 1) (o.set i (IntKind.wrap .u8 (k0 + i))) (by rw [List.length_set]; exact h2) (by omega) (by omega) (by
        rw [List.take_add_one, List.take_add_one, List.take_set_of_le (Nat.le_refl _), h5]
        congr 1
        rw [List.getElem?_set_self (by omega)]
        have := mkB_get k0 b.length i hi
        have hl : i < (mkB k0 b.length).length := by rw [mkB_len]; exact hi
        simp only [List.getD, List.getElem?_eq_getElem hl, Option.getD_some] at this
        rw [List.getElem?_eq_getElem hl, this])
      simp only [Int.natCast_add, Int.cast_ofNat_Int] at this
      rw [show k0 + (i : Int) + 1 = k0 + ((i : Int) + 1) by omega]
      exact this
    · simp (disch := omega) only [df, cond_false]
      have hil : i = b.length := by omega
      have : o = mkB k0 b.length := by
        rw [hil] at h5
        rw [← h2, List.take_length, h2] at h5
        rw [h5]
        exact List.take_of_length_le (by rw [mkB_len]; exact Nat.le_refl _)
      rw [this, hil]
theorem sat36 : SatW prog cxT 36 (c36 m36).nres (c36 m36).n (c36 m36).F := s36 m36 fun x t h => by
  obtain ⟨a, k⟩ := x
  unfold m36 at h
  split at h
  · rename_i hc
    obtain ⟨h1, h2, h3⟩ := hc
    simp only at h1 h2 h3 h
    cases h
    refine ⟨a.length + 1, ?_⟩
    unfold g36
    have := p36 (a.length + 1) a a k k h1 h2 h3 (fun o k => some (k, o)) (a.length + 1) 0 a rfl (by omega) (by omega) rfl
    simpa using this
  · cases h

def m62 (x : List Int × Int) : Option Int := if 0 ≤ x.2 ∧ x.2 ≤ 1000000000000 ∧ x.1.length ≤ 1000000000000 ∧ x.1 = mkB x.2 x.1.length then some (x.2 + x.1.length) else none
theorem p62 (L : Nat) (a : List Int) (c k0 : Int) (h0 : 0 ≤ k0) (h1 : k0 ≤ 1000000000000) (hb : a.length ≤ 1000000000000) (ha : ∀ i, i < a.length → a.getD i 0 = IntKind.wrap .u8 (k0 + i)) (k : Int → Option Int) : ∀ (n i : Nat), i ≤ a.length → a.length < n + i →
    l62_0 L a c n (k0 + i) i k = k (k0 + a.length)
  | 0, i, h3, h4 => by omega
  | n + 1, i, h3, h4 => by
    unfold l62_0
    by_cases hi : i < a.length
    · simp (disch := omega) only [dt, df, wi, cond_true, Bool.and_self, Int.toNat_natCast]
      rw [bneF (ha i hi)]
      have := p62 L a c k0 h0 h1 hb ha k n (i + 1) (by omega) (by omega)
      simp only [Int.natCast_add, Int.cast_ofNat_Int] at this
      rw [show k0 + (i : Int) + 1 = k0 + ((i : Int) + 1) by omega]
      exact this
    · simp (disch := omega) only [df, cond_false]
      rw [show i = a.length by omega]
theorem sat62 : Sat prog cxT 62 (c62 m62) := s62 m62 fun x t h => by
  obtain ⟨a, k⟩ := x
  unfold m62 at h
  split at h
  · rename_i hc
    obtain ⟨h1, h2, h3, h4⟩ := hc
    simp only at h1 h2 h3 h4 h
    cases h
    refine ⟨a.length + 1, ?_⟩
    unfold g62
    have := p62 (a.length + 1) a k k h1 h2 h3 (fun i hi => by
      have e := mkB_get k a.length i hi
      rw [← h4] at e
      exact e) (fun k => some k) (a.length + 1) 0 (by omega) (by omega)
    simpa using this
  · cases h

/-! results of bytes -/
def m20 (x : (Int × List Int) × Int) : Option (Int × Int × List Int) := if 0 ≤ x.2 ∧ x.2 ≤ 1000000000000 ∧ x.1.2.length ≤ 1000000000000 then some (x.2 + x.1.2.length, x.1.1, mkB x.2 x.1.2.length) else none
theorem sat20 : SatW prog cxT 20 (c20 m20).nres (c20 m20).n (c20 m20).F := s20 m36 sat36 m20 fun x t h => by
  obtain ⟨⟨c, a⟩, k⟩ := x
  unfold m20 at h
  split at h
  · rename_i hc
    cases h
    refine ⟨0, ?_⟩
    have e : m36 (a, k) = some (k + a.length, mkB k a.length) := if_pos hc
    unfold g20
    simp only [e, tst_some, Option.isSome_some, Option.getD_some, cond_true]
  · cases h
def m21 (x : (Int × List Int) × Int) : Option Int := m62 (x.1.2, x.2)
theorem sat21 : Sat prog cxT 21 (c21 m21) := s21 m62 sat62 m21 fun x t h => by
  obtain ⟨⟨c, a⟩, k⟩ := x
  have h : m62 (a, k) = some t := h
  refine ⟨0, ?_⟩
  unfold g21
  simp only [h, tst_some, Option.isSome_some, Option.getD_some, cond_true]
  have : ¬ t < 0 := by
    unfold m62 at h
    split at h
    · rename_i hc
      cases h
      have := hc.1
      simp only at this ⊢
      omega
    · cases h
  rw [df this]
  rfl
def m19 (x : (Int × List Int) × Int × List Int) : Option Bool := if x.1.2.length ≤ 1000000000000 ∧ x.2.2.length ≤ 1000000000000 then some (decide (x.1 = x.2)) else none
theorem sat19 : Sat prog cxT 19 (c19 m19) := s19 m26 sat26 m19 fun x t h => by
  obtain ⟨⟨c, a⟩, d, b⟩ := x
  unfold m19 at h
  split at h
  · rename_i hc
    cases h
    refine ⟨0, ?_⟩
    unfold g19
    have e : m26 (a, b) = some (decide (a = b)) := if_pos hc
    simp only [e, tst_some, Option.isSome_some, Option.getD_some, cond_true]
    by_cases h1 : c = d
    · rw [bneF h1]
      by_cases h2 : a = b <;> simp [h1, h2]
    · rw [bneT h1]
      simp [h1]
  · cases h

/-! numbers into bytes -/
def numB (n : Int) (z : Nat) : List Int := (List.range z).map fun i => IntKind.wrap .u8 (Int.fdiv n ((2 : Int) ^ (8 * (z - 1 - i))))
theorem numB_len (n : Int) (z : Nat) : (numB n z).length = z := by simp [numB]
theorem six {z : Int} (h : 1 ≤ z ∧ z ≤ 6) : z = 1 ∨ z = 2 ∨ z = 3 ∨ z = 4 ∨ z = 5 ∨ z = 6 := by omega
def m112 (x : Int × Int) : Option (List Int) := if 1 ≤ x.2 ∧ x.2 ≤ 6 then some (numB x.1 x.2.toNat) else none
theorem sat112 : Sat prog cxT 112 (c112 m112) := s112 m112 fun x t h => by
  obtain ⟨n, z⟩ := x
  unfold m112 at h
  split at h
  · rename_i hc
    cases h
    refine ⟨8, ?_⟩
    rcases six hc with h | h | h | h | h | h <;> simp only at h <;> subst h <;> kernel_rfl
  · cases h
def m110 (x : Int × Int) : Option (List Int) := if 1 ≤ x.2 ∧ x.2 ≤ 6 then some (numB x.1 x.2.toNat) else none
theorem sat110 : Sat prog cxT 110 (c110 m110) := s110 m110 fun x t h => by
  obtain ⟨n, z⟩ := x
  unfold m110 at h
  split at h
  · rename_i hc
    cases h
    refine ⟨8, ?_⟩
    rcases six hc with h | h | h | h | h | h <;> simp only at h <;> subst h <;> kernel_rfl
  · cases h
/-! joinPieces -/
def m59 (x : List (List Int)) : Option (List Int) := if x.length ≤ 1000000 ∧ x.flatten.length ≤ 1000000000 then some x.flatten else none
theorem p59 (L : Nat) (a : List (List Int)) (ha : a.length ≤ 1000000) (k : List Int → Option (List Int)) : ∀ (n i : Nat) (o : List Int), i ≤ a.length → a.length < n + i → (o ++ (a.drop i).flatten).length ≤ 1000000000 →
    l59_0 L a n o i k = k (o ++ (a.drop i).flatten)
  | 0, i, o, h2, h3, _ => by omega
  | n + 1, i, o, h2, h3, h4 => by
    unfold l59_0
    by_cases hi : i < a.length
    · rw [drop_cons [] hi, List.flatten_cons] at h4
      simp only [List.length_append] at h4
      simp (disch := omega) only [dt, df, wi, cond_true, Bool.and_self, Int.toNat_natCast]
      have := p59 L a ha k n (i + 1) (o ++ a.getD i []) (by omega) (by omega) (by simp only [List.length_append]; omega)
      simp only [Int.natCast_add, Int.cast_ofNat_Int] at this
      rw [this, drop_cons [] hi, List.flatten_cons, List.append_assoc]
    · simp (disch := omega) only [df, cond_false]
      rw [List.drop_eq_nil_of_le (by omega)]
      simp
theorem sat59 : Sat prog cxT 59 (c59 m59) := s59 m59 fun x t h => by
  unfold m59 at h
  split at h
  · rename_i hc
    cases h
    refine ⟨x.length + 1, ?_⟩
    unfold g59
    have := p59 (x.length + 1) x hc.1 some (x.length + 1) 0 [] (by omega) (by omega) (by simpa using hc.2)
    simpa using this
  · cases h

/-! heads -/
theorem mark_held (a : List Int) (k : Int) (h0 : 0 ≤ k) (h1 : k ≤ 1000000000000) (h2 : a.length ≤ 1000000000000) : m62 (mkB k a.length, k) = some (k + a.length) := by
  unfold m62
  rw [if_pos ⟨h0, h1, by show (mkB k a.length).length ≤ _; rw [mkB_len]; exact h2, by show mkB k a.length = mkB k (mkB k a.length).length; rw [mkB_len]⟩]
  simp only [mkB_len]

/-! the specification's -/
end Go.Proofs.Try

set_option maxHeartbeats 0
set_option linter.unusedVariables false
set_option linter.unusedSimpArgs false
namespace Go.Proofs.Try
open Go Go.VM Go.RowKit

/-! ### Configurations in bytes -/
/-- What is written of each piece, one behind the other. -/
def apL {α R : Type} (d : α) (f : α → Option (List Int)) (a : List α) : Nat → List Int → Int → (List Int → Option R) → Option R
  | 0, _, _, _ => none
  | n + 1, o, i, k => bif decide (i < (Nat.cast a.length : Int)) then bif (decide ((0 : Int) ≤ i) && decide (i < (Nat.cast a.length : Int))) then tst (f (a.getD i.toNat d)) [] fun q =>
      bif decide ((o.length + q.length) ≤ (1000000000 : Nat)) then apL d f a n (o ++ q) (IntKind.wrap .i64 (i + 1)) k else none else none else k o
theorem apL_ok {α R : Type} (d : α) (f : α → Option (List Int)) (F : α → List Int) (a : List α) (ha : a.length ≤ 1000000000000) (hf : ∀ x ∈ a, f x = some (F x)) (k : List Int → Option R) :
    ∀ (n i : Nat) (o : List Int), i ≤ a.length → a.length < n + i → o.length + ((a.drop i).flatMap F).length ≤ 1000000000 → apL d f a n o i k = k (o ++ (a.drop i).flatMap F)
  | 0, i, o, h1, h2, _ => by omega
  | n + 1, i, o, h1, h2, h3 => by
    unfold apL
    by_cases hi : i < a.length
    · simp (disch := omega) only [dt, wi, cond_true, Bool.and_self, Int.toNat_natCast]
      rw [drop_cons d hi, List.flatMap_cons] at h3 ⊢
      rw [List.length_append] at h3
      rw [hf _ (getD_mem d hi), tst_some, dt (by omega), cond_true]
      have := apL_ok d f F a ha hf k n (i + 1) (o ++ F (a.getD i d)) (by omega) (by omega) (by rw [List.length_append]; omega)
      rw [show (i : Int) + 1 = ((i + 1 : Nat) : Int) from rfl, this, List.append_assoc]
    · simp (disch := omega) only [df, cond_false]
      rw [List.drop_eq_nil_of_le (by omega)]
      simp
theorem flat_len {α : Type} {F : α → List Int} {K : Nat} : ∀ {a : List α}, (∀ x ∈ a, (F x).length ≤ K) → (a.flatMap F).length ≤ K * a.length
  | [], _ => by simp
  | x :: r, h => by
    have h1 := h x (List.mem_cons_self ..)
    have h2 := flat_len (a := r) fun y hy => h y (List.mem_cons_of_mem _ hy)
    rw [List.flatMap_cons, List.length_append, List.length_cons, Nat.mul_add]
    omega

def stN (b : Bk) : Int := b.2.2.1 * 8 + b.2.2.2.1 * 2 + (if b.2.2.2.2 then 1 else 0)
def bkB (b : Bk) : List Int := numB b.1 2 ++ numB b.2.1 4 ++ numB (stN b) 1
def nmB (l : List Int) : List Int := l.flatMap fun x => numB x 2
def vpB (v : Vp) : List Int := numB v.1 4 ++ numB v.2.1 2 ++ numB v.2.2.1 1 ++ (numB (v.2.2.2.length : Int) 1 ++ nmB v.2.2.2)
def cfB (c : Cg) : List Int := numB c.1 4 ++ (numB (c.2.1.length : Int) 1 ++ c.2.1.flatMap bkB) ++ (numB (c.2.2.length : Int) 1 ++ c.2.2.flatMap vpB)
theorem numB_one (n : Int) : numB n 1 = [IntKind.wrap .u8 n] := by
  show [IntKind.wrap .u8 (Int.fdiv n 1)] = _
  rw [Int.fdiv_one]
theorem bkB_len (b : Bk) : (bkB b).length = 7 := by simp [bkB, numB_len]
theorem nmB_len (l : List Int) : (nmB l).length = 2 * l.length := by
  induction l with
  | nil => rfl
  | cons x r ih => simp only [nmB, List.flatMap_cons, List.length_append, numB_len, List.length_cons] at ih ⊢; omega
theorem vpB_len (v : Vp) : (vpB v).length = 8 + 2 * v.2.2.2.length := by simp only [vpB, List.length_append, numB_len, nmB_len]; omega
/-- What a configuration without a fault is, of which the bytes do not run over. -/
structure Fit (c : Cg) : Prop where
  v : vrOk c.1 = true
  nb : c.2.1.length ≤ 8
  nv : c.2.2.length ≤ 4
  b : ∀ x ∈ c.2.1, bkOk x = true
  p : ∀ x ∈ c.2.2, vpOk x = true
  n : ∀ x ∈ c.2.2, ∀ y ∈ x.2.2.2, nmOk y = true
  l : ∀ x ∈ c.2.2, x.2.2.2.length ≤ 1048576
theorem hasB_nm {bs : List Bk} (h : ∀ x ∈ bs, bkOk x = true) {y : Int} (hy : hasB bs y = true) : nmOk y = true := by
  unfold hasB at hy
  rw [List.any_eq_true] at hy
  obtain ⟨x, hx, e⟩ := hy
  have := h x hx
  unfold bkOk at this
  simp only [Bool.and_eq_true, beq_iff_eq] at this e
  rw [← e]
  exact this.1.1.1
theorem fit_of {c : Cg} (h : cF c = 0) (hl : ∀ x ∈ c.2.2, x.2.2.2.length ≤ 1048576) : Fit c := by
  obtain ⟨h1, h2, h3, h4, h5⟩ := cF_zero h
  have hb : ∀ x ∈ c.2.1, bkOk x = true := fun x hx => by
    obtain ⟨j, hj, rfl⟩ := List.getElem_of_mem hx
    have := h4 j hj
    unfold bF at this
    rw [getD_at dBk hj] at this
    by_cases hk : bkOk c.2.1[j] = true
    · exact hk
    · rw [if_neg hk] at this
      exact absurd this (by decide)
  refine ⟨h1, h2, h3, hb, fun x hx => ?_, fun x hx y hy => ?_, hl⟩
  · obtain ⟨j, hj, rfl⟩ := List.getElem_of_mem hx
    have := h5 j hj
    unfold vF at this
    rw [getD_at dVp hj] at this
    by_cases hk : vpOk c.2.2[j] = true
    · exact hk
    · rw [if_neg hk] at this
      exact absurd this (by decide)
  · obtain ⟨j, hj, rfl⟩ := List.getElem_of_mem hx
    obtain ⟨i, hi, rfl⟩ := List.getElem_of_mem hy
    have := known h5 hj (i := i) (by rw [getD_at dVp hj]; exact hi)
    rw [getD_at dVp hj, getD_at 0 hi] at this
    exact hasB_nm hb this
end Go.Proofs.Try

set_option maxHeartbeats 0
set_option linter.unusedVariables false
set_option linter.unusedSimpArgs false
namespace Go.Proofs.Try
open Go Go.VM Go.RowKit

/-! impl -/
def m60 (x : Int × Int) : Option (List Int) := if (0 ≤ x.1 ∧ x.1 ≤ 1000000000000) ∧ 1 ≤ x.2 ∧ x.2 ≤ 6 then some (numB x.1 x.2.toNat) else none
theorem sat60 : Sat prog cxT 60 (c60 m60) := s60 m112 sat112 m60 fun x t h => by
  obtain ⟨n, z⟩ := x
  unfold m60 at h
  split at h
  · rename_i hc
    cases h
    refine ⟨0, ?_⟩
    obtain ⟨⟨h1, h2⟩, h3⟩ := hc
    simp only at h1 h2 h3
    show g60 m112 0 n z = _
    unfold g60
    rw [wu (by omega) (by omega), show m112 (n, z) = some (numB n z.toNat) from if_pos h3, tst_some]
  · cases h
theorem pk {n : Int} {z : Nat} (h : 0 ≤ n) (h1 : n ≤ 1000000000000) (h2 : 1 ≤ z ∧ z ≤ 6) : m60 (n, (z : Int)) = some (numB n z) := by
  have : m60 (n, (z : Int)) = some (numB n ((z : Int)).toNat) := if_pos ⟨⟨h, h1⟩, by show (1 : Int) ≤ (z : Int); omega, by show (z : Int) ≤ 6; omega⟩
  rw [this, Int.toNat_natCast]
def m61 (n : Int) : Option (List Int) := if nmOk n then some (numB n 2) else none
theorem nm_in {n : Int} (h : nmOk n = true) : 1 ≤ n ∧ n ≤ 999 := of_decide_eq_true h
theorem sat61 : Sat prog cxT 61 (c61 m61) := s61 m60 sat60 m61 fun n t h => by
  unfold m61 at h
  split at h
  · rename_i hc
    cases h
    have := nm_in hc
    refine ⟨0, ?_⟩
    show g61 m60 0 n = _
    unfold g61
    rw [show m60 (n, (2 : Int)) = some (numB n 2) from pk (z := 2) (by omega) (by omega) (by omega), tst_some]
  · cases h
theorem bk_in {b : Bk} (h : bkOk b = true) : (1 ≤ b.1 ∧ b.1 ≤ 999) ∧ (0 ≤ b.2.1 ∧ b.2.1 ≤ 4294967295) ∧ (0 ≤ b.2.2.1 ∧ b.2.2.1 ≤ 9) ∧ (1 ≤ b.2.2.2.1 ∧ b.2.2.2.1 ≤ 3) := by
  unfold bkOk nmOk adOk wtOk stOk at h
  simp only [Bool.and_eq_true, decide_eq_true_eq] at h
  exact ⟨h.1.1.1, h.1.1.2, h.1.2, h.2⟩
theorem st_in {b : Bk} (h : bkOk b = true) : 0 ≤ stN b ∧ stN b ≤ 79 := by
  have := bk_in h
  unfold stN
  split <;> omega
def m119 (b : Bk) : Option Int := if bkOk b then some (stN b) else none
theorem sat119 : Sat prog cxT 119 (c119 m119) := s119 m119 fun b t h => by
  obtain ⟨n, a, w, s, u⟩ := b
  unfold m119 at h
  split at h
  · rename_i hc
    cases h
    have := bk_in hc
    simp only at this
    refine ⟨0, ?_⟩
    show g119 0 n a w s u = _
    unfold g119 stN
    cases u <;> simp (disch := omega) only [wi, cond_true, cond_false, if_true, Int.add_zero, Bool.false_eq_true, if_false]
  · cases h
def m73 (b : Bk) : Option (List Int) := if bkOk b then some (bkB b) else none
theorem join3 {a b c : List Int} (h : a.length + b.length + c.length ≤ 1000000000) : m59 (List.cons a (List.cons b (List.cons c ([] : List (List Int))))) = some (a ++ b ++ c) := by
  unfold m59
  rw [if_pos ⟨by simp, by simp; omega⟩]
  simp
theorem join4 {a b c d : List Int} (h : a.length + b.length + c.length + d.length ≤ 1000000000) : m59 (List.cons a (List.cons b (List.cons c (List.cons d ([] : List (List Int)))))) = some (a ++ b ++ c ++ d) := by
  unfold m59
  rw [if_pos ⟨by simp, by simp; omega⟩]
  simp
theorem sat73 : Sat prog cxT 73 (c73 m73) := s73 m61 m60 m119 m59 sat61 sat60 sat119 sat59 m73 fun b t h => by
  obtain ⟨n, a, w, s, u⟩ := b
  unfold m73 at h
  split at h
  · rename_i hc
    cases h
    have hb := bk_in hc
    have hs := st_in hc
    simp only at hb
    refine ⟨0, ?_⟩
    show g73 m61 m60 m119 m59 0 n a w s u = _
    unfold g73
    rw [show m61 n = some (numB n 2) from if_pos (dt hb.1), tst_some, show m60 (a, (4 : Int)) = some (numB a 4) from pk (z := 4) (by omega) (by omega) (by omega), tst_some,
      show m119 (n, a, w, s, u) = some (stN (n, a, w, s, u)) from if_pos hc, tst_some, show m60 (stN (n, a, w, s, u), (1 : Int)) = some (numB (stN (n, a, w, s, u)) 1) from pk (z := 1) (by omega) (by omega) (by omega), tst_some,
      join3 (by simp only [numB_len]; omega), tst_some]
    rfl
  · cases h
theorem el72 (f : Bk → Option (List Int)) (L : Nat) (a : List Bk) (u : Unit) (g : Int × Int → Option (List Int)) : ∀ (n : Nat) (o : List Int) (i : Int) (k : List Int → Option (List Int)), l72_0 g f L a u n o i k = apL dBk f a n o i k
  | 0, _, _, _ => rfl
  | n + 1, o, i, k => by
    unfold l72_0 apL
    simp only [el72 f L a u g n]
    rfl
theorem el74 (f : Vp → Option (List Int)) (L : Nat) (a : List Vp) (u : Unit) (g : Int × Int → Option (List Int)) : ∀ (n : Nat) (o : List Int) (i : Int) (k : List Int → Option (List Int)), l74_0 g f L a u n o i k = apL dVp f a n o i k
  | 0, _, _, _ => rfl
  | n + 1, o, i, k => by
    unfold l74_0 apL
    simp only [el74 f L a u g n]
    rfl
theorem el120 (f : Int → Option (List Int)) (L : Nat) (a : List Int) (u : Unit) (g : Int × Int → Option (List Int)) : ∀ (n : Nat) (o : List Int) (i : Int) (k : List Int → Option (List Int)), l120_0 g f L a u n o i k = apL 0 f a n o i k
  | 0, _, _, _ => rfl
  | n + 1, o, i, k => by
    unfold l120_0 apL
    simp only [el120 f L a u g n]
def m72 (x : List Bk × Unit) : Option (List Int) := if x.1.length ≤ 1000000 ∧ ∀ b ∈ x.1, bkOk b = true then some (numB (x.1.length : Int) 1 ++ x.1.flatMap bkB) else none
theorem sat72 : Sat prog cxT 72 (c72 m72) := s72 m60 m73 sat60 sat73 m72 fun x t h => by
  obtain ⟨a, u⟩ := x
  unfold m72 at h
  split at h
  · rename_i hc
    obtain ⟨h1, h2⟩ := hc
    cases h
    simp only at h1 h2
    refine ⟨a.length + 1, ?_⟩
    show g72 m60 m73 (a.length + 1) a u = _
    unfold g72
    rw [show m60 ((a.length : Int), (1 : Int)) = some (numB (a.length : Int) 1) from pk (z := 1) (by omega) (by omega) (by omega), tst_some, el72]
    have hl := flat_len (F := bkB) (K := 7) (a := a) fun x _ => by rw [bkB_len]; omega
    exact apL_ok dBk m73 bkB a (by omega) (fun b hb => if_pos (h2 b hb)) _ (a.length + 1) 0 (numB (a.length : Int) 1) (by omega) (by omega) (by rw [numB_len, List.drop_zero]; omega)
  · cases h
def m120 (x : List Int × Unit) : Option (List Int) := if x.1.length ≤ 2000000 ∧ ∀ b ∈ x.1, nmOk b = true then some (numB (x.1.length : Int) 1 ++ nmB x.1) else none
theorem sat120 : Sat prog cxT 120 (c120 m120) := s120 m60 m61 sat60 sat61 m120 fun x t h => by
  obtain ⟨a, u⟩ := x
  unfold m120 at h
  split at h
  · rename_i hc
    obtain ⟨h1, h2⟩ := hc
    cases h
    simp only at h1 h2
    refine ⟨a.length + 1, ?_⟩
    show g120 m60 m61 (a.length + 1) a u = _
    unfold g120
    rw [show m60 ((a.length : Int), (1 : Int)) = some (numB (a.length : Int) 1) from pk (z := 1) (by omega) (by omega) (by omega), tst_some, el120]
    have hl := nmB_len a
    exact apL_ok 0 m61 (fun x => numB x 2) a (by omega) (fun b hb => if_pos (h2 b hb)) _ (a.length + 1) 0 (numB (a.length : Int) 1) (by omega) (by omega) (by rw [numB_len, List.drop_zero]; unfold nmB at hl; omega)
  · cases h
def okV (v : Vp) : Prop := vpOk v = true ∧ v.2.2.2.length ≤ 1048576 ∧ ∀ y ∈ v.2.2.2, nmOk y = true
instance (v : Vp) : Decidable (okV v) := by unfold okV; infer_instance
theorem vp_in {v : Vp} (h : vpOk v = true) : (0 ≤ v.1 ∧ v.1 ≤ 4294967295) ∧ (0 ≤ v.2.1 ∧ v.2.1 ≤ 65535) ∧ (v.2.2.1 = 6 ∨ v.2.2.1 = 17) := by
  unfold vpOk adOk ptOk prOk at h
  simp only [Bool.and_eq_true, decide_eq_true_eq] at h
  exact ⟨h.1.1, h.1.2, h.2⟩
def m75 (v : Vp) : Option (List Int) := if okV v then some (vpB v) else none
theorem sat75 : Sat prog cxT 75 (c75 m75) := s75 m60 m120 m59 sat60 sat120 sat59 m75 fun v t h => by
  obtain ⟨a, p, q, l⟩ := v
  unfold m75 at h
  split at h
  · rename_i hc
    cases h
    obtain ⟨h1, h2, h3⟩ := hc
    have hv := vp_in h1
    simp only at h2 h3 hv
    refine ⟨0, ?_⟩
    show g75 m60 m120 m59 0 a p q l = _
    unfold g75
    have hl := nmB_len l
    rw [show m60 (a, (4 : Int)) = some (numB a 4) from pk (z := 4) (by omega) (by omega) (by omega), tst_some, show m60 (p, (2 : Int)) = some (numB p 2) from pk (z := 2) (by omega) (by omega) (by omega), tst_some,
      show m60 (q, (1 : Int)) = some (numB q 1) from pk (z := 1) (by omega) (by omega) (by omega), tst_some, show m120 (l, PUnit.unit) = some (numB (l.length : Int) 1 ++ nmB l) from if_pos ⟨by simp only; omega, h3⟩, tst_some,
      join4 (by simp only [numB_len, List.length_append]; omega), tst_some]
    rfl
  · cases h
def m74 (x : List Vp × Unit) : Option (List Int) := if x.1.length ≤ 100 ∧ ∀ v ∈ x.1, okV v then some (numB (x.1.length : Int) 1 ++ x.1.flatMap vpB) else none
theorem vps_len {a : List Vp} (h : a.length ≤ 100) (h2 : ∀ v ∈ a, v.2.2.2.length ≤ 1048576) : (a.flatMap vpB).length ≤ 900000000 := by
  have := flat_len (F := vpB) (K := 2097160) (a := a) fun x hx => by rw [vpB_len]; have := h2 x hx; omega
  omega
theorem sat74 : Sat prog cxT 74 (c74 m74) := s74 m60 m75 sat60 sat75 m74 fun x t h => by
  obtain ⟨a, u⟩ := x
  unfold m74 at h
  split at h
  · rename_i hc
    obtain ⟨h1, h2⟩ := hc
    cases h
    simp only at h1 h2
    refine ⟨a.length + 1, ?_⟩
    show g74 m60 m75 (a.length + 1) a u = _
    unfold g74
    rw [show m60 ((a.length : Int), (1 : Int)) = some (numB (a.length : Int) 1) from pk (z := 1) (by omega) (by omega) (by omega), tst_some, el74]
    have hl := vps_len h1 fun v hv => (h2 v hv).2.1
    exact apL_ok dVp m75 vpB a (by omega) (fun b hb => if_pos (h2 b hb)) _ (a.length + 1) 0 (numB (a.length : Int) 1) (by omega) (by omega) (by rw [numB_len, List.drop_zero]; omega)
  · cases h
def okP (c : Cg) : Prop := okC c ∧ ∀ x ∈ c.2.2, x.2.2.2.length ≤ 1048576
instance (c : Cg) : Decidable (okP c) := by unfold okP; infer_instance
def pC (c : Cg) : Int × List Int := if cF c = 0 then (0, cfB c) else (cF c, [])
def mPC (c : Cg) : Option (Int × List Int) := if okP c then some (pC c) else none
theorem sat30 : Sat prog cxT 30 (c30 mPC) := s30 mCF m60 m72 m74 m59 sat48 sat60 sat72 sat74 sat59 mPC fun c t h => by
  obtain ⟨v, bs, vs⟩ := c
  unfold mPC at h
  split at h
  · rename_i hc
    cases h
    refine ⟨0, ?_⟩
    show g30 mCF m60 m72 m74 m59 0 v bs vs = _
    unfold g30 pC
    rw [show mCF (v, bs, vs) = some (cF (v, bs, vs)) from if_pos hc.1, tst_some]
    by_cases h0 : cF (v, bs, vs) = 0
    · have hf := fit_of h0 hc.2
      have hv : 0 ≤ v ∧ v ≤ 1000000 := of_decide_eq_true hf.v
      have hnb : bs.length ≤ 8 := hf.nb
      have hnv : vs.length ≤ 4 := hf.nv
      have h2 : m72 (bs, PUnit.unit) = some (numB (bs.length : Int) 1 ++ bs.flatMap bkB) := if_pos ⟨by simp only; omega, hf.b⟩
      have h4 : m74 (vs, PUnit.unit) = some (numB (vs.length : Int) 1 ++ vs.flatMap vpB) := if_pos ⟨by simp only; omega, fun x hx => ⟨hf.p x hx, hf.l x hx, hf.n x hx⟩⟩
      have l1 := flat_len (F := bkB) (K := 7) (a := bs) fun x _ => by rw [bkB_len]; omega
      have l2 := vps_len (a := vs) (by omega) hf.l
      rw [bneF h0, cond_false, if_pos h0, show m60 (v, (4 : Int)) = some (numB v 4) from pk (z := 4) (by omega) (by omega) (by omega), tst_some, h2, tst_some, h4, tst_some, join3 (by simp only [numB_len, List.length_append]; omega), tst_some]
      rfl
    · rw [bneT h0, cond_true, if_neg h0]
  · cases h
end Go.Proofs.Try

set_option maxHeartbeats 0
set_option linter.unusedVariables false
set_option linter.unusedSimpArgs false
namespace Go.Proofs.Try
open Go Go.VM Go.RowKit

/-! spec -/
theorem nw2 (n : Int) : m110 (n, (2 : Int)) = some (numB n 2) := rfl
theorem nw4 (n : Int) : m110 (n, (4 : Int)) = some (numB n 4) := rfl
theorem p69_4 (L : Nat) (c : Cg) (u : List Int) (w x1 x2 x3 : Int) (l : List Int) (hl : l.length ≤ 1000000000) (k : List Int → Option (List Int)) : ∀ (n i : Nat) (o : List Int), i ≤ l.length → l.length < n + i → o.length + 2 * (l.length - i) ≤ 1000000000 →
    l69_4 m110 L c u w n o x1 x2 x3 l i k = k (o ++ nmB (l.drop i))
  | 0, i, o, h1, h2, _ => by omega
  | n + 1, i, o, h1, h2, h3 => by
    unfold l69_4
    by_cases hi : i < l.length
    · simp (disch := omega) only [dt, wi, cond_true, Bool.and_self, Int.toNat_natCast]
      rw [nw2, tst_some, numB_len, dt (by omega), cond_true, drop_cons 0 hi]
      have := p69_4 L c u w x1 x2 x3 l hl k n (i + 1) (o ++ numB (l.getD i 0) 2) (by omega) (by omega) (by rw [List.length_append, numB_len]; omega)
      rw [show (i : Int) + 1 = ((i + 1 : Nat) : Int) from rfl, this, List.append_assoc]
      rfl
    · simp (disch := omega) only [df, cond_false]
      rw [List.drop_eq_nil_of_le (by omega)]
      simp [nmB]
theorem p69_2 (L : Nat) (c : Cg) (hv : c.2.2.length ≤ 100) (hok : ∀ v ∈ c.2.2, okV v) (hL : 1048576 < L) (k : List Int → Option (List Int)) : ∀ (n i : Nat) (o : List Int), i ≤ c.2.2.length → c.2.2.length < n + i → o.length ≤ 1000 + 2097160 * i →
    l69_2 m110 L c n o i k = k (o ++ (c.2.2.drop i).flatMap vpB)
  | 0, i, o, h1, h2, _ => by omega
  | n + 1, i, o, h1, h2, h3 => by
    unfold l69_2
    by_cases hi : i < c.2.2.length
    · obtain ⟨k1, k2, k3⟩ := hok _ (getD_mem dVp hi)
      have hb := vp_in k1
      simp (disch := omega) only [dt, wi, cond_true, Bool.and_self, Int.toNat_natCast]
      rw [drop_cons dVp hi, List.flatMap_cons]
      obtain ⟨x, hx⟩ : ∃ x, c.2.2.getD i dVp = x := ⟨_, rfl⟩
      have hx' : c.2.2.getD i ((0 : Int), ((0 : Int), ((0 : Int), ([] : List Int)))) = x := hx
      rw [hx] at k1 k2 k3 hb ⊢
      simp only [hx']
      obtain ⟨a, p, q, l⟩ := x
      simp only at k2 k3 hb ⊢
      rw [nw4, tst_some, numB_len, dt (by omega), cond_true, nw2, tst_some, numB_len, List.length_append, numB_len, dt (by omega), cond_true, List.length_append, List.length_append, numB_len, numB_len]
      rw [dt (by simp only [List.length_cons, List.length_nil]; omega), cond_true]
      refine (p69_4 L c o i a p q l (by omega) _ L 0 _ (by omega) (by omega) (by simp only [List.length_append, numB_len, List.length_cons, List.length_nil]; omega)).trans ?_
      rw [List.drop_zero]
      have e : o ++ numB a 4 ++ numB p 2 ++ [IntKind.wrap .u8 q, IntKind.wrap .u8 (l.length : Int)] ++ nmB l = o ++ vpB (a, p, q, l) := by
        unfold vpB
        rw [numB_one, numB_one]
        simp
      rw [e]
      have := p69_2 L c hv hok hL k n (i + 1) (o ++ vpB (a, p, q, l)) (by omega) (by omega) (by rw [List.length_append, vpB_len]; simp only; omega)
      rw [show (i : Int) + 1 = ((i + 1 : Nat) : Int) from rfl, this, List.append_assoc]
    · simp (disch := omega) only [df, cond_false]
      rw [List.drop_eq_nil_of_le (by omega)]
      simp
theorem p69_0 (L : Nat) (c : Cg) (hb : c.2.1.length ≤ 100) (hok : ∀ b ∈ c.2.1, bkOk b = true) (k : List Int → Option (List Int)) : ∀ (n i : Nat) (o : List Int), i ≤ c.2.1.length → c.2.1.length < n + i → o.length ≤ 1000 + 7 * i →
    l69_0 m110 L c n o i k = k (o ++ (c.2.1.drop i).flatMap bkB)
  | 0, i, o, h1, h2, _ => by omega
  | n + 1, i, o, h1, h2, h3 => by
    unfold l69_0
    by_cases hi : i < c.2.1.length
    · have hb2 := bk_in (hok _ (getD_mem dBk hi))
      simp (disch := omega) only [dt, wi, cond_true, Bool.and_self, Int.toNat_natCast]
      rw [drop_cons dBk hi, List.flatMap_cons]
      obtain ⟨x, hx⟩ : ∃ x, c.2.1.getD i dBk = x := ⟨_, rfl⟩
      have hx' : c.2.1.getD i ((0 : Int), ((0 : Int), ((0 : Int), ((0 : Int), false)))) = x := hx
      rw [hx] at hb2 ⊢
      simp only [hx']
      obtain ⟨m, a, w, s, u⟩ := x
      simp only at hb2 ⊢
      have := p69_0 L c hb hok k n (i + 1) (o ++ bkB (m, a, w, s, u)) (by omega) (by omega) (by rw [List.length_append, bkB_len]; omega)
      have e : o ++ bkB (m, a, w, s, u) = o ++ numB m 2 ++ numB a 4 ++ [IntKind.wrap .u8 (stN (m, a, w, s, u))] := by
        unfold bkB
        rw [numB_one]
        simp
      rw [← List.append_assoc, ← this, e]
      cases u
      · rw [cond_false, nw2, tst_some, numB_len, dt (by omega), cond_true, nw4, tst_some, numB_len, List.length_append, numB_len, dt (by omega), cond_true, List.length_append, List.length_append, numB_len, numB_len]
        rw [dt (by simp only [List.length_cons, List.length_nil]; omega), cond_true]
        simp (disch := omega) only [wi]
        rw [show stN (m, a, w, s, false) = 8 * w + 2 * s by simp [stN]; omega]
        rfl
      · rw [cond_true, nw2, tst_some, numB_len, dt (by omega), cond_true, nw4, tst_some, numB_len, List.length_append, numB_len, dt (by omega), cond_true, List.length_append, List.length_append, numB_len, numB_len]
        rw [dt (by simp only [List.length_cons, List.length_nil]; omega), cond_true]
        simp (disch := omega) only [wi]
        rw [show stN (m, a, w, s, true) = 8 * w + 2 * s + 1 by simp [stN]; omega]
        rfl
    · simp (disch := omega) only [df, cond_false]
      rw [List.drop_eq_nil_of_le (by omega)]
      simp
def m69 (c : Cg) : Option (List Int) := if okP c ∧ cF c = 0 then some (cfB c) else none
theorem sat69 : Sat prog cxT 69 (c69 m69) := s69 m110 sat110 m69 fun c t h => by
  unfold m69 at h
  split at h
  · rename_i hc
    cases h
    have hf := fit_of hc.2 hc.1.2
    have hnb := hf.nb
    have hnv := hf.nv
    refine ⟨1048577, ?_⟩
    unfold g69
    rw [nw4, tst_some, numB_len, dt (by simp only [List.length_cons, List.length_nil]; omega), cond_true]
    refine (p69_0 1048577 c (by omega) hf.b _ 1048577 0 _ (by omega) (by omega) (by simp [numB_len])).trans ?_
    have l1 := flat_len (F := bkB) (K := 7) (a := c.2.1) fun x _ => by rw [bkB_len]; omega
    rw [List.drop_zero, dt (by simp only [List.length_append, numB_len, List.length_cons, List.length_nil]; omega), cond_true]
    refine (p69_2 1048577 c (by omega) (fun v hv => ⟨hf.p v hv, hf.l v hv, hf.n v hv⟩) (by omega) _ 1048577 0 _ (by omega) (by omega) (by simp only [List.length_append, numB_len, List.length_cons, List.length_nil]; omega)).trans ?_
    rw [List.drop_zero]
    unfold cfB
    rw [numB_one, numB_one]
    simp
  · cases h
theorem sat28 : Sat prog cxT 28 (c28 mPC) := s28 m52 m69 sat52 sat69 mPC fun c t h => by
  obtain ⟨v, bs, vs⟩ := c
  unfold mPC at h
  split at h
  · rename_i hc
    cases h
    refine ⟨0, ?_⟩
    show g28 m52 m69 0 v bs vs = _
    unfold g28 pC
    rw [show m52 (v, bs, vs) = some (cF (v, bs, vs)) from if_pos hc.1, tst_some]
    by_cases h0 : cF (v, bs, vs) = 0
    · rw [bneF h0, cond_false, if_pos h0, show m69 (v, bs, vs) = some (cfB (v, bs, vs)) from if_pos ⟨hc, h0⟩, tst_some]
    · rw [bneT h0, cond_true, if_neg h0]
  · cases h

/-! FnExactPackConfig -/
theorem cfB_len {c : Cg} (h : Fit c) : (cfB c).length ≤ 1000000000 := by
  have hnb := h.nb
  have hnv := h.nv
  have l1 := flat_len (F := bkB) (K := 7) (a := c.2.1) fun x _ => by rw [bkB_len]; omega
  have l2 := vps_len (a := c.2.2) (by omega) h.l
  unfold cfB
  simp only [List.length_append, numB_len]
  omega
theorem pC_len {c : Cg} (h : okP c) : (pC c).2.length ≤ 1000000000 := by
  unfold pC
  split
  · rename_i h0; exact cfB_len (fit_of h0 h.2)
  · simp
def m6 (c : Cg) : Option Bool := if okZ c then some true else none
theorem br_eq {z1 : Int} {z2 : List Int} (h : z2.length ≤ 1000000000) : m19 ((z1, z2), z1, z2) = some true := by
  have : m19 ((z1, z2), z1, z2) = some (decide ((z1, z2) = (z1, z2))) := if_pos ⟨by simp only; omega, by simp only; omega⟩
  rw [this, dt rfl]
theorem br_mark {z1 : Int} {z2 : List Int} (h : z2.length ≤ 1000000000) : m20 ((z1, z2), 1) = some (1 + (z2.length : Int), z1, mkB 1 z2.length) := if_pos ⟨by simp only; omega, by simp only; omega, by simp only; omega⟩
theorem br_held {z1 : Int} {z2 : List Int} (h : z2.length ≤ 1000000000) : m21 ((z1, mkB 1 z2.length), 1) = some (1 + (z2.length : Int)) := mark_held z2 1 (by omega) (by omega) (by omega)
theorem sat6 : Sat prog cxT 6 (c6 m6) := s6 m27 m29 mPC mPC m19 m31 m32 m20 m21 sat27 sat29 sat28 sat30 sat19 sat31 sat32 sat20 sat21 m6 fun x t h => by
  obtain ⟨a, b, c⟩ := x
  unfold m6 at h
  split at h
  · rename_i hz
    cases h
    refine ⟨0, ?_⟩
    show g6 m27 m29 mPC mPC m19 m31 m32 m20 m21 0 a b c = some true
    unfold g6
    rw [sz_at hz, tst_some]
    by_cases h : szv 1048576 (wC (a, b, c)) < 0
    · rw [dt h, cond_true]
    · obtain ⟨hM, hC⟩ := small_ok h
      obtain ⟨w1, w2, w3⟩ := wC_small (c := (a, b, c)) (by omega)
      obtain ⟨r, hr0, hr⟩ := m32_some (c := (a, b, c)) w1 w2 w3
      have hP : okP (a, b, c) := ⟨hC, w3⟩
      have hS : mPC (a, b, c) = some (pC (a, b, c)) := if_pos hP
      have hsl := pC_len hP
      generalize pC (a, b, c) = z at hS hsl
      obtain ⟨z1, z2⟩ := z
      have hsl : z2.length ≤ 1000000000 := hsl
      have h31 : m31 ((a, b, c), a, b, c) = some true := by
        have : m31 ((a, b, c), a, b, c) = some (decide ((a, b, c) = (a, b, c))) := if_pos hC
        rw [this, dt rfl]
      rw [df h, cond_false, show m29 (a, b, c) = some (a, b, c) from if_pos hM]
      simp only [tst_some, hS, br_eq hsl, h31, hr, br_mark hsl, br_held hsl, Bool.not_true, cond_false]
      rw [df (show ¬ r.1 < 0 by omega), df (show ¬ 1 + (z2.length : Int) < 0 by omega), bneF rfl]
      simp only [cond_false]
  · cases h
end Go.Proofs.Try

namespace Go.Proofs.Try
open Go Go.VM Go.RowKit

theorem cells2 : prog.cellsOf 2 = 1 := by kernel_rfl
theorem cells4 : prog.cellsOf 4 = 1 := by kernel_rfl
theorem cells30 : prog.cellsOf 30 = 1 := by kernel_rfl
theorem cells57 : prog.cellsOf 57 = 1 := by kernel_rfl
theorem cells58 : prog.cellsOf 58 = 1 := by kernel_rfl
theorem cells60 : prog.cellsOf 60 = 3 := by kernel_rfl
theorem cells160 : prog.cellsOf 160 = 4 := by kernel_rfl
theorem cells162 : prog.cellsOf 162 = 5 := by kernel_rfl
def i64In (x : Int) : Prop := (Lit.int .i64 x).wf = true
def opI_good (x : List Int) : Prop := x.length ≤ maxLen ∧ ∀ y ∈ x, i64In y
def row2 (xs : List Int) : L cxT.ty := some (.inr (ro 2 xs))
theorem opI : Opens prog cxT 30 (fun x : List Int => [row2 x]) opI_good :=
  opens_slice (cx := cxT) (e := 2) (good := i64In) underlying30 cells2 (by decide) cxT_ok (opens_int (cx := cxT) underlying2)
def bk_good (b : Bk) : Prop := i64In b.1 ∧ i64In b.2.1 ∧ i64In b.2.2.1 ∧ i64In b.2.2.2.1 ∧ True
set_option maxRecDepth 100000 in
theorem opBk : Opens prog cxT 162 (fun b : Bk => [lv (.int .i64 b.1), lv (.int .i64 b.2.1), lv (.int .i64 b.2.2.1), lv (.int .i64 b.2.2.2.1), lv (.bool b.2.2.2.2)]) bk_good :=
  opens_struct underlying162 cells162 (opensF_cons (opens_int underlying2) rfl cells2 (opensF_cons (opens_int underlying2) rfl cells2 (opensF_cons (opens_int underlying2) rfl cells2 (opensF_cons (opens_int underlying2) rfl cells2 (opensF_one (l := fun x : Bool => lv (.bool x)) (opens_bool underlying4) rfl cells4)))))
def bks_good (x : List Bk) : Prop := x.length ≤ maxLen ∧ ∀ y ∈ x, bk_good y
def row162 (xs : List Bk) : L cxT.ty := some (.inr (ro 162 xs))
set_option maxRecDepth 100000 in
theorem opBks : Opens prog cxT 57 (fun x : List Bk => [row162 x]) bks_good :=
  opens_slice (cx := cxT) (e := 162) (good := bk_good) underlying57 cells162 (by decide) cxT_ok opBk
def vp_good (b : Vp) : Prop := i64In b.1 ∧ i64In b.2.1 ∧ i64In b.2.2.1 ∧ opI_good b.2.2.2
set_option maxRecDepth 100000 in
theorem opVp : Opens prog cxT 160 (fun b : Vp => [lv (.int .i64 b.1), lv (.int .i64 b.2.1), lv (.int .i64 b.2.2.1), row2 b.2.2.2]) vp_good :=
  opens_struct underlying160 cells160 (opensF_cons (opens_int underlying2) rfl cells2 (opensF_cons (opens_int underlying2) rfl cells2 (opensF_cons (opens_int underlying2) rfl cells2 (opensF_one (l := row2) opI rfl cells30))))
def vps_good (x : List Vp) : Prop := x.length ≤ maxLen ∧ ∀ y ∈ x, vp_good y
def row160 (xs : List Vp) : L cxT.ty := some (.inr (ro 160 xs))
set_option maxRecDepth 100000 in
theorem opVps : Opens prog cxT 58 (fun x : List Vp => [row160 x]) vps_good :=
  opens_slice (cx := cxT) (e := 160) (good := vp_good) underlying58 cells160 (by decide) cxT_ok opVp
def opC_good (c : Cg) : Prop := i64In c.1 ∧ bks_good c.2.1 ∧ vps_good c.2.2
def encC (c : Cg) : List (L cxT.ty) := [lv (.int .i64 c.1), row162 c.2.1, row160 c.2.2]
set_option maxRecDepth 100000 in
theorem opC : Opens prog cxT 60 encC opC_good :=
  opens_struct underlying60 cells60 (opensF_cons (opens_int underlying2) rfl cells2 (opensF_cons (l := row162) opBks rfl cells57 (opensF_one (l := row160) opVps rfl cells58)))
theorem okZ_of {c : Cg} (h : opC_good c) : okZ c := by
  have hm : maxLen ≤ 9223372036854775807 := by decide
  obtain ⟨_, ⟨h1, _⟩, h2, h3⟩ := h
  exact ⟨Nat.le_trans h1 hm, Nat.le_trans h2 hm, fun v hv => Nat.le_trans (h3 v hv).2.2.2.1 hm⟩
end Go.Proofs.Try
