/- A part of the proof of FnExactUnpackCmd: L6Pb, L6Pg, L6Pi, L6Pj. -/
import Derived.Test.YthfopihmealhkaaVmPl
import Derived.Test.YthfopihmealhkaaL6Fa
import Derived.Test.YthfopihmealhkaaL6Fc
import Derived.Test.YthfopihmealhkaaL6Fe
import Derived.Test.YthfopihmealhkaaL6Pa
set_option maxHeartbeats 0
set_option linter.unusedVariables false
set_option linter.unusedSimpArgs false
namespace Go.Proofs.Try
open Go Go.VM Go.RowKit

/-! toByteS -/
def m23 (a : List Int) : Option (List Int) := if a.length ≤ 1000000000 then some a else none
theorem p23 (L : Nat) (a : List Int) (ha : a.length ≤ 1000000000) (k : List Int → Option (List Int)) : ∀ (n i : Nat) (o : List Int), o.length = a.length → i ≤ a.length → a.length < n + i → o.take i = a.take i → l23_0 L a n o i k = k a
  | 0, i, o, _, h2, h3, _ => by omega
  | n + 1, i, o, h1, h2, h3, h4 => by
    unfold l23_0
    by_cases hi : i < a.length
    · simp (disch := omega) only [dt, df, wi, cond_true, Bool.and_self, Int.toNat_natCast]
      have := p23 L a ha k n (i + 1) (o.set i (a.getD i 0)) (by rw [List.length_set]; exact h1) (by omega) (by omega) (by
        rw [List.take_add_one, List.take_add_one, List.take_set_of_le (Nat.le_refl _), h4]
        congr 1
        rw [List.getElem?_set_self (by omega), List.getElem?_eq_getElem hi]
        simp [List.getD, List.getElem?_eq_getElem hi])
      simpa using this
    · simp (disch := omega) only [dt, df, cond_false]
      have hil : i = a.length := by omega
      rw [hil, List.take_length, ← h1, List.take_length] at h4
      rw [h4]
theorem sat23 : Sat prog cxT 23 (c23 m23) := s23 m23 fun x t h => by
  unfold m23 at h
  split at h
  · rename_i ha
    cases h
    refine ⟨x.length + 1, ?_⟩
    unfold g23
    simp (disch := omega) only [dt, cond_true, Bool.and_self, Int.toNat_natCast]
    exact p23 _ x ha _ _ 0 _ (by simp) (by omega) (by omega) rfl
  · cases h

/-! eqByteS -/
def m26 (x : List Int × List Int) : Option Bool := if x.1.length ≤ 1000000000000 ∧ x.2.length ≤ 1000000000000 then some (decide (x.1 = x.2)) else none
theorem p26 (L : Nat) (a b : List Int) (hl : a.length = b.length) (ha : a.length ≤ 1000000000000) (k : Option Bool) : ∀ (n i : Nat), i ≤ a.length → a.length < n + i →
    l26_0 L a b n i k = if a.drop i = b.drop i then k else some false
  | 0, i, h2, h3 => by omega
  | n + 1, i, h2, h3 => by
    unfold l26_0
    by_cases hi : i < a.length
    · simp (disch := omega) only [dt, df, wi, cond_true, Bool.and_self, Int.toNat_natCast]
      rw [drop_cons 0 hi, drop_cons 0 (show i < b.length by omega)]
      have := p26 L a b hl ha k n (i + 1) (by omega) (by omega)
      simp only [Int.natCast_add, Int.cast_ofNat_Int] at this
      rw [this]
      by_cases hx : a.getD i 0 = b.getD i 0
      · rw [hx]; simp
      · have h2 : (a.getD i 0 != b.getD i 0) = true := by simpa using hx
        rw [h2, if_neg (fun h => hx (List.cons.inj h).1)]
        rfl
    · simp (disch := omega) only [df, cond_false]
      rw [List.drop_eq_nil_of_le (by omega), List.drop_eq_nil_of_le (by omega)]
      simp
theorem sat26 : Sat prog cxT 26 (c26 m26) := s26 m26 fun x t h => by
  unfold m26 at h
  split at h
  · rename_i ha
    cases h
    refine ⟨x.1.length + 1, ?_⟩
    unfold g26
    by_cases hl : x.1.length = x.2.length
    · have e1 : ((Nat.cast x.1.length : Int) != (Nat.cast x.2.length : Int)) = false := by simp [hl]
      have := p26 (x.1.length + 1) x.1 x.2 hl ha.1 (some true) (x.1.length + 1) 0 (by omega) (by omega)
      rw [e1]
      simp only [cond_false]
      refine this.trans ?_
      simp only [List.drop_zero]
      split <;> simp [*]
    · have e1 : ((Nat.cast x.1.length : Int) != (Nat.cast x.2.length : Int)) = true := by simp; omega
      rw [e1]
      have : x.1 ≠ x.2 := fun h => hl (by rw [h])
      simp [this]
  · cases h

def nrm (t : Int) : Int := if t > 65535 then t - 65535 else t
def sw : List Int → Int → Int
  | [], h => h
  | [x], h => nrm (h + x * 256)
  | x :: y :: r, h => sw r (nrm (h + (x * 256 + y)))
def sumW (a : List Int) : Int := 65535 - sw a 0
def mkB (k : Int) (n : Nat) : List Int := (List.range n).map fun (i : Nat) => IntKind.wrap .u8 (k + (i : Int))
def m36 (x : List Int × Int) : Option (Int × List Int) := if 0 ≤ x.2 ∧ x.2 ≤ 1000000000000 ∧ x.1.length ≤ 1000000000000 then some (x.2 + x.1.length, mkB x.2 x.1.length) else none
def m62 (x : List Int × Int) : Option Int := if 0 ≤ x.2 ∧ x.2 ≤ 1000000000000 ∧ x.1.length ≤ 1000000000000 ∧ x.1 = mkB x.2 x.1.length then some (x.2 + x.1.length) else none
/-! results of bytes -/
def m20 (x : (Int × List Int) × Int) : Option (Int × Int × List Int) := if 0 ≤ x.2 ∧ x.2 ≤ 1000000000000 ∧ x.1.2.length ≤ 1000000000000 then some (x.2 + x.1.2.length, x.1.1, mkB x.2 x.1.2.length) else none
def m21 (x : (Int × List Int) × Int) : Option Int := m62 (x.1.2, x.2)
def m19 (x : (Int × List Int) × Int × List Int) : Option Bool := if x.1.2.length ≤ 1000000000000 ∧ x.2.2.length ≤ 1000000000000 then some (decide (x.1 = x.2)) else none
/-! numbers into bytes -/
def numB (n : Int) (z : Nat) : List Int := (List.range z).map fun i => IntKind.wrap .u8 (Int.fdiv n ((2 : Int) ^ (8 * (z - 1 - i))))
theorem numB_len (n : Int) (z : Nat) : (numB n z).length = z := by simp [numB]
theorem six {z : Int} (h : 1 ≤ z ∧ z ≤ 6) : z = 1 ∨ z = 2 ∨ z = 3 ∨ z = 4 ∨ z = 5 ∨ z = 6 := by omega
def m112 (x : Int × Int) : Option (List Int) := if 1 ≤ x.2 ∧ x.2 ≤ 6 then some (numB x.1 x.2.toNat) else none
theorem sat112 : Sat prog cxT 112 (c112 m112) := s112 m112 fun x t h => by
  obtain ⟨n, z⟩ := x
  unfold m112 at h
  split at h
  · rename_i hc
    cases h
    refine ⟨8, ?_⟩
    rcases six hc with h | h | h | h | h | h <;> simp only at h <;> subst h <;> kernel_rfl
  · cases h
/-! joinPieces -/
def m59 (x : List (List Int)) : Option (List Int) := if x.length ≤ 1000000 ∧ x.flatten.length ≤ 1000000000 then some x.flatten else none
theorem p59 (L : Nat) (a : List (List Int)) (ha : a.length ≤ 1000000) (k : List Int → Option (List Int)) : ∀ (n i : Nat) (o : List Int), i ≤ a.length → a.length < n + i → (o ++ (a.drop i).flatten).length ≤ 1000000000 →
    l59_0 L a n o i k = k (o ++ (a.drop i).flatten)
  | 0, i, o, h2, h3, _ => by omega
  | n + 1, i, o, h2, h3, h4 => by
    unfold l59_0
    by_cases hi : i < a.length
    · rw [drop_cons [] hi, List.flatten_cons] at h4
      simp only [List.length_append] at h4
      simp (disch := omega) only [dt, df, wi, cond_true, Bool.and_self, Int.toNat_natCast]
      have := p59 L a ha k n (i + 1) (o ++ a.getD i []) (by omega) (by omega) (by simp only [List.length_append]; omega)
      simp only [Int.natCast_add, Int.cast_ofNat_Int] at this
      rw [this, drop_cons [] hi, List.flatten_cons, List.append_assoc]
    · simp (disch := omega) only [df, cond_false]
      rw [List.drop_eq_nil_of_le (by omega)]
      simp
theorem sat59 : Sat prog cxT 59 (c59 m59) := s59 m59 fun x t h => by
  unfold m59 at h
  split at h
  · rename_i hc
    cases h
    refine ⟨x.length + 1, ?_⟩
    unfold g59
    have := p59 (x.length + 1) x hc.1 some (x.length + 1) 0 [] (by omega) (by omega) (by simpa using hc.2)
    simpa using this
  · cases h

/-! heads -/
theorem u8_in (n : Int) : 0 ≤ IntKind.wrap .u8 n ∧ IntKind.wrap .u8 n ≤ 255 := by
  show 0 ≤ n % 256 ∧ n % 256 ≤ 255
  omega
theorem numB_okB (n : Int) (z : Nat) : okB (numB n z) = true := by
  unfold okB numB
  rw [List.all_eq_true]
  intro x hx
  obtain ⟨i, _, rfl⟩ := List.mem_map.1 hx
  have := u8_in (Int.fdiv n ((2 : Int) ^ (8 * (z - 1 - i))))
  simp [this]
theorem okB_app {a b : List Int} (ha : okB a = true) (hb : okB b = true) : okB (a ++ b) = true := by
  unfold okB at ha hb ⊢
  rw [List.all_append, ha, hb]; rfl

/-! the specification's -/
theorem vals5 (a : List Int) : (flatVals cxT 5 a).map VM.byteOf = a := by
  have h : ∀ a : List Int, ((a.flatMap (fun x : Int => ([lv (.int .u8 x)] : List (L cxT.ty)))).filterMap leafVal).map VM.byteOf = a := by
    intro a
    induction a with
    | nil => rfl
    | cons x r ih =>
      simp only [List.flatMap_cons, List.singleton_append, List.filterMap_cons, lv, leafVal, List.map_cons] at ih ⊢
      rw [ih]
      rfl
  exact h a
theorem str_eq (a b : List Int) (ha : okB a = true) (hb : okB b = true) : (ByteArray.toList (strV (flatVals cxT 5 a)) == ByteArray.toList (strV (flatVals cxT 5 b))) = decide (a = b) := by
  unfold strV
  rw [vals5, vals5, toList_data, toList_data, push_fold, push_fold]
  by_cases h : a = b
  · rw [h]; simp
  · rw [df h]
    have : ¬ (ByteArray.empty.data.toList ++ a.map (fun n => UInt8.ofNat n.toNat) = ByteArray.empty.data.toList ++ b.map (fun n => UInt8.ofNat n.toNat)) := fun he => h (bytes_inj a b ha hb (List.append_cancel_left he))
    simpa using this

def m115 (x : List Int × List Int) : Option Bool := if okB x.1 = true ∧ okB x.2 = true then some (decide (x.1 = x.2)) else none
theorem sat115 : Sat prog cxT 115 (c115 m115) := s115 m115 fun x t h => by
  obtain ⟨a, b⟩ := x
  unfold m115 at h
  split at h
  · rename_i hc
    cases h
    refine ⟨0, ?_⟩
    show g115 0 a b = _
    unfold g115
    rw [str_eq a b hc.1 hc.2]
  · cases h
theorem beqF {a b : Int} (h : ¬ a = b) : (a == b) = false := by simpa using h
end Go.Proofs.Try

set_option maxHeartbeats 0
set_option linter.unusedVariables false
set_option linter.unusedSimpArgs false
namespace Go.Proofs.Try
open Go Go.VM Go.RowKit

/-! ### Configurations in bytes -/
theorem flat_len {α : Type} {F : α → List Int} {K : Nat} : ∀ {a : List α}, (∀ x ∈ a, (F x).length ≤ K) → (a.flatMap F).length ≤ K * a.length
  | [], _ => by simp
  | x :: r, h => by
    have h1 := h x (List.mem_cons_self ..)
    have h2 := flat_len (a := r) fun y hy => h y (List.mem_cons_of_mem _ hy)
    rw [List.flatMap_cons, List.length_append, List.length_cons, Nat.mul_add]
    omega

def stN (b : Bk) : Int := b.2.2.1 * 8 + b.2.2.2.1 * 2 + (if b.2.2.2.2 then 1 else 0)
theorem numB_one (n : Int) : numB n 1 = [IntKind.wrap .u8 n] := by
  show [IntKind.wrap .u8 (Int.fdiv n 1)] = _
  rw [Int.fdiv_one]
end Go.Proofs.Try

set_option maxHeartbeats 0
set_option linter.unusedVariables false
set_option linter.unusedSimpArgs false
namespace Go.Proofs.Try
open Go Go.VM Go.RowKit

/-! impl -/
def m60 (x : Int × Int) : Option (List Int) := if (0 ≤ x.1 ∧ x.1 ≤ 1000000000000) ∧ 1 ≤ x.2 ∧ x.2 ≤ 6 then some (numB x.1 x.2.toNat) else none
theorem sat60 : Sat prog cxT 60 (c60 m60) := s60 m112 sat112 m60 fun x t h => by
  obtain ⟨n, z⟩ := x
  unfold m60 at h
  split at h
  · rename_i hc
    cases h
    refine ⟨0, ?_⟩
    obtain ⟨⟨h1, h2⟩, h3⟩ := hc
    simp only at h1 h2 h3
    show g60 m112 0 n z = _
    unfold g60
    rw [wu (by omega) (by omega), show m112 (n, z) = some (numB n z.toNat) from if_pos h3, tst_some]
  · cases h
theorem pk {n : Int} {z : Nat} (h : 0 ≤ n) (h1 : n ≤ 1000000000000) (h2 : 1 ≤ z ∧ z ≤ 6) : m60 (n, (z : Int)) = some (numB n z) := by
  have : m60 (n, (z : Int)) = some (numB n ((z : Int)).toNat) := if_pos ⟨⟨h, h1⟩, by show (1 : Int) ≤ (z : Int); omega, by show (z : Int) ≤ 6; omega⟩
  rw [this, Int.toNat_natCast]
def m61 (n : Int) : Option (List Int) := if 0 ≤ n ∧ n ≤ 999 then some (numB n 2) else none
theorem nm_in {n : Int} (h : nmOk n = true) : 1 ≤ n ∧ n ≤ 999 := of_decide_eq_true h
theorem sat61 : Sat prog cxT 61 (c61 m61) := s61 m60 sat60 m61 fun n t h => by
  unfold m61 at h
  split at h
  · rename_i hc
    cases h
    refine ⟨0, ?_⟩
    show g61 m60 0 n = _
    unfold g61
    rw [show m60 (n, (2 : Int)) = some (numB n 2) from pk (z := 2) (by omega) (by omega) (by omega), tst_some]
  · cases h
def okV (v : Vp) : Prop := vpOk v = true ∧ v.2.2.2.length ≤ 1048576 ∧ ∀ y ∈ v.2.2.2, nmOk y = true
instance (v : Vp) : Decidable (okV v) := by unfold okV; infer_instance
def okP (c : Cg) : Prop := okC c ∧ ∀ x ∈ c.2.2, x.2.2.2.length ≤ 1048576
instance (c : Cg) : Decidable (okP c) := by unfold okP; infer_instance
end Go.Proofs.Try

set_option maxHeartbeats 0
set_option linter.unusedVariables false
set_option linter.unusedSimpArgs false
namespace Go.Proofs.Try
open Go Go.VM Go.RowKit

/-! spec -/
/-! FnExactPackConfig -/
end Go.Proofs.Try
