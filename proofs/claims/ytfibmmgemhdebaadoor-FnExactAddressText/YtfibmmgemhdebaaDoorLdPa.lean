/- A part of the proof of FnExactAddressText: LdPa, LdPb. -/
import Derived.Test.YtfibmmgemhdebaaDoorVmPl
import Derived.Test.YtfibmmgemhdebaaDoorLdFa
import Derived.Lib.ItoaNum
import Derived.Lib.Join
set_option maxHeartbeats 0
set_option linter.unusedVariables false
set_option linter.unusedSimpArgs false
namespace Go.Proofs.Tryd
open Go Go.VM Go.RowKit

/-! ### Numbers -/
def adOk (x : Int) : Bool := decide (0 ≤ x ∧ x ≤ 4294967295)
def ptOk (x : Int) : Bool := decide (0 ≤ x ∧ x ≤ 65535)
theorem bif_and {a b : Int} {x : Int} : (bif decide (x ≥ a) then some (decide (x ≤ b)) else some false) = some (decide (a ≤ x ∧ x ≤ b)) := by
  by_cases h : a ≤ x
  · rw [dt (show x ≥ a from h)]; simp [h]
  · rw [df (show ¬ x ≥ a from h)]; simp [h]
theorem sat32 : Sat prog cxT 32 (c32 fun x => some (decide (x.2.1 ≤ x.1 ∧ x.1 ≤ x.2.2))) := s32 _ fun x t h => by
  obtain ⟨x, a, b⟩ := x
  cases h
  exact ⟨0, bif_and⟩
theorem sat15 : Sat prog cxT 15 (c15 fun x => some (adOk x)) := s15 _ fun x t h => by cases h; exact ⟨0, bif_and⟩
theorem sat13 : Sat prog cxT 13 (c13 fun x => some (adOk x)) := s13 _ sat32 _ fun x t h => by cases h; exact ⟨0, rfl⟩
def mid : Nat := 1000000000
theorem bifeq {α : Type} [DecidableEq α] [BEq α] [LawfulBEq α] {a b : α} {o : Option Bool} {p : Prop} [Decidable p] (h : a = b → o = some (decide p)) (h2 : ¬ a = b → ¬ p) : (bif a != b then some false else o) = some (decide p) := by
  by_cases e : a = b
  · rw [bneF e, cond_false, h e]
  · rw [bneT e, cond_true, df (h2 e)]
def numB (n : Int) (z : Nat) : List Int := (List.range z).map fun i => IntKind.wrap .u8 (Int.fdiv n ((2 : Int) ^ (8 * (z - 1 - i))))
theorem numB_len (n : Int) (z : Nat) : (numB n z).length = z := by simp [numB]
theorem six {z : Int} (h : 1 ≤ z ∧ z ≤ 6) : z = 1 ∨ z = 2 ∨ z = 3 ∨ z = 4 ∨ z = 5 ∨ z = 6 := by omega
def m16 (x : Int × Int) : Option (List Int) := if 1 ≤ x.2 ∧ x.2 ≤ 6 then some (numB x.1 x.2.toNat) else none
theorem sat16 : Sat prog cxT 16 (c16 m16) := s16 m16 fun x t h => by
  obtain ⟨n, z⟩ := x
  unfold m16 at h
  split at h
  · rename_i hc
    cases h
    refine ⟨8, ?_⟩
    rcases six hc with h | h | h | h | h | h <;> simp only at h <;> subst h <;> kernel_rfl
  · cases h
def m33 (x : Int × Int) : Option (List Int) := if 1 ≤ x.2 ∧ x.2 ≤ 6 then some (numB x.1 x.2.toNat) else none
theorem sat33 : Sat prog cxT 33 (c33 m33) := s33 m33 fun x t h => by
  obtain ⟨n, z⟩ := x
  unfold m33 at h
  split at h
  · rename_i hc
    cases h
    refine ⟨8, ?_⟩
    rcases six hc with h | h | h | h | h | h <;> simp only at h <;> subst h <;> kernel_rfl
  · cases h
/-! joinPieces -/
theorem u8_in (n : Int) : 0 ≤ IntKind.wrap .u8 n ∧ IntKind.wrap .u8 n ≤ 255 := by
  show 0 ≤ n % 256 ∧ n % 256 ≤ 255
  omega
theorem numB_okB (n : Int) (z : Nat) : okB (numB n z) = true := by
  unfold okB numB
  rw [List.all_eq_true]
  intro x hx
  obtain ⟨i, _, rfl⟩ := List.mem_map.1 hx
  have := u8_in (Int.fdiv n ((2 : Int) ^ (8 * (z - 1 - i))))
  simp [this]
end Go.Proofs.Tryd

set_option maxHeartbeats 0
set_option linter.unusedVariables false
set_option linter.unusedSimpArgs false
namespace Go.Proofs.Tryd
open Go Go.VM Go.RowKit

/-! ### Numerals and addresses in text -/
def dg (n : Nat) : ByteArray := ⟨(Lib.decDigits n).toArray⟩
theorem decDigits_len : ∀ (n : Nat), (Lib.decDigits n).length ≤ n + 1 := by
  intro n
  induction n using Nat.strongRecOn with
  | ind n ih =>
    rw [Lib.decDigits]
    split
    · simp
    · have := ih (n / 10) (by omega)
      simp only [List.length_append, List.length_cons, List.length_nil]
      omega
theorem dg_size (n : Nat) : (dg n).size ≤ n + 1 := by
  have := decDigits_len n
  show (Lib.decDigits n).toArray.size ≤ n + 1
  simpa using this
theorem strV_one (x : Int) : strV (flatVals cxT 5 [x]) = ⟨#[UInt8.ofNat x.toNat]⟩ := rfl
theorem app_mk (a b : List UInt8) : (⟨a.toArray⟩ : ByteArray) ++ ⟨b.toArray⟩ = ⟨(a ++ b).toArray⟩ := by
  apply ByteArray.ext
  simp [ByteArray.data_append]
theorem dg_small {n : Nat} (h : n < 10) : dg n = ⟨#[UInt8.ofNat (48 + n)]⟩ := by
  unfold dg
  rw [Lib.decDigits, dif_pos h]
theorem dg_step {n : Nat} (h : ¬ n < 10) : dg n = dg (n / 10) ++ ⟨#[UInt8.ofNat (48 + n % 10)]⟩ := by
  unfold dg
  rw [Lib.decDigits, dif_neg h]
  exact (app_mk _ _).symm
theorem pow10 : ∀ k : Nat, k ≤ 6 → (10 : Int) ^ k ≤ 1000000 := by
  intro k hk
  have : k = 0 ∨ k = 1 ∨ k = 2 ∨ k = 3 ∨ k = 4 ∨ k = 5 ∨ k = 6 := by omega
  rcases this with rfl | rfl | rfl | rfl | rfl | rfl | rfl <;> decide
def mD (k : Nat) (n : Int) : Option ByteArray := if 0 ≤ n ∧ n < 10 ^ k then some (dg n.toNat) else none
theorem satD : ∀ k, k ≤ 6 → Sat prog cxT 34 (c34 fun n => if k = 0 then none else mD k n)
  | 0, _ => by
    intro w A0 l us r hA hargs hF
    obtain ⟨x, t, rfl, hx, rfl⟩ := fnT_inv hF
    simp at hx
  | k + 1, hk => s34 _ (satD k (by omega)) _ fun x t h => by
    rw [if_neg (by omega)] at h
    unfold mD at h
    split at h
    · rename_i hc
      cases h
      obtain ⟨h0, h1⟩ := hc
      obtain ⟨n, rfl⟩ := Int.eq_ofNat_of_zero_le h0
      have hb : n < 1000000 := by
        have := pow10 (k + 1) hk
        omega
      refine ⟨0, ?_⟩
      unfold g34
      by_cases h10 : n < 10
      · have hsv : strV (flatVals cxT (5 : Nat) (List.cons (IntKind.wrap .u8 (IntKind.wrap .i64 ((48 : Int) + (n : Int)))) ([] : List (Int)))) = ⟨#[UInt8.ofNat (48 + n)]⟩ := by
          rw [wi (by omega) (by omega), wb (by omega) (by omega), show (48 : Int) + (n : Int) = ((48 + n : Nat) : Int) by omega]
          exact strV_one _
        rw [dt (by omega), cond_true, hsv, Int.toNat_natCast, dg_small h10]
      · rw [df (by omega), cond_false]
        have e1 : Int.tdiv (n : Int) 10 = ((n / 10 : Nat) : Int) := by
          rw [Int.tdiv_eq_ediv_of_nonneg (by omega)]; omega
        have e2 : Int.tmod (n : Int) 10 = ((n % 10 : Nat) : Int) := by
          rw [Int.tmod_eq_emod_of_nonneg (by omega)]; omega
        rw [e1, e2, wi (by omega) (by omega)]
        have hk0 : ¬ k = 0 := by
          rintro rfl
          simp at h1
          omega
        have hp : ((n / 10 : Nat) : Int) < 10 ^ k := by
          rw [Int.pow_succ] at h1
          omega
        have hsv : strV (flatVals cxT (5 : Nat) (List.cons (IntKind.wrap .u8 (IntKind.wrap .i64 ((48 : Int) + ((n % 10 : Nat) : Int)))) ([] : List (Int)))) = ⟨#[UInt8.ofNat (48 + n % 10)]⟩ := by
          rw [wi (by omega) (by omega), wb (by omega) (by omega), show (48 : Int) + ((n % 10 : Nat) : Int) = ((48 + n % 10 : Nat) : Int) by omega]
          exact strV_one _
        rw [hsv]
        have em : (fun n => if k = 0 then none else mD k n) ((n / 10 : Nat) : Int) = some (dg (n / 10)) := by
          show (if k = 0 then none else mD k ((n / 10 : Nat) : Int)) = _
          rw [if_neg hk0]
          exact (if_pos ⟨by omega, hp⟩).trans (by rw [Int.toNat_natCast])
        rw [em, tst_some]
        have hs := dg_size (n / 10)
        have hz : (⟨#[UInt8.ofNat (48 + n % 10)]⟩ : ByteArray).size = 1 := rfl
        rw [dt (by rw [hz]; omega), cond_true, Int.toNat_natCast, dg_step h10]
    · cases h
def m34 (n : Int) : Option ByteArray := if 0 ≤ n ∧ n < 1000 then some (dg n.toNat) else none
theorem sat34 : Sat prog cxT 34 (c34 m34) := by
  have := satD 3 (by omega)
  have e : (fun n : Int => if (3 : Nat) = 0 then none else mD 3 n) = m34 := by
    funext n
    rw [if_neg (by omega)]
    rfl
  rwa [e] at this
theorem numB4 (n : Int) : numB n 4 = [IntKind.wrap .u8 (Int.fdiv n 16777216), IntKind.wrap .u8 (Int.fdiv n 65536), IntKind.wrap .u8 (Int.fdiv n 256), IntKind.wrap .u8 (Int.fdiv n 1)] := rfl
/-- An address in four adp. -/
def adp (l : List Int) : List (List UInt8) := l.map fun x => Lib.decDigits x.toNat
def txt (l : List Int) : ByteArray := ⟨(Lib.join (adp l) [46]).toArray⟩
theorem txt4 (a b c d : Int) : txt [a, b, c, d] = (dg a.toNat ++ ⟨#[46]⟩ ++ dg b.toNat) ++ ⟨#[46]⟩ ++ dg c.toNat ++ ⟨#[46]⟩ ++ dg d.toNat := by
  have e : (⟨#[46]⟩ : ByteArray) = ⟨([46] : List UInt8).toArray⟩ := rfl
  unfold txt dg
  rw [e]
  simp only [app_mk]
  simp [adp, Lib.join, List.intercalate]
def m14 (a : Int) : Option ByteArray := some (txt (numB a 4))
theorem st14 (L : Nat) (a : Int) (x0 x1 x2 x3 : Int) (h0 : 0 ≤ x0 ∧ x0 ≤ 255) (h1 : 0 ≤ x1 ∧ x1 ≤ 255) (h2 : 0 ≤ x2 ∧ x2 ≤ 255) (h3 : 0 ≤ x3 ∧ x3 ≤ 255) :
    l14_0 m33 m34 L a 4 [x0, x1, x2, x3] (dg x0.toNat) 1 some = some (txt [x0, x1, x2, x3]) := by
  have s0 := dg_size x0.toNat
  have s1 := dg_size x1.toNat
  have s2 := dg_size x2.toNat
  have s3 := dg_size x3.toNat
  have e : ∀ x : Int, 0 ≤ x ∧ x ≤ 255 → m34 (IntKind.wrap .i64 x) = some (dg x.toNat) := fun x hx => by
    rw [wi (by omega) (by omega)]; exact if_pos ⟨hx.1, by omega⟩
  have hz : (ByteArray.mk (List.toArray [(46 : UInt8)])).size = 1 := rfl
  have ez : (ByteArray.mk (List.toArray [(46 : UInt8)])) = (⟨#[46]⟩ : ByteArray) := rfl
  have g1 : (List.getD [x0, x1, x2, x3] (Int.toNat 1) 0) = x1 := rfl
  have g2 : (List.getD [x0, x1, x2, x3] (Int.toNat 2) 0) = x2 := rfl
  have g3 : (List.getD [x0, x1, x2, x3] (Int.toNat 3) 0) = x3 := rfl
  have w2 : IntKind.wrap .i64 ((1 : Int) + 1) = 2 := rfl
  have w3 : IntKind.wrap .i64 ((2 : Int) + 1) = 3 := rfl
  have w4 : IntKind.wrap .i64 ((3 : Int) + 1) = 4 := rfl
  have hl : (([x0, x1, x2, x3] : List Int).length : Int) = 4 := rfl
  rw [l14_0, hl, g1, e x1 h1, tst_some, w2, l14_0, hl, g2, e x2 h2, tst_some, w3, l14_0, hl, g3, e x3 h3, tst_some, w4, l14_0]
  simp only [ByteArray.size_append, hz]
  rw [dt (show (1 : Int) < 4 by omega), dt (show (2 : Int) < 4 by omega), dt (show (3 : Int) < 4 by omega), df (show ¬ (4 : Int) < 4 by omega)]
  simp (disch := omega) only [dt, Bool.and_self, cond_true, cond_false]
  rw [txt4, ez]
theorem byte_in (x : Int) : 0 ≤ IntKind.wrap .u8 x ∧ IntKind.wrap .u8 x ≤ 255 := u8_in x
theorem sat14 : Sat prog cxT 14 (c14 m14) := s14 m33 m34 sat33 sat34 m14 fun a t h => by
  cases h
  refine ⟨4, ?_⟩
  unfold g14
  rw [show m33 (a, 4) = some (numB a 4) from rfl, tst_some, numB4]
  have hl : (([IntKind.wrap .u8 (Int.fdiv a 16777216), IntKind.wrap .u8 (Int.fdiv a 65536), IntKind.wrap .u8 (Int.fdiv a 256), IntKind.wrap .u8 (Int.fdiv a 1)] : List Int).length : Int) = 4 := rfl
  rw [hl, dt (show (0 : Int) ≤ 0 by omega), dt (show (0 : Int) < 4 by omega), Bool.and_self, cond_true]
  have b0 := byte_in (Int.fdiv a 16777216)
  have b1 := byte_in (Int.fdiv a 65536)
  have b2 := byte_in (Int.fdiv a 256)
  have b3 := byte_in (Int.fdiv a 1)
  generalize IntKind.wrap .u8 (Int.fdiv a 16777216) = x0, IntKind.wrap .u8 (Int.fdiv a 65536) = x1, IntKind.wrap .u8 (Int.fdiv a 256) = x2, IntKind.wrap .u8 (Int.fdiv a 1) = x3 at b0 b1 b2 b3 ⊢
  have g0 : (List.getD [x0, x1, x2, x3] 0 0) = x0 := rfl
  rw [g0, wi (by omega) (by omega), show m34 x0 = some (dg x0.toNat) from if_pos ⟨b0.1, by omega⟩, tst_some]
  exact st14 4 a x0 x1 x2 x3 b0 b1 b2 b3
def atx (a : Int) : Int × ByteArray := if adOk a = true then (0, txt (numB a 4)) else (3, ByteArray.empty)
theorem sat5 : Sat prog cxT 5 (c5 fun a => some (atx a)) := s5 _ m14 sat13 sat14 _ fun a t h => by
  cases h
  refine ⟨0, ?_⟩
  show g5 (fun x => some (adOk x)) m14 0 a = some (atx a)
  unfold g5 atx
  rw [tst_some]
  cases adOk a with
  | true => rfl
  | false => rfl
theorem sat7 : Sat prog cxT 7 (c7 fun x => some (decide (x.1.1 = x.2.1 ∧ x.1.2.toList = x.2.2.toList))) := s7 _ fun x t h => by
  obtain ⟨⟨a, b⟩, c, d⟩ := x
  cases h
  refine ⟨0, ?_⟩
  show g7 0 a b c d = _
  unfold g7
  refine bifeq (fun e1 => ?_) fun e h => e h.1
  by_cases e2 : b.toList = d.toList
  · rw [e2]; simp [e1]
  · have : (b.toList == d.toList) = false := by simpa using e2
    rw [this]; simp [e2]
end Go.Proofs.Tryd
