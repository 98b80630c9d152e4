/- A part of the proof of FnExactPacketFault: VmPu. -/
import Derived.Test.YtaegcoihgnobiaaVmL
namespace Go.VM
open Go

/-! ### Pure arithmetic -/
theorem dt {c : Prop} [Decidable c] (h : c) : decide c = true := decide_eq_true h
theorem df {c : Prop} [Decidable c] (h : ¬ c) : decide c = false := decide_eq_false h
theorem bneT {α : Type} [BEq α] [LawfulBEq α] {a b : α} (h : ¬ a = b) : (a != b) = true := by simpa using h
theorem bneF {α : Type} [BEq α] [LawfulBEq α] {a b : α} (h : a = b) : (a != b) = false := by simpa using h
theorem wi {x : Int} (h1 : -9223372036854775808 ≤ x) (h2 : x ≤ 9223372036854775807) : IntKind.wrap .i64 x = x := by
  unfold IntKind.wrap; simp [IntKind.bits, IntKind.signed]; omega
theorem wu {x : Int} (h1 : 0 ≤ x) (h2 : x ≤ 18446744073709551615) : IntKind.wrap .u64 x = x := by
  unfold IntKind.wrap; simp [IntKind.bits, IntKind.signed]; omega
theorem wb {x : Int} (h1 : 0 ≤ x) (h2 : x ≤ 255) : IntKind.wrap .u8 x = x := by
  unfold IntKind.wrap; simp [IntKind.bits, IntKind.signed]; omega
theorem wbm {x : Int} : IntKind.wrap .u8 x = x % 256 := by
  unfold IntKind.wrap; simp [IntKind.bits, IntKind.signed]
theorem shl8 {x : Int} : x * ((2 : Int) ^ (min (Int.toNat (8 : Int)) (IntKind.bits .u64))) = x * 256 := rfl

def okB (a : List Int) : Bool := a.all fun x => decide (0 ≤ x) && decide (x ≤ 255)
theorem okB_mem {a : List Int} (h : okB a = true) {x : Int} (hx : x ∈ a) : 0 ≤ x ∧ x ≤ 255 := by
  unfold okB at h
  rw [List.all_eq_true] at h
  simpa using h x hx
theorem okB_get {a : List Int} (h : okB a = true) {i : Nat} (hi : i < a.length) : 0 ≤ a.getD i 0 ∧ a.getD i 0 ≤ 255 := by
  simp only [List.getD, List.getElem?_eq_getElem hi, Option.getD_some]
  exact okB_mem h (List.getElem_mem hi)
theorem okB_sub {a b : List Int} (h : okB a = true) (hb : ∀ x ∈ b, x ∈ a) : okB b = true := by
  unfold okB at h ⊢
  rw [List.all_eq_true] at h ⊢
  exact fun x hx => h x (hb x hx)
theorem okB_cons {x : Int} {a : List Int} : okB (x :: a) = true ↔ (0 ≤ x ∧ x ≤ 255) ∧ okB a = true := by
  simp [okB, and_assoc]
theorem drop_cons {α : Type} {a : List α} {i : Nat} (d : α) (h : i < a.length) : a.drop i = a.getD i d :: a.drop (i + 1) := by
  rw [List.drop_eq_getElem_cons h]
  simp [List.getD, List.getElem?_eq_getElem h]

/-- The two ways to put a byte behind a number. -/
theorem or_byte {v x : Int} (h0 : 0 ≤ v) (h1 : v * 256 + 255 ≤ 18446744073709551615) (h2 : 0 ≤ x) (h3 : x ≤ 255) :
    (Nat.cast (BitVec.toNat (HOr.hOr (BitVec.ofInt (IntKind.bits .u64) (v * 256)) (BitVec.ofInt (IntKind.bits .u64) x))) : Int) = v * 256 + x := by
  obtain ⟨a, rfl⟩ := Int.eq_ofNat_of_zero_le h0
  obtain ⟨b, rfl⟩ := Int.eq_ofNat_of_zero_le h2
  show ((BitVec.toNat (BitVec.ofInt 64 ((a : Int) * 256) ||| BitVec.ofInt 64 (b : Int)) : Nat) : Int) = _
  have e1 : BitVec.ofInt 64 ((a : Int) * 256) = BitVec.ofNat 64 (a * 256) := by
    rw [← BitVec.ofInt_natCast]; simp
  have e2 : BitVec.ofInt 64 (b : Int) = BitVec.ofNat 64 b := BitVec.ofInt_natCast ..
  rw [e1, e2, BitVec.toNat_or, BitVec.toNat_ofNat, BitVec.toNat_ofNat, Nat.mod_eq_of_lt (by omega), Nat.mod_eq_of_lt (by omega)]
  have : a * 256 ||| b = a * 256 + b := by
    have := Nat.shiftLeft_add_eq_or_of_lt (a := a) (i := 8) (b := b) (by omega)
    rw [Nat.shiftLeft_eq] at this
    exact this.symm
  rw [this]
  simp
end Go.VM
