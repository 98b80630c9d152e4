/- A part of the proof of FnExactSharesFault: VmPu. -/
import Derived.Test.YtmdmeakelebfcaaVmM
namespace Go.VM
open Go

/-! ### Pure arithmetic -/
theorem dt {c : Prop} [Decidable c] (h : c) : decide c = true := decide_eq_true h
theorem df {c : Prop} [Decidable c] (h : ¬ c) : decide c = false := decide_eq_false h
theorem bneT {α : Type} [BEq α] [LawfulBEq α] {a b : α} (h : ¬ a = b) : (a != b) = true := by simpa using h
theorem bneF {α : Type} [BEq α] [LawfulBEq α] {a b : α} (h : a = b) : (a != b) = false := by simpa using h
theorem wi {x : Int} (h1 : -9223372036854775808 ≤ x) (h2 : x ≤ 9223372036854775807) : IntKind.wrap .i64 x = x := by
  unfold IntKind.wrap; simp [IntKind.bits, IntKind.signed]; omega
theorem wu {x : Int} (h1 : 0 ≤ x) (h2 : x ≤ 18446744073709551615) : IntKind.wrap .u64 x = x := by
  unfold IntKind.wrap; simp [IntKind.bits, IntKind.signed]; omega
theorem wb {x : Int} (h1 : 0 ≤ x) (h2 : x ≤ 255) : IntKind.wrap .u8 x = x := by
  unfold IntKind.wrap; simp [IntKind.bits, IntKind.signed]; omega
theorem wbm {x : Int} : IntKind.wrap .u8 x = x % 256 := by
  unfold IntKind.wrap; simp [IntKind.bits, IntKind.signed]
theorem shl8 {x : Int} : x * ((2 : Int) ^ (min (Int.toNat (8 : Int)) (IntKind.bits .u64))) = x * 256 := rfl

def okB (a : List Int) : Bool := a.all fun x => decide (0 ≤ x) && decide (x ≤ 255)
theorem okB_mem {a : List Int} (h : okB a = true) {x : Int} (hx : x ∈ a) : 0 ≤ x ∧ x ≤ 255 := by
  unfold okB at h
  rw [List.all_eq_true] at h
  simpa using h x hx
theorem okB_get {a : List Int} (h : okB a = true) {i : Nat} (hi : i < a.length) : 0 ≤ a.getD i 0 ∧ a.getD i 0 ≤ 255 := by
  simp only [List.getD, List.getElem?_eq_getElem hi, Option.getD_some]
  exact okB_mem h (List.getElem_mem hi)
theorem okB_sub {a b : List Int} (h : okB a = true) (hb : ∀ x ∈ b, x ∈ a) : okB b = true := by
  unfold okB at h ⊢
  rw [List.all_eq_true] at h ⊢
  exact fun x hx => h x (hb x hx)
theorem okB_cons {x : Int} {a : List Int} : okB (x :: a) = true ↔ (0 ≤ x ∧ x ≤ 255) ∧ okB a = true := by
  simp [okB, and_assoc]
theorem drop_cons {α : Type} {a : List α} {i : Nat} (d : α) (h : i < a.length) : a.drop i = a.getD i d :: a.drop (i + 1) := by
  rw [List.drop_eq_getElem_cons h]
  simp [List.getD, List.getElem?_eq_getElem h]

/-- The two ways to put a byte behind a number. -/
theorem or_byte {v x : Int} (h0 : 0 ≤ v) (h1 : v * 256 + 255 ≤ 18446744073709551615) (h2 : 0 ≤ x) (h3 : x ≤ 255) :
    (Nat.cast (BitVec.toNat (HOr.hOr (BitVec.ofInt (IntKind.bits .u64) (v * 256)) (BitVec.ofInt (IntKind.bits .u64) x))) : Int) = v * 256 + x := by
  obtain ⟨a, rfl⟩ := Int.eq_ofNat_of_zero_le h0
  obtain ⟨b, rfl⟩ := Int.eq_ofNat_of_zero_le h2
  show ((BitVec.toNat (BitVec.ofInt 64 ((a : Int) * 256) ||| BitVec.ofInt 64 (b : Int)) : Nat) : Int) = _
  have e1 : BitVec.ofInt 64 ((a : Int) * 256) = BitVec.ofNat 64 (a * 256) := by
    rw [← BitVec.ofInt_natCast]; simp
  have e2 : BitVec.ofInt 64 (b : Int) = BitVec.ofNat 64 b := BitVec.ofInt_natCast ..
  rw [e1, e2, BitVec.toNat_or, BitVec.toNat_ofNat, BitVec.toNat_ofNat, Nat.mod_eq_of_lt (by omega), Nat.mod_eq_of_lt (by omega)]
  have : a * 256 ||| b = a * 256 + b := by
    have := Nat.shiftLeft_add_eq_or_of_lt (a := a) (i := 8) (b := b) (by omega)
    rw [Nat.shiftLeft_eq] at this
    exact this.symm
  rw [this]
  simp

/-! ### Bytes as strings -/
theorem toList_loop (bs : ByteArray) : ∀ (k i : Nat) (r : List UInt8), bs.size - i = k → ByteArray.toList.loop bs i r = r.reverse ++ bs.data.toList.drop i
  | 0, i, r, h => by
    have hs : bs.size = bs.data.toList.length := by rw [Array.length_toList]; rfl
    rw [ByteArray.toList.loop, if_neg (by omega), List.drop_eq_nil_of_le (by omega), List.append_nil]
  | k + 1, i, r, h => by
    have hs : bs.size = bs.data.toList.length := by rw [Array.length_toList]; rfl
    rw [ByteArray.toList.loop, if_pos (by omega), toList_loop bs k (i + 1) _ (by omega)]
    have hi : i < bs.data.toList.length := by omega
    rw [List.drop_eq_getElem_cons hi]
    have hd : i < bs.data.size := by simpa using hi
    have hg : bs.data[i]! = bs.data[i] := getElem!_pos bs.data i hd
    simp [ByteArray.get!, hg]
theorem toList_data (bs : ByteArray) : bs.toList = bs.data.toList := by
  unfold ByteArray.toList
  rw [toList_loop bs _ 0 [] rfl]
  simp
theorem push_fold : ∀ (ns : List Int) (s : ByteArray), (ns.foldl (fun r n => r.push (UInt8.ofNat n.toNat)) s).data.toList = s.data.toList ++ ns.map (fun n => UInt8.ofNat n.toNat)
  | [], s => by simp
  | n :: r, s => by
    rw [List.foldl_cons, push_fold r]
    simp [ByteArray.push]
theorem bytes_inj : ∀ (a b : List Int), okB a = true → okB b = true → a.map (fun n => UInt8.ofNat n.toNat) = b.map (fun n => UInt8.ofNat n.toNat) → a = b
  | [], [], _, _, _ => rfl
  | [], _ :: _, _, _, h => by simp at h
  | _ :: _, [], _, _, h => by simp at h
  | x :: a, y :: b, h1, h2, h => by
    rw [okB_cons] at h1 h2
    simp only [List.map_cons, List.cons.injEq] at h
    have hx := congrArg UInt8.toNat h.1
    simp only [UInt8.toNat_ofNat'] at hx
    rw [bytes_inj a b h1.2 h2.2 h.2]
    congr 1
    omega
end Go.VM
